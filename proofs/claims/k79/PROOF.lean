import PyProof.Rows.All
import Wide.All
import OpenK.AllK
import Wide.FinOn
import HandS.ForMost
import HandS.ForExc
import HandS.ExcInit
import HandS.ExcIs
import HandS.ExcField
import HandS.IsInst
import KE.KStateDown
import HandS.Defaults
import HandS.Head0
import HandS.Head1
import HandS.Head2
import HandS.Head3
import HandS.Head4
import HandS.HeadEnd
import HandS.HeadHook1
import HandS.HeadHook2
import HandS.HeadHook3
import HandS.HeadHook4
import HandS.Walk
import HandS.OwnEq
import PyProof.InstNe
import HandS.HeadWalk
import HandS.Text
import KE.KIntText
import PyProof.Rows.Digits
import KE.IntTextLaws
import PyProof.WalksS
import PyProof.StrWalks
import PyProof.EnumMake
import PyProof.Rows.SetFrom
import PyProof.SetKind
import HandS.Strs
import HandS.Rev
import HandS.Zip
import PyProof.JoinWalk
import PyProof.ListStr
import HandS.ExcOwn
import HandS.WordsExc
import HandS.StrMore
import PyProof.StrOps2
import HandS.TupAny
import KE.Datum
import HandS.StrSplit
import HandS.MapJoin
import KE.DatumOrd
import HandS.FStr
import HandS.NoneIn
import HandS.Iter
import HandS.RaiseMore
import HandS.Codes
import KE.GoesEnum
import KE.GoesComp
import HandS.Comp
import HandS.Deep
import HandS.Sort
import PyProof.ListRange
import HandS.Style
import PyProof.CallFns
import HandS.TryMany
import PyProof.EqAt
import PySem.Challenge.RW_jointkeys_k79_texts_that_are_no_layouts
set_option Elab.async false
set_option linter.all false
set_option maxRecDepth 100000
set_option maxHeartbeats 4000000
/-! Own exceptions as plain values: made, their fields read, their methods called, isinstance asked of them. -/
namespace L2.Jk
open PySem PySem.W PySem.Spec PySem.Calls PyProof.Rows

/-- what an own error class says of itself, for its instances as values -/
structure ErrC (K : Frag) (C : Addr) : Prop where
  ox : OexC K C
  xf : XfC K C
  kk : findIn K (.ref C) "__class__" = some (some (.builtin "object.__class__"))
  kn : specialIn K (.builtin "object.__class__") "__get__" = some (some (.builtin "getset_descriptor.__get__"))
  kt : takesIn K (.builtin "object.__class__") = some true
  km : mroIn K C (.type "object") = some true

section
variable {prog : Program} {w : World} {A : Around} {E : Value → Shared → Prop} {s : Shared} {K : Frag} {e C f : Addr} {oe od : Obj}

/-- e.__class__ of an error with a dict of its own -/
theorem err_class {Q : Option Value → Shared → Prop} (T : ErrC K C) (X : K.In s.heap) (I : InstAt s.heap e oe C (some od)) (h : Q (some (.ref C)) { s with toks := s.toks + 1 }) :
    wpAny (model prog w) A (getAttr? (.ref e) "__class__") Q E s := by
  obtain ⟨cd, hcd, _⟩ := any_some T.xf.hdC
  have look := findObj_data (od := od) (show (clsIn K C).isSome = true by rw [hcd]; rfl) T.kk T.kn T.kt
  obtain ⟨hp, gn, dr, tk, os⟩ := s
  have lt := I.type (M := model prog w)
  have lg := looks_findIn (M := model prog w) X T.xf.ga
  have lh := looks_findIn (M := model prog w) X T.xf.gg
  have lf := looks_find (M := model prog w) X I look
  have inB : Looks (model prog w) hp (isInstance (.ref e) (.type "BaseException")) true := lt.andThen (looks_subIn X T.xf.exC)
  have n2 : (Value.builtin "BaseException.__getattribute__" == Value.builtin "object.__getattribute__") = false := by decide +kernel
  have n1 : (onTheHeap (Value.ref C) && Value.builtin "BaseException.__getattribute__" == Value.builtin "object.__getattribute__") = false := by rw [n2] <;> rfl
  unfold getAttr? getAttrBy? getAttrBy
  refine wpAny_bind (wpAny_mkText (wpAny_bind (wpAny_attempt (wpAny_holding (wpAny_bind (lt.at (wpAny_bind (lg.at ?_))))))))
  show wpAny _ _ (if (onTheHeap (Value.ref C) && Value.builtin "BaseException.__getattribute__" == Value.builtin "object.__getattribute__") = true then _ else _) _ _ _
  rw [n1, if_neg Bool.false_ne_true]
  unfold getAttrByItsOwn hookBefore
  refine wpAny_bind ?_
  rw [if_pos (show onTheHeap (Value.ref C) = true from rfl)]
  refine lh.at (wpAny_bind (wpAny_attempt (wpAny_holding ?_)))
  unfold callGetattribute
  rw [show (false && onTheHeap (Value.builtin "BaseException.__getattribute__")) = false from rfl, if_neg Bool.false_ne_true]
  unfold boundAndCalled
  rw [PySem.F.excAttr_ValueError.ga.bind (.ref e)]
  refine wpAny_bind (wpAny_pure ?_)
  show wpAny _ _ (call (.builtin "BaseException.__getattribute__") [.ref e, .str "__class__" tk]) _ _ _
  refine wpAny_call (codeAny_call_builtin PySem.F.excAttr_ValueError.ga.plain PySem.F.entry_bexc_ga ?_)
  refine @check_slot (model prog w) _ _ ⟨hp, gn, dr, tk + 1, os⟩ "BaseException.__getattribute__" "BaseException" "__getattribute__" (.ref e) [.str "__class__" tk] [] _
    (by decide +kernel) (by decide +kernel) inB (PySem.F.args_bexc_ga (.ref e) (.str "__class__" tk)) ?_
  unfold Builtin.«object.__getattribute__»
  refine wpAny_bind (wpAny_of_eq (a := ((Value.ref e : Value), [Value.str "__class__" tk])) (by first | rfl | (simp only [slotArgs]; rfl)) ?_)
  refine wpAny_bind (wpAny_pure (wpAny_bind (lt.at (wpAny_bind (lf.at ?_)))))
  show wpAny _ _ (holding [Value.builtin "object.__class__"] (call (.builtin "getset_descriptor.__get__") [.builtin "object.__class__", .ref e, .ref C]) >>= ret) _ _ _
  refine wpAny_bind (wpAny_holding (wpAny_call (class_get (s := ⟨hp, gn, dr, tk + 1, os⟩) (ox := oe) (od := some od) X I T.km ?_)))
  refine wpAny_pure ?_
  show wpAny _ _ (handedOut (.ref C)) _ _ _
  rw [handedOut_of (v := .ref C) rfl]
  first
    | exact wpAny_pure (wpAny_pure h)
    | exact wpAny_pure h
    | exact wpAny_pure (wpAny_bind (wpAny_pure (wpAny_pure h)))
/-- isinstance may be asked of it -/
theorem err_kit (T : ErrC K C) : KitX K (.ref e) (.ref C) (fun h => ∃ o d, InstAt h e o C (some d)) where
  ty := fun _ _ _ ⟨_, _, I⟩ => I.type
  it := fun _ _ X _ => by
    obtain ⟨cd, hc, _⟩ := any_some T.xf.hdC
    unfold clsIn at hc
    split at hc
    · rename_i ho
      intro _ _ _ _ k q
      unfold isType loadHead
      exact wpAny_bind (wpAny_loadPart (k _ _ (X _ _ ho)) (wpAny_pure q))
    · cases hc
  ne := fun h tp dd its n sl X htp => by
    obtain ⟨cd, hc, _⟩ := any_some T.xf.hdC
    refine Bool.eq_false_iff.mpr fun q => ?_
    have z : C = tp := Value.ref.inj (beq_iff_eq.mp q)
    subst z
    unfold clsIn at hc
    split at hc
    · rename_i ho
      have y := (X _ _ ho).symm.trans htp
      cases y
    · cases hc
  ca := fun X ⟨_, _, I⟩ k => err_class T X I k

/-- the method of an error, found in its class -/
theorem err_meth {name : Str} {pl : Sem Bool} {Q : Value × List Value → Shared → Prop} (T : ErrC K C) (X : K.In s.heap) (I : InstAt s.heap e oe C (some od))
    (hf : findIn K (.ref C) name = some (some (.ref f))) (ht : isFn K (.ref f) = true) (hs : shadowIn (some od) name = some false) (h : Q (.ref f, [.ref e]) s) :
    wpAny (model prog w) A (getMethod (.ref e) name pl) Q E s := by
  have cn : Manifest.canonical "BaseException.__getattribute__" = "object.__getattribute__" := by first | kernel_rfl | decide +kernel
  obtain ⟨r, ra, rb⟩ := Option.map_eq_some_iff.mp hs
  have dd := I.dict
  unfold getMethod specialOf
  refine wpAny_bind (wpAny_bind (I.type.here ((looks_findIn X T.xf.ga).here ?_)))
  dsimp only
  rw [cn, if_neg (by decide)]
  refine wpAny_bind (wpAny_bind (I.type.here ((looks_findIn X T.xf.gg).here ?_)))
  refine wpAny_bind (wpAny_bind (I.type.here ((looks_findIn X hf).here (wpAny_bind ((looks_typeIn X (beq_iff_eq.mp ht)).here ?_)))))
  rw [if_neg (by decide +kernel)]
  refine wpAny_bind (wpAny_loadPart I.at_ ?_)
  cases q : oe.dict with
  | none => exact wpAny_bind (wpAny_rule (wpAny_pure h))
  | some dx =>
    rw [q] at dd
    refine wpAny_bind (wpAny_bind (wpAny_loadPart dd ?_))
    rw [nsLook_of ra]
    refine wpAny_pure ?_
    rw [rb]
    exact wpAny_bind (wpAny_rule (wpAny_pure h))
end

section
variable {X : Cx} {pins : List (Addr × Obj)} {σ : St} {H : Hp} {s : Shared} {C a d : Addr} {fs : List (Str × V)}
/-- an error as the heap holds it -/
theorem err_at (I : Inv X pins σ H s) (ha : H a = some (exo a C (some d))) (hd : H d = some (exd d fs)) :
    ∃ o od mA, InstAt s.heap a o C (some od) ∧ s.heap.Ns1 d mA ∧ (∀ f, RelO (fs.lookup f) (mA f)) ∧ s.heap.get? d = some od ∧ ∀ f, lookIn f od = some (mA f) := by
  obtain ⟨t1, ho⟩ := exo_at I.hok ha
  obtain ⟨mA, hn, r⟩ := exd_at I.hok hd
  obtain ⟨od, hod, hl⟩ := lookIn_ns hn
  exact ⟨_, od, mA, ⟨ho, rfl, rfl, hod⟩, hn, r, hod, hl⟩
/-- e.f of an error -/
def tEf (K : Frag) (f : Str) (te : TE) : TE := fun σ H Q => te σ H fun x H1 => ∃ (a C d : Addr) (fs : List (Str × V)) (v : V), x = .ref a ∧ ErrC K C ∧ findIn K (.ref C) f = some none ∧
  H1 a = some (exo a C (some d)) ∧ H1 d = some (exd d fs) ∧ fs.lookup f = some v ∧ Q v H1
theorem pe_ef {e : Expr} {te : TE} {pos : Pos} {n : Str} (he : PE X e te) (hb : attributeBase e n X.env (eval e X.env) = eval e X.env := by rfl) :
    PE X (.Attribute e n pos) (tEf X.K n te) := by
  refine ⟨fun pins s σ H Q I h => ?_⟩
  refine attr_of hb (thn (he.run pins s σ H _ I h) fun u s1 hh => ?_)
  obtain ⟨x, H1, I1, rx, a, C, d, fs, v, ex, T, hno, ha, hd, l, q⟩ := hh
  subst ex
  obtain rfl : u = Value.ref a := rx
  obtain ⟨o, od, mA, J, hn, r, hod, hl⟩ := err_at I1 ha hd
  obtain ⟨u, hu, ru⟩ := RelO.some_of (v := v) (o := mA n) (by rw [← l]; exact r n)
  exact HandSPX.exc_get I1.kIn J T.xf.ga T.xf.gg T.xf.exC (findObj_own T.xf.hdC hno rfl (by rw [hl, hu])) (handed_of ru) ⟨v, H1, I1.tok _, ru, q⟩
/-- what a def promises, met when it is called: which def it is shows in the heap -/
def Does (X : Cx) (CX : CXT) (f : Addr) (vs : List V) (H : Hp) (Q : VK) (E : XK) : Prop :=
  ∃ (k : Nat) (fd : FuncData) (ps : List Str) (sp : Sp), keepIn X.K (.ref f) = true ∧ FnOk X.prog X.w X.K X.mg X.base CX k f fd ps sp ∧ Room k X.A ∧ Binds X.K fd ps [] ∧ sp vs H Q E
/-- e.m() of an error -/
def tEm0 (X : Cx) (CX : CXT) (m : Str) (E : XK) (te : TE) : TE := fun σ H Q => te σ H fun x H1 => ∃ (a C d f : Addr) (fs : List (Str × V)), x = .ref a ∧ ErrC X.K C ∧
  H1 a = some (exo a C (some d)) ∧ H1 d = some (exd d fs) ∧ fs.lookup m = none ∧ findIn X.K (.ref C) m = some (some (.ref f)) ∧ isFn X.K (.ref f) = true ∧ Does X CX f [.ref a] H1 Q E
theorem pe_em0 {CX : CXT} {E : XK} {o : Expr} {m : Str} {ta : TE} {apos pos : Pos} {pl : Sem Bool} (he : PE X o ta) (hx : Passes CX X E)
    (ht : eval (.Call (.Attribute o m apos) [] [] pos) X.env = (do
      let ov ← eval o X.env
      standAt apos.atName
      let (f, first) ← holding [ov] (getMethod ov m pl)
      callWith pos f first (backTo pos (starEach [] X.env)) (backToKw pos (keywordEach [] X.env))) := by rfl) :
    PE X (.Call (.Attribute o m apos) [] [] pos) (tEm0 X CX m E ta) := by
  refine ⟨fun pins s σ H Q I h => ?_⟩
  refine methodCall_KW (pl := pl) (thn (he.run pins s σ H _ I h) fun u s1 hh => ?_) ht
  obtain ⟨x, H1, I1, rx, a, C, d, f, fs, ex, T, ha, hd, l, hf, hfn, k, fd, ps, sp, kp, F, hr, hb, q⟩ := hh
  subst ex
  obtain rfl : u = Value.ref a := rx
  obtain ⟨o, od, mA, J, hn, r, hod, hl⟩ := err_at I1 ha hd
  have hno : mA m = none := RelO.none_of (by rw [← l]; exact r m)
  refine err_meth T I1.kIn J hf hfn (by show (lookIn m od).map _ = _; rw [hl, hno]; rfl) ?_
  exact callWith_K0 (first := [.ref a]) I1.kIn kp (run_fn (us := [.ref a]) (vs := [.ref a]) F hr hb .nil hx I1 (.cons rfl .nil) q)
/-- C(e, ..), an own error made and kept -/
def tMkE (C : Addr) (sp : Sp) (ta : TA) : TE := fun σ H Q => ta σ H fun vs H1 => vs.length ≤ 1000 ∧ ∀ a, H1 a = none → sp (.ref a :: vs) (upd H1 a (exo a C none)) (fun v H2 => v = .non ∧ Q (.ref a) H2) (fun _ _ _ => False)
theorem run_mkE {CX : CXT} {fI : Addr} {k : Nat} {fd : FuncData} {ps : List Str} {sp : Sp} {us : List Value} {vs : List V} {Q : VK} (T : OexC X.K C) (iC : findIn X.K (.ref C) "__init__" = some (some (.ref fI))) (tI : typeIn X.K (.ref fI) = some (.type "function"))
    (F1 : FnOk X.prog X.w X.K X.mg X.base CX k fI fd ps sp) (hr : Room (k + 1) X.A) (hb : Binds X.K fd ps []) (hx : Passes CX X (fun _ _ _ => False)) (I1 : Inv X pins σ H s) (r1 : Vals vs us) (hz : vs.length ≤ 1000)
    (q1 : ∀ a, H a = none → sp (.ref a :: vs) (upd H a (exo a C none)) (fun v H2 => v = .non ∧ Q (.ref a) H2) (fun _ _ _ => False)) :
    wpAny (model X.prog X.w) X.A (call (.ref C) us) (EP X pins σ Q) X.xe s := by
  obtain ⟨nm, q, N, bs, bm, sn, sub, ab, col, dd, k0, k1, k2, k3, k5, hC, hbm⟩ := T.cls
  obtain ⟨hp, g, dr, tk, os⟩ := s
  have sz : hp.objs.size ≤ hp.objs.size + 1 := Nat.le_succ _
  have fresh : H (hp.objs.size + 1) = none := I1.hok.fresh sz
  have pr := q1 (hp.objs.size + 1) fresh
  have keep : ∀ b o, hp.get? b = some o → ((hp.push (kdv_tup us)).push (HandSPX.excO C hp.objs.size)).get? b = some o := fun b o e => Heap.get?_push_of_some _ (Heap.get?_push_of_some _ e)
  have there : ((hp.push (kdv_tup us)).push (HandSPX.excO C hp.objs.size)).get? (hp.objs.size + 1) = some (HandSPX.excO C hp.objs.size) := by heap_get
  have I2 : Inv X pins σ (upd H (hp.objs.size + 1) (exo (hp.objs.size + 1) C none)) ⟨(hp.push (kdv_tup us)).push (HandSPX.excO C hp.objs.size), g, dr, tk, os⟩ :=
    I1.laid (t' := tk) (a := hp.objs.size + 1) (o := exo (hp.objs.size + 1) C none) (h' := (hp.push (kdv_tup us)).push (HandSPX.excO C hp.objs.size)) keep sz (exo_ok there)
  have r2 : Vals (V.ref (hp.objs.size + 1) :: vs) (Value.ref (hp.objs.size + 1) :: us) := .cons rfl r1
  have hl : (Value.ref (hp.objs.size + 1) :: us ++ []).length = ps.length := by
    rw [List.append_nil, ← r2.length]
    exact F1.len _ _ _ _ pr
  have hus : us.length ≤ sizeLine := by
    rw [← Paired.length r1, sizeLine_eq]
    omega
  have hb' := hb ⟨(hp.push (kdv_tup us)).push (HandSPX.excO C hp.objs.size), g, dr, tk, os⟩ (Value.ref (hp.objs.size + 1) :: us) I2.kIn hl
  rw [List.append_nil] at hb'
  refine wpAny_call (HandSPX.call_own F.excBase_ValueError (fun Y => HandSPX.refsVE_contains Y bm hbm) (I1.kIn _ _ hC) (looks_findIn I1.kIn iC) (fun self => bind_fn I1.kIn self tI) hus
    (codeAny_mono (F1.run _ X.stack _ _ ⟨Value.ref (hp.objs.size + 1) :: us, []⟩ (Value.ref (hp.objs.size + 1) :: us) _ _ (fun _ _ _ => False) (hr.make C us []) (I2.env0.make C us []) hb' r2 pr) fun r s' hq' => ?_))
  cases r with
  | error er => exact hx pins σ _ _ er s' I2 hq'
  | ok fl =>
    cases fl with
    | ret u =>
      obtain ⟨v, H2, I3, rv, ev, q3⟩ := I2.after hq'
      subst ev
      -- nothing was tracked at the new place
      exact ⟨rv, ⟨V.ref (hp.objs.size + 1), H2, I3, rfl, q3⟩⟩
    | next => exact False.elim hq'
    | brk => exact False.elim hq'
    | cont => exact False.elim hq'
theorem pe_mkE {CX : CXT} {x : Str} {fI : Addr} {k : Nat} {fd : FuncData} {ps : List Str} {sp : Sp} {e : Expr} {es : List Expr} {ta : TA} {p pos : Pos} (T : OexC X.K C) (iC : findIn X.K (.ref C) "__init__" = some (some (.ref fI))) (tI : typeIn X.K (.ref fI) = some (.type "function"))
    (F1 : FnOk X.prog X.w X.K X.mg X.base CX k fI fd ps sp) (hr : Room (k + 1) X.A) (hb : Binds X.K fd ps []) (hx : Passes CX X (fun _ _ _ => False)) (hg : Gl X x) (hm : X.mg x = some (.ref C)) (ha : PA X (e :: es) ta)
    (hdb : (x == ("__debug__" : Str)) = false := by decide) (he : starEach (e :: es) X.env = (false, eval e X.env) :: starEach es X.env := by rfl) (hpl : (backTo pos (starEach es X.env)).any (·.1) = false := by rfl) :
    PE X (.Call (.Name x p) (e :: es) [] pos) (tMkE C sp ta) := by
  refine ⟨fun pins s σ H Q I h => ?_⟩
  refine wpAny_Call_Name_kw (ld_glob I hg hm ?_ hdb)
  refine callWith_K (h₀ := X.base) I.ok.mod.kin T.kC (thn (ha.run pos pins s σ H _ I h) fun us s1 ⟨vs, H1, I1, r1, hz, q1⟩ => ⟨I1.kIn, ?_⟩) he hpl
  exact run_mkE T iC tI F1 hr hb hx I1 r1 hz q1
/-- a value's type, an error's too -/
inductive TyE (K : Frag) (H : Hp) : V → Value → Prop where
  | x {x : V} {t : Value} (h : TyX K H x t) : TyE K H x t
  | err {a C d : Addr} {fs : List (Str × V)} (T : ErrC K C) (ha : H a = some (exo a C (some d))) (hd : H d = some (exd d fs)) : TyE K H (.ref a) (.ref C)
theorem kit_ofE {x : V} {u t : Value} (I : Inv X pins σ H s) (rx : RelV x u) (ty : TyE X.K H x t) : ∃ P : Heap → Prop, KitX X.K u t P ∧ P s.heap ∧ u ≠ .builtin "__main__.__loader__#opaque" := by
  cases ty with
  | x h => exact kit_of I rx h
  | err T ha hd =>
    cases (show u = Value.ref _ from rx)
    obtain ⟨o, od, mA, J, _⟩ := err_at I ha hd
    exact ⟨_, err_kit T, ⟨o, od, J⟩, fun z => nomatch z⟩
def rIe (K : Frag) : List V → Hp → VK → Prop := fun xs H Q => ∃ (x c : V) (t u : Value) (b : Bool), xs = [x, c] ∧ ClsV c u ∧ TyE K H x t ∧ kitOne K t u = some b ∧ Q (.bl b) H
def rIeT (K : Frag) : List V → Hp → VK → Prop := fun xs H Q => ∃ (x : V) (tp : Addr) (cs : List V) (t : Value) (us : List Value) (b : Bool), xs = [x, .ref tp] ∧ H tp = some (.tup cs) ∧ Paired ClsV cs us ∧ TyE K H x t ∧ kitAny K t us = some b ∧ Q (.bl b) H
theorem call_ie : CallR X (.builtin "isinstance") (rIe X.K) := by
  intro pins s σ H xs us Q I r h
  obtain ⟨x, c, t, u, b, rfl, k, ty, e, q⟩ := h
  obtain ⟨u1, u2, rfl, r1, r2⟩ := vals2 r
  obtain rfl := k.eq r2
  obtain ⟨P, Z, p, hx⟩ := kit_ofE I r1 ty
  exact kia_one Z I.kIn p e hx fun tk => ⟨.bl b, H, I.tok tk, rfl, q⟩
theorem call_ieT : CallR X (.builtin "isinstance") (rIeT X.K) := by
  intro pins s σ H xs us Q I r h
  obtain ⟨x, tp, cs, t, ws, b, rfl, hT, k, ty, e, q⟩ := h
  obtain ⟨u1, u2, rfl, r1, r2⟩ := vals2 r
  cases (show u2 = Value.ref tp from r2)
  obtain ⟨P, Z, p, hx⟩ := kit_ofE I r1 ty
  obtain ⟨_, its, rv, o, h1, h2, n, h3⟩ := (show ObjOk X.prog X.w H s.heap tp (.tup cs) from I.hok tp _ hT)
  obtain rfl := ClsV.all k rv
  obtain ⟨oc, od, dt, sl⟩ := o
  dsimp only at h2 h3
  subst h2 h3
  exact kia_tup Z I.kIn p h1 e hx fun tk => ⟨.bl b, H, I.tok tk, rfl, q⟩
end
end L2.Jk

set_option Elab.async false
set_option linter.all false
set_option maxRecDepth 100000
set_option maxHeartbeats 4000000
/-! Defs and error classes as the head tells them; calls of them. -/
namespace L2.Jk
open PySem PySem.W PySem.Spec PySem.Calls PyProof.Rows

/-! ### what the head says of an error class, by one Bool -/
def oexB (K : Frag) (C : Addr) : Bool := (match K.lookup C with
  | some ⟨.type "type", _, .cls cd, sl⟩ => (match cd.mro, sl.toList with
    | .ref D :: bm, [_, _, _, _, some (.builtin n), _] => decide (D = C) && (decide (n = "ValueError.__new__") && (HandSPX.refsVE bm && (cd.hasDict && !cd.hasDel)))
    | _, _ => false)
  | _ => false) && (He.eqO (findIn K (.ref C) "__setattr__") (some (some (.builtin "object.__setattr__"))) && (decide (subIn K (.ref C) (.type "BaseException") = some true) &&
    (decide (typeIn K (.ref C) = some (.type "type")) && keepIn K (.ref C))))
theorem oexB_ok {K : Frag} {C : Addr} (h : oexB K C = true) : OexC K C := by
  obtain ⟨h1, h⟩ := Bool.and_eq_true_iff.mp h
  obtain ⟨h2, h⟩ := Bool.and_eq_true_iff.mp h
  obtain ⟨h3, h⟩ := Bool.and_eq_true_iff.mp h
  obtain ⟨h4, h5⟩ := Bool.and_eq_true_iff.mp h
  refine ⟨?_, He.eqO_ok h2, of_decide_eq_true h3, of_decide_eq_true h4, h5⟩
  split at h1
  · rename_i dd cd sl ho
    split at h1
    · rename_i D bm k0 k1 k2 k3 n k5 hm hs
      obtain ⟨a1, h1⟩ := Bool.and_eq_true_iff.mp h1
      obtain ⟨a2, h1⟩ := Bool.and_eq_true_iff.mp h1
      obtain ⟨a3, h1⟩ := Bool.and_eq_true_iff.mp h1
      obtain ⟨a4, a5⟩ := Bool.and_eq_true_iff.mp h1
      obtain rfl := of_decide_eq_true a1
      obtain rfl := of_decide_eq_true a2
      obtain ⟨nm, bs, mro, ns, qn, hd, sn, sub, ab, col, del⟩ := cd
      dsimp only at hm a4 a5
      subst hm
      subst a4
      obtain rfl : del = false := by cases del <;> first | rfl | cases a5
      have e : sl = #[k0, k1, k2, k3, some (.builtin "ValueError.__new__"), k5] := by
        obtain ⟨l⟩ := sl
        dsimp only at hs
        rw [hs]
      subst e
      exact ⟨nm, qn, ns, bs, bm, sn, sub, ab, col, dd, k0, k1, k2, k3, k5, ho, a3⟩
    · cases h1
  · cases h1
def errB (K : Frag) (C : Addr) (fs ms : List Str) : Bool := oexB K C && (xfB K C && (He.eqO (findIn K (.ref C) "__class__") (some (some (.builtin "object.__class__"))) &&
  (He.eqO (specialIn K (.builtin "object.__class__") "__get__") (some (some (.builtin "getset_descriptor.__get__"))) && (decide (takesIn K (.builtin "object.__class__") = some true) && (decide (mroIn K C (.type "object") = some true) &&
  ((fs.all fun f => He.eqO (findIn K (.ref C) f) (some none)) && ((ms.all fun m => He.eqO (findIn K (.ref C) m) (some (some (.ref (He.ma K C m)))) && isFn K (.ref (He.ma K C m))))))))))
structure ErrX (K : Frag) (C : Addr) (fs ms : List Str) : Prop where
  ec : ErrC K C
  no : ∀ f ∈ fs, findIn K (.ref C) f = some none
  me : ∀ m ∈ ms, findIn K (.ref C) m = some (some (.ref (He.ma K C m))) ∧ isFn K (.ref (He.ma K C m)) = true
theorem errB_ok {K : Frag} {C : Addr} {fs ms : List Str} (h : errB K C fs ms = true) : ErrX K C fs ms := by
  obtain ⟨h1, h⟩ := Bool.and_eq_true_iff.mp h
  obtain ⟨h2, h⟩ := Bool.and_eq_true_iff.mp h
  obtain ⟨h3, h⟩ := Bool.and_eq_true_iff.mp h
  obtain ⟨h4, h⟩ := Bool.and_eq_true_iff.mp h
  obtain ⟨h5, h⟩ := Bool.and_eq_true_iff.mp h
  obtain ⟨h6, h⟩ := Bool.and_eq_true_iff.mp h
  obtain ⟨h7, h8⟩ := Bool.and_eq_true_iff.mp h
  refine ⟨⟨oexB_ok h1, xfB_ok h2, He.eqO_ok h3, He.eqO_ok h4, of_decide_eq_true h5, of_decide_eq_true h6⟩, fun f hf => He.eqO_ok (List.all_eq_true.mp h7 f hf), fun m hm => ?_⟩
  obtain ⟨a, b⟩ := Bool.and_eq_true_iff.mp (List.all_eq_true.mp h8 m hm)
  exact ⟨He.eqO_ok a, b⟩

/-! ### a def of the module, called by its name -/
structure FnAt (P : Program) (w : World) (K : Frag) (mg : Str → Option Value) (base : Heap) (CX : CXT) (k : Nat) (x : Str) (ps : List Str) (sp : Sp) : Prop where
  ex : ∃ (f : Addr) (fd : FuncData), mg x = some (.ref f) ∧ keepIn K (.ref f) = true ∧ FnOk P w K mg base CX k f fd ps sp ∧ Binds K fd ps []
section
variable {X : Cx} {CX : CXT} {k : Nat} {x : Str} {ps : List Str} {sp : Sp} {E : XK} {e : Expr} {es : List Expr} {t : TA} {p pos : Pos}
theorem pe_fn (G : FnAt X.prog X.w X.K X.mg X.base CX k x ps sp) (hr : Room k X.A) (hx : Passes CX X E) (hg : Gl X x) (ha : PA X (e :: es) t)
    (hdb : (x == ("__debug__" : Str)) = false := by decide) (he : starEach (e :: es) X.env = (false, eval e X.env) :: starEach es X.env := by rfl) (hpl : (backTo pos (starEach es X.env)).any (·.1) = false := by rfl) :
    PE X (.Call (.Name x p) (e :: es) [] pos) (tCall sp [] E t) := by
  obtain ⟨f, fd, hm, kp, F, hb⟩ := G.ex
  exact pe_call F hr hg hm kp hb .nil hx ha hdb he hpl
end
/-! ### an error class, its instances as values -/
/-- at a: an error of the class at C, its dict at d holds fs -/
def mkE (H : Hp) (a C d : Addr) (fs : List (Str × V)) : Hp := upd (upd H d (exd d fs)) a (exo a C (some d))
/-- __init__(self, f): self.f = f -/
def spI1 (C : Addr) (f : Str) : Sp := fun vs H Q _ => ∃ (a : Addr) (v : V), vs = [.ref a, v] ∧ H a = some (exo a C none) ∧ ∀ d, H d = none → d ≠ a → Q .non (mkE H a C d [(f, v)])
def spI2 (C : Addr) (f g : Str) : Sp := fun vs H Q _ => ∃ (a : Addr) (v u : V), vs = [.ref a, v, u] ∧ H a = some (exo a C none) ∧ ∀ d, H d = none → d ≠ a → Q .non (mkE H a C d [(g, u), (f, v)])
def spS (z : Str) : Sp := fun vs H Q _ => ∃ v, vs = [v] ∧ Q (.str z) H
theorem mkE_new {H : Hp} {a C d : Addr} {fs : List (Str × V)} (ne : d ≠ a) : mkE (upd H a (exo a C none)) a C d fs = mkE H a C d fs := by
  funext b
  unfold mkE
  by_cases h : b = a
  · rw [h, upd_same, upd_same]
  · rw [upd_ne h, upd_ne h]
    by_cases h2 : b = d
    · rw [h2, upd_same, upd_same]
    · rw [upd_ne h2, upd_ne h2, upd_ne h]
/-- an error as a value -/
def ErrV (H : Hp) (v : V) (C : Addr) (fs : List (Str × V)) : Prop := ∃ a d, v = .ref a ∧ H a = some (exo a C (some d)) ∧ H d = some (exd d fs)
theorem ErrV.same {H H' : Hp} {v : V} {C : Addr} {fs : List (Str × V)} (h : ErrV H v C fs) (s : Same H H') : ErrV H' v C fs := by
  obtain ⟨a, d, e, h1, h2⟩ := h
  exact ⟨a, d, e, s _ _ h1, s _ _ h2⟩
theorem mkE_same {H : Hp} {a C d : Addr} {fs : List (Str × V)} (ha : H a = none) (hd : H d = none) : Same H (mkE H a C d fs) := fun b o e => by
  unfold mkE
  rw [upd_ne (ne_of_none e ha), upd_ne (ne_of_none e hd)]
  exact e
theorem mkE_err {H : Hp} {a C d : Addr} {fs : List (Str × V)} (ne : d ≠ a) : ErrV (mkE H a C d fs) (.ref a) C fs :=
  ⟨a, d, rfl, upd_same, by unfold mkE; rw [upd_ne ne, upd_same]⟩
def IniOk (P : Program) (w : World) (K : Frag) (mg : Str → Option Value) (base : Heap) (C : Addr) (fs : List Str) (fd : FuncData) : Prop := match fs with
  | [f] => FnOk P w K mg base CX0 1 (He.ma K C "__init__") fd ["self", f] (spI1 C f)
  | [f, g] => FnOk P w K mg base CX0 1 (He.ma K C "__init__") fd ["self", f, g] (spI2 C f g)
  | _ => False
/-- the class x, its __init__ (f or f, g), its told -/
structure ErrAt (P : Program) (w : World) (K : Frag) (mg : Str → Option Value) (base : Heap) (x : Str) (C : Addr) (fs : List Str) (z : Str) : Prop where
  mgC : mg x = some (.ref C)
  ex : ErrX K C fs ["told"]
  ini : findIn K (.ref C) "__init__" = some (some (.ref (He.ma K C "__init__"))) ∧ typeIn K (.ref (He.ma K C "__init__")) = some (.type "function")
  iok : ∃ fd, Binds K fd ("self" :: fs) [] ∧ IniOk P w K mg base C fs fd
  tok : ∃ fd, Binds K fd ["self"] [] ∧ keepIn K (.ref (He.ma K C "told")) = true ∧ FnOk P w K mg base CX0 1 (He.ma K C "told") fd ["self"] (spS z)
/-- the fields of an error that is made, as its dict holds them -/
def fldE : List Str → List V → List (Str × V)
  | [f], [v] => [(f, v)]
  | [f, g], [v, u] => [(g, u), (f, v)]
  | _, _ => []
def tErr (C : Addr) (fs : List Str) (ta : TA) : TE := fun σ H Q => ta σ H fun vs H1 => vs.length = fs.length ∧ ∀ v H2, Same H1 H2 → ErrV H2 v C (fldE fs vs) → Q v H2
section
variable {X : Cx} {x z : Str} {C : Addr} {fs : List Str} {e : Expr} {es : List Expr} {ta : TA} {p pos : Pos}
theorem pe_err (T : ErrAt X.prog X.w X.K X.mg X.base x C fs z) (hr : Room 2 X.A) (hx : Passes CX0 X (fun _ _ _ => False)) (hg : Gl X x) (ha : PA X (e :: es) ta)
    (hdb : (x == ("__debug__" : Str)) = false := by decide) (he : starEach (e :: es) X.env = (false, eval e X.env) :: starEach es X.env := by rfl) (hpl : (backTo pos (starEach es X.env)).any (·.1) = false := by rfl) :
    PE X (.Call (.Name x p) (e :: es) [] pos) (tErr C fs ta) := by
  obtain ⟨fd, hb, iok⟩ := T.iok
  refine ⟨fun pins s σ H Q I h => ?_⟩
  refine wpAny_Call_Name_kw (ld_glob I hg T.mgC ?_ hdb)
  refine callWith_K (h₀ := X.base) I.ok.mod.kin T.ex.ec.ox.kC (thn (ha.run pos pins s σ H _ I h) fun us s1 ⟨vs, H1, I1, r1, hz, q1⟩ => ⟨I1.kIn, ?_⟩) he hpl
  have ox := T.ex.ec.ox
  have i1 := T.ini.1
  have i2 := T.ini.2
  clear T
  match fs, vs, iok, hz, hb, q1 with
  | [f], [v], iok, _, hb, q1 =>
    exact run_mkE ox i1 i2 iok hr hb hx I1 r1 (by show 1 ≤ 1000; decide) fun a ha1 => ⟨a, v, rfl, upd_same, fun d hd ne => ⟨rfl, by
      rw [upd_ne ne] at hd
      rw [mkE_new ne]
      exact q1 _ _ (mkE_same ha1 hd) (mkE_err ne)⟩⟩
  | [f, g], [v, u], iok, _, hb, q1 =>
    exact run_mkE ox i1 i2 iok hr hb hx I1 r1 (by show 2 ≤ 1000; decide) fun a ha1 => ⟨a, v, u, rfl, upd_same, fun d hd ne => ⟨rfl, by
      rw [upd_ne ne] at hd
      rw [mkE_new ne]
      exact q1 _ _ (mkE_same ha1 hd) (mkE_err ne)⟩⟩
end

/-! ### the bodies of such a class's methods -/
section
variable {P : Program} {w : World} {K : Frag} {mg : Str → Option Value} {base : Heap} {x qual f g z : Str} {pa : Arguments} {sc : Scope} {dvs : List V} {kws : List (Str × V)} {fA : Addr} {fd : FuncData} {C : Addr} {p1 p2 p3 p4 q1 q2 q3 q4 : Pos} {j : Nat}
theorem ok_told {kk} (F : FunD K x qual pa [.Return (some (.Constant (.str z) kk p1)) p2] sc dvs kws fA fd) (S : FnScope ["self"] ["self"] sc) : FnOk P w K mg base CX0 1 fA fd ["self"] (spS z) := by
  refine F.ok S (fun vs H Q E h => ?_) (fun cdv A outer s H vs Q E hr h => ⟨_, PSs.nox (pss_one (ps_ret pe_str)), ?_⟩)
  · obtain ⟨v, rfl, _⟩ := h
    rfl
  · obtain ⟨v, rfl, q⟩ := h
    exact q
theorem ok_init1 (F : FunD K x qual pa [.Assign [.Attribute (.Name "self" p1) f p2] (.Name f p3) p4] sc dvs kws fA fd) (S : FnScope ["self", f] ["self", f] sc) (T : ErrX K C [f] ["told"])
    (ls : sc.names.lookup ("self" : Str) = some NameKind.local) (lf : sc.names.lookup f = some NameKind.local) (d1 : (f == ("__debug__" : Str)) = false) (d2 : (f == ("__classdict__" : Str)) = false) : FnOk P w K mg base CX0 1 fA fd ["self", f] (spI1 C f) := by
  refine F.ok S (fun vs H Q E h => ?_) (fun cdv A outer s H vs Q E hr h => ⟨_, PSs.nox (pss_one (ps_ost (pe_var (i := 0) rfl (.inl ls)) (pe_var (i := 1) rfl (.inl lf) d1 d2))), ?_⟩)
  · obtain ⟨a, v, rfl, _⟩ := h
    rfl
  · obtain ⟨a, v, rfl, ha, q⟩ := h
    exact ⟨_, rfl, _, rfl, a, C, rfl, T.ec.ox, T.no f (List.mem_singleton_self _), .inl ⟨ha, q⟩⟩
theorem ok_init2 (F : FunD K x qual pa [.Assign [.Attribute (.Name "self" p1) f p2] (.Name f p3) p4, .Assign [.Attribute (.Name "self" q1) g q2] (.Name g q3) q4] sc dvs kws fA fd) (S : FnScope ["self", f, g] ["self", f, g] sc) (T : ErrX K C [f, g] ["told"])
    (ls : sc.names.lookup ("self" : Str) = some NameKind.local) (lf : sc.names.lookup f = some NameKind.local) (d1 : (f == ("__debug__" : Str)) = false) (d2 : (f == ("__classdict__" : Str)) = false)
    (lg : sc.names.lookup g = some NameKind.local) (d3 : (g == ("__debug__" : Str)) = false) (d4 : (g == ("__classdict__" : Str)) = false) : FnOk P w K mg base CX0 1 fA fd ["self", f, g] (spI2 C f g) := by
  refine F.ok S (fun vs H Q E h => ?_) (fun cdv A outer s H vs Q E hr h => ⟨_, PSs.nox (pss_cons (ps_ost (pe_var (i := 0) rfl (.inl ls)) (pe_var (i := 1) rfl (.inl lf) d1 d2))
    (pss_one (ps_ost (pe_var (i := 0) rfl (.inl ls)) (pe_var (i := 2) rfl (.inl lg) d3 d4)))), ?_⟩)
  · obtain ⟨a, v, u, rfl, _⟩ := h
    rfl
  · obtain ⟨a, v, u, rfl, ha, q⟩ := h
    refine ⟨_, rfl, _, rfl, a, C, rfl, T.ec.ox, T.no f (List.mem_cons_self ..), .inl ⟨ha, fun d hd ne => ?_⟩⟩
    refine ⟨_, rfl, _, rfl, a, C, rfl, T.ec.ox, T.no g (List.mem_cons_of_mem _ (List.mem_singleton_self _)), .inr ⟨d, _, upd_same, by rw [upd_ne ne, upd_same], by show 1 ≤ 900; decide, ?_⟩⟩
    have z := q d hd ne
    have e : mkE H a C d [(g, u), (f, v)] = upd (upd (upd H d (exd d [(f, v)])) a (exo a C (some d))) d (exd d [(g, u), (f, v)]) := by
      funext b
      unfold mkE
      by_cases h1 : b = a
      · rw [h1, upd_same, upd_ne (Ne.symm ne), upd_same]
      · by_cases h2 : b = d
        · rw [h2, upd_ne ne, upd_same, upd_same]
        · rw [upd_ne h1, upd_ne h2, upd_ne h2, upd_ne h1, upd_ne h2]
    rw [e] at z
    exact z
end
end L2.Jk

set_option Elab.async false
set_option linter.all false
set_option maxRecDepth 100000
set_option maxHeartbeats 4000000
/-! A few operations over lists that may be read only; displays whose heap behind is not told but for what is new. -/
namespace L2.Jk
open PySem PySem.W PySem.Spec PySem.Calls PyProof.Rows

section
variable {X : Cx}
/-- xs + ys, whatever lists they are -/
def rCatS (K : Frag) : R2 := fun x y H Q => ∃ l b xs zs, x = .ref l ∧ y = .ref b ∧ SqL K H l xs ∧ SqL K H b zs ∧ xs.length + zs.length ≤ sizeLine ∧ ∀ p H', H p = none → Same H H' → H' p = some (.lst (xs ++ zs)) → Q (.ref p) H'
theorem op_catS : OpR X (binaryOp .Add) (rCatS X.K) := by
  intro pins s σ H x y v u Q I rx ry h
  obtain ⟨l, b, xs, zs, rfl, rfl, hl, hb, hz, q⟩ := h
  cases rx
  cases ry
  obtain ⟨i1, r1, ⟨o1, n1, g1, c1, d1, e1⟩, z1⟩ := I.list hl
  obtain ⟨i2, r2, ⟨o2, n2, g2, c2, d2, e2⟩, z2⟩ := I.list hb
  obtain ⟨k1, f1, t1, s1⟩ := o1
  obtain ⟨k2, f2, t2, s2⟩ := o2
  dsimp only at c1 d1 e1 c2 d2 e2
  subst c1 d1 e1 c2 d2 e2
  have hs : i1.length + i2.length ≤ sizeLine := by rw [← r1.length, ← r2.length]; exact hz
  refine concat_meets ⟨_, g1, rfl⟩ ⟨_, g2, rfl⟩ noFill_list_add seq_list_add PySem.F.slot_list_add PySem.F.entry_list_add (PySem.F.args_list_add_2 _ _)
    (list_addW l b i1.toArray i2.toArray n1 n2 none none s1 s2 (by simpa using hs)) ⟨g1, g2, ?_⟩
  rw [show i1.toArray ++ i2.toArray = (i1 ++ i2).toArray by simp]
  refine ⟨.ref _, _, I.lnew (t' := s.toks) (r1.append r2) (by rw [List.length_append]; exact hz), rfl, q _ _ I.fresh (fun c o z => ?_) upd_same⟩
  rw [upd_ne (ne_of_none z I.fresh)]
  exact z
/-- a display: where it stands is new, all else as before -/
def tLstS (t : TA) : TE := fun σ H Q => t σ H fun xs H1 => xs.length ≤ 1000 ∧ ∀ p H', H1 p = none → Same H1 H' → H' p = some (.lst xs) → Q (.ref p) H'
def tTupS (t : TA) : TE := fun σ H Q => t σ H fun xs H1 => xs.length ≤ 1000 ∧ ∀ p H', H1 p = none → Same H1 H' → H' p = some (.tup xs) → Q (.ref p) H'
theorem same_upd {H : Hp} {p : Addr} {o : HO} (h : H p = none) : Same H (upd H p o) := fun c u z => by
  rw [upd_ne (ne_of_none z h)]
  exact z
theorem pe_lstS {es : List Expr} {t : TA} {pos : Pos} (ha : PA X es t) : PE X (.List es pos) (tLstS t) := by
  constructor
  intro pins s σ H Q I h
  refine wpAny_List_spliced (thn (ha.run pos pins s σ H _ I h) fun us s1 ⟨xs, H1, I1, r, z, q⟩ => ?_)
  have z' := Nat.le_of_lt (small1000 z)
  have n : H1 s1.heap.objs.size = none := I1.fresh
  exact ⟨by rw [← r.length]; exact z', .ref s1.heap.objs.size, _, I1.lnew (t' := s1.toks) r z', rfl, q _ _ n (same_upd n) upd_same⟩
theorem pe_tupS {es : List Expr} {t : TA} {pos : Pos} {k} (ha : PA X es t) : PE X (.Tuple es k pos) (tTupS t) := by
  constructor
  intro pins s σ H Q I h
  refine wpAny_Tuple_spliced (thn (ha.run pos pins s σ H _ I h) fun us s1 ⟨xs, H1, I1, r, z, q⟩ => ?_)
  have z' := Nat.le_of_lt (small1000 z)
  have n : H1 s1.heap.objs.size = none := I1.fresh
  refine ⟨by rw [← r.length]; exact z', .ref s1.heap.objs.size, _, I1.laid (t' := s1.toks) (o := .tup xs) (fun b u e => Heap.get?_push_of_some _ e) (Nat.le_refl _) ?_, rfl, q _ _ n (same_upd n) upd_same⟩
  exact ⟨z', us, r, IsTup.new _ _⟩
/-- xs[lo:hi] of a list -/
def rSlS (K : Frag) : V → Option Int → Option Int → Hp → VK → Prop := fun x lo hi H Q => ∃ a xs, x = .ref a ∧ SqL K H a xs ∧ ∀ p H', H p = none → Same H H' → H' p = some (.lst (cutV xs lo hi)) → Q (.ref p) H'
theorem sl_listS : SlR X (rSlS X.K) := by
  intro pins s σ H x v vl vu lo hi sl Q I rx hs pl pu h
  obtain ⟨a, xs, e, hx, q⟩ := h
  exact sl_list pins s σ H x v vl vu lo hi sl Q I rx hs pl pu ⟨a, xs, e, hx, fun p hp => q p _ hp (same_upd hp) upd_same⟩
end
/-- what may change at one place alone -/
def But (a : Addr) (H H' : Hp) : Prop := ∀ c o, c ≠ a → H c = some o → H' c = some o
theorem But.of_same {a : Addr} {H H' : Hp} (s : Same H H') : But a H H' := fun c o _ h => s c o h
theorem But.refl (a : Addr) (H : Hp) : But a H H := fun _ _ _ h => h
theorem But.trans {a : Addr} {H H1 H2 : Hp} (x : But a H H1) (y : But a H1 H2) : But a H H2 := fun c o n h => y c o n (x c o n h)
theorem but_upd (H : Hp) (a : Addr) (o : HO) : But a H (upd H a o) := fun c u n h => by
  rw [upd_ne n]
  exact h
/-! ### data stays -/
theorem SqT.same {K : Frag} {H H' : Hp} {a : Addr} {xs : List V} (e : Same H H') (h : SqT K H a xs) : SqT K H' a xs := by
  rcases h with (h | ⟨o, h⟩) | h
  · exact .inl (.inl (e _ _ h))
  · exact .inl (.inr ⟨o, e _ _ h⟩)
  · exact .inr h
/-- a class or a def of the module, a built-in type, as a value -/
theorem pe_gref {X : Cx} {x : Str} {a : Addr} {pos : Pos} (hg : Gl X x) (hm : X.mg x = some (.ref a)) (hd : (x == ("__debug__" : Str)) = false := by decide) : PE X (.Name x pos) (tC (.ref a)) := pe_glob (v := .ref a) hg hm rfl hd
theorem pe_bty {X : Cx} {x : Str} {n : String} {pos : Pos} (hg : Gl X x) (hm : X.mg x = none) (hv : bootBuiltins x = some (.type n)) (hn : x ≠ "__name__" := by decide) (hd : (x == ("__debug__" : Str)) = false := by decide) : PE X (.Name x pos) (tC (.ty n)) :=
  pe_bltn (v := .ty n) hg hm hv rfl hn hd
/-! ### a new list that a comprehension fills: fm i is what it holds behind i turns -/
def LcP (H1 : Hp) (D : Addr) (fm : Nat → List V) (i : Nat) (H : Hp) : Prop := Same H1 H ∧ H1 D = none ∧ H D = some (.lst (fm i)) ∧ (fm i).length ≤ i
theorem LcP.start {H1 : Hp} {D : Addr} {fm : Nat → List V} (h : H1 D = none) (e : fm 0 = []) : LcP H1 D fm 0 (upd H1 D (.lst [])) :=
  ⟨same_upd h, h, by rw [upd_same, e], by rw [e]; exact Nat.le_refl _⟩
theorem LcP.put {H1 H H4 : Hp} {D : Addr} {fm : Nat → List V} {i : Nat} {y : V} (p : LcP H1 D fm i H) (s : Same H H4) (e : fm (i + 1) = fm i ++ [y]) (hi : i < 10000) :
    ∃ acc, H4 D = some (.lst acc) ∧ acc.length < sizeLine ∧ LcP H1 D fm (i + 1) (upd H4 D (.lst (acc ++ [y]))) := by
  obtain ⟨s0, n, d, l⟩ := p
  refine ⟨fm i, s _ _ d, ?_, fun c o z => ?_, n, by rw [upd_same, e], by rw [e, List.length_append, List.length_singleton]; omega⟩
  · rw [sizeLine_eq]
    omega
  · rw [upd_ne (ne_of_none z n)]
    exact s _ _ (s0 _ _ z)
theorem LcP.pass {H1 H H4 : Hp} {D : Addr} {fm : Nat → List V} {i : Nat} (p : LcP H1 D fm i H) (s : Same H H4) (e : fm (i + 1) = fm i) : LcP H1 D fm (i + 1) H4 := by
  obtain ⟨s0, n, d, l⟩ := p
  exact ⟨s0.trans s, n, by rw [e]; exact s _ _ d, by rw [e]; omega⟩
/-! ### data that stays where one place alone changes -/
def Per (a : Addr) (K : Frag) (H : Hp) (x : V) (d : PyData) : Prop := ∀ H', But a H H' → Dp K H' x d
theorem Per.but {a : Addr} {K : Frag} {H H1 : Hp} {x : V} {d : PyData} (p : Per a K H x d) (b : But a H H1) : Per a K H1 x d := fun H' b' => p H' (b.trans b')
theorem Per.same {a : Addr} {K : Frag} {H H1 : Hp} {x : V} {d : PyData} (p : Per a K H x d) (s : Same H H1) : Per a K H1 x d := p.but (But.of_same s)
theorem Per.dp {a : Addr} {K : Frag} {H : Hp} {x : V} {d : PyData} (p : Per a K H x d) : Dp K H x d := p H (But.refl a H)
theorem Per.lst {a p : Addr} {K : Frag} {H : Hp} {xs : List V} {ds : List PyData} (ne : p ≠ a) (h : H p = some (.lst xs)) (q : ∀ H', But a H H' → DpAll K H' xs ds) : Per a K H (.ref p) (.list ds) :=
  fun H' b => .lst (SqL.of (b _ _ ne h)) (q H' b)
theorem Per.tup {a p : Addr} {K : Frag} {H : Hp} {xs : List V} {ds : List PyData} (ne : p ≠ a) (h : H p = some (.tup xs)) (q : ∀ H', But a H H' → DpAll K H' xs ds) : Per a K H (.ref p) (.tuple ds) :=
  fun H' b => .tup (SqT.of (b _ _ ne h)) (q H' b)
theorem dp_one {K : Frag} {H : Hp} {p : Addr} {x : V} {d : PyData} (h : H p = some (.lst [x])) (q : Dp K H x d) : Dp K H (.ref p) (.list [d]) := .lst (SqL.of h) (.cons q .nil)
theorem dp_two {K : Frag} {H : Hp} {p : Addr} {x y : V} {d e : PyData} (h : H p = some (.lst [x, y])) (q : Dp K H x d) (r : Dp K H y e) : Dp K H (.ref p) (.list [d, e]) := .lst (SqL.of h) (.cons q (.cons r .nil))
theorem eqv_same {d : PyData} (h : SeqAt.shaped d = true) : PyData.eqv d d = true := SeqAt.eqv_refl d (SeqAt.canLay_of_shaped h)
theorem ne_new {H : Hp} {a b : Addr} {o : HO} (h : H a = some o) (n : H b = none) : b ≠ a := Ne.symm (ne_of_none h n)
end L2.Jk

set_option Elab.async false
set_option linter.all false
set_option maxRecDepth 100000
set_option maxHeartbeats 4000000
/-! == and != of instances by the text's own __eq__, whatever it answers. -/
namespace L2.Jk
open PySem PySem.W PySem.Spec PySem.Calls PyProof.Rows

/-! ### what the head says of a class with an own __eq__ and no __ne__, by one Bool -/
def eqcB (K : Frag) (C : Addr) : Bool := He.eqO (findIn K (.ref C) "__eq__") (some (some (.ref (He.ma K C "__eq__")))) && (isFn K (.ref (He.ma K C "__eq__")) && (match K.lookup C with
  | some ⟨.type "type", _, .cls cd, sl⟩ => (match cd.mro, sl.toList with
    | .ref D :: bm, [_, _, _, _, some (.builtin _), _] => decide (D = C) && (decide (bm = [.type "object"]) && (!cd.hasDel && (nsOkIn K cd.ns && (decide (nsIn K cd.ns "__eq__" = some (some (.ref (He.ma K C "__eq__")))) && decide (nsIn K cd.ns "__ne__" = some none)))))
    | _, _ => false)
  | _ => false))
structure EqcC (K : Frag) (C : Addr) : Prop where
  find : findIn K (.ref C) "__eq__" = some (some (.ref (He.ma K C "__eq__")))
  fn : isFn K (.ref (He.ma K C "__eq__")) = true
  cls : ∃ nm q N bs hdct sn sub ab col dd k0 k1 k2 k3 k5 nid, K.lookup C = some (excClassObj nm q C N bs [.type "object"] hdct sn sub ab col dd k0 k1 k2 k3 k5 nid) ∧ nsOkIn K N = true ∧
    nsIn K N "__eq__" = some (some (.ref (He.ma K C "__eq__"))) ∧ nsIn K N "__ne__" = some none
theorem eqcB_ok {K : Frag} {C : Addr} (h : eqcB K C = true) : EqcC K C := by
  obtain ⟨h1, h⟩ := Bool.and_eq_true_iff.mp h
  obtain ⟨h2, h3⟩ := Bool.and_eq_true_iff.mp h
  refine ⟨He.eqO_ok h1, h2, ?_⟩
  split at h3
  · rename_i dd cd sl ho
    split at h3
    · rename_i D bm k0 k1 k2 k3 n k5 hm hs
      obtain ⟨a1, h3⟩ := Bool.and_eq_true_iff.mp h3
      obtain ⟨a2, h3⟩ := Bool.and_eq_true_iff.mp h3
      obtain ⟨a3, h3⟩ := Bool.and_eq_true_iff.mp h3
      obtain ⟨a4, h3⟩ := Bool.and_eq_true_iff.mp h3
      obtain ⟨a5, a6⟩ := Bool.and_eq_true_iff.mp h3
      obtain rfl := of_decide_eq_true a1
      obtain rfl := of_decide_eq_true a2
      obtain ⟨nm, bs, mro, ns, qn, hd, sn, sub, ab, col, del⟩ := cd
      dsimp only at hm a3 a4 a5 a6
      subst hm
      obtain rfl : del = false := by cases del <;> first | rfl | cases a3
      have e : sl = #[k0, k1, k2, k3, some (.builtin n), k5] := by
        obtain ⟨l⟩ := sl
        dsimp only at hs
        rw [hs]
      subst e
      exact ⟨nm, qn, ns, bs, hd, sn, sub, ab, col, dd, k0, k1, k2, k3, k5, n, ho, a4, of_decide_eq_true a5, of_decide_eq_true a6⟩
    · cases h3
  · cases h3

section
variable {X : Cx} {CX : CXT} {E : XK}
/-- x == y, x an instance with an own __eq__: what that answers -/
def rEqO (X : Cx) (CX : CXT) (E : XK) : R2 := fun x y H Q => ∃ (a C dx : Addr) (fs : List (Str × V)) (t : Value), x = .ref a ∧ H a = some (.ins C dx fs) ∧ EqcC X.K C ∧ TyE X.K H y t ∧ notFirst X.K C t = true ∧
  Does X CX (He.ma X.K C "__eq__") [x, y] H (fun v H' => ∃ b, v = .bl b ∧ Q (.bl b) H') E
theorem op_eqO (hx : Passes CX X E) : OpR X (compareOp .Eq) (rEqO X CX E) := by
  intro pins s σ H x y v u Q I rx ry h
  obtain ⟨a, C, dx, fs, t, rfl, ha, T, ty, nf, k, fd, ps, sp, kp, F, hr, hb, q⟩ := h
  cases rx
  obtain ⟨mA, J, _⟩ := ins_get I.hok ha
  obtain ⟨od, J, _⟩ := J.look
  obtain ⟨m, hF⟩ := I.fr
  obtain ⟨P, Z, p, _⟩ := kit_ofE I ry ty
  have hty : Looks (model X.prog X.w) s.heap (typeOf u) t := Z.ty _ _ I.kIn p
  show wpAny (model X.prog X.w) X.A (richCompare .Eq (.ref a) u) (EP X pins σ Q) X.xe s
  refine cmp_K (op := .Eq) (tb := t) hr.units0 hF I.ok.mod.kin J hty nf T.find T.fn ?_
  refine wpAny_mono (run_fn (us := [.ref a, u]) (vs := [.ref a, y]) F hr hb .nil hx I (.cons rfl (.cons ry .nil)) q) (fun z s' hz => ?_) fun _ _ e => e
  obtain ⟨v', H', I', r', b, rfl, q'⟩ := hz
  obtain rfl : z = Value.bool b := r'
  exact ⟨.bl b, H', I', rfl, q'⟩
theorem ns_at_of {K : Frag} {h : Heap} {N : Addr} {mN : Str → Option Value} {n : Str} {v : Value} (X : K.In h) (G : h.Ns N mN) (e : nsIn K N n = some (some v)) : mN n = some v := by
  obtain ⟨o, es, ep, ho, hd, _, hf⟩ := G
  unfold nsIn at e
  split at e
  · rename_i q
    have z := X _ _ q
    rw [ho] at z
    cases z
    cases hd
    split at e
    · rename_i en he
      have ev : en.val = v := Option.some.inj (Option.some.inj e)
      rw [← hf]
      unfold nsFind findBy
      rw [← Array.find?_toList, he]
      exact congrArg some ev
    · split at e <;> cases e
  · cases e
/-- a call below a builtin -/
theorem run_in1 {k : Nat} {f : Addr} {fd : FuncData} {ps : List Str} {sp : Sp} {pins : List (Addr × Obj)} {σ : St} {H : Hp} {s : Shared} {Q : VK} {us : List Value} {vs : List V} (F : FnOk X.prog X.w X.K X.mg X.base CX k f fd ps sp) (hr : Room k X.A.in1)
    (hb : Binds X.K fd ps []) (hx : Passes CX X E) (I : Inv X pins σ H s) (r : Vals vs us) (h : sp vs H Q E) : wpAny (model X.prog X.w) X.A.in1 (call (.ref f) us) (EP X pins σ Q) X.xe s := by
  have hl : us.length = ps.length := by rw [← r.length]; exact F.len _ _ _ _ h
  have hb' := hb s us I.kIn (by rw [List.append_nil]; exact hl)
  rw [List.append_nil] at hb'
  refine wpAny_call (codeAny_mono (F.run X.A.in1 X.stack s H ⟨us, []⟩ us vs Q E hr I.env0.in1 hb' r h) fun r s' hq => ?_)
  cases r with
  | error e => exact hx pins σ H s e s' I hq
  | ok fl =>
    cases fl with
    | ret u => exact I.after hq
    | next => exact False.elim hq
    | brk => exact False.elim hq
    | cont => exact False.elim hq
/-- x != y, both instances of the class at C -/
def rNeO (X : Cx) (CX : CXT) (E : XK) : R2 := fun x y H Q => ∃ (a b C dx dy : Addr) (fs gs : List (Str × V)), x = .ref a ∧ y = .ref b ∧ H a = some (.ins C dx fs) ∧ H b = some (.ins C dy gs) ∧ EqcC X.K C ∧
  ∃ (k : Nat) (fd : FuncData) (ps : List Str) (sp : Sp), keepIn X.K (.ref (He.ma X.K C "__eq__")) = true ∧ FnOk X.prog X.w X.K X.mg X.base CX k (He.ma X.K C "__eq__") fd ps sp ∧ Room (k + 1) X.A ∧ Binds X.K fd ps [] ∧ sp [x, y] H (fun v H' => ∃ b, v = .bl b ∧ Q (.bl !b) H') E
theorem op_neO (hx : Passes CX X E) : OpR X (compareOp .NotEq) (rNeO X CX E) := by
  intro pins s σ H x y v u Q I rx ry h
  obtain ⟨a, b, C, dx, dy, fs, gs, rfl, rfl, ha, hb', T, k, fd, ps, sp, kp, G, hr, hb, q⟩ := h
  cases rx
  cases ry
  obtain ⟨mA, J, _⟩ := ins_get I.hok ha
  obtain ⟨mB, J', _⟩ := ins_get I.hok hb'
  obtain ⟨od, J, _⟩ := J.look
  obtain ⟨od', J', _⟩ := J'.look
  obtain ⟨nm, qn, N, bs, hdct, sn, sub, ab, col, dd, k0, k1, k2, k3, k5, nid, hC, ok, ne1, ne2⟩ := T.cls
  have hn : s.heap.Ns N (s.heap.nsMap N) := .of_isNs (isNs_of_in I.kIn ok)
  obtain ⟨of, hof, hcl⟩ := Option.map_eq_some_iff.mp (show (X.K.lookup (He.ma X.K C "__eq__")).map (·.cls) = some (.type "function") from beq_iff_eq.mp T.fn)
  have own : s.heap.OwnEqNoNe a C (He.ma X.K C "__eq__") "object" [.type "object"] := ⟨_, of, nm, qn, N, bs, hdct, sn, sub, ab, col, dd, k0, k1, k2, k3, k5, nid, _, _, J.at_, rfl, I.kIn _ _ hC, hn, ns_at_of I.kIn hn ne1,
    I.kIn _ _ hof, hcl, F.cmp_object.mro, F.cmp_object.eq.lookup, ns_none_of I.kIn hn ne2⟩
  obtain ⟨hp, g, d, tk, os⟩ := s
  refine compareOp_ne_ownEq F.cmp_object own J'.at_ rfl (by have := hr.units; omega) ?_
  refine wpAny_mono (run_in1 (us := [.ref a, .ref b]) (vs := [.ref a, .ref b]) G hr.in1 hb hx I (.cons rfl (.cons rfl .nil)) q) (fun z s' hz => ?_) fun _ _ e => e
  obtain ⟨v', H', I', r', b', rfl, q'⟩ := hz
  obtain rfl : z = Value.bool b' := r'
  exact ⟨b', rfl, .bl !b', H', I', rfl, q'⟩
end
end L2.Jk

set_option Elab.async false
set_option linter.all false
set_option maxRecDepth 100000
set_option maxHeartbeats 4000000
/-! A hook that walks the heap by layers, and casts out doubles by one number's bits. -/
namespace L2.Jk
open PySem PySem.W
def bitOn (m a : Nat) : Bool := Nat.beq (Nat.land (Nat.shiftRight m a) 1) 1
/-- what is not seen yet, and what is seen then -/
def freshD : List Nat → Nat → List Nat → List Nat × Nat
  | [], m, acc => (acc, m)
  | a :: r, m, acc => match bitOn m a with
    | true => freshD r m acc
    | false => freshD r (Nat.lor m (Nat.shiftLeft 1 a)) (a :: acc)
def refsAll (g : Nat → Option Obj) : List Nat → List Nat
  | [] => []
  | a :: r => match g a with
    | some o => He.refsD o ++ refsAll g r
    | none => refsAll g r
def layers (g : Nat → Option Obj) : Nat → List Nat → Nat → List Nat
  | 0, fr, _ => fr
  | n + 1, fr, m => match freshD (refsAll g fr) m [] with
    | (nw, m2) => fr ++ layers g n nw m2
def selL (n : Nat) (g : Nat → Option Obj) : List Nat := layers g n [mainGlobals] (Nat.shiftLeft 1 mainGlobals)
def obsK (fa : List He.Fa) (fn : List He.DefD) (ts : List He.Tab) (tf : List He.Defn) (ex : Frag → Bool) (g : Nat → Option Obj) (K : Frag) : He.AlX := (He.obsT fa fn ts K, ex K && He.tabsB g tf K)
def obsL (n : Nat) (fa : List He.Fa) (fn : List He.DefD) (ts : List He.Tab) (tf : List He.Defn) (ex : Frag → Bool) (g : Nat → Option Obj) : He.AlX := obsK fa fn ts tf ex g (He.frT g (selL n g))
theorem saysL_of {n : Nat} {fa : List He.Fa} {fn : List He.DefD} {ts : List He.Tab} {tf : List He.Defn} {ex : Frag → Bool} {w : World} {h : Heap}
    (e : obsL n fa fn ts tf ex h.get? = He.valX fn ts w) : He.SaysX fa fn ts tf ex w h (He.frT h.get? (selL n h.get?)) := by
  have e1 := congrArg (fun z => z.fst) e
  have e2 : (ex (He.frT h.get? (selL n h.get?)) && He.tabsB h.get? tf (He.frT h.get? (selL n h.get?))) = true := congrArg (fun z => z.snd) e
  obtain ⟨h1, h2⟩ := Bool.and_eq_true_iff.mp e2
  have key : ∀ p ∈ tf, codeHdIn (He.frT h.get? (selL n h.get?)) (He.cT (He.frT h.get? (selL n h.get?)) p).fst (He.cT (He.frT h.get? (selL n h.get?)) p).snd = true ∧ ∃ o, h.get? (He.cT (He.frT h.get? (selL n h.get?)) p).snd = some o ∧ He.emptyTab o = true := fun p hp => by
    have hh := List.all_eq_true.mp h2 p hp
    obtain ⟨h3, h4⟩ := Bool.and_eq_true_iff.mp hh
    refine ⟨h3, ?_⟩
    cases q : h.get? (He.cT (He.frT h.get? (selL n h.get?)) p).snd with
    | none => rw [q] at h4; cases h4
    | some o => rw [q] at h4; exact ⟨o, rfl, h4⟩
  exact { t := e1, more := h1, hd := fun p hp => (key p hp).1, out := fun p hp => by
            obtain ⟨_, o, q, z⟩ := key p hp
            exact He.frT_none q z, empty := fun p hp => by
            obtain ⟨_, o, q, z⟩ := key p hp
            rw [q, He.emptyTab_eq z] }
def hookL (n : Nat) (fa : List He.Fa) (fn : List He.DefD) (ts : List He.Tab) (tf : List He.Defn) (ex : Frag → Bool) : Hook where
  α := He.AlX
  obs := fun s => obsL n fa fn ts tf ex s.heap.get?
  val := fun w => He.valX fn ts w
  says := fun w h => ∃ K, K.In h ∧ He.SaysX fa fn ts tf ex w h K
  of := fun w s e => ⟨_, He.frT_in, saysL_of e⟩
  keeps := fun w h h' ⟨K, hK, c⟩ k => ⟨K, Frag.In.keeps hK k, { t := c.t, more := c.more, hd := c.hd, out := c.out, empty := fun p hp => k _ _ (c.empty p hp) }⟩
theorem obsL_eq {n : Nat} {fa : List He.Fa} {fn : List He.DefD} {ts : List He.Tab} {tf : List He.Defn} {ex : Frag → Bool} {g : Nat → Option Obj} {s : Shared}
    (hg : ∀ a, g a = s.heap.get? a) : obsL n fa fn ts tf ex g = (hookL n fa fn ts tf ex).obs s := by
  have e : g = s.heap.get? := funext hg
  rw [e]
  rfl
end L2.Jk

set_option Elab.async false
set_option linter.all false
set_option maxRecDepth 100000
set_option maxHeartbeats 4000000
/-! int(text) of up to 4,300 digits, where the interpreter's limit on digits stands as it was. -/
namespace L2.Jk
open PySem PySem.W PySem.Spec PySem.Calls PySem.NumText PyProof.Rows PySem.W.KIN

theorem wp_textW {M : Model} {A : Around} {E : Value → Shared → Prop} {s : Shared} {Q : Value → Shared → Prop} {v : Value} {text : List Nat} {n : Int}
    (hd : s.heap.NoDigits) (hs : ¬ (text.takeWhile (· != 0)).length ≤ 640) (hr : (int_private% "readNumeral") 4300 10 (text.takeWhile (· != 0)) = (int_private% "Numeral.value") n)
    (ha : ((text.takeWhile (· != 0)).length == text.length) = true) (h : Q (.int n s.toks) { s with toks := s.toks + 1 }) :
    wpAny M A ((int_private% "intFromText") v text 10) Q E s := by
  obtain ⟨mc, hns, hnone⟩ := hd
  have key : wpAny M A (Builtin.intMaxStrDigits) (fun l s' => l = 4300 ∧ s' = s) E s := by
    unfold Builtin.intMaxStrDigits
    refine wpAny_bind (wpAny_nsGet hns ?_)
    rw [hnone]
    exact wpAny_pure ⟨rfl, rfl⟩
  obtain ⟨hp, g, d, tk, os⟩ := s
  show wpAny M A (do
    let limit ← if (text.takeWhile (· != 0)).length ≤ 640 then pure 0 else Builtin.intMaxStrDigits
    _) Q E _
  rw [if_neg hs]
  refine wpAny_bind (wpAny_mono key ?_ (fun _ _ x => x))
  rintro l s' ⟨rfl, rfl⟩
  dsimp only
  rw [hr]
  repeat (any_goals (first
    | assumption
    | (with_reducible refine wpAny_ite_true ha ?_)
    | wp_step))

set_option maxHeartbeats 4000000 in
theorem meets_textW {x : PySem.Str} {u : Tok} {n : Int} (hl : ¬ (numSeenOf x).length ≤ 640) (hl2 : x.length ≤ sizeLine) (hn : PySem.intText? x = some n) :
    Meets (Builtin.«int.__new__» ⟨[.type "int", .str x u], []⟩) (fun A R s => s.heap.NoDigits ∧ R (.ok (.ret (.int n s.toks))) { s with toks := s.toks + 1 }) :=
  .of_wp fun prog w A R s h => by
    have hr : (int_private% "readNumeral") 4300 10 (numSeenOf x) = (int_private% "Numeral.value") n ∧ ((numSeenOf x).length == (numTextOf x).length) = true := by
      rcases read4300 x hl2 with ⟨m, h1, h2, h3⟩ | ⟨h1, _⟩
      · rw [hn] at h1
        injection h1 with h1
        subst h1
        exact ⟨h3, h2⟩
      · rw [hn] at h1
        cases h1
    obtain ⟨hd, h⟩ := h
    have hd2 := Hid.mk hd
    obtain ⟨hp, g, d, tk, os⟩ := s
    have f1 := F.conv_sub_int
    have f2 := F.madeHere_int
    have f3 := str_int
    have f4 := str_idx
    have f5 := str_trunc
    have f6 : typeOf (.str x u) = pure (.type "str") := rfl
    have hk := Hid.mk (And.intro hl hr)
    clear hr hl hl2 hn hd
    repeat (any_goals (first
      | assumption
      | ((with_reducible show wpAny _ _ ((int_private% "intFromText") _ _ _) _ _ _); refine wp_textW hd2.out hk.out.1 hk.out.2.1 hk.out.2.2 ?_)
      | wp_step))
    all_goals first | exact ⟨_, rfl, h⟩ | skip
theorem call_textW {prog : Program} {w : World} {A : Around} {E : Value → Shared → Prop} {s : Shared} {Q : Value → Shared → Prop} {x : PySem.Str} {t : Tok} {n : Int} (hd : s.heap.NoDigits) (hn : PySem.intText? x = some n) (hl : x.length ≤ 640 ∨ (¬ (numSeenOf x).length ≤ 640 ∧ x.length ≤ 4300))
    (h : Q (.int n s.toks) { s with toks := s.toks + 1 }) : wpAny (model prog w) A (call (.type "int") [.str x t]) Q E s := by
  rcases hl with hl | ⟨hs, hl⟩
  · exact PySem.W.KIN.call_text hn hl h
  · exact call_int_1 (meets_textW hs (by rw [sizeLine_eq]; omega) hn) ⟨hd, rfl, h⟩
/-- a text that int() takes: short, or all of it digits -/
def IntOk (a : Str) : Prop := a.length ≤ 640 ∨ ((¬ (numSeenOf a).length ≤ 640) ∧ a.length ≤ 4300)
theorem intOk_digits {a : Str} (h : ∀ c ∈ a.cps.toList, c = 45 ∨ (48 ≤ c ∧ c ≤ 57)) (hl : a.length ≤ 4300) : IntOk a := by
  by_cases k : a.length ≤ 640
  · exact .inl k
  · refine .inr ⟨?_, hl⟩
    rw [(numText_signs h).2, Array.length_toList]
    exact k
theorem call_int_strW {X : Cx} (hd : X.base.NoDigits) : CallR X (.type "int") (fun xs H Q => ∃ a n, xs = [.str a] ∧ PySem.intText? a = some n ∧ IntOk a ∧ Q (.int n) H) := by
  intro pins s σ H xs us Q I rs h
  obtain ⟨a, n, rfl, hn, hl, h⟩ := h
  cases rs with
  | cons r1 rs =>
    cases rs
    obtain ⟨t, rfl⟩ := r1
    exact call_textW (hd.keeps I.bk) hn hl ⟨.int n, H, I.tok _, ⟨_, rfl⟩, h⟩
/-- what the head tells of the interpreter's own table -/
def digB (K : Frag) : Bool := match K.lookup cStatics with
  | some o => (match o.data with
    | .dict es _ => es.toList.all fun e => match e.key with
      | .str n _ => decide (n ≠ ("sys.int_max_str_digits" : Str))
      | _ => false
    | _ => false)
  | none => false
theorem noDigits_of {K : Frag} {base : Heap} (X : K.In base) (h : digB K = true) : base.NoDigits := by
  unfold digB at h
  split at h
  · rename_i o ho
    split at h
    · rename_i es ep hd
      have key : ∀ e ∈ es, ∃ n t, e.key = .str n t ∧ n ≠ ("sys.int_max_str_digits" : Str) := fun e he => by
        have k := List.all_eq_true.mp h e (by simpa using he)
        split at k
        · rename_i n t ek
          exact ⟨n, t, ek, of_decide_eq_true k⟩
        · cases k
      refine ⟨fun n => nsFind es n, ⟨o, es, ep, X _ _ ho, hd, fun e he => ?_, fun _ => rfl⟩, ?_⟩
      · obtain ⟨n, t, ek, _⟩ := key e he
        exact ⟨n, t, ek⟩
      · show nsFind es "sys.int_max_str_digits" = none
        unfold nsFind findBy
        have z : es.find? (fun e => e.key.isStr "sys.int_max_str_digits") = none := by
          rw [Array.find?_eq_none]
          intro e he
          obtain ⟨n, t, ek, ne⟩ := key e he
          rw [ek]
          simpa [Value.isStr] using ne
        rw [z]
        rfl
    · cases h
  · cases h
/-! ### a head whose facts see the interpreter's own table, too -/
def obsS (n : Nat) (fa : List He.Fa) (fn : List He.DefD) (ex : Frag → Bool) (g : Addr → Option Obj) : He.AlX := (He.obsT fa fn [] (He.frT g (He.asD g n ++ [cStatics])), ex (He.frT g (He.asD g n ++ [cStatics])))
def hookS (n : Nat) (fa : List He.Fa) (fn : List He.DefD) (ex : Frag → Bool) : PySem.W.Hook where
  α := He.AlX
  obs := fun s => obsS n fa fn ex s.heap.get?
  val := fun w => He.valX fn [] w
  says := fun w h => ∃ K : Frag, K.In h ∧ He.SaysT fa fn [] w K ∧ ex K = true
  of := fun _ _ e => ⟨_, He.frT_in, congrArg (fun z : He.AlX => z.1) e, congrArg (fun z : He.AlX => z.2) e⟩
  keeps := fun _ _ _ ⟨K, hK, c, m⟩ k => ⟨K, Frag.In.keeps hK k, c, m⟩
theorem obsS_eq {n : Nat} {fa : List He.Fa} {fn : List He.DefD} {ex : Frag → Bool} {g : Addr → Option Obj} {s : Shared} (h : ∀ a, g a = s.heap.get? a) : obsS n fa fn ex g = (hookS n fa fn ex).obs s := by
  have e : g = s.heap.get? := funext h
  rw [e] <;> rfl
end L2.Jk

set_option Elab.async false
set_option linter.all false
set_option maxRecDepth 100000
set_option maxHeartbeats 0
namespace L2.K79
open PySem PySem.W PySem.Spec PySem.Calls PyProof.Rows L2.Jk
def top (i : Nat) : Stmt := PySem.Challenge.pw_jointkeys_k79_texts_that_are_no_layouts.main.body.getD i (.Pass ⟨0, 0, 0, 0⟩)
def SG : Str := "-./0123456789ABCDEFGHIJKLMNOPQRSTUVWXYZ_abcdefghijklmnopqrstuvwxyz"
def DG : Str := "0123456789"
abbrev BF (K : Frag) : Addr := He.ga K "BadField"
abbrev BY (K : Frag) : Addr := He.ga K "BadLayout"
abbrev BT (K : Frag) : Addr := He.ga K "BadText"
def cname : Nat → Str
  | 0 => "Word"
  | 1 => "Number"
  | 2 => "Fixed"
  | 3 => "Listed"
  | 4 => "Ended"
  | 5 => "Marked"
  | 6 => "Layout"
  | _ => ""
abbrev ca (K : Frag) (i : Nat) : Addr := He.ga K (cname i)

def fn : List He.DefD := [⟨("BadField", some "__init__"), "__init__", "BadField.__init__", defArgs (inClass (top 3) 0), defBody (inClass (top 3) 0), defScope (inClass (top 3) 0), [], []⟩,
  ⟨("BadField", some "told"), "told", "BadField.told", defArgs (inClass (top 3) 1), defBody (inClass (top 3) 1), defScope (inClass (top 3) 1), [], []⟩,
  ⟨("BadLayout", some "__init__"), "__init__", "BadLayout.__init__", defArgs (inClass (top 4) 0), defBody (inClass (top 4) 0), defScope (inClass (top 4) 0), [], []⟩,
  ⟨("BadLayout", some "told"), "told", "BadLayout.told", defArgs (inClass (top 4) 1), defBody (inClass (top 4) 1), defScope (inClass (top 4) 1), [], []⟩,
  ⟨("BadText", some "__init__"), "__init__", "BadText.__init__", defArgs (inClass (top 5) 0), defBody (inClass (top 5) 0), defScope (inClass (top 5) 0), [], []⟩,
  ⟨("BadText", some "told"), "told", "BadText.told", defArgs (inClass (top 5) 1), defBody (inClass (top 5) 1), defScope (inClass (top 5) 1), [], []⟩,
  ⟨("Word", some "__init__"), "__init__", "Word.__init__", defArgs (inClass (top 23) 0), defBody (inClass (top 23) 0), defScope (inClass (top 23) 0), [], []⟩,
  ⟨("Word", some "__eq__"), "__eq__", "Word.__eq__", defArgs (inClass (top 23) 1), defBody (inClass (top 23) 1), defScope (inClass (top 23) 1), [], []⟩,
  ⟨("Word", some "has_sign"), "has_sign", "Word.has_sign", defArgs (inClass (top 23) 7), defBody (inClass (top 23) 7), defScope (inClass (top 23) 7), [], []⟩,
  ⟨("Number", some "__init__"), "__init__", "Number.__init__", defArgs (inClass (top 24) 0), defBody (inClass (top 24) 0), defScope (inClass (top 24) 0), [], []⟩,
  ⟨("Number", some "__eq__"), "__eq__", "Number.__eq__", defArgs (inClass (top 24) 1), defBody (inClass (top 24) 1), defScope (inClass (top 24) 1), [], []⟩,
  ⟨("Number", some "has_sign"), "has_sign", "Number.has_sign", defArgs (inClass (top 24) 7), defBody (inClass (top 24) 7), defScope (inClass (top 24) 7), [], []⟩,
  ⟨("Fixed", some "__init__"), "__init__", "Fixed.__init__", defArgs (inClass (top 25) 0), defBody (inClass (top 25) 0), defScope (inClass (top 25) 0), [], []⟩,
  ⟨("Fixed", some "__eq__"), "__eq__", "Fixed.__eq__", defArgs (inClass (top 25) 1), defBody (inClass (top 25) 1), defScope (inClass (top 25) 1), [], []⟩,
  ⟨("Fixed", some "has_sign"), "has_sign", "Fixed.has_sign", defArgs (inClass (top 25) 7), defBody (inClass (top 25) 7), defScope (inClass (top 25) 7), [], []⟩,
  ⟨("Listed", some "__init__"), "__init__", "Listed.__init__", defArgs (inClass (top 26) 0), defBody (inClass (top 26) 0), defScope (inClass (top 26) 0), [], []⟩,
  ⟨("Listed", some "__eq__"), "__eq__", "Listed.__eq__", defArgs (inClass (top 26) 1), defBody (inClass (top 26) 1), defScope (inClass (top 26) 1), [], []⟩,
  ⟨("Listed", some "has_sign"), "has_sign", "Listed.has_sign", defArgs (inClass (top 26) 7), defBody (inClass (top 26) 7), defScope (inClass (top 26) 7), [], []⟩,
  ⟨("Ended", some "__init__"), "__init__", "Ended.__init__", defArgs (inClass (top 27) 0), defBody (inClass (top 27) 0), defScope (inClass (top 27) 0), [], []⟩,
  ⟨("Ended", some "__eq__"), "__eq__", "Ended.__eq__", defArgs (inClass (top 27) 1), defBody (inClass (top 27) 1), defScope (inClass (top 27) 1), [], []⟩,
  ⟨("Ended", some "has_sign"), "has_sign", "Ended.has_sign", defArgs (inClass (top 27) 7), defBody (inClass (top 27) 7), defScope (inClass (top 27) 7), [], []⟩,
  ⟨("Marked", some "__init__"), "__init__", "Marked.__init__", defArgs (inClass (top 28) 0), defBody (inClass (top 28) 0), defScope (inClass (top 28) 0), [], []⟩,
  ⟨("Marked", some "__eq__"), "__eq__", "Marked.__eq__", defArgs (inClass (top 28) 1), defBody (inClass (top 28) 1), defScope (inClass (top 28) 1), [], []⟩,
  ⟨("Layout", some "__init__"), "__init__", "Layout.__init__", defArgs (inClass (top 33) 0), defBody (inClass (top 33) 0), defScope (inClass (top 33) 0), [], []⟩,
  ⟨("Layout", some "__eq__"), "__eq__", "Layout.__eq__", defArgs (inClass (top 33) 1), defBody (inClass (top 33) 1), defScope (inClass (top 33) 1), [], []⟩,
  ⟨("is_made_of", none), "is_made_of", "is_made_of", defArgs (top 11), defBody (top 11), defScope (top 11), [], []⟩,
  ⟨("is_sign", none), "is_sign", "is_sign", defArgs (top 12), defBody (top 12), defScope (top 12), [], []⟩,
  ⟨("are_signs", none), "are_signs", "are_signs", defArgs (top 13), defBody (top 13), defScope (top 13), [], []⟩,
  ⟨("is_number", none), "is_number", "is_number", defArgs (top 15), defBody (top 15), defScope (top 15), [], []⟩,
  ⟨("is_numeral", none), "is_numeral", "is_numeral", defArgs (top 16), defBody (top 16), defScope (top 16), [], []⟩,
  ⟨("digits_of", none), "digits_of", "digits_of", defArgs (top 17), defBody (top 17), defScope (top 17), [], []⟩,
  ⟨("number_of", none), "number_of", "number_of", defArgs (top 18), defBody (top 18), defScope (top 18), [], []⟩,
  ⟨("check_signs", none), "check_signs", "check_signs", defArgs (top 20), defBody (top 20), defScope (top 20), [], []⟩,
  ⟨("check_span", none), "check_span", "check_span", defArgs (top 21), defBody (top 21), defScope (top 21), [], []⟩,
  ⟨("has_words_with", none), "has_words_with", "has_words_with", defArgs (top 22), defBody (top 22), defScope (top 22), [], []⟩,
  ⟨("is_sequence", none), "is_sequence", "is_sequence", defArgs (top 30), defBody (top 30), defScope (top 30), [], []⟩,
  ⟨("check_fields", none), "check_fields", "check_fields", defArgs (top 31), defBody (top 31), defScope (top 31), [], []⟩,
  ⟨("is_joint", none), "is_joint", "is_joint", defArgs (top 32), defBody (top 32), defScope (top 32), [], []⟩,
  ⟨("read_layout", none), "read_layout", "read_layout", defArgs (top 35), defBody (top 35), defScope (top 35), [], []⟩,
  ⟨("parts_of", none), "parts_of", "parts_of", defArgs (top 36), defBody (top 36), defScope (top 36), [], []⟩,
  ⟨("is_field_word", none), "is_field_word", "is_field_word", defArgs (top 37), defBody (top 37), defScope (top 37), [], []⟩,
  ⟨("are_free", none), "are_free", "are_free", defArgs (top 38), defBody (top 38), defScope (top 38), [], []⟩,
  ⟨("are_spans", none), "are_spans", "are_spans", defArgs (top 39), defBody (top 39), defScope (top 39), [], []⟩,
  ⟨("is_short_numeral", none), "is_short_numeral", "is_short_numeral", defArgs (top 40), defBody (top 40), defScope (top 40), [], []⟩,
  ⟨("field_in", none), "field_in", "field_in", defArgs (top 41), defBody (top 41), defScope (top 41), [], []⟩,
  ⟨("plain_field", none), "plain_field", "plain_field", defArgs (top 42), defBody (top 42), defScope (top 42), [], []⟩,
  ⟨("most_in", none), "most_in", "most_in", defArgs (top 43), defBody (top 43), defScope (top 43), [], []⟩,
  ⟨("_law_source", none), "_law_source", "_law_source", defArgs (top 45), defBody (top 45), defScope (top 45), [], []⟩,
  ⟨("_law_draw", none), "_law_draw", "_law_draw", defArgs (top 46), defBody (top 46), defScope (top 46), [], []⟩,
  ⟨("_law_pick", none), "_law_pick", "_law_pick", defArgs (top 47), defBody (top 47), defScope (top 47), [], []⟩,
  ⟨("_law_made", none), "_law_made", "_law_made", defArgs (top 48), defBody (top 48), defScope (top 48), [], []⟩,
  ⟨("_law_shuffled", none), "_law_shuffled", "_law_shuffled", defArgs (top 49), defBody (top 49), defScope (top 49), [], []⟩,
  ⟨("_law_far", none), "_law_far", "_law_far", defArgs (top 50), defBody (top 50), defScope (top 50), [], []⟩,
  ⟨("_law_far_layout", none), "_law_far_layout", "_law_far_layout", defArgs (top 51), defBody (top 51), defScope (top 51), [], []⟩,
  ⟨("_law_word", none), "_law_word", "_law_word", defArgs (top 52), defBody (top 52), defScope (top 52), [], []⟩,
  ⟨("_law_layout_text", none), "_law_layout_text", "_law_layout_text", defArgs (top 53), defBody (top 53), defScope (top 53), [], []⟩,
  ⟨("_law_is_number", none), "_law_is_number", "_law_is_number", defArgs (top 54), defBody (top 54), defScope (top 54), [], []⟩,
  ⟨("_law_bounds", none), "_law_bounds", "_law_bounds", defArgs (top 55), defBody (top 55), defScope (top 55), [], []⟩,
  ⟨("_law_spec_of", none), "_law_spec_of", "_law_spec_of", defArgs (top 56), defBody (top 56), defScope (top 56), [], []⟩,
  ⟨("_law_is_string", none), "_law_is_string", "_law_is_string", defArgs (top 57), defBody (top 57), defScope (top 57), [], []⟩,
  ⟨("_law_signs_in", none), "_law_signs_in", "_law_signs_in", defArgs (top 58), defBody (top 58), defScope (top 58), [], []⟩,
  ⟨("_law_refusal", none), "_law_refusal", "_law_refusal", defArgs (top 59), defBody (top 59), defScope (top 59), [], []⟩,
  ⟨("_law_is_bounded", none), "_law_is_bounded", "_law_is_bounded", defArgs (top 60), defBody (top 60), defScope (top 60), [], []⟩,
  ⟨("_law_due", none), "_law_due", "_law_due", defArgs (top 61), defBody (top 61), defScope (top 61), [], []⟩,
  ⟨("_law_said", none), "_law_said", "_law_said", defArgs (top 62), defBody (top 62), defScope (top 62), [], []⟩,
  ⟨("_law_bent_word", none), "_law_bent_word", "_law_bent_word", defArgs (top 63), defBody (top 63), defScope (top 63), [], []⟩,
  ⟨("_law_bent", none), "_law_bent", "_law_bent", defArgs (top 64), defBody (top 64), defScope (top 64), [], []⟩,
  ⟨("law", none), "law", "law", defArgs (top 65), defBody (top 65), defScope (top 65), [], []⟩]

def fa : List He.Fa := [.glo "JointError", .glo "BadField", .glo "BadLayout", .glo "BadText", .glo "Layout", .glo "Word", .glo "Number", .glo "Fixed", .glo "Listed", .glo "Ended", .glo "Marked", .glo "is_made_of", .glo "is_sign", .glo "are_signs", .glo "is_number", .glo "is_numeral", .glo "digits_of", .glo "number_of", .glo "check_signs", .glo "check_span", .glo "has_words_with", .glo "is_sequence", .glo "check_fields", .glo "is_joint", .glo "read_layout", .glo "parts_of", .glo "is_field_word", .glo "are_free", .glo "are_spans", .glo "is_short_numeral", .glo "field_in", .glo "plain_field", .glo "most_in", .glo "_law_source", .glo "_law_draw", .glo "_law_pick", .glo "_law_made", .glo "_law_shuffled", .glo "_law_far", .glo "_law_far_layout", .glo "_law_word", .glo "_law_layout_text", .glo "_law_is_number", .glo "_law_bounds", .glo "_law_spec_of", .glo "_law_is_string", .glo "_law_signs_in", .glo "_law_refusal", .glo "_law_is_bounded", .glo "_law_due", .glo "_law_said", .glo "_law_bent_word", .glo "_law_bent", .glo "law", .free "abs", .free "int", .free "bool", .free "isinstance", .free "range", .free "len", .free "set", .free "type", .free "str", .free "reversed", .free "tuple", .free "list", .free "any", .free "all", .free "min", .free "max", .free "zip", .free "enumerate", .str "SIGNS" SG, .str "DIGITS" DG, .str "LOW" "!", .str "HIGH" "~", .cls "Word", .mkr "Word", .noat "Word" "signs", .noat "Word" "least", .noat "Word" "most", .meth "Word" "has_sign", .cls "Number", .mkr "Number", .noat "Number" "least", .noat "Number" "most", .meth "Number" "has_sign", .cls "Fixed", .mkr "Fixed", .noat "Fixed" "width", .meth "Fixed" "has_sign", .cls "Listed", .mkr "Listed", .noat "Listed" "texts", .meth "Listed" "has_sign", .cls "Ended", .mkr "Ended", .noat "Ended" "signs", .noat "Ended" "sign", .noat "Ended" "least", .noat "Ended" "most", .meth "Ended" "has_sign", .cls "Marked", .mkr "Marked", .noat "Marked" "none", .noat "Marked" "mark", .noat "Marked" "field", .cls "Layout", .mkr "Layout", .noat "Layout" "fields", .noat "Layout" "joints"]

def kcB (K : Frag) (C : Addr) : Bool := He.eqO (findIn K (.ref C) "__class__") (some (some (.builtin "object.__class__"))) && (decide (mroIn K C (.type "object") = some true) && (notFirst K C (.type "tuple") && (eqcB K C && keepIn K (.ref (He.ma K C "__eq__")))))
def exN (K : Frag) : Bool := errB K (BY K) ["what"] ["told"] && (He.eqO (findIn K (.ref (BY K)) "__init__") (some (some (.ref (He.ma K (BY K) "__init__")))) && (decide (typeIn K (.ref (He.ma K (BY K) "__init__")) = some (.type "function")) && decide (exmOne K (.ref (BY K)) (.ref (BY K)) = some true)))
def exT (K : Frag) : Bool := errB K (BT K) ["place"] ["told"] && (He.eqO (findIn K (.ref (BT K)) "__init__") (some (some (.ref (He.ma K (BT K) "__init__")))) && (decide (typeIn K (.ref (He.ma K (BT K) "__init__")) = some (.type "function")) && (decide (exmOne K (.ref (BT K)) (.ref (BT K)) = some true) && decide (exmOne K (.ref (BF K)) (.ref (BT K)) = some false))))
def ex (K : Frag) : Bool := exT K && (exN K && ((errB K (BF K) ["what"] ["told"] && (He.eqO (findIn K (.ref (BF K)) "__init__") (some (some (.ref (He.ma K (BF K) "__init__")))) && (decide (typeIn K (.ref (He.ma K (BF K) "__init__")) = some (.type "function")) &&
  (decide (exmOne K (.ref (BF K)) (.ref (BF K)) = some true) && (He.eqO (specialIn K (.builtin "object.__class__") "__get__") (some (some (.builtin "getset_descriptor.__get__"))) && decide (takesIn K (.builtin "object.__class__") = some true)))))) &&
  ((List.range 7).all fun i => kcB K (ca K i) && ((["NoneType", "tuple", "list"] : List String).all (fun T => decide (subIn K (.ref (ca K i)) (.type T) = some false)) && (notFirst K (ca K i) (.type "list") && (List.range 7).all fun j => notFirst K (ca K i) (.ref (ca K j)) && decide ((ca K i = ca K j) ↔ i = j)))) &&
  (List.range 6).all fun i => (["NoneType", "str", "int", "bool", "tuple", "list"] : List String).all (fun T => decide (kitOne K (.type T) (.ref (ca K i)) = some false)) && (decide (kitOne K (.ref (ca K i)) (.type "str") = some false) &&
  (List.range 6).all fun j => decide (kitOne K (.ref (ca K i)) (.ref (ca K j)) = some (decide (i = j))))))
abbrev R : PySem.W.OpenRow := PySem.W.OpenLaw.row PySem.Challenge.rw_jointkeys_k79_texts_that_are_no_layouts
abbrev hk : PySem.W.Hook := hookL 4 fa fn [] [] ex
def ob (s : PySem.W.SharedT) : He.AlX := obsL 4 fa fn [] [] ex (HandSHeadRun.getT s)
theorem ob_eq (s : PySem.W.SharedT) : ob s = hk.obs s.abs := obsL_eq (HandSHeadRun.getT_eq s)
def names : List PySem.Str := (["_wall", "__name__", "JointError", "BadField", "BadLayout", "BadText", "SIGNS", "DIGITS", "LOW", "HIGH", "is_made_of", "is_sign", "are_signs", "is_number", "is_numeral", "digits_of", "number_of", "check_signs", "check_span", "has_words_with", "Word", "Number", "Fixed", "Listed", "Ended", "Marked", "is_sequence", "check_fields", "is_joint", "Layout"] : List PySem.Str) ++ (["read_layout", "parts_of", "is_field_word", "are_free", "are_spans", "is_short_numeral", "field_in", "plain_field", "most_in", "_law_source", "_law_draw", "_law_pick", "_law_made", "_law_shuffled", "_law_far", "_law_far_layout", "_law_word", "_law_layout_text", "_law_is_number", "_law_bounds", "_law_spec_of", "_law_is_string", "_law_signs_in", "_law_refusal", "_law_is_bounded", "_law_due", "_law_said", "_law_bent_word", "_law_bent"] : List PySem.Str)
theorem run (w : World) : HandSHeadRun.RunEq R (PySem.W.view R.prog [65]) hk ob 8000 names w := by
  intro os
  kernel_rfl
end L2.K79

set_option Elab.async false
set_option linter.all false
set_option maxRecDepth 100000
set_option maxHeartbeats 4000000
/-! set(..) of texts: how many members it has. -/
namespace L2.Jk
open PySem PySem.W PySem.Spec PySem.Calls PyProof.Rows

/-- how many of the first i are new -/
def newS (ks : Nat → Str) : Nat → Nat
  | 0 => 0
  | i + 1 => if (List.range i).any (fun j => ks j == ks i) then newS ks i else newS ks i + 1
theorem newS_le (ks : Nat → Str) : ∀ i, newS ks i ≤ i
  | 0 => Nat.le_refl _
  | i + 1 => by
    have := newS_le ks i
    unfold newS
    split <;> omega
section
variable {prog : Program} {w : World} {A : Around} {R : Result → Shared → Prop} {I : Addr} {fp wr : List Addr} {G : Array GenState → Array GenState → Prop} {n : Nat} {P : Nat → Value → Prop} {Z : Nat → Shared → Prop}
/-- what the set holds behind i items -/
def HeldS (prog : Program) (w : World) (h : Heap) (S : Addr) (ks : Nat → Str) (i : Nat) : Prop := h.SetOf (PySem.strKind prog w) S (fun k => (List.range i).any fun j => ks j == k) (newS ks i)
theorem HeldS.at {h h' : Heap} {S : Addr} {ks : Nat → Str} {i : Nat} (H : HeldS prog w h S ks i) (k : ∀ o, h.get? S = some o → h'.get? S = some o) : HeldS prog w h' S ks i := by
  obtain ⟨o, es, ep, t, ho, r⟩ := H
  exact ⟨o, es, ep, t, k o ho, r⟩
theorem set_loop (W : WalksS prog w A.in1 I fp wr G n P Z) (S : Addr) (hS : S ∉ fp) (ks : Nat → Str) (hn : n + 1 < scanBound) (hv : ∀ i v, P i v → ∃ t, v = .str (ks i) t) :
    ∀ (k i : Nat) (s : Shared), n - i = k → i ≤ n → Z i s → HeldS prog w s.heap S ks i →
      (∀ s', Moved (S :: wr) G s s' → HeldS prog w s'.heap S ks n → R (.ok (.ret .none)) s') → codeAny (model prog w) A (.builtin "set.update.loop" ⟨[.ref S, .ref I], []⟩) R s := by
  have sw : S ∉ wr := fun z => hS (W.sub _ z)
  have up : ∀ b ∈ wr, b ∈ S :: wr := fun b z => List.mem_cons_of_mem _ z
  intro k
  induction k with
  | zero =>
    intro i s hk hi hz H hR
    obtain rfl : i = n := by omega
    refine codeAny_builtin PyProof.Rows.F.entry_set_update_loop ?_
    rw [Around.under_plainId PyProof.Rows.F.plain_set_update_loop _]
    show wpAny _ A.in1 (pyNext (.ref I) >>= _) _ _ s
    refine wpAny_bind (W.done s _ _ hz fun s' m => ?_)
    show wpAny _ A.in1 (ret Value.none) _ _ s'
    exact wpAny_pure (hR s' (m.mono up) (H.at fun o e => m.heap S o sw e))
  | succ k ih =>
    intro i s hk hi hz H hR
    have lt : i < n := by omega
    refine codeAny_builtin PyProof.Rows.F.entry_set_update_loop ?_
    rw [Around.under_plainId PyProof.Rows.F.plain_set_update_loop _]
    show wpAny _ A.in1 (pyNext (.ref I) >>= _) _ _ s
    refine wpAny_bind (W.item i s _ _ lt hz fun v s' hp hz' m => ?_)
    obtain ⟨t, rfl⟩ := hv i v hp
    have H' : HeldS prog w s'.heap S ks i := H.at fun o e => m.heap S o sw e
    show wpAny _ A.in1 (holding [Value.str (ks i) t] (setAdd S (.str (ks i) t)) >>= _) _ _ s'
    refine wpAny_bind (wpAny_holding ?_)
    unfold setAdd
    refine wpAny_holding (wpAny_bind ((PySem.strKind prog w).pyHash (k := ks i) (strKind_is _ _ _ _) ?_))
    have few := newS_le ks i
    refine wpAny_setAddHashed_of (knd := PySem.strKind prog w) (s := { s' with toks := s'.toks + 1 }) (strKind_is _ _ _ _) rfl H' (by omega) fun h' sb H2 => ?_
    have H3 : HeldS prog w h' S ks (i + 1) := by
      refine PyProof.Rows.SetOf_congr H2 (fun q => ?_) ?_
      · show ((List.range i).any (fun j => ks j == q) || decide (q = ks i)) = (List.range (i + 1)).any fun j => ks j == q
        rw [List.range_succ, List.any_append]
        congr 1
        by_cases e : q = ks i
        · subst e
          simp
        · have e2 : (ks i == q) = false := beq_eq_false_iff_ne.mpr fun z => e z.symm
          simp [e, e2]
      · show (if (List.range i).any (fun j => ks j == ks i) = true then newS ks i else newS ks i + 1) = newS ks (i + 1)
        rfl
    refine wpAny_pure ⟨plainId_quiet PyProof.Rows.F.plain_set_update_loop _, ih (i + 1) _ (by omega) lt (W.frame _ s' _ _ hz' (Nat.le_succ _) fun b hb o e => ?_) H3 fun s2 m2 H4 => ?_⟩
    · rw [sb.2 b (fun z : b = S => hS (z ▸ hb))]
      exact e
    · refine hR s2 (Moved.trans W.gtrans ((m.mono up).then_heap (Nat.le_succ _) fun b o hb e => ?_) m2) H4
      rw [sb.2 b (fun z : b = S => hb (z ▸ List.mem_cons_self))]
      exact e
end
theorem sign_at {x : Str} {i : Nat} {v : Value} (z : SignAt x i v) : ∃ t, v = .str ⟨#[x.cps.getD i 0]⟩ t := by
  obtain ⟨c, t, h, e⟩ := z
  refine ⟨t, ?_⟩
  subst e
  rw [Array.getD_eq_getD_getElem?, h]
  rfl
end L2.Jk

set_option Elab.async false
set_option linter.all false
set_option maxRecDepth 100000
set_option maxHeartbeats 8000000
namespace L2.Jk
open PySem PySem.W PySem.Spec PySem.Calls PyProof.Rows
section
variable {prog : Program} {w : World} {A : Around} {E : Value → Shared → Prop} {s : Shared}
set_option maxHeartbeats 8000000 in
theorem set_callStr {x : Str} {tk0 : Tok} {Q : Value → Shared → Prop} (hh : A.handled = none)  (hn : x.cps.size + 1 < scanBound)
    (h : ∀ (h' : Heap) (tk : Nat), HeldS prog w h' s.heap.objs.size (fun i => ⟨#[x.cps.getD i 0]⟩) (x.cps.size) → (∀ b o, b < s.heap.objs.size → s.heap.get? b = some o → h'.get? b = some o) → Q (.ref s.heap.objs.size) { s with heap := h', toks := tk }) :
    wpAny (model prog w) A (call (.type "set") [(.str x tk0)]) Q E s := by
  obtain ⟨c, tl, hmro⟩ := PySem.F.called_set.mro
  have c1 := PySem.F.called_set.made
  have c2 := PySem.F.called_set.sub
  refine wpAny_call (codeAny_of_tree ?_)
  show wpAny _ _ (callAny (.type "set") _) _ _ _
  refine wpAny_pure ⟨Code.quiet_builtin _ (by decide +kernel), codeAny_builtin PySem.F.entry_type_call ?_⟩
  rw [Around.under_plain (weight_type_call_type "set" [(.str x tk0)] []) rfl]
  have c3 := PySem.F.called_set.notType
  have c4 := PySem.F.called_set.canCreate
  have c5 := PySem.F.typeCall_set_1 (.str x tk0)
  repeat (any_goals (first | assumption | wp_step))
  refine codeAny_mono (code_set_new_1 (.str x tk0) (E := E) (Q₁ := fun ob s₁ => ∃ led : Bool, ob = .ref s.heap.objs.size ∧ s₁ = { s with heap := s.heap.push { cls := .type "set", dict := none, data := .set #[] 0 (.fresh 0 0 led) } }) fun led => ⟨led, rfl, rfl⟩) fun r s₁ hr => ?_
  cases r with
  | error e => exact hr
  | ok fl =>
    cases fl with
    | ret ob =>
      obtain ⟨led, rfl, rfl⟩ := hr
      have hS : (s.heap.push { cls := .type "set", dict := none, data := .set #[] 0 (.fresh 0 0 led) }).get? s.heap.objs.size = some { cls := .type "set", dict := none, data := .set #[] 0 (.fresh 0 0 led) } := Heap.get?_push_size _ rfl
      have hT : Shared.TypeIs { s with heap := s.heap.push { cls := .type "set", dict := none, data := .set #[] 0 (.fresh 0 0 led) } } (.ref s.heap.objs.size) "set" := ⟨_, hS, rfl⟩
      have c6 := PySem.F.called_set.init.lookup
      have c7 := PySem.F.called_set.init.bind (.ref s.heap.objs.size)
      repeat (any_goals (first | assumption | wp_step))
      refine codeAny_mono (codeAny_call_builtin (R := wants (fun r s₂ => r = .none ∧ ∃ h' tk, s₂ = { s with heap := h', toks := tk } ∧ HeldS prog w h' s.heap.objs.size (fun i => ⟨#[x.cps.getD i 0]⟩) (x.cps.size) ∧
          (∀ b o, b < s.heap.objs.size → s.heap.get? b = some o → h'.get? b = some o)) E) PySem.F.called_set.init.plain PySem.F.entry_set_init (check_set_init_1 hT ?_)) fun r₂ s₂ hr₂ => ?_
      · have a1 := PySem.F.sub_str_set
        have a2 := PySem.F.sub_str_frozenset
        have a3 : (Value.type "str" == Value.type "dict") = false := by decide
        unfold Builtin.«set.__init__» noKeywords Builtin.Frozenset.updateFrom
        generalize hPI : pyIter = PI
        wp_walk
        subst hPI
        refine wpAny_pyIter_strU ?_
        refine wpAny_bind (wpAny_runValue ?_)
        have sf : s.heap.objs.size ∉ [(s.heap.push { cls := .type "set", dict := none, data := .set #[] 0 (.fresh 0 0 led) }).objs.size] := by
          rw [Heap.size_push]
          simp only [List.mem_cons, List.mem_singleton, List.not_mem_nil, or_false, not_or]
          exact Nat.ne_of_lt (Nat.lt_succ_self _)
        have h3 : A.in1.in1.in1.handled = none := by simp [hh]
        have sv : ∀ i v, SignAt x i v → ∃ t, v = .str ⟨#[x.cps.getD i 0]⟩ t := fun i v z => sign_at z
        have got : ∀ T, ((s.heap.push { cls := .type "set", dict := none, data := .set #[] 0 (.fresh 0 0 led) }).push { cls := .type T, data := .fields #[.str x tk0, .int 0 0] }).IsStrIter (s.heap.push { cls := .type "set", dict := none, data := .set #[] 0 (.fresh 0 0 led) }).objs.size T x tk0 0 := fun T => ⟨_, Heap.get?_push_size _ rfl, rfl, rfl⟩
        cases ha : x.cps.all (· < 128) with
        | false =>
          rw [show strIterType x = "str_iterator" by unfold strIterType; rw [ha]; rfl]
          refine set_loop ((Walks.strWide h3 _ x tk0).toS) s.heap.objs.size sf _ hn sv (x.cps.size - 0) 0 _ (by omega) (Nat.zero_le _) (got _) (PyProof.Rows.SetOf_congr ((PyProof.Rows.setObjOf_fresh (knd := PySem.strKind prog w) led).setOf (Heap.get?_push_of_some _ hS) (by unfold scanBound; omega)) (fun _ => rfl) rfl) ?hR
          case hR =>
            intro s' m H'
            obtain ⟨h', g', d', tk', os'⟩ := s'
            obtain rfl : g' = s.gens := m.gens
            obtain rfl : d' = s.drawn := m.drawn
            obtain rfl : os' = s.os := m.os
            show wpAny _ _ _ _ _ _
            refine wpAny_pure ?_
            show wpAny _ _ (ret Value.none) _ _ _
            refine wpAny_pure ⟨rfl, h', tk', rfl, H', fun b o hb e => ?_⟩
            have b1 : b ≠ s.heap.objs.size := Nat.ne_of_lt hb
            have b2 : b ≠ (s.heap.push { cls := .type "set", dict := none, data := .set #[] 0 (.fresh 0 0 led) }).objs.size := by
              rw [Heap.size_push]
              exact Nat.ne_of_lt (Nat.lt_succ_of_lt hb)
            exact m.heap b o (by simp only [List.mem_cons, List.mem_singleton, List.not_mem_nil, or_false, not_or]; exact ⟨b1, b2⟩) (Heap.get?_push_of_some _ (Heap.get?_push_of_some _ e))
        | true =>
          rw [show strIterType x = "str_ascii_iterator" by unfold strIterType; rw [ha]; rfl]
          refine set_loop ((Walks.strAscii h3 _ x tk0).toS) s.heap.objs.size sf _ hn sv (x.cps.size - 0) 0 _ (by omega) (Nat.zero_le _) (got _) (PyProof.Rows.SetOf_congr ((PyProof.Rows.setObjOf_fresh (knd := PySem.strKind prog w) led).setOf (Heap.get?_push_of_some _ hS) (by unfold scanBound; omega)) (fun _ => rfl) rfl) ?hR
          case hR =>
            intro s' m H'
            obtain ⟨h', g', d', tk', os'⟩ := s'
            obtain rfl : g' = s.gens := m.gens
            obtain rfl : d' = s.drawn := m.drawn
            obtain rfl : os' = s.os := m.os
            show wpAny _ _ _ _ _ _
            refine wpAny_pure ?_
            show wpAny _ _ (ret Value.none) _ _ _
            refine wpAny_pure ⟨rfl, h', tk', rfl, H', fun b o hb e => ?_⟩
            have b1 : b ≠ s.heap.objs.size := Nat.ne_of_lt hb
            have b2 : b ≠ (s.heap.push { cls := .type "set", dict := none, data := .set #[] 0 (.fresh 0 0 led) }).objs.size := by
              rw [Heap.size_push]
              exact Nat.ne_of_lt (Nat.lt_succ_of_lt hb)
            exact m.heap b o (by simp only [List.mem_cons, List.mem_singleton, List.not_mem_nil, or_false, not_or]; exact ⟨b1, b2⟩) (Heap.get?_push_of_some _ (Heap.get?_push_of_some _ e))

      · cases r₂ with
        | error e => exact hr₂
        | ok f2 =>
          cases f2 with
          | ret r =>
            obtain ⟨rfl, h', tk, rfl, H', k'⟩ := hr₂
            repeat (any_goals (first | assumption | wp_step))
            exact h _ _ H' k'
          | _ => exact hr₂.elim
    | _ => exact hr.elim
end
end L2.Jk

set_option Elab.async false
set_option linter.all false
set_option maxRecDepth 100000
set_option maxHeartbeats 8000000
namespace L2.Jk
open PySem PySem.W PySem.Spec PySem.Calls PyProof.Rows
section
variable {prog : Program} {w : World} {A : Around} {E : Value → Shared → Prop} {s : Shared}
set_option maxHeartbeats 8000000 in
theorem set_callList {l : Addr} {its : Array Value} {ks : Nat → Str} {Q : Value → Shared → Prop} (hh : A.handled = none) (hl : s.heap.IsList l its) (hk : ∀ i v, its[i]? = some v → ∃ t : Tok, v = Value.str (ks i) t) (hn : its.size + 1 < scanBound)
    (h : ∀ (h' : Heap) (tk : Nat), HeldS prog w h' s.heap.objs.size (ks) (its.size) → (∀ b o, b < s.heap.objs.size → s.heap.get? b = some o → h'.get? b = some o) → Q (.ref s.heap.objs.size) { s with heap := h', toks := tk }) :
    wpAny (model prog w) A (call (.type "set") [(.ref l)]) Q E s := by
  obtain ⟨c, tl, hmro⟩ := PySem.F.called_set.mro
  have c1 := PySem.F.called_set.made
  have c2 := PySem.F.called_set.sub
  refine wpAny_call (codeAny_of_tree ?_)
  show wpAny _ _ (callAny (.type "set") _) _ _ _
  refine wpAny_pure ⟨Code.quiet_builtin _ (by decide +kernel), codeAny_builtin PySem.F.entry_type_call ?_⟩
  rw [Around.under_plain (weight_type_call_type "set" [(.ref l)] []) rfl]
  have c3 := PySem.F.called_set.notType
  have c4 := PySem.F.called_set.canCreate
  have c5 := PySem.F.typeCall_set_1 (.ref l)
  repeat (any_goals (first | assumption | wp_step))
  refine codeAny_mono (code_set_new_1 (.ref l) (E := E) (Q₁ := fun ob s₁ => ∃ led : Bool, ob = .ref s.heap.objs.size ∧ s₁ = { s with heap := s.heap.push { cls := .type "set", dict := none, data := .set #[] 0 (.fresh 0 0 led) } }) fun led => ⟨led, rfl, rfl⟩) fun r s₁ hr => ?_
  cases r with
  | error e => exact hr
  | ok fl =>
    cases fl with
    | ret ob =>
      obtain ⟨led, rfl, rfl⟩ := hr
      have hS : (s.heap.push { cls := .type "set", dict := none, data := .set #[] 0 (.fresh 0 0 led) }).get? s.heap.objs.size = some { cls := .type "set", dict := none, data := .set #[] 0 (.fresh 0 0 led) } := Heap.get?_push_size _ rfl
      have hT : Shared.TypeIs { s with heap := s.heap.push { cls := .type "set", dict := none, data := .set #[] 0 (.fresh 0 0 led) } } (.ref s.heap.objs.size) "set" := ⟨_, hS, rfl⟩
      have c6 := PySem.F.called_set.init.lookup
      have c7 := PySem.F.called_set.init.bind (.ref s.heap.objs.size)
      repeat (any_goals (first | assumption | wp_step))
      refine codeAny_mono (codeAny_call_builtin (R := wants (fun r s₂ => r = .none ∧ ∃ h' tk, s₂ = { s with heap := h', toks := tk } ∧ HeldS prog w h' s.heap.objs.size (ks) (its.size) ∧
          (∀ b o, b < s.heap.objs.size → s.heap.get? b = some o → h'.get? b = some o)) E) PySem.F.called_set.init.plain PySem.F.entry_set_init (check_set_init_1 hT ?_)) fun r₂ s₂ hr₂ => ?_
      · obtain ⟨⟨oc, od, odt, osl⟩, hol, hcl, nl, hdl⟩ := id hl
        dsimp only at hcl hdl
        subst hcl; subst hdl
        have old := Heap.get?_push_of_some ({ cls := .type "set", dict := none, data := .set #[] 0 (.fresh 0 0 led) } : Obj) hol
        have a1 := PySem.F.sub_list_set
        have a2 := PySem.F.sub_list_frozenset
        have a3 : (Value.type "list" == Value.type "dict") = false := by decide
        have hl1 : (s.heap.push { cls := .type "set", dict := none, data := .set #[] 0 (.fresh 0 0 led) }).IsList l its := ⟨_, old, rfl, nl, rfl⟩
        unfold Builtin.«set.__init__» noKeywords Builtin.Frozenset.updateFrom
        generalize hPI : pyIter = PI
        wp_walk
        subst hPI
        refine wpAny_pyIter_list hl1 ?_
        refine wpAny_bind (wpAny_runValue ?_)
        have h3 : A.in1.in1.in1.handled = none := by simp [hh]
        have nI : l ≠ (s.heap.push { cls := .type "set", dict := none, data := .set #[] 0 (.fresh 0 0 led) }).objs.size := by
          rw [Heap.size_push]
          exact Nat.ne_of_lt (Nat.lt_succ_of_lt (Heap.lt_size hol))
        have sf : s.heap.objs.size ∉ [(s.heap.push { cls := .type "set", dict := none, data := .set #[] 0 (.fresh 0 0 led) }).objs.size, l] := by
          rw [Heap.size_push]
          simp only [List.mem_cons, List.mem_singleton, List.not_mem_nil, or_false, not_or]
          exact ⟨Nat.ne_of_lt (Nat.lt_succ_self _), Nat.ne_of_gt (Heap.lt_size hol)⟩
        refine set_loop ((Walks.list h3 _ l nI its).toS) s.heap.objs.size sf ks hn (fun i v z => hk i v z) (its.size - 0) 0 _ (by omega) (Nat.zero_le _) ⟨⟨_, Heap.get?_push_size _ rfl, rfl, rfl⟩, (hl1.push _)⟩ (PyProof.Rows.SetOf_congr ((PyProof.Rows.setObjOf_fresh (knd := PySem.strKind prog w) led).setOf (Heap.get?_push_of_some _ hS) (by unfold scanBound; omega)) (fun _ => rfl) rfl) ?hR
        case hR =>
          intro s' m H'
          obtain ⟨h', g', d', tk', os'⟩ := s'
          obtain rfl : g' = s.gens := m.gens
          obtain rfl : d' = s.drawn := m.drawn
          obtain rfl : os' = s.os := m.os
          show wpAny _ _ _ _ _ _
          refine wpAny_pure ?_
          show wpAny _ _ (ret Value.none) _ _ _
          refine wpAny_pure ⟨rfl, h', tk', rfl, H', fun b o hb e => ?_⟩
          have b1 : b ≠ s.heap.objs.size := Nat.ne_of_lt hb
          have b2 : b ≠ (s.heap.push { cls := .type "set", dict := none, data := .set #[] 0 (.fresh 0 0 led) }).objs.size := by
            rw [Heap.size_push]
            exact Nat.ne_of_lt (Nat.lt_succ_of_lt hb)
          exact m.heap b o (by simp only [List.mem_cons, List.mem_singleton, List.not_mem_nil, or_false, not_or]; exact ⟨b1, b2⟩) (Heap.get?_push_of_some _ (Heap.get?_push_of_some _ e))

      · cases r₂ with
        | error e => exact hr₂
        | ok f2 =>
          cases f2 with
          | ret r =>
            obtain ⟨rfl, h', tk, rfl, H', k'⟩ := hr₂
            repeat (any_goals (first | assumption | wp_step))
            exact h _ _ H' k'
          | _ => exact hr₂.elim
    | _ => exact hr.elim
end
end L2.Jk

set_option Elab.async false
set_option linter.all false
set_option maxRecDepth 100000
set_option maxHeartbeats 8000000
namespace L2.Jk
open PySem PySem.W PySem.Spec PySem.Calls PyProof.Rows
section
variable {prog : Program} {w : World} {A : Around} {E : Value → Shared → Prop} {s : Shared}
set_option maxHeartbeats 8000000 in
theorem set_callTup {l : Addr} {its : Array Value} {ks : Nat → Str} {Q : Value → Shared → Prop} (hh : A.handled = none) (hl : s.heap.IsTuple l its) (hk : ∀ i v, its[i]? = some v → ∃ t : Tok, v = Value.str (ks i) t) (hn : its.size + 1 < scanBound)
    (h : ∀ (h' : Heap) (tk : Nat), HeldS prog w h' s.heap.objs.size (ks) (its.size) → (∀ b o, b < s.heap.objs.size → s.heap.get? b = some o → h'.get? b = some o) → Q (.ref s.heap.objs.size) { s with heap := h', toks := tk }) :
    wpAny (model prog w) A (call (.type "set") [(.ref l)]) Q E s := by
  obtain ⟨c, tl, hmro⟩ := PySem.F.called_set.mro
  have c1 := PySem.F.called_set.made
  have c2 := PySem.F.called_set.sub
  refine wpAny_call (codeAny_of_tree ?_)
  show wpAny _ _ (callAny (.type "set") _) _ _ _
  refine wpAny_pure ⟨Code.quiet_builtin _ (by decide +kernel), codeAny_builtin PySem.F.entry_type_call ?_⟩
  rw [Around.under_plain (weight_type_call_type "set" [(.ref l)] []) rfl]
  have c3 := PySem.F.called_set.notType
  have c4 := PySem.F.called_set.canCreate
  have c5 := PySem.F.typeCall_set_1 (.ref l)
  repeat (any_goals (first | assumption | wp_step))
  refine codeAny_mono (code_set_new_1 (.ref l) (E := E) (Q₁ := fun ob s₁ => ∃ led : Bool, ob = .ref s.heap.objs.size ∧ s₁ = { s with heap := s.heap.push { cls := .type "set", dict := none, data := .set #[] 0 (.fresh 0 0 led) } }) fun led => ⟨led, rfl, rfl⟩) fun r s₁ hr => ?_
  cases r with
  | error e => exact hr
  | ok fl =>
    cases fl with
    | ret ob =>
      obtain ⟨led, rfl, rfl⟩ := hr
      have hS : (s.heap.push { cls := .type "set", dict := none, data := .set #[] 0 (.fresh 0 0 led) }).get? s.heap.objs.size = some { cls := .type "set", dict := none, data := .set #[] 0 (.fresh 0 0 led) } := Heap.get?_push_size _ rfl
      have hT : Shared.TypeIs { s with heap := s.heap.push { cls := .type "set", dict := none, data := .set #[] 0 (.fresh 0 0 led) } } (.ref s.heap.objs.size) "set" := ⟨_, hS, rfl⟩
      have c6 := PySem.F.called_set.init.lookup
      have c7 := PySem.F.called_set.init.bind (.ref s.heap.objs.size)
      repeat (any_goals (first | assumption | wp_step))
      refine codeAny_mono (codeAny_call_builtin (R := wants (fun r s₂ => r = .none ∧ ∃ h' tk, s₂ = { s with heap := h', toks := tk } ∧ HeldS prog w h' s.heap.objs.size (ks) (its.size) ∧
          (∀ b o, b < s.heap.objs.size → s.heap.get? b = some o → h'.get? b = some o)) E) PySem.F.called_set.init.plain PySem.F.entry_set_init (check_set_init_1 hT ?_)) fun r₂ s₂ hr₂ => ?_
      · obtain ⟨⟨oc, od, odt, osl⟩, hol, hcl, nl, hdl⟩ := id hl
        dsimp only at hcl hdl
        subst hcl; subst hdl
        have old := Heap.get?_push_of_some ({ cls := .type "set", dict := none, data := .set #[] 0 (.fresh 0 0 led) } : Obj) hol
        have a1 := PySem.F.sub_tuple_set
        have a2 := PySem.F.sub_tuple_frozenset
        have a3 : (Value.type "tuple" == Value.type "dict") = false := by decide
        have hl1 : (s.heap.push { cls := .type "set", dict := none, data := .set #[] 0 (.fresh 0 0 led) }).IsTuple l its := ⟨_, old, rfl, nl, rfl⟩
        unfold Builtin.«set.__init__» noKeywords Builtin.Frozenset.updateFrom
        generalize hPI : pyIter = PI
        wp_walk
        subst hPI
        refine wpAny_pyIter_tuple hl1 ?_
        refine wpAny_bind (wpAny_runValue ?_)
        have h3 : A.in1.in1.in1.handled = none := by simp [hh]
        have nI : l ≠ (s.heap.push { cls := .type "set", dict := none, data := .set #[] 0 (.fresh 0 0 led) }).objs.size := by
          rw [Heap.size_push]
          exact Nat.ne_of_lt (Nat.lt_succ_of_lt (Heap.lt_size hol))
        have sf : s.heap.objs.size ∉ [(s.heap.push { cls := .type "set", dict := none, data := .set #[] 0 (.fresh 0 0 led) }).objs.size, l] := by
          rw [Heap.size_push]
          simp only [List.mem_cons, List.mem_singleton, List.not_mem_nil, or_false, not_or]
          exact ⟨Nat.ne_of_lt (Nat.lt_succ_self _), Nat.ne_of_gt (Heap.lt_size hol)⟩
        refine set_loop ((Walks.tuple h3 _ l nI its).toS) s.heap.objs.size sf ks hn (fun i v z => hk i v z) (its.size - 0) 0 _ (by omega) (Nat.zero_le _) ⟨⟨_, Heap.get?_push_size _ rfl, rfl, rfl⟩, (hl1.push _)⟩ (PyProof.Rows.SetOf_congr ((PyProof.Rows.setObjOf_fresh (knd := PySem.strKind prog w) led).setOf (Heap.get?_push_of_some _ hS) (by unfold scanBound; omega)) (fun _ => rfl) rfl) ?hR
        case hR =>
          intro s' m H'
          obtain ⟨h', g', d', tk', os'⟩ := s'
          obtain rfl : g' = s.gens := m.gens
          obtain rfl : d' = s.drawn := m.drawn
          obtain rfl : os' = s.os := m.os
          show wpAny _ _ _ _ _ _
          refine wpAny_pure ?_
          show wpAny _ _ (ret Value.none) _ _ _
          refine wpAny_pure ⟨rfl, h', tk', rfl, H', fun b o hb e => ?_⟩
          have b1 : b ≠ s.heap.objs.size := Nat.ne_of_lt hb
          have b2 : b ≠ (s.heap.push { cls := .type "set", dict := none, data := .set #[] 0 (.fresh 0 0 led) }).objs.size := by
            rw [Heap.size_push]
            exact Nat.ne_of_lt (Nat.lt_succ_of_lt hb)
          exact m.heap b o (by simp only [List.mem_cons, List.mem_singleton, List.not_mem_nil, or_false, not_or]; exact ⟨b1, b2⟩) (Heap.get?_push_of_some _ (Heap.get?_push_of_some _ e))

      · cases r₂ with
        | error e => exact hr₂
        | ok f2 =>
          cases f2 with
          | ret r =>
            obtain ⟨rfl, h', tk, rfl, H', k'⟩ := hr₂
            repeat (any_goals (first | assumption | wp_step))
            exact h _ _ H' k'
          | _ => exact hr₂.elim
    | _ => exact hr.elim
end
end L2.Jk

set_option Elab.async false
set_option linter.all false
set_option maxRecDepth 100000
set_option maxHeartbeats 4000000
/-! != of two tuples that are equal item by item, instances with an own __eq__ among the items. -/
namespace L2.Jk
open PySem PySem.W PySem.Spec PySem.Calls PyProof.Rows PySem.SeqAt
open AutoSeq1 (wpAny_loadPart')

section
variable {prog : Program} {w : World} {A : Around} {R : Result → Shared → Prop} {E : Value → Shared → Prop} {s : Shared}
theorem tup_ne_same (l b : Addr) (its jts : Array Value) (n n2 : Nat) (dd dd2 : Option Addr) (sl sl2 : Array (Option Value)) (hsz : its.size = jts.size) (J : Nat → Shared → Prop)
    (turn : ∀ i (h1 : i < its.size) (h2 : i < jts.size) s, J i s → wpAny (model prog w) A.in1 (eqBool its[i] jts[i]) (fun r s' => r = true ∧ J (i + 1) s') (fun e s' => R (.error e) s') s)
    (fin : ∀ s, J its.size s → R (.ok (.ret (.bool false))) s) (hl : s.heap.get? l = some { cls := .type "tuple", dict := dd, data := .seq its n, slots := sl }) (hb : s.heap.get? b = some { cls := .type "tuple", dict := dd2, data := .seq jts n2, slots := sl2 })
    (h : J 0 s) : wpAny (model prog w) A.in1 (Builtin.«tuple.__ne__» ⟨[.ref l, .ref b], []⟩) (GQ.FinOf prog w A R) (fun e s' => R (.error e) s') s := by
  have f2 := AutoSeq1.sub_tuple_tuple
  have len : (its.toList.zip jts.toList).length = its.size := by simp [hsz]
  have h0 := h
  obtain ⟨hp, g, d, tk, os⟩ := s
  wp_walk using wpAny_loadPart' hl, wpAny_loadPart' hb, wpAny_forIn_list _ (fun rest b s' => b.1 = none ∧ ∃ i, rest = (its.toList.zip jts.toList).drop i ∧ i ≤ its.size ∧ J i s') _
  case turn =>
    rintro ⟨y, x⟩ rest b s' ⟨hb', i, hz, hi, hJ⟩
    have lt : i < (its.toList.zip jts.toList).length := by
      refine Nat.lt_of_not_le fun z => ?_
      rw [List.drop_of_length_le z] at hz
      cases hz
    have h1 : i < its.size := len ▸ lt
    have h2 : i < jts.size := hsz ▸ h1
    rw [List.drop_eq_getElem_cons lt] at hz
    obtain ⟨e1, e2⟩ := List.cons.inj hz
    obtain rfl : y = its[i] := by simpa using congrArg Prod.fst e1
    obtain rfl : x = jts[i] := by simpa using congrArg Prod.snd e1
    refine wpAny_bind (wpAny_mono (turn i h1 h2 s' hJ) (fun r s2 q2 => ?_) fun _ _ x => x)
    obtain ⟨rfl, q2⟩ := q2
    wp_walk
    exact ⟨rfl, i + 1, e2, h1, q2⟩
  case fin =>
    rintro ⟨b1, b2⟩ s' ⟨hb', i, hz, hi, hJ⟩
    dsimp only at hb'
    subst hb'
    have ge : its.size ≤ i := by
      refine Nat.le_of_not_lt fun z => ?_
      rw [List.drop_eq_getElem_cons (by rw [len]; exact z)] at hz
      cases hz
    obtain rfl : i = its.size := by omega
    have hR := fin s' hJ
    wp_walk
    simpa [Builtin.Tuple.tupleCompareSizes, hsz] using hR
  case h => exact ⟨rfl, 0, rfl, Nat.zero_le _, h0⟩
theorem tup_ne_rich {l b : Addr} {its jts : Array Value} {Q : Value → Shared → Prop} (hsz : its.size = jts.size) (hu : A.units < cLine) (J : Nat → Shared → Prop) (hl : s.heap.IsTuple l its) (hb : s.heap.IsTuple b jts)
    (turn : ∀ i (h1 : i < its.size) (h2 : i < jts.size) s, J i s → wpAny (model prog w) A.in1 (eqBool its[i] jts[i]) (fun r s' => r = true ∧ J (i + 1) s') E s)
    (fin : ∀ s, J its.size s → Q (.bool false) s) (h : J 0 s) : wpAny (model prog w) A (richCompare .NotEq (.ref l) (.ref b)) Q E s := by
  obtain ⟨⟨c1, d1, t1, s1⟩, g1, k1, n1, e1⟩ := id hl
  obtain ⟨⟨c2, d2, t2, s2⟩, g2, k2, n2, e2⟩ := id hb
  dsimp only at k1 e1 k2 e2
  subst k1 e1 k2 e2
  refine wpAny_richCompare_same_room (op := .NotEq) ⟨_, g1, rfl⟩ ⟨_, g2, rfl⟩ PySem.F.slot_tuple_ne (GQ.call_here PySem.F.slot_tuple_ne ⟨_, g1, rfl⟩ PySem.F.entry_tuple_ne (PySem.F.args_tuple_ne_2 _ _) ?_) hu
  exact tup_ne_same (R := wants (fun v s' => v ≠ .notImplemented ∧ Q v s') E) l b its jts n1 n2 d1 d2 s1 s2 hsz J turn (fun s' q => ⟨(fun x => nomatch x), fin s' q⟩) g1 g2 h
end
section
variable {X : Cx} {n : Nat} {D : Eqv}
/-- t != u of two tuples whose items D says to be equal -/
def rNeT (X : Cx) (D : Eqv) : R2 := fun x y H Q => DTup X.K D x y H ∧ ∀ H', Same H H' → Q (.bl false) H'
theorem op_neT (hD : Mon D) (h : EqG X n D) (hr : Room (n + 1) X.A) : OpR X (compareOp .NotEq) (rNeT X D) := by
  intro pins s σ H x y v u Q I rx ry hq
  obtain ⟨⟨a, b, xs, ys, rfl, rfl, ha, hb, p⟩, q⟩ := hq
  cases rx
  cases ry
  obtain ⟨its, r, e, z⟩ := I.tuple ha
  obtain ⟨jts, r2, e2, z2⟩ := I.tuple hb
  have hsz : its.toArray.size = jts.toArray.size := by rw [List.size_toArray, List.size_toArray, ← r.length, ← r2.length]; exact p.1
  show wpAny (model X.prog X.w) X.A (richCompare .NotEq (.ref a) (.ref b)) (EP X pins σ Q) X.xe s
  refine tup_ne_rich hsz hr.units0 (fun _ s' => LoopI X pins σ H s') e e2 (fun i h1 h2 s' k => turnG hD h ⟨hr, rfl⟩ p r r2 i h1 h2 s' k) (fun s' k => ?_) ⟨H, I, Ext.rfl'⟩
  obtain ⟨H', I', x⟩ := k
  exact ⟨.bl false, H', I', rfl, q H' x⟩
end
end L2.Jk

set_option Elab.async false
set_option linter.all false
set_option maxRecDepth 100000
set_option maxHeartbeats 4000000
/-! ''.join(reversed(xs)), list(text), len(set(..)), type(x) is type(y). -/
namespace L2.Jk
open PySem PySem.W PySem.Spec PySem.Calls PyProof.Rows

theorem paired_of {α β : Type} {F : α → β → Prop} : ∀ {xs : List α} {ys : List β}, xs.length = ys.length → (∀ (i : Nat) x y, xs[i]? = some x → ys[i]? = some y → F x y) → Paired F xs ys
  | [], [], _, _ => .nil
  | [], _ :: _, e, _ => by cases e
  | _ :: _, [], e, _ => by cases e
  | x :: xs, y :: ys, e, h => .cons (h 0 x y rfl rfl) (paired_of (Nat.succ.inj e) fun i a b h1 h2 => h (i + 1) a b h1 h2)
section
variable {X : Cx}
/-! ### list(text) -/
/-- its signs, one text each -/
def signsV (z : Str) : List V := (List.range z.cps.size).map fun i => V.str ⟨#[z.cps.getD i 0]⟩
theorem call_listStr (hc : X.calm = true) : CallR X (.type "list") (fun xs H Q => ∃ z : Str, xs = [.str z] ∧ z.cps.size ≤ 1000 ∧ ∀ p H', H p = none → Same H H' → H' p = some (.lst (signsV z)) → Q (.ref p) H') := by
  intro pins s σ H xs us Q I r h
  obtain ⟨z, rfl, hz, q⟩ := h
  obtain ⟨u, rfl, t, rfl⟩ := vals1 r
  have hz' : z.cps.size ≤ sizeLine := by rw [sizeLine_eq]; omega
  refine call_list_str (I.ok.hd hc) z t (fun h' tk acc c k hp ha => ?_) hz'
  obtain ⟨al, ai⟩ := ha
  have vs : Vals (signsV z) acc.toList := by
    refine paired_of (show (signsV z).length = acc.toList.length by
      have e : acc.toList.length = acc.size := Array.length_toList
      rw [e, al]
      simp [signsV]) fun i x v hx hv => ?_
    have hi : i < z.cps.size := by
      have := (List.getElem?_eq_some_iff.mp hx).1
      simpa [signsV] using this
    obtain ⟨t', e⟩ := sign_at (ai i v (by rw [← Array.getElem?_toList]; exact hv))
    subst e
    have e2 : x = V.str ⟨#[z.cps.getD i 0]⟩ := by
      unfold signsV at hx
      rw [List.getElem?_map, List.getElem?_range hi] at hx
      exact (Option.some.inj hx).symm
    subst e2
    exact ⟨t', rfl⟩
  have n := I.fresh
  refine ⟨.ref s.heap.objs.size, _, I.laid (t' := tk) (h' := h') (o := .lst (signsV z)) k (Nat.le_refl _) ⟨?_, acc.toList, c, vs, by simpa using hp⟩, rfl, q _ _ n (same_upd n) upd_same⟩
  simp only [signsV, List.length_map, List.length_range]
  exact hz'
/-! ### len(set(..)) -/
def tLenSetStr (te : TE) : TE := fun σ H Q => te σ H fun x H1 => ∃ z : Str, x = .str z ∧ z.cps.size ≤ 4000 ∧ Q (.int (newS (fun i => ⟨#[z.cps.getD i 0]⟩) z.cps.size : Nat)) H1
theorem held_len {h : Heap} {S : Addr} {ks : Nat → Str} {i : Nat} {A : Around} {E : Value → Shared → Prop} {Q : Value → Shared → Prop} {s : Shared} (H : HeldS X.prog X.w s.heap S ks i) (hi : i ≤ 4000)
    (q : ∀ tk, Q (.int (newS ks i : Nat) tk) { s with toks := tk + 1 }) : wpAny (model X.prog X.w) A (call (.builtin "len") [.ref S]) Q E s := by
  have few := newS_le ks i
  obtain ⟨o, es, ep, t, ho, hex, hd, _, _, _, hf, hn⟩ := H
  exact call_len_set ho hex hd hf (by rw [hn]; omega) (by rw [hn]; exact q _)
theorem pe_lenSetStr {a : Expr} {ta : TE} {p p2 q pos : Pos} (hc : X.calm = true) (hg : Gl X "len") (hm : X.mg "len" = none) (hg2 : Gl X "set") (hm2 : X.mg "set" = none) (ha : PE X a ta)
    (na : starEach [a] X.env = (false, eval a X.env) :: starEach [] X.env := by rfl) : PE X (.Call (.Name "len" p) [.Call (.Name "set" p2) [a] [] q] [] pos) (tLenSetStr ta) := by
  constructor
  intro pins s σ H Q I h
  refine Call_ (ld_blt I hg hm boot_len (PyProof.Rows.callWith_builtin1 (PyProof.Rows.args_cons ?_ rfl) rfl rfl))
  refine Call_ (ld_blt I hg2 hm2 boot_set (PyProof.Rows.callWith_type1 (PyProof.Rows.args_cons (thn (ha.run pins s σ H _ I h) fun v s1 ⟨x, H1, I1, r1, z, ex, hz, q1⟩ => PyProof.Rows.args_nil ?_) na) na rfl))
  subst ex
  obtain ⟨t, rfl⟩ := r1
  refine set_callStr (I1.ok.hd hc) (by unfold scanBound; omega) fun h' tk hS hk => PyProof.Rows.args_nil ?_
  have I2 : Inv X pins σ H1 { s1 with heap := h', toks := tk } := I1.kept fun b o e => hk b o (Heap.lt_size e) e
  exact held_len (h := h') (s := { s1 with heap := h', toks := tk }) hS hz fun tk' => ⟨.int _, H1, I2.tok _, ⟨_, rfl⟩, q1⟩
/-- .. of a list or a tuple of texts -/
def tLenSetSeq (K : Frag) (te : TE) : TE := fun σ H Q => te σ H fun x H1 => ∃ (l : Addr) (ys : List Str), x = .ref l ∧ (SqL K H1 l (ys.map V.str) ∨ SqT K H1 l (ys.map V.str)) ∧ ys.length ≤ 4000 ∧ Q (.int (newS (fun i => ys.getD i Str.empty) ys.length : Nat)) H1
theorem strs_get {ys : List Str} {us : List Value} (r : Vals (ys.map V.str) us) (i : Nat) (v : Value) (h : us.toArray[i]? = some v) : ∃ t : Tok, v = Value.str (ys.getD i Str.empty) t := by
  have h' : us[i]? = some v := by simpa using h
  have lt : i < ys.length := by
    have := (List.getElem?_eq_some_iff.mp h').1
    rw [← r.length, List.length_map] at this
    exact this
  obtain ⟨u, hu, ru⟩ := r.get (i := i) (x := V.str (ys.getD i Str.empty)) (by rw [List.getElem?_map, List.getElem?_eq_getElem lt, List.getD_eq_getElem?_getD, List.getElem?_eq_getElem lt]; rfl)
  rw [h'] at hu
  cases hu
  exact ru
theorem pe_lenSetSeq {a : Expr} {ta : TE} {p p2 q pos : Pos} (hc : X.calm = true) (hg : Gl X "len") (hm : X.mg "len" = none) (hg2 : Gl X "set") (hm2 : X.mg "set" = none) (ha : PE X a ta)
    (na : starEach [a] X.env = (false, eval a X.env) :: starEach [] X.env := by rfl) : PE X (.Call (.Name "len" p) [.Call (.Name "set" p2) [a] [] q] [] pos) (tLenSetSeq X.K ta) := by
  constructor
  intro pins s σ H Q I h
  refine Call_ (ld_blt I hg hm boot_len (PyProof.Rows.callWith_builtin1 (PyProof.Rows.args_cons ?_ rfl) rfl rfl))
  refine Call_ (ld_blt I hg2 hm2 boot_set (PyProof.Rows.callWith_type1 (PyProof.Rows.args_cons (thn (ha.run pins s σ H _ I h) fun v s1 ⟨x, H1, I1, r1, l, ys, ex, hq, hz, q1⟩ => PyProof.Rows.args_nil ?_) na) na rfl))
  subst ex
  cases r1
  have fin : ∀ (its : List Value), Vals (ys.map V.str) its → ∀ (h' : Heap) (tk : Nat), HeldS X.prog X.w h' s1.heap.objs.size (fun i => ys.getD i Str.empty) its.toArray.size → (∀ b o, b < s1.heap.objs.size → s1.heap.get? b = some o → h'.get? b = some o) →
      wpAny (model X.prog X.w) X.A (spliced (backTo pos (starEach [] X.env))) (fun vs s₂ => wpAny (model X.prog X.w) X.A (call (.builtin "len") (Value.ref s1.heap.objs.size :: vs)) (EP X pins σ Q) X.xe s₂) X.xe { s1 with heap := h', toks := tk } := fun its r h' tk hS hk => by
    have hl : its.toArray.size = ys.length := by rw [List.size_toArray, ← r.length, List.length_map]
    rw [hl] at hS
    have I2 : Inv X pins σ H1 { s1 with heap := h', toks := tk } := I1.kept fun b o e => hk b o (Heap.lt_size e) e
    exact PyProof.Rows.args_nil (held_len (h := h') (s := { s1 with heap := h', toks := tk }) hS hz fun tk' => ⟨.int _, H1, I2.tok _, ⟨_, rfl⟩, q1⟩)
  rcases hq with hq | hq
  · obtain ⟨its, r, pl, _⟩ := I1.list hq
    have hl : its.toArray.size = ys.length := by rw [List.size_toArray, ← r.length, List.length_map]
    exact set_callList (I1.ok.hd hc) pl.isList (strs_get r) (by unfold scanBound; omega) fun h' tk hS hk => fin its r h' tk hS hk
  · obtain ⟨its, r, pl, _⟩ := I1.tuple hq
    have hl : its.toArray.size = ys.length := by rw [List.size_toArray, ← r.length, List.length_map]
    exact set_callTup (I1.ok.hd hc) pl (strs_get r) (by unfold scanBound; omega) fun h' tk hS hk => fin its r h' tk hS hk
/-! ### type(x) is type(y) -/
def rTyA (X : Cx) : List V → Hp → VK → Prop := fun xs H Q => ∃ x, xs = [x] ∧ ((∃ a C dx fs, x = .ref a ∧ H a = some (.ins C dx fs) ∧ Q (.ref C) H) ∨ ∃ T, RZ.Ty4 H x T ∧ Q (.ty T) H)
theorem call_tyA : CallR X (.type "type") (rTyA X) := by
  intro pins s σ H xs us Q I r h
  obtain ⟨x, rfl, h | h⟩ := h
  · obtain ⟨a, C, dx, fs, rfl, ha, q⟩ := h
    exact cr_type pins s σ H _ us Q I r ⟨a, C, dx, fs, rfl, ha, q⟩
  · obtain ⟨T, t, q⟩ := h
    exact RZ.call_type4 pins s σ H _ us Q I r ⟨x, T, rfl, t, q⟩
def rIsA (X : Cx) : R2 := fun x y H Q => ∃ a, x = .ref a ∧ ((∃ b, y = .ref b ∧ (a = b ∨ (makesIn X.K a = true ∧ makesIn X.K b = true)) ∧ Q (.bl (decide (a = b))) H) ∨ ∃ T, y = .ty T ∧ Q (.bl false) H)
theorem op_isA : OpR X (compareOp .Is) (rIsA X) := by
  intro pins s σ H x y v u Q I rx ry h
  obtain ⟨a, rfl, h | h⟩ := h
  · obtain ⟨b, rfl, hab, q⟩ := h
    exact op_is_cls pins s σ H _ _ v u Q I rx ry ⟨a, b, rfl, rfl, hab, q⟩
  · obtain ⟨T, rfl, q⟩ := h
    cases rx
    cases ry
    show wpAny _ _ (do return Value.bool (← isSame (.ref a) (.type T))) _ _ _
    exact wpAny_bind (wpAny_of_eq (a := false) rfl (wpAny_pure ⟨.bl false, H, I, rfl, q⟩))
/-! ### ''.join(reversed(xs)) -/
def tJoinRev (K : Frag) (to te : TE) : TE := fun σ H Q => to σ H fun o H0 => ∃ z : Str, o = .str z ∧ te σ H0 fun v H1 => ∃ (a : Addr) (ys : List Str), v = .ref a ∧ SqL K H1 a (ys.map V.str) ∧ JoinOk z ys.reverse = true ∧ Q (.str (Txt.join z ys.reverse)) H1
theorem strs_pairs : ∀ {ys : List Str} {us : List Value}, Vals (ys.map V.str) us → ∃ l : List (Str × Tok), strValues l = us ∧ l.map (·.1) = ys
  | [], _, .nil => ⟨[], rfl, rfl⟩
  | y :: ys, _, .cons r t => by
    obtain ⟨k, rfl⟩ := r
    obtain ⟨l, e1, e2⟩ := strs_pairs t
    exact ⟨(y, k) :: l, by rw [← e1]; rfl, by rw [← e2]; rfl⟩
theorem joined_tail (z : Str) : ∀ l : List (Str × Tok), Builtin.Str.tooLong ((l.map (·.1)).toArray.foldl (· + ·.length + z.length) 0) = false → Gives (joinTail z (strValues l)) (joinMade z l)
  | [], h => gives_joinTail z [] h
  | [p], h => gives_joinTail z [p] h
  | p :: q :: r, h => gives_joinTail z (p :: q :: r) h
theorem pe_joinRev {o e : Expr} {to te : TE} {apos p2 pos2 cpos : Pos} (hc : X.calm = true) (hg2 : Gl X "reversed") (hm2 : X.mg "reversed" = none) (ho : PE X o to) (he : PE X e te)
    (hbase : attributeBase o "join" X.env (eval o X.env) = eval o X.env := by rfl)
    (hfew : ((backTo cpos (starEach [Expr.Call (.Name "reversed" p2) [e] [] pos2] X.env)).all (fun x => !x.1) && (backToKw cpos (keywordEach [] X.env)).all (fun x => x.1.isSome)
      && decide ([Expr.Call (.Name "reversed" p2) [e] [] pos2].length + ([] : List Keyword).length + (if ([] : List Keyword).isEmpty then 0 else 1) < 30)) = true := by rfl)
    (hline : (apos.endLine == cpos.line) = true := by rfl) (hs : starEach [e] X.env = (false, eval e X.env) :: starEach [] X.env := by rfl)
    (hs2 : starEach [Expr.Call (.Name "reversed" p2) [e] [] pos2] X.env = (false, eval (.Call (.Name "reversed" p2) [e] [] pos2) X.env) :: starEach [] X.env := by rfl) :
    PE X (.Call (.Attribute o "join" apos) [.Call (.Name "reversed" p2) [e] [] pos2] [] cpos) (tJoinRev X.K to te) := by
  constructor
  intro pins s σ H Q I h
  refine wpAny_Call_method_late hbase hfew hline rfl (thn (ho.run pins s σ H _ I h) fun v s1 ⟨x, H0, I0, r0, z, ex, q0⟩ => ?_)
  subst ex
  obtain ⟨t, rfl⟩ := r0
  refine ⟨"str", "str.join", PySem.F.plainAttrs_str, PySem.F.slot_str_join, PySem.F.type_str_join, typeIs_str _ _ _, (fun a e => nomatch e), ?_⟩
  refine Calls.callWith_builtin (by rw [hs2]; rfl) ?_
  rw [hs2]
  refine Calls.evalArgs_plain (Calls.spliced_cons ?_)
  refine Call_ (ld_blt I0 hg2 hm2 PyProof.Rows.boot_reversed (PyProof.Rows.callWith_type1 (PyProof.Rows.args_cons (thn (he.run pins s1 σ H0 _ I0 q0) fun u s2 ⟨y, H1, I1, r1, a, ys, ey, hq, ok, q1⟩ => PyProof.Rows.args_nil ?_) hs) hs rfl))
  subst ey
  obtain rfl : u = Value.ref a := r1
  obtain ⟨its, rv, pl, hz⟩ := I1.list hq
  refine call_reversed_list pl.isList (Calls.spliced_nil ?_)
  have k0 : ∀ b o, s2.heap.get? b = some o → (s2.heap.push (revObj a ((its.toArray.size : Int) - 1))).get? b = some o := fun b o e => Heap.get?_push_of_some _ e
  have I2 : Inv X pins σ H1 { s2 with heap := s2.heap.push (revObj a ((its.toArray.size : Int) - 1)) } := I1.kept (t' := s2.toks) k0
  obtain ⟨f0, f1, f2, f3, f4, f5⟩ := I1.fpOk (H' := H1) (b := s2.heap.objs.size) (Nat.le_refl _) (I1.hok.fresh (Nat.le_refl _))
  have hl := pl.isList
  obtain ⟨ol, hol, _⟩ := id hl
  have ne : a ≠ s2.heap.objs.size := Nat.ne_of_lt (Heap.lt_size hol)
  have sm : its.toArray.size ≤ sizeLine := by rw [List.size_toArray, ← rv.length]; exact hz
  have hit : (s2.heap.push (revObj a ((its.toArray.size : Int) - 1))).IsRevIter s2.heap.objs.size a ((its.toArray.size : Int) - 1) := ⟨_, Heap.get?_push_size _ rfl, rfl, rfl⟩
  refine wpAny_call (codeAny_call_builtin F.slot_str_join.plain F.entry_str_join (F.slot_str_join.check _ _ _ _ _ _ _ _ (typeIs_str _ _ _) (F.args_str_join_2 _ _) ?_))
  show wpAny _ _ (Builtin.«str.join» ⟨[.str z t, .ref s2.heap.objs.size], []⟩) _ _ _
  rw [join_tree_other]
  refine wpAny_bind (wpAny_typeOf hit.typeIs ?_)
  show wpAny _ X.A.in1 ((pyIter (.ref s2.heap.objs.size)).tryCatch _ >>= fun it => collect it >>= fun items => joinTail z items) _ _ _
  refine wpAny_bind (wpAny_tryCatch (wpAny_pyIter_revIter hit ?_))
  refine wpAny_bind (RT.collect_rev (I1.ok.hd hc) hit (hl.push _) ne sm fun h' tk acc hk hi => ?_)
  have I3 : Inv X pins σ H1 { s2 with heap := h', toks := tk } := I2.turned (t' := tk) (fun b o hb e => hk b o hb e) f0 f1 f3 f4 f5
  have rr := RT.vals_rev rv hi
  rw [← List.map_reverse] at rr
  obtain ⟨l, el, em⟩ := strs_pairs rr
  rw [← el]
  have fit : Builtin.Str.tooLong ((l.map (·.1)).toArray.foldl (· + ·.length + z.length) 0) = false := by
    rw [em]
    unfold JoinOk at ok
    rwa [Bool.not_eq_true'] at ok
  have g : Gives (joinTail z (strValues l)) (joinMade z l) := joined_tail z l fit
  refine g X.prog X.w X.A (wants (EP X pins σ Q) X.xe) _ (post_join l ⟨?_, fun t' k => ?_⟩)
  · exact joinFit_length fit
  · rw [em]
    exact ⟨.str _, H1, I3.tok k, ⟨t', rfl⟩, q1⟩
end
end L2.Jk

set_option Elab.async false
set_option linter.all false
set_option maxRecDepth 100000
set_option maxHeartbeats 4000000
/-! Errors raised, instances made where their __init__ may raise, isinstance of flat values. -/
namespace L2.Jk
open PySem PySem.W PySem.Spec PySem.Calls PyProof.Rows

section
variable {X : Cx} {CX : CXT} {k : Nat} {x : Str} {ps : List Str} {sp : Sp} {e : Expr} {es : List Expr} {t : TA} {p pos : Pos} {W : WX}
theorem pe_fnS (G : FnAt X.prog X.w X.K X.mg X.base CX k x ps sp) (hr : Room k X.A) {E : St → XK} (hx : ∀ σ, PassesAt CX X σ (E σ)) (hg : Gl X x) (ha : PA X (e :: es) t)
    (hdb : (x == ("__debug__" : Str)) = false := by decide) (he : starEach (e :: es) X.env = (false, eval e X.env) :: starEach es X.env := by rfl) (hpl : (backTo pos (starEach es X.env)).any (·.1) = false := by rfl) :
    PE X (.Call (.Name x p) (e :: es) [] pos) (tCallS sp E t) := by
  obtain ⟨f, fd, hm, kp, F, hb⟩ := G.ex
  exact pe_callS F hr hg hm kp hb hx ha hdb he hpl
/-! ### an error that is raised -/
def tMkErr (C : Addr) (fs : List Str) (ta : TA) : St → Hp → XK → Prop := fun σ H Q => ta σ H fun vs H1 => vs.length = fs.length ∧ ∀ d H2, H1 d = none → Same H1 H2 → H2 d = some (.xd (fldE fs vs)) → Q (.ref C) (some d) H2
theorem same_raise {H : Hp} {a C d : Addr} {fs : List (Str × V)} (ha : H a = none) (hd : H d = none) (ne : d ≠ a) : Same H (upd (del (mkE H a C d fs) a) d (.xd fs)) := fun b o e => by
  have n1 := ne_of_none e ha
  have n2 := ne_of_none e hd
  rw [upd_ne n2, del_ne n1]
  unfold mkE
  rw [upd_ne n1, upd_ne n2]
  exact e
end
/-- what is wished of an error C(v) that is raised at H -/
def RaiseE (C : Addr) (f : Str) (v : V) (H : Hp) (Q : XK) : Prop := ∀ d H2, H d = none → Same H H2 → H2 d = some (.xd [(f, v)]) → Q (.ref C) (some d) H2
theorem mkO_1 {C : Addr} {f : Str} {v : V} {H : Hp} {Q : XK} (q : RaiseE C f v H Q) : ([v] : List V).length ≤ 1000 ∧ ∀ a, H a = none → spI1 C f (.ref a :: ([v] ++ [])) (upd H a (exo a C none))
    (fun u H2 => u = .non ∧ ∃ (d : Addr) (fs : List (Str × V)), H2 a = some (exo a C (some d)) ∧ H2 d = some (exd d fs) ∧ H d = none ∧ Q (.ref C) (some d) (upd (del H2 a) d (.xd fs))) (fun _ _ _ => False) := by
  refine ⟨by show 1 ≤ 1000; decide, fun a ha => ⟨a, v, rfl, upd_same, fun d hd ne => ⟨rfl, d, [(f, v)], ?_, ?_, ?_, ?_⟩⟩⟩
  · rw [mkE_new ne]
    exact upd_same
  · rw [mkE_new ne]
    unfold mkE
    rw [upd_ne ne, upd_same]
  · rw [upd_ne ne] at hd
    exact hd
  · rw [mkE_new ne]
    rw [upd_ne ne] at hd
    exact q d _ hd (same_raise ha hd ne) upd_same
section
variable {X : Cx} {x : Str} {e : Expr} {es : List Expr} {ta : TA} {p pos : Pos}
/-- raise C(e), C an error of one field -/
theorem pmk_1 {C : Addr} {f z : Str} (T : ErrAt X.prog X.w X.K X.mg X.base x C [f] z) (hr : Room 2 X.A) (hg : Gl X x) (ha : PA X (e :: es) ta)
    (hdb : (x == ("__debug__" : Str)) = false := by decide) (he : starEach (e :: es) X.env = (false, eval e X.env) :: starEach es X.env := by rfl) (hpl : (backTo pos (starEach es X.env)).any (·.1) = false := by rfl) :
    PMk X (.Call (.Name x p) (e :: es) [] pos) (tMkO C (spI1 C f) [] ta) := by
  obtain ⟨fd, hb, iok⟩ := T.iok
  exact pmk_oex (X := X) (ta := ta) T.ex.ec.ox T.ini.1 T.ini.2 iok hr hb .nil pass0 hg T.mgC ha hdb he hpl
/-! ### an instance made by a class whose __init__ may raise -/
structure ClsAt (P : Program) (w : World) (K : Frag) (mg : Str → Option Value) (base : Heap) (CX : CXT) (k : Nat) (x : Str) (C : Addr) (ps : List Str) (sp : Sp) : Prop where
  mgC : mg x = some (.ref C)
  cl : Cls K C
  mkr : Mk K C (He.ma K C "__init__")
  ok : ∃ fd, FnOk P w K mg base CX k (He.ma K C "__init__") fd ps sp ∧ Binds K fd ps []
def tNewS (C : Addr) (sp : Sp) (E : St → XK) (t : TA) : TE := fun σ H Q => t σ H fun vs H1 => ∀ a dx, H1 a = none → H1 dx = none → dx ≠ a → sp (.ref a :: vs) (upd (upd H1 dx (.own a)) a (.ins C dx [])) (fun v H2 => v = .non ∧ Q (.ref a) H2) (E σ)
theorem pe_newS {CX : CXT} {k : Nat} {C : Addr} {ps : List Str} {sp : Sp} {E : St → XK} (G : ClsAt X.prog X.w X.K X.mg X.base CX k x C ps sp) (hr : Room (k + 1) X.A) (hx : ∀ σ, PassesAt CX X σ (E σ)) (hg : Gl X x) (ha : PA X (e :: es) ta)
    (hdb : (x == ("__debug__" : Str)) = false := by decide) (he : starEach (e :: es) X.env = (false, eval e X.env) :: starEach es X.env := by rfl) (hpl : (backTo pos (starEach es X.env)).any (·.1) = false := by rfl) :
    PE X (.Call (.Name x p) (e :: es) [] pos) (tNewS C sp E ta) := by
  obtain ⟨fd, F, hb⟩ := G.ok
  have M := G.mkr
  constructor
  intro pins s σ H Q I h
  refine wpAny_Call_Name_kw (ld_glob I hg G.mgC ?_ hdb)
  refine callWith_K (h₀ := X.base) I.ok.mod.kin M.kp (thn (ha.run pos pins s σ H _ I h) fun us s1 ⟨vs, H1, I1, r, q⟩ => ⟨I1.kIn, ?_⟩) he hpl
  show wpAny _ _ (call (.ref C) us) _ _ _
  have pr := q (s1.heap.objs.size + 1) s1.heap.objs.size (I1.hok.fresh (Nat.le_succ _)) I1.fresh (Nat.ne_of_lt (Nat.lt_succ_self _))
  have I2 := Inv.made (C := C) I1
  have r2 : Vals (V.ref (s1.heap.objs.size + 1) :: vs) (Value.ref (s1.heap.objs.size + 1) :: us) := .cons rfl r
  have hl : (Value.ref (s1.heap.objs.size + 1) :: us).length = ps.length := by
    rw [← r2.length]
    exact F.len _ _ _ _ pr
  have hb' := hb _ (Value.ref (s1.heap.objs.size + 1) :: us) I2.kIn (by rw [List.append_nil]; exact hl)
  rw [List.append_nil] at hb'
  refine wpAny_call (make_map (f := He.ma X.K C "__init__") I1.kIn M.makes M.init (beq_iff_eq.mp M.fn) (codeAny_mono (F.run _ X.stack _ _ ⟨Value.ref (s1.heap.objs.size + 1) :: us, []⟩ (Value.ref (s1.heap.objs.size + 1) :: us) _ _ (E σ) (hr.make C us [])
    (I2.env0.make C us []) hb' r2 pr) fun r s' hq' => ?_))
  cases r with
  | error er => exact hx σ pins _ _ er s' I2 hq'
  | ok fl =>
    cases fl with
    | ret u =>
      obtain ⟨v, H', I3, rv, ev, q3⟩ := I2.after hq'
      subst ev
      exact ⟨rv, ⟨V.ref (s1.heap.objs.size + 1), H', I3, rfl, q3⟩⟩
    | next => exact False.elim hq'
    | brk => exact False.elim hq'
    | cont => exact False.elim hq'
end
/-! ### isinstance of flat values against built-in types -/
def tyN : V → String
  | .non => "NoneType"
  | .bl _ => "bool"
  | .int _ => "int"
  | .str _ => "str"
  | _ => ""
theorem flat_ty {K : Frag} {H : Hp} {v : V} (h : flatV v = true) : TyE K H v (.type (tyN v)) := by
  cases v with
  | non => exact .x (.base .non)
  | bl b => exact .x (.base (.bl b))
  | int i => exact .x (.base (.int i))
  | str z => exact .x (.base (.str z))
  | _ => cases h
def isStr : V → Bool
  | .str _ => true
  | _ => false
/-- an int or a bool -/
def isInt : V → Bool
  | .int _ => true
  | .bl _ => true
  | _ => false
def isBl : V → Bool
  | .bl _ => true
  | _ => false
theorem kit_str {v : V} (h : flatV v = true) : kitB (tyN v) "str" = some (isStr v) := by
  cases v with
  | non => show kitB "NoneType" "str" = some false; decide +kernel
  | bl b => show kitB "bool" "str" = some false; decide +kernel
  | int i => show kitB "int" "str" = some false; decide +kernel
  | str z => show kitB "str" "str" = some true; decide +kernel
  | _ => cases h
theorem kit_int {v : V} (h : flatV v = true) : kitB (tyN v) "int" = some (isInt v) := by
  cases v with
  | non => show kitB "NoneType" "int" = some false; decide +kernel
  | bl b => show kitB "bool" "int" = some true; decide +kernel
  | int i => show kitB "int" "int" = some true; decide +kernel
  | str z => show kitB "str" "int" = some false; decide +kernel
  | _ => cases h
theorem kit_bool {v : V} (h : flatV v = true) : kitB (tyN v) "bool" = some (isBl v) := by
  cases v with
  | non => show kitB "NoneType" "bool" = some false; decide +kernel
  | bl b => show kitB "bool" "bool" = some true; decide +kernel
  | int i => show kitB "int" "bool" = some false; decide +kernel
  | str z => show kitB "str" "bool" = some false; decide +kernel
  | _ => cases h
theorem ie_of {K : Frag} {H : Hp} {v : V} {S T : String} {b : Bool} {Q : VK} (ty : TyE K H v (.type S)) (k : kitB S T = some b) (q : Q (.bl b) H) : rIe K [v, .ty T] H Q :=
  ⟨v, .ty T, .type S, .type T, b, rfl, .ty T, ty, kit_ty k, q⟩
end L2.Jk

set_option Elab.async false
set_option linter.all false
set_option maxRecDepth 100000
set_option maxHeartbeats 4000000
/-! A comprehension over a text; a method of an instance whose class shows in the heap; what happens to an error that is raised in a make. -/
namespace L2.Jk
open PySem PySem.W PySem.Spec PySem.Calls PyProof.Rows

theorem lc_str {x : Str} {g : TG} {tt : TT} {te : TE} {vs : List Nat} {σ : St} {H1 : Hp} {D : Addr} {Qd : Hp → Prop} (Pv : Nat → Hp → Prop) (h0 : Pv 0 (upd H1 D (.lst [])))
    (hs : ∀ (i c : Nat) H, x.cps[i]? = some c → Pv i H → g (.str ⟨#[c]⟩) (wipe σ vs) H fun σ2 H2 => wipe σ2 vs = wipe σ vs ∧ tt σ2 H2 fun b H3 =>
      if b = true then te σ2 H3 fun y H4 => ∃ acc, H4 D = some (.lst acc) ∧ acc.length < sizeLine ∧ Pv (i + 1) (upd H4 D (.lst (acc ++ [y]))) else Pv (i + 1) H3) (hd : ∀ H, Pv x.cps.size H → Qd H) :
    ∃ W : Nat → Nat → Hp → Prop, (∃ m, W 0 m (upd H1 D (.lst []))) ∧ ∀ i m H, W i m H →
      ((Its x).stop i H ∧ Qd H) ∨ ((Its x).go i H ∧ ∃ Nx : Hp → Prop, (∀ H', Nx H' → ∃ m', m' < m ∧ W (i + 1) m' H') ∧ ∀ y H', (Its x).yld i H y H' → g y (wipe σ vs) H' fun σ2 H2 => wipe σ2 vs = wipe σ vs ∧ tt σ2 H2 fun b H3 =>
        if b = true then te σ2 H3 fun y H4 => ∃ acc, H4 D = some (.lst acc) ∧ acc.length < sizeLine ∧ Nx (upd H4 D (.lst (acc ++ [y]))) else Nx H3) := by
  refine ⟨fun i m H => m = x.cps.size - i ∧ i ≤ x.cps.size ∧ Pv i H, ⟨x.cps.size, by simp, Nat.zero_le _, h0⟩, ?_⟩
  rintro i m H ⟨rfl, hi, p⟩
  by_cases hlt : i < x.cps.size
  · refine .inr ⟨hlt, Pv (i + 1), fun H' p' => ⟨x.cps.size - (i + 1), by omega, rfl, hlt, p'⟩, fun y H' z => ?_⟩
    obtain ⟨e, c, hc, ev⟩ := z
    subst e ev
    exact hs i c _ hc p
  · have e : i = x.cps.size := by omega
    subst e
    exact .inl ⟨Nat.le_refl _, hd H p⟩
/-- o.m(e, ..), the class of o as the heap has it -/
def tMethD (X : Cx) (CX : CXT) (m : Str) (E : XK) (ta : TE) (t : TA) : TE := fun σ H Q => ta σ H fun x H1 => ∃ (a C dx f : Addr) (fs : List (Str × V)) (k : Nat) (fd : FuncData) (ps : List Str) (sp : Sp), x = .ref a ∧ H1 a = some (.ins C dx fs) ∧ fs.lookup m = none ∧
  Cls X.K C ∧ Meth X.K C m f ∧ FnOk X.prog X.w X.K X.mg X.base CX k f fd ps sp ∧ Room k X.A ∧ Binds X.K fd ps [] ∧ t σ H1 fun vs H2 => sp (x :: vs) H2 Q E
section
variable {X : Cx} {CX : CXT} {E : XK} {o e : Expr} {es : List Expr} {m : Str} {ta : TE} {t : TA} {apos pos : Pos}
theorem pe_methD {pl : Sem Bool} (he : PE X o ta) (hx : Passes CX X E) (ha : PA X (e :: es) t)
    (hst : starEach (e :: es) X.env = (false, eval e X.env) :: starEach es X.env := by rfl) (hpl : (backTo pos (starEach es X.env)).any (·.1) = false := by rfl)
    (ht : eval (.Call (.Attribute o m apos) (e :: es) [] pos) X.env = (do
      let ov ← eval o X.env
      standAt apos.atName
      let (f, first) ← holding [ov] (getMethod ov m pl)
      callWith pos f first (backTo pos (starEach (e :: es) X.env)) (backToKw pos (keywordEach [] X.env))) := by rfl) :
    PE X (.Call (.Attribute o m apos) (e :: es) [] pos) (tMethD X CX m E ta t) := by
  refine ⟨fun pins s σ H Q I h => ?_⟩
  refine PySem.W.methodCall_KW (pl := pl) (thn (he.run pins s σ H _ I h) fun u s1 hh => ?_) ht
  obtain ⟨x, H1, I1, rx, a, C, dx, f, fs, k, fd, ps, sp, ex, ea, l, c, hm, F, hr, hb, q⟩ := hh
  subst ex
  obtain rfl : u = Value.ref a := rx
  refine getmeth_ok I1 ea c hm l ?_
  refine PySem.W.callWith_K (first := [.ref a]) (h₀ := X.base) I.ok.mod.kin hm.kp (thn (ha.run pos pins s1 σ H1 _ I1 q) fun us s2 ⟨vs, H2, I2, r, q2⟩ => ⟨I2.kIn, ?_⟩) hst hpl
  have q2' : sp (V.ref a :: (vs ++ [])) H2 Q E := by rw [List.append_nil]; exact q2
  exact run_fn (us := .ref a :: us) (vs := .ref a :: vs) (dvs := []) (ds := []) F hr hb .nil hx I2 (.cons rfl r) q2'
end
/-- a call that the reading never comes to -/
theorem fn_never {P : Program} {w : World} {K : Frag} {mg : Str → Option Value} {base : Heap} {CX : CXT} {k : Nat} {f : Addr} {fd : FuncData} {ps : List Str} : FnOk P w K mg base CX k f fd ps (fun _ _ _ _ => False) where
  len := fun _ _ _ _ h => False.elim h
  run := fun _ _ _ _ _ _ _ _ _ _ _ _ _ h => False.elim h
theorem same_new {H : Hp} {a dx C : Addr} {fs : List (Str × V)} (ha : H a = none) (hd : H dx = none) : Same H (upd (upd H dx (.own a)) a (.ins C dx fs)) := fun b o e => by
  rw [upd_ne (ne_of_none e ha), upd_ne (ne_of_none e hd)]
  exact e
theorem same_put {H H1 : Hp} {p : Addr} {o : HO} (S : Same H H1) (n : H p = none) : Same H (upd H1 p o) := fun b u e => by
  rw [upd_ne (ne_of_none e n)]
  exact S b u e
end L2.Jk

set_option Elab.async false
set_option linter.all false
set_option maxRecDepth 100000
set_option maxHeartbeats 4000000
/-! The things that are drawn, and what is told of them. -/
namespace L2.K79
open PySem PySem.W PySem.Spec PySem.Calls PyProof.Rows L2.Jk

/-- a kind of things, by what is true of them -/
structure Menu (α : Type) where
  p : α → Prop
instance {α : Type} : Membership α (Menu α) := ⟨fun m a => m.p a⟩
def lenOf : V → Nat
  | .str z => z.length
  | _ => 0
def vM : Menu V := ⟨fun v => flatV v = true ∧ lenOf v ≤ 80⟩
abbrev sM := vM
abbrev eM := vM
abbrev mQ := vM
def nM : Menu V := ⟨fun v => flatV v = true ∧ ∀ i, v = .int i → i ≤ 999999999⟩
abbrev hM := nM
/-- what the texts of a listed field are drawn from -/
inductive LX where
  | lst (xs : List V)
  | tup (xs : List V)
  | val (v : V)
  deriving DecidableEq
def LX.els : LX → List V
  | .lst xs => xs
  | .tup xs => xs
  | .val _ => []
def dV : V → PyData
  | .bl b => .bool b
  | .int i => .int i
  | .str z => .str z
  | _ => .none
def lM : Menu LX := ⟨fun x => (x = .lst x.els ∨ x = .tup x.els) ∧ x.els.length ≤ 20 ∧ (∀ v ∈ x.els, v ∈ vM) ∧ SeqAt.shaped (.tuple (x.els.map dV)) = true⟩
def wM : Menu V := ⟨fun v => ∃ i, v = .int i ∧ 0 ≤ i ∧ i < 60⟩

/-- text.strip(signs) == '' -/
def madeB (a b : Str) : Bool := decide (V.str (Txt.stripChars a b) = V.str "")
/-- c in z, c one sign -/
def inB (c z : Str) : Bool := decide (c.cps.getD 0 0 ∈ z.cps.toList)
def isSignB : V → Bool
  | .str z => (z.length == 1) && inB z SG
  | _ => false
def areB : V → Bool
  | .str z => madeB z SG
  | _ => false
def sgB : V → Bool
  | .str z => z.cps.toList.all fun c => decide (c ∈ SG.cps.toList)
  | _ => false
def numB : V → Bool
  | .int _ => true
  | _ => false
def lenV : V → Nat
  | .str z => z.length
  | _ => 0
/-- signs that stand twice -/
def twB : V → Bool
  | .str z => decide ((newS (fun i => ⟨#[z.cps.getD i 0]⟩) z.cps.size : Nat) < z.length)
  | _ => false
def sBad (v : V) : Bool := !areB v || (decide (v = .str "") || twB v)
def ltV : V → V → Bool
  | .int a, .int b => decide (a < b)
  | _, _ => false
def bDue (l m : V) : Option Str :=
  if (!numB l || ltV l (.int 0)) = true then some "least" else if (!decide (m = .non) && (!numB m || ltV m l)) = true then some "most" else none
def wDue (w : V) : Option Str := if (!numB w || ltV w (.int 1)) = true then some "width" else none
/-- the texts of a list, if all are texts of signs -/
def strV : V → Str
  | .str z => z
  | _ => ""
def xsBad (xs : List V) : Bool := !xs.all areB || decide ((newS (fun i => (xs.map strV).getD i Str.empty) (xs.map strV).length : Nat) < xs.length)
def lxDue : LX → Option Str
  | .val _ => some "texts"
  | .lst xs => if (decide (xs.length = 0) || xsBad xs) = true then some "texts" else none
  | .tup xs => if (decide (xs.length = 0) || xsBad xs) = true then some "texts" else none
def eDue (s e l m : V) : Option Str :=
  if sBad s = true then some "signs" else if (!isSignB e || inB (strV e) (strV s)) = true then some "sign" else bDue l m
def oDue (s l m : V) : Option Str := if sBad s = true then some "signs" else bDue l m
inductive PD where
  | word (s l m : V)
  | number (l m : V)
  | fixed (w : V)
  | listed (x : LX)
  | ended (s e l m : V)
def PD.due : PD → Option Str
  | .word s l m => oDue s l m
  | .number l m => bDue l m
  | .fixed w => wDue w
  | .listed x => lxDue x
  | .ended s e l m => eDue s e l m
def PD.In : PD → Prop
  | .word s l m => s ∈ sM ∧ l ∈ nM ∧ m ∈ nM
  | .number l m => l ∈ nM ∧ m ∈ hM
  | .fixed w => w ∈ wM
  | .listed x => x ∈ lM
  | .ended s e l m => s ∈ sM ∧ e ∈ eM ∧ l ∈ nM ∧ m ∈ nM
/-- has a sign: what the program asks -/
def dg (n : Int) : Str := Txt.join "" [(toString n : Str)]
def wwB (s m : V) (c : Str) : Bool := inB c (strV s) && !decide (m = .int 0)
def intV : V → Int
  | .int i => i
  | _ => 0
def PD.has (c : Str) : PD → Bool
  | .word s _ m => wwB s m c
  | .number l m => if (decide (m = .non) || decide (9 ≤ intV m - intV l)) = true then inB c DG else (List.range (intV m + 1 - intV l).toNat).any fun (i : Nat) => inB c (dg (intV l + i))
  | .fixed _ => inB c DG
  | .listed x => x.els.any fun v => inB c (strV v)
  | .ended s e _ m => decide (V.str c = e) || wwB s m c
inductive OD where
  | val (v : V)
  | pl (d : PD)
  | mk (n m : V) (i : OD)
def iDue (n m : V) : OD → Option Str
  | .pl d => if (d.has (strV n) || d.has (strV m)) = true then some "field" else none
  | _ => some "field"
def OD.due : OD → Option Str
  | .val _ => none
  | .pl d => d.due
  | .mk n m i => if (!isSignB n) = true then some "none" else if (!isSignB m || decide (m = n)) = true then some "mark" else iDue n m i
theorem one_of {z : Str} (h : z.length = 1) : z = ⟨#[z.cps.getD 0 0]⟩ := by
  obtain ⟨a⟩ := z
  have h : a.size = 1 := h
  cases e : a.toList with
  | nil =>
    have z : a.toList.length = 1 := by rw [Array.length_toList]; exact h
    rw [e] at z
    cases z
  | cons x xs =>
    have z : a.toList.length = 1 := by rw [Array.length_toList]; exact h
    rw [e] at z
    have e2 : xs = [] := List.length_eq_zero_iff.mp (Nat.succ.inj z)
    have e3 : a = #[x] := by rw [← Array.toArray_toList (xs := a), e, e2]
    rw [e3]
    rfl
theorem vM_facts (v : V) (h : v ∈ vM) : flatV v = true ∧ True ∧ True ∧ lenV v ≤ 80 := by
  obtain ⟨h1, h2⟩ := (show flatV v = true ∧ lenOf v ≤ 80 from h)
  refine ⟨h1, trivial, trivial, ?_⟩
  cases v <;> exact h2
theorem one_sign (v : V) (_ : v ∈ vM) (h : lenV v = 1) : v = .str ⟨#[(strV v).cps.getD 0 0]⟩ := by
  cases v with
  | str z => exact congrArg V.str (one_of h)
  | _ => cases h
theorem bDue_none {l m : V} (h : bDue l m = none) : (∃ i, l = .int i ∧ 0 ≤ i) ∧ (m = .non ∨ ∃ j, m = .int j ∧ 0 ≤ j) := by
  unfold bDue at h
  split at h
  · cases h
  · rename_i h1
    split at h
    · cases h
    · rename_i h2
      cases l with
      | int i =>
        have hi : 0 ≤ i := by
          have z : ¬ (decide (i < 0)) = true := fun e => h1 (by show (!true || decide (i < 0)) = true; rw [e]; rfl)
          have : ¬ i < 0 := fun e => z (decide_eq_true e)
          omega
        refine ⟨⟨i, rfl, hi⟩, ?_⟩
        cases m with
        | non => exact .inl rfl
        | int j =>
          refine .inr ⟨j, rfl, ?_⟩
          have z : ¬ (decide (j < i)) = true := fun e => h2 (by show (!decide (V.int j = .non) && (!true || decide (j < i))) = true; rw [e, decide_eq_false (fun z => nomatch z)]; rfl)
          have : ¬ j < i := fun e => z (decide_eq_true e)
          omega
        | _ => exact absurd (by rw [decide_eq_false (fun z => nomatch z)]; rfl) h2
      | _ => exact absurd rfl h1
theorem sBad_str {s : V} (h : sBad s = false) : ∃ z, s = .str z := by
  cases s with
  | str z => exact ⟨z, rfl⟩
  | _ => cases h
theorem scal_flat {v : V} (h : flatV v = true) : scal v v = true := by cases v <;> first | rfl | cases h
theorem oDue_none {s l m : V} (h : oDue s l m = none) : sBad s = false ∧ bDue l m = none := by
  unfold oDue at h
  split at h
  · cases h
  · rename_i k
    exact ⟨Bool.eq_false_iff.mpr k, h⟩
theorem eDue_none {s e l m : V} (h : eDue s e l m = none) : sBad s = false ∧ isSignB e = true ∧ bDue l m = none := by
  unfold eDue at h
  split at h
  · cases h
  · rename_i k
    split at h
    · cases h
    · rename_i k2
      refine ⟨Bool.eq_false_iff.mpr k, ?_, h⟩
      cases z : isSignB e with
      | true => rfl
      | false => exact absurd (by rw [z]; rfl) k2
theorem sign_one {v : V} (h : isSignB v = true) : v = .str ⟨#[(strV v).cps.getD 0 0]⟩ ∧ True := by
  cases v with
  | str z =>
    have k : (z.length == 1) = true := (Bool.and_eq_true_iff.mp h).1
    exact ⟨congrArg V.str (one_of (by simpa using k)), trivial⟩
  | _ => cases h
theorem sM_vM {v : V} (h : v ∈ sM) : v ∈ vM := h
theorem eM_vM {v : V} (h : v ∈ eM) : v ∈ vM := h
theorem mQ_vM {v : V} (h : v ∈ mQ) : v ∈ vM := h
theorem nh {v : V} (h : v ∈ nM) : v ∈ hM := h
theorem word_due (s : V) (_ : s ∈ sM) (l : V) (_ : l ∈ nM) (m : V) (_ : m ∈ nM) (h : oDue s l m = none) : s = .str (strV s) ∧ scal m (.int 0) = true ∧ (scal s s && (scal l l && scal m m)) = true := by
  obtain ⟨h1, h2⟩ := oDue_none h
  obtain ⟨z, rfl⟩ := sBad_str h1
  obtain ⟨⟨i, rfl, _⟩, rfl | ⟨j, rfl, _⟩⟩ := bDue_none h2 <;> exact ⟨rfl, rfl, rfl⟩
theorem num_due (l : V) (hl : l ∈ nM) (m : V) (hm : m ∈ hM) (h : bDue l m = none) : l = .int (intV l) ∧ (m = .non ∨ m = .int (intV m)) ∧ 0 ≤ intV l ∧ intV l ≤ 999999999 ∧ 0 ≤ intV m ∧ intV m ≤ 999999999 ∧ (scal l l && scal m m) = true := by
  obtain ⟨⟨i, rfl, hi⟩, rfl | ⟨j, rfl, hj⟩⟩ := bDue_none h
  · exact ⟨rfl, .inl rfl, hi, hl.2 i rfl, Int.le_refl _, by decide, rfl⟩
  · exact ⟨rfl, .inr rfl, hi, hl.2 i rfl, hj, hm.2 j rfl, rfl⟩
theorem fix_due (w : V) (h : w ∈ wM) (_ : wDue w = none) : scal w w = true := by
  obtain ⟨i, rfl, _⟩ := h
  rfl
theorem lx_bad {x : LX} (hx : x ∈ lM) (h : lxDue x = none) : x.els.all areB = true ∧ x.els ≠ [] := by
  obtain ⟨k, _⟩ := hx
  have z : (if (decide (x.els.length = 0) || xsBad x.els) = true then (some "texts" : Option Str) else none) = none := by
    rcases k with k | k <;> (rw [k] at h ⊢; exact h)
  split at z
  · cases z
  · rename_i h1
    refine ⟨?_, fun e => h1 (by rw [e]; rfl)⟩
    cases q : x.els.all areB with
    | true => rfl
    | false => exact absurd (by unfold xsBad; rw [q]; show (_ || (true || _)) = true; rw [Bool.true_or, Bool.or_true]) h1
theorem are_str {v : V} (h : areB v = true) : v = .str (strV v) := by
  cases v with
  | str z => rfl
  | _ => cases h
theorem lst_due (x : LX) (hx : x ∈ lM) (h : lxDue x = none) : (∀ v ∈ x.els, v = .str (strV v)) ∧ x.els.length ≤ 20 ∧ x.els ≠ [] := by
  obtain ⟨h1, h2⟩ := lx_bad hx h
  exact ⟨fun v hv => are_str (List.all_eq_true.mp h1 v hv), hx.2.1, h2⟩
theorem lst_are (x : LX) (hx : x ∈ lM) (h : lxDue x = none) : x.els.all areB = true := (lx_bad hx h).1
theorem end_due (s : V) (_ : s ∈ sM) (e : V) (_ : e ∈ eM) (l : V) (_ : l ∈ nM) (m : V) (_ : m ∈ nM) (h : eDue s e l m = none) : s = .str (strV s) ∧ e = .str ⟨#[(strV e).cps.getD 0 0]⟩ ∧ scal m (.int 0) = true ∧ (scal s s && (scal e e && (scal l l && scal m m))) = true := by
  obtain ⟨h1, h2, h3⟩ := eDue_none h
  obtain ⟨z, rfl⟩ := sBad_str h1
  have ee := (sign_one h2).1
  refine ⟨rfl, ee, ?_⟩
  rw [ee]
  obtain ⟨⟨i, rfl, _⟩, rfl | ⟨j, rfl, _⟩⟩ := bDue_none h3 <;> exact ⟨rfl, rfl⟩
theorem nM_flat (v : V) (h : v ∈ hM) : flatV v = true := h.1
theorem wM_flat (v : V) (h : v ∈ wM) : flatV v = true := by
  obtain ⟨i, rfl, _⟩ := h
  rfl
theorem lM_vM (x : LX) (h : x ∈ lM) : (∀ v ∈ x.els, v ∈ vM) ∧ x.els.length ≤ 20 := ⟨h.2.2.1, h.2.1⟩
theorem lM_val (x : LX) (h : x ∈ lM) : x = .val (.str "ab") ∨ x = .val .non ∨ (x = .lst x.els ∨ x = .tup x.els) := .inr (.inr h.1)
theorem eM_one (e : V) (_ : e ∈ eM) (h : isSignB e = true) : e = .str ⟨#[(strV e).cps.getD 0 0]⟩ := (sign_one h).1
theorem sM_str (s : V) (_ : s ∈ sM) (h : sBad s = false) : s = .str (strV s) := by
  obtain ⟨z, rfl⟩ := sBad_str h
  rfl
theorem mQ_one (v : V) (_ : v ∈ mQ) (h : isSignB v = true) : v = .str ⟨#[(strV v).cps.getD 0 0]⟩ ∧ True := sign_one h
theorem lM_shaped (x : LX) (hx : x ∈ lM) (h : lxDue x = none) : x.els.all flatV = true ∧ SeqAt.shaped (.tuple (x.els.map dV)) = true :=
  ⟨List.all_eq_true.mpr fun v hv => (hx.2.2.1 v hv).1, hx.2.2.2⟩
theorem word_all (s : V) (_ : s ∈ sM) (l : V) (_ : l ∈ nM) (m : V) (_ : m ∈ nM) (h : oDue s l m = none) : s = .str (strV s) ∧ l = .int (intV l) ∧ (m = .non ∨ m = .int (intV m)) := by
  obtain ⟨h1, h2⟩ := oDue_none h
  obtain ⟨z, rfl⟩ := sBad_str h1
  obtain ⟨⟨i, rfl, _⟩, rfl | ⟨j, rfl, _⟩⟩ := bDue_none h2
  · exact ⟨rfl, rfl, .inl rfl⟩
  · exact ⟨rfl, rfl, .inr rfl⟩
theorem end_all (s : V) (_ : s ∈ sM) (e : V) (_ : e ∈ eM) (l : V) (_ : l ∈ nM) (m : V) (_ : m ∈ nM) (h : eDue s e l m = none) : s = .str (strV s) ∧ e = .str (strV e) ∧ l = .int (intV l) ∧ (m = .non ∨ m = .int (intV m)) ∧ (strV e).length ≤ 10 := by
  obtain ⟨h1, h2, h3⟩ := eDue_none h
  obtain ⟨z, rfl⟩ := sBad_str h1
  have ee := (sign_one h2).1
  have el : (strV e).length ≤ 10 := by rw [ee]; show 1 ≤ 10; decide
  have e2 : e = .str (strV e) := by
    cases e with
    | str y => rfl
    | _ => cases h2
  obtain ⟨⟨i, rfl, _⟩, rfl | ⟨j, rfl, _⟩⟩ := bDue_none h3
  · exact ⟨rfl, e2, rfl, .inl rfl, el⟩
  · exact ⟨rfl, e2, rfl, .inr rfl, el⟩
end L2.K79

set_option Elab.async false
set_option linter.all false
set_option maxRecDepth 100000
set_option maxHeartbeats 4000000
/-! Things that may be asked for their class: flat values, lists, tuples, dicts. -/
namespace L2.Jk
open PySem PySem.W PySem.Spec PySem.Calls PyProof.Rows
def Thg (H : Hp) (v : V) : Prop := flatV v = true ∨ ∃ p, v = .ref p ∧ ((∃ xs, H p = some (.lst xs)) ∨ (∃ xs, H p = some (.tup xs)) ∨ ∃ kvs, H p = some (.dK kvs))
theorem Thg.same {H H' : Hp} {v : V} (S : Same H H') : Thg H v → Thg H' v
  | .inl h => .inl h
  | .inr ⟨p, e, .inl ⟨xs, h⟩⟩ => .inr ⟨p, e, .inl ⟨xs, S _ _ h⟩⟩
  | .inr ⟨p, e, .inr (.inl ⟨xs, h⟩)⟩ => .inr ⟨p, e, .inr (.inl ⟨xs, S _ _ h⟩)⟩
  | .inr ⟨p, e, .inr (.inr ⟨xs, h⟩)⟩ => .inr ⟨p, e, .inr (.inr ⟨xs, S _ _ h⟩)⟩
theorem thg_ty {K : Frag} {H : Hp} {v : V} (h : Thg H v) : ∃ T : String, TyE K H v (.type T) ∧ kitB T "str" = some (isStr v) ∧ kitB T "int" = some (isInt v) ∧ kitB T "bool" = some (isBl v) := by
  rcases h with h | ⟨p, rfl, ⟨xs, h⟩ | ⟨xs, h⟩ | ⟨kvs, h⟩⟩
  · exact ⟨_, flat_ty h, kit_str h, kit_int h, kit_bool h⟩
  · exact ⟨"list", .x (.base (.lst h)), by show kitB "list" "str" = some false; decide +kernel, by show kitB "list" "int" = some false; decide +kernel, by show kitB "list" "bool" = some false; decide +kernel⟩
  · exact ⟨"tuple", .x (.base (.tup h)), by show kitB "tuple" "str" = some false; decide +kernel, by show kitB "tuple" "int" = some false; decide +kernel, by show kitB "tuple" "bool" = some false; decide +kernel⟩
  · exact ⟨"dict", .x (.base (.dK h)), by show kitB "dict" "str" = some false; decide +kernel, by show kitB "dict" "int" = some false; decide +kernel, by show kitB "dict" "bool" = some false; decide +kernel⟩
end L2.Jk

set_option Elab.async false
set_option linter.all false
set_option maxRecDepth 100000
set_option maxHeartbeats 4000000
namespace L2.K79
open PySem PySem.W PySem.Spec PySem.Calls PyProof.Rows L2.Jk



/-! ### the law's own numbers: a list of three -/
def StAt (H : Hp) (a : Addr) : Prop := ∃ p q r : Int, H a = some (.lst [.int p, .int q, .int r]) ∧ 0 ≤ p ∧ 0 ≤ q ∧ q < 2147483700 ∧ 0 ≤ r
def spSource : Sp := fun vs H Q _ => ∃ n : Int, vs = [.int n] ∧ ∀ a H', H a = none → Same H H' → StAt H' a → Q (.ref a) H'
def spDraw : Sp := fun vs H Q _ => ∃ (a : Addr) (b : Int), vs = [.ref a, .int b] ∧ StAt H a ∧ 0 < b ∧ b < 1073741824 ∧ ∀ d H', 0 ≤ d → d < b → But a H H' → StAt H' a → Q (.int d) H'
theorem abs_line (n : Int) : 0 ≤ (if n < 0 then -n else n) * (if decide (10 ^ (18 : Int).toNat ≤ (if n < 0 then -n else n)) = true then 1 else 0) := by
  by_cases h : n < 0
  · simp only [if_pos h]
    split <;> omega
  · simp only [if_neg h]
    split <;> omega

structure Bl (mg : Str → Option Value) : Prop where
  abs : mg "abs" = none
  int : mg "int" = none
  bool : mg "bool" = none
  isinstance : mg "isinstance" = none
  range : mg "range" = none
  len : mg "len" = none
  set : mg "set" = none
  type : mg "type" = none
  str : mg "str" = none
  reversed : mg "reversed" = none
  tuple : mg "tuple" = none
  list : mg "list" = none
  any : mg "any" = none
  all : mg "all" = none

theorem bit_line (c : Prop) [Decidable c] : -(2 ^ 64) < (if c then (1 : Int) else 0) ∧ (if c then (1 : Int) else 0) < 2 ^ 64 := by
  split <;> exact ⟨by decide, by decide⟩
/-- the module's own names, the error class -/
structure G0 (P : Program) (w : World) (K : Frag) (mg : Str → Option Value) (base : Heap) : Prop extends Bl mg where
  sg : ∃ t, mg "SIGNS" = some (.str SG t)
  dgs : ∃ t, mg "DIGITS" = some (.str DG t)
  bf : ErrAt P w K mg base "BadField" (He.ga K "BadField") ["what"] "refused badfield"
section
variable {P : Program} {w : World} {K : Frag} {mg : Str → Option Value} {base : Heap} {f : Addr} {fd : FuncData}

theorem pe_sg {X : Cx} {x : Str} {z : Str} {pos : Pos} (h : ∃ t, X.mg x = some (.str z t)) (hg : Gl X x := by rfl) (hd : (x == ("__debug__" : Str)) = false := by decide) : PE X (.Name x pos) (tC (.str z)) := by
  obtain ⟨t, h⟩ := h
  exact pe_glob (v := .str z) hg h ⟨t, rfl⟩ hd

def spMade : Sp := fun vs H Q _ => ∃ a b : Str, vs = [.str a, .str b] ∧ a.length ≤ 1000 ∧ Q (.bl (madeB a b)) H
def spV (p : V → Bool) : Sp := fun vs H Q _ => ∃ v : V, vs = [v] ∧ v ∈ vM ∧ Q (.bl (p v)) H
def spNumT : Sp := fun vs H Q _ => ∃ v : V, vs = [v] ∧ Thg H v ∧ Q (.bl (numB v)) H
def spNum : Sp := fun vs H Q _ => ∃ v : V, vs = [v] ∧ flatV v = true ∧ Q (.bl (numB v)) H
def spDig : Sp := fun vs H Q _ => ∃ n : Int, vs = [.int n] ∧ 0 ≤ n ∧ n < 1000000000000 ∧ ∀ H', Same H H' → Q (.str (dg n)) H'
theorem small_line (z : Str) (h : z.length ≤ 1000) : z.length ≤ sizeLine := by
  rw [sizeLine_eq]
  omega

abbrev s_source : Stmt := top 45
theorem sc_source : FnScope ["_law_cell"] ["_law_cell"] (defScope s_source) := ⟨rfl, rfl, rfl, by decide +kernel, rfl, by decide +kernel, by decide +kernel⟩

theorem ok_source (F : FunD K "_law_source" "_law_source" (defArgs s_source) (defBody s_source) (defScope s_source) [] [] f fd) (G : Bl mg) : FnOk P w K mg base CX0 1 f fd ["_law_cell"] spSource := by
  refine F.ok (CX := CX0) sc_source (fun vs H Q E h => ?_) (fun cdv A outer s H vs Q E hr h => ?_)
  · obtain ⟨n, rfl, _⟩ := h
    rfl
  · refine ⟨_, PSs.nox (pss_one (ps_ret (pe_lstS (pa_cons (pe_op op_mul (pe_callB call_abs (by rfl) G.abs (by decide +kernel) (pa_cons (pv 0) pa_nil)) (pe_callTy call_int1 (by rfl) G.int (by decide +kernel) (pa_cons (pe_cmpR op_ge (pe_callB call_abs (by rfl) G.abs (by decide +kernel) (pa_cons (pv 0) pa_nil)) (pe_op op_pow pe_int pe_int) (nomark _)) pa_nil))) (pa_cons (pe_op op_mod (pe_callTy call_int1 (by rfl) G.int (by decide +kernel) (pa_cons (pv 0) pa_nil)) pe_int) (pa_cons pe_int pa_nil)))))), ?_⟩
    obtain ⟨n, rfl, q⟩ := h
    refine ⟨_, rfl, n, rfl, ?_⟩
    refine ⟨_, rfl, n, rfl, _, _, rfl, rfl, ⟨by decide, by decide, by decide⟩, _, _, rfl, rfl, .inr ⟨_, rfl, ?_⟩⟩
    refine ⟨_, _, rfl, rfl, .inr (bit_line _), _, rfl, .inl ⟨_, rfl, _, _, rfl, rfl, (by show (0 : Int) < 2147483629; decide), ?_⟩⟩
    refine ⟨by show 3 ≤ 1000; decide, fun p H' hp S e => q p H' hp S ⟨_, _, _, e, abs_line n, ?_, ?_, by decide⟩⟩
    · exact Int.emod_nonneg _ (by decide)
    · have := Int.emod_lt_of_pos n (show (0 : Int) < 2147483629 by decide)
      omega

abbrev s_draw : Stmt := top 46
theorem sc_draw : FnScope ["_law_source_here", "_law_many", "_law_found", "_law_mixed"] ["_law_source_here", "_law_many"] (defScope s_draw) := ⟨rfl, rfl, rfl, by decide +kernel, rfl, by decide +kernel, by decide +kernel⟩

theorem ok_draw (F : FunD K "_law_draw" "_law_draw" (defArgs s_draw) (defBody s_draw) (defScope s_draw) [] [] f fd) (G : Bl mg) : FnOk P w K mg base CX0 1 f fd ["_law_source_here", "_law_many"] spDraw := by
  refine F.ok (CX := CX0) sc_draw (fun vs H Q E h => ?_) (fun cdv A outer s H vs Q E hr h => ?_)
  · obtain ⟨a, b, rfl, _⟩ := h
    rfl
  · refine ⟨_, PSs.nox (pss_cons (ps_if (pt_cmpR op_gt (pe_ix ix_list (pv 0) pe_int (fun _ _ => rfl)) pe_int (nomark _))
      (pss_cons (ps_set (i := 2) sc_draw.nd rfl (Or.inl rfl) (pe_op op_mod (pe_callTy call_int1 (by rfl) G.int (by decide +kernel) (pa_cons (pe_ix ix_list (pv 0) pe_int (fun _ _ => rfl)) pa_nil)) (pv 1)))
      (pss_cons (ps_asg (pe_op op_fdiv (pe_ix ix_list (pv 0) pe_int (fun _ _ => rfl)) (pv 1)) (pg_sub (pv 0) pe_int set_list))
      (pss_one (ps_ret (pv 2)))))
      pss_nil)
    (pss_cons (ps_asg (pe_op op_add (pe_ix ix_list (pv 0) pe_int (fun _ _ => rfl)) pe_int) (pg_sub (pv 0) pe_int set_list))
    (pss_cons (ps_set (i := 3) sc_draw.nd rfl (Or.inl rfl) (pe_op op_mod (pe_callTy call_int1 (by rfl) G.int (by decide +kernel) (pa_cons (pe_op op_mul (pe_op op_add (pe_op op_add (pe_ix ix_list (pv 0) pe_int (fun _ _ => rfl)) (pe_op op_mul pe_int (pe_ix ix_list (pv 0) pe_int (fun _ _ => rfl)))) pe_int) pe_int) pa_nil)) pe_int))
    (pss_cons (ps_set (i := 3) sc_draw.nd rfl (Or.inl rfl) (pe_op op_mod (pe_callTy call_int1 (by rfl) G.int (by decide +kernel) (pa_cons (pe_op op_mul (pv 3) (pe_op op_add (pe_op op_add (pe_op op_fdiv (pv 3) pe_int) pe_int) (pe_ix ix_list (pv 0) pe_int (fun _ _ => rfl)))) pa_nil)) pe_int))
    (pss_one (ps_ret (pe_op op_mod (pe_callTy call_int1 (by rfl) G.int (by decide +kernel) (pa_cons (pe_op op_fdiv (pe_op op_mod (pe_callTy call_int1 (by rfl) G.int (by decide +kernel) (pa_cons (pe_op op_mul (pv 3) (pe_op op_add (pe_op op_fdiv (pv 3) pe_int) pe_int)) pa_nil)) pe_int) pe_int) pa_nil)) (pv 1)))))))), ?_⟩
    obtain ⟨a, b, rfl, ⟨x, y, z, ha, hx, hy, hy2, hz⟩, hb, hb2, q⟩ := h
    refine ⟨_, rfl, _, _, _, _, rfl, rfl, SqL.of ha, atI_nat (j := 0) rfl, _, _, rfl, rfl, _, rfl, ?_⟩
    refine ite2 (fun h0 => ?_) (fun h0 => ?_)
    · refine ⟨_, rfl, _, _, _, _, rfl, rfl, SqL.of ha, atI_nat (j := 0) rfl, .inl ⟨_, rfl, _, rfl, _, _, rfl, rfl, hb, ?_⟩⟩
      refine ⟨_, rfl, _, _, _, _, rfl, rfl, SqL.of ha, atI_nat (j := 0) rfl, _, rfl, _, _, rfl, rfl, ⟨hb, hb2⟩, ?_⟩
      refine ⟨_, rfl, _, _, _, 0, rfl, rfl, ha, rfl, ?_⟩
      refine ⟨_, rfl, q _ _ (Int.emod_nonneg _ (by omega)) (Int.emod_lt_of_pos _ hb) (but_upd _ _ _) ⟨_, _, _, upd_same, Int.ediv_nonneg hx (by omega), hy, hy2, hz⟩⟩
    · refine ⟨_, rfl, _, _, _, _, rfl, rfl, SqL.of ha, atI_nat (j := 2) rfl, _, _, rfl, rfl, ?_⟩
      refine ⟨_, rfl, _, _, _, 2, rfl, rfl, ha, rfl, ?_⟩
      obtain ⟨H1, e1⟩ : ∃ H1, upd H a (.lst ([V.int x, V.int y, V.int z].set 2 (V.int (z + 1)))) = H1 := ⟨_, rfl⟩
      have ha1 : H1 a = some (.lst [.int x, .int y, .int (z + 1)]) := by rw [← e1, upd_same]; rfl
      rw [e1]
      refine ⟨_, rfl, _, _, _, _, rfl, rfl, SqL.of ha1, atI_nat (j := 1) rfl, _, rfl, _, _, _, _, rfl, rfl, SqL.of ha1, atI_nat (j := 2) rfl, _, _, rfl, rfl, .inl ⟨by decide, by decide⟩, _, _, rfl, rfl, _, _, rfl, rfl, _, _, rfl, rfl, .inr ⟨by decide, by decide⟩, .inl ⟨_, rfl, _, _, rfl, rfl, (by show (0 : Int) < 2147483647; decide), ?_⟩⟩
      have k1 := Int.emod_nonneg ((y + 104729 * (z + 1) + 11) * 48271) (show (2147483647 : Int) ≠ 0 by decide)
      have k2 := Int.emod_lt_of_pos ((y + 104729 * (z + 1) + 11) * 48271) (show (0 : Int) < 2147483647 by decide)
      refine ⟨_, rfl, _, rfl, _, _, rfl, rfl, ⟨by decide, by decide⟩, _, _, rfl, rfl, _, rfl, _, _, _, _, rfl, rfl, SqL.of ha1, atI_nat (j := 2) rfl, _, _, rfl, rfl, _, _, rfl, rfl, .inl ⟨by omega, by omega⟩, .inl ⟨_, rfl, _, _, rfl, rfl, (by show (0 : Int) < 2147483587; decide), ?_⟩⟩
      have k3 := Int.emod_nonneg ((((y + 104729 * (z + 1) + 11) * 48271) % 2147483647) * ((((y + 104729 * (z + 1) + 11) * 48271) % 2147483647) / 1009 + 69621 + (z + 1))) (show (2147483587 : Int) ≠ 0 by decide)
      have k4 := Int.emod_lt_of_pos ((((y + 104729 * (z + 1) + 11) * 48271) % 2147483647) * ((((y + 104729 * (z + 1) + 11) * 48271) % 2147483647) / 1009 + 69621 + (z + 1))) (show (0 : Int) < 2147483587 by decide)
      refine ⟨_, rfl, _, rfl, _, _, rfl, rfl, ⟨by decide, by decide⟩, _, _, rfl, rfl, _, _, rfl, rfl, .inl ⟨by omega, by omega⟩, .inl ⟨_, rfl, _, _, rfl, rfl, (by show (0 : Int) < 2147483563; decide), _, _, rfl, rfl, ⟨by decide, by decide⟩, .inl ⟨_, rfl, _, rfl, _, _, rfl, rfl, hb, ?_⟩⟩⟩
      refine q _ _ (Int.emod_nonneg _ (by omega)) (Int.emod_lt_of_pos _ hb) ?_ ⟨_, _, _, ha1, hx, hy, hy2, by omega⟩
      rw [← e1]
      exact but_upd _ _ _

abbrev s_made_of : Stmt := top 11
theorem sc_made_of : FnScope ["text", "signs"] ["text", "signs"] (defScope s_made_of) := ⟨rfl, rfl, rfl, by decide +kernel, rfl, by decide +kernel, by decide +kernel⟩

theorem ok_made_of (F : FunD K "is_made_of" "is_made_of" (defArgs s_made_of) (defBody s_made_of) (defScope s_made_of) [] [] f fd) (G : G0 P w K mg base) : FnOk P w K mg base CX0 1 f fd ["text", "signs"] spMade := by
  refine F.ok (CX := CX0) sc_made_of (fun vs H Q E h => ?_) (fun cdv A outer s H vs Q E hr h => ?_)
  · obtain ⟨a, b, rfl, _⟩ := h
    rfl
  · refine ⟨_, PSs.nox (pss_one (ps_ret (pe_cmpR op_eq (pe_bm PySem.F.plainAttrs_str PySem.F.slot_str_strip PySem.F.type_str_strip mt_stripChars (pv 0) (pa_cons (pv 1) pa_nil)) pe_str (nomark _)))), ?_⟩
    obtain ⟨a, b, rfl, hz, q⟩ := h
    exact ⟨_, rfl, rfl, _, rfl, a, b, rfl, rfl, small_line a hz, rfl, q⟩

abbrev s_is_sign : Stmt := top 12
theorem sc_is_sign : FnScope ["thing"] ["thing"] (defScope s_is_sign) := ⟨rfl, rfl, rfl, by decide +kernel, rfl, by decide +kernel, by decide +kernel⟩

theorem ok_is_sign (F : FunD K "is_sign" "is_sign" (defArgs s_is_sign) (defBody s_is_sign) (defScope s_is_sign) [] [] f fd) (G : G0 P w K mg base) : FnOk P w K mg base CX0 1 f fd ["thing"] (spV isSignB) := by
  refine F.ok (CX := CX0) sc_is_sign (fun vs H Q E h => ?_) (fun cdv A outer s H vs Q E hr h => ?_)
  · obtain ⟨v, rfl, _⟩ := h
    rfl
  · refine ⟨_, PSs.nox (pss_one (ps_ret (pe_and (pe_callB call_ie (by rfl) G.isinstance (by decide +kernel) (pa_cons (pv 0) (pa_cons (pe_bty (n := "str") (by rfl) G.str (by decide +kernel)) pa_nil))) (pe_and (pe_cmpR op_eq (pe_callB call_len_str (by rfl) G.len (by decide +kernel) (pa_cons (pv 0) pa_nil)) pe_int (nomark _)) (pe_one (pe_cmpR op_in_sign (pv 0) (pe_sg G.sg) (by rfl))))))), ?_⟩
    obtain ⟨v, rfl, hv, q⟩ := h
    obtain ⟨hf, _, _, hz⟩ := vM_facts v hv
    refine ⟨_, rfl, _, _, _, _, _, rfl, .ty _, flat_ty hf, kit_ty (kit_str hf), _, rfl, ?_⟩
    cases v with
    | str z =>
      refine iteT ⟨_, rfl, z, rfl, small_line z (Nat.le_trans hz (by decide)), rfl, _, rfl, ?_⟩
      refine ite2 (fun h1 => ?_) (fun h1 => ?_)
      · have h1' : z.length = 1 := by have := of_decide_eq_true h1; simp at this; omega
        have e := one_sign (.str z) hv h1'
        refine ⟨_, rfl, _, SG, e, rfl, ?_⟩
        have r : isSignB (.str z) = decide (z.cps.getD 0 0 ∈ SG.cps.toList) := by show ((z.length == 1) && inB z SG) = _; rw [h1']; rfl
        rw [r] at q
        exact q
      · have h1' : z.length ≠ 1 := fun e => h1 (by rw [e]; rfl)
        have r : isSignB (.str z) = false := by show ((z.length == 1) && inB z SG) = _; rw [beq_eq_false_iff_ne.mpr h1']; rfl
        rw [r] at q
        exact q
    | non => exact iteF q
    | bl b => exact iteF q
    | int i => exact iteF q
    | _ => cases hf

abbrev s_is_numberT : Stmt := top 15
theorem sc_is_numberT : FnScope ["thing"] ["thing"] (defScope s_is_numberT) := ⟨rfl, rfl, rfl, by decide +kernel, rfl, by decide +kernel, by decide +kernel⟩

theorem ok_is_numberT (F : FunD K "is_number" "is_number" (defArgs s_is_numberT) (defBody s_is_numberT) (defScope s_is_numberT) [] [] f fd) (G : G0 P w K mg base) : FnOk P w K mg base CX0 1 f fd ["thing"] spNumT := by
  refine F.ok (CX := CX0) sc_is_numberT (fun vs H Q E h => ?_) (fun cdv A outer s H vs Q E hr h => ?_)
  · obtain ⟨v, rfl, _⟩ := h
    rfl
  · refine ⟨_, PSs.nox (pss_one (ps_ret (pe_and (pe_callB call_ie (by rfl) G.isinstance (by decide +kernel) (pa_cons (pv 0) (pa_cons (pe_bty (n := "int") (by rfl) G.int (by decide +kernel)) pa_nil))) (pe_one (pe_not (pe_callB call_ie (by rfl) G.isinstance (by decide +kernel) (pa_cons (pv 0) (pa_cons (pe_bty (n := "bool") (by rfl) G.bool (by decide +kernel)) pa_nil)))))))), ?_⟩
    obtain ⟨v, rfl, hf, q⟩ := h
    obtain ⟨T, ty, ks, ki, kb⟩ := thg_ty (K := K) hf
    refine ⟨_, rfl, _, _, _, _, _, rfl, .ty _, ty, kit_ty ki, _, rfl, ?_⟩
    cases v with
    | bl b => exact iteT ⟨_, rfl, _, _, _, _, _, rfl, .ty _, ty, kit_ty kb, _, rfl, q⟩
    | int i => exact iteT ⟨_, rfl, _, _, _, _, _, rfl, .ty _, ty, kit_ty kb, _, rfl, q⟩
    | _ => exact iteF q

theorem ok_is_number (F : FunD K "is_number" "is_number" (defArgs s_is_numberT) (defBody s_is_numberT) (defScope s_is_numberT) [] [] f fd) (G : G0 P w K mg base) : FnOk P w K mg base CX0 1 f fd ["thing"] spNum := (ok_is_numberT F G).imp fun vs H Q E ⟨v, e, h, q⟩ => ⟨v, e, .inl h, q⟩
theorem dg_is (n : Int) : dg n = (toString n : Str) := rfl
theorem dg_len12 {n : Nat} (h : n < 1000000000000) : (dg (n : Nat)).length ≤ 12 := toString_length_le (Int.natCast_nonneg n) (by decide) (by show (n : Int) < 1000000000000; omega)
theorem dg_log {n : Nat} (h : n < 1000000000000) : (n : Int).natAbs.log2 < 1920 := by
  have h : (n : Int).natAbs < 2 ^ 40 := by show n < 1099511627776; omega
  by_cases h0 : (n : Int).natAbs = 0
  · rw [h0]
    decide
  · have := (Nat.log2_lt h0).mpr h
    omega
theorem dg_ok {n : Nat} (h : n < 1000000000000) : JoinOk "" [(toString (n : Int) : Str)] = true := by
  have := dg_len12 h
  rw [dg_is] at this
  show (!decide (0 + (toString (n : Int) : Str).length + 0 > 2 ^ 24)) = true
  rw [decide_eq_false (by omega)]
  rfl

abbrev s_digits_of : Stmt := top 17
theorem sc_digits_of : FnScope ["number", "limit", "pieces", "piece"] ["number"] (defScope s_digits_of) := ⟨rfl, rfl, rfl, by decide +kernel, rfl, by decide +kernel, by decide +kernel⟩

theorem ok_digits_of (F : FunD K "digits_of" "digits_of" (defArgs s_digits_of) (defBody s_digits_of) (defScope s_digits_of) [] [] f fd) (G : G0 P w K mg base) : FnOk P w K mg base CX0 1 f fd ["number"] spDig := by
  refine F.ok (CX := CX0) sc_digits_of (fun vs H Q E h => ?_) (fun cdv A outer s H vs Q E hr h => ?_)
  · obtain ⟨n, rfl, _⟩ := h
    rfl
  · refine ⟨_, PSs.nox (pss_cons (ps_set (i := 1) sc_digits_of.nd rfl (Or.inl rfl) (pe_op op_pow pe_int pe_int))
    (pss_cons (ps_set (i := 2) sc_digits_of.nd rfl (Or.inl rfl) (pe_lstS pa_nil))
    (pss_cons (ps_while PassesOwn.never (pt_cmpR op_ge (pv 0) (pv 1) (nomark _)) pss_never)
    (pss_cons (ps_expr (pe_bm PySem.F.plainAttrs_list PySem.F.slot_list_append PySem.F.type_list_append mt_append (pv 2) (pa_cons (pe_callTy call_str_int (by rfl) G.str (by decide +kernel) (pa_cons (pv 0) pa_nil)) pa_nil)))
    (pss_one (ps_ret (pe_joinRev rfl (by rfl) G.reversed pe_str (pv 2)))))))), ?_⟩
    obtain ⟨n, rfl, h0, h1, q⟩ := h
    obtain ⟨k, rfl⟩ : ∃ k : Nat, n = (k : Int) := ⟨n.toNat, by omega⟩
    have hk : k < 1000000000000 := by omega
    refine ⟨_, _, rfl, rfl, ⟨by decide, by decide, by decide⟩, ?_⟩
    refine ⟨by show 0 ≤ 1000; decide, fun p H1 hp S e => ?_⟩
    refine ⟨fun m σ' H' => m = 0 ∧ σ' = [some (.int (k : Int)), some (.int (10 ^ (64 : Int).toNat)), some (.ref p), none] ∧ H' = H1, ⟨0, rfl, rfl, rfl⟩, ?_⟩
    rintro m σ' H' ⟨rfl, rfl, rfl⟩
    refine ⟨_, rfl, _, rfl, _, _, rfl, rfl, _, rfl, ?_⟩
    refine ite2 (fun hf => ?_) (fun _ => ?_)
    · have z := of_decide_eq_true hf
      have e : (10 : Int) ^ (64 : Int).toNat = 10000000000000000000000000000000000000000000000000000000000000000 := by decide +kernel
      rw [e] at z
      omega
    refine ⟨_, rfl, .inl ⟨rfl, _, SqL.of e⟩, _, rfl, _, rfl, dg_log hk, p, _, _, rfl, rfl, e, (by rw [sizeLine_eq]; decide), ?_⟩
    refine ⟨_, rfl, _, rfl, p, [(toString (k : Int) : Str)], rfl, SqL.of upd_same, dg_ok hk, ?_⟩
    exact q _ (same_put S hp)

structure G1 (P : Program) (w : World) (K : Frag) (mg : Str → Option Value) (base : Heap) : Prop extends G0 P w K mg base where
  is_made_of : FnAt P w K mg base CX0 1 "is_made_of" ["text", "signs"] spMade
  is_sign : FnAt P w K mg base CX0 1 "is_sign" ["thing"] (spV isSignB)
  is_number : FnAt P w K mg base CX0 1 "is_number" ["thing"] spNum
  digits_of : FnAt P w K mg base CX0 1 "digits_of" ["number"] spDig

abbrev s_are_signs : Stmt := top 13
theorem sc_are_signs : FnScope ["thing"] ["thing"] (defScope s_are_signs) := ⟨rfl, rfl, rfl, by decide +kernel, rfl, by decide +kernel, by decide +kernel⟩

theorem ok_are_signs (F : FunD K "are_signs" "are_signs" (defArgs s_are_signs) (defBody s_are_signs) (defScope s_are_signs) [] [] f fd) (G : G1 P w K mg base) : FnOk P w K mg base CX0 2 f fd ["thing"] (spV areB) := by
  refine F.ok (CX := CX0) sc_are_signs (fun vs H Q E h => ?_) (fun cdv A outer s H vs Q E hr h => ?_)
  · obtain ⟨v, rfl, _⟩ := h
    rfl
  · refine ⟨_, PSs.nox (pss_one (ps_ret (pe_and (pe_callB call_ie (by rfl) G.isinstance (by decide +kernel) (pa_cons (pv 0) (pa_cons (pe_bty (n := "str") (by rfl) G.str (by decide +kernel)) pa_nil))) (pe_one (pe_fn G.is_made_of hr pass0 (by rfl) (pa_cons (pv 0) (pa_cons (pe_sg G.sg) pa_nil))))))), ?_⟩
    obtain ⟨v, rfl, hv, q⟩ := h
    obtain ⟨hf, _, _, hz⟩ := vM_facts v hv
    refine ⟨_, rfl, _, _, _, _, _, rfl, .ty _, flat_ty hf, kit_ty (kit_str hf), _, rfl, ?_⟩
    cases v with
    | str z => exact iteT ⟨_, rfl, z, SG, rfl, Nat.le_trans hz (by decide), q⟩
    | non => exact iteF q
    | bl b => exact iteF q
    | int i => exact iteF q
    | _ => cases hf

structure G2 (P : Program) (w : World) (K : Frag) (mg : Str → Option Value) (base : Heap) : Prop extends G1 P w K mg base where
  are_signs : FnAt P w K mg base CX0 2 "are_signs" ["thing"] (spV areB)
def spChkS (K : Frag) : Sp := fun vs H Q E => ∃ v : V, vs = [v] ∧ v ∈ sM ∧ (sBad v = false → Q .non H) ∧ (sBad v = true → RaiseE (BF K) "what" (.str "signs") H E)
def spChkB (K : Frag) : Sp := fun vs H Q E => ∃ l m : V, vs = [l, m] ∧ flatV l = true ∧ flatV m = true ∧ (bDue l m = none → Q .non H) ∧ (∀ z, bDue l m = some z → RaiseE (BF K) "what" (.str z) H E)

abbrev s_check_signs : Stmt := top 20
theorem sc_check_signs : FnScope ["signs"] ["signs"] (defScope s_check_signs) := ⟨rfl, rfl, rfl, by decide +kernel, rfl, by decide +kernel, by decide +kernel⟩

theorem ok_check_signs (F : FunD K "check_signs" "check_signs" (defArgs s_check_signs) (defBody s_check_signs) (defScope s_check_signs) [] [] f fd) (G : G2 P w K mg base) : FnOk P w K mg base (L2.CX P w) 3 f fd ["signs"] (spChkS K) := by
  refine F.ok (CX := (L2.CX P w)) sc_check_signs (fun vs H Q E h => ?_) (fun cdv A outer s H vs Q E hr h => ?_)
  · obtain ⟨v, rfl, _⟩ := h
    rfl
  · have hr2 : Room 2 _ := hr
    refine ⟨_, (pss_one (ps_if (PW.pt (pw_or (pt_not (pt_val (pe_fn G.are_signs hr2 pass0 (by rfl) (pa_cons (pv 0) pa_nil)))) (pw_or (pt_cmpR op_eq (pv 0) pe_str (nomark _)) (pw_or1 (pt_cmpR op_lt (pe_lenSetStr rfl (by rfl) G.len (by rfl) G.set (pv 0)) (pe_callB call_len_str (by rfl) G.len (by decide +kernel) (pa_cons (pv 0) pa_nil)) (nomark _))))))
      (pss_one (ps_raise rfl (takes_of rfl rfl rfl rfl) (pmk_1 G.bf hr2 (by rfl) (pa_cons pe_str pa_nil))))
      pss_nil)), ?_⟩
    obtain ⟨v, rfl, hv, q1, q2⟩ := h
    obtain ⟨hf, _, _, hz⟩ := vM_facts v (sM_vM hv)
    refine ⟨_, rfl, v, rfl, sM_vM hv, _, rfl, ?_⟩
    have bad : ∀ h : sBad v = true, _ := fun h => mkO_1 (q2 h)
    show if (!areB v) = true then _ else _
    refine ite2 (fun h1 => bad (by show (!areB v || _) = true; rw [h1]; rfl)) (fun h1 => ?_)
    cases v with
    | str z =>
      refine ⟨_, rfl, rfl, _, rfl, ?_⟩
      refine ite2 (fun h2 => bad (by show (_ || (decide _ || _)) = true; rw [h2]; exact Bool.or_true _)) (fun h2 => ?_)
      refine ⟨_, rfl, z, rfl, Nat.le_trans hz (by decide), _, rfl, z, rfl, small_line z (Nat.le_trans hz (by decide)), _, _, rfl, rfl, _, rfl, ?_⟩
      refine ite2 (fun h3 => bad ?_) (fun h3 => q1 ?_)
      · have h4 : twB (.str z) = true := decide_eq_true (by have := of_decide_eq_true h3; omega)
        show (_ || (_ || twB (.str z))) = true
        rw [h4, Bool.or_true, Bool.or_true]
      · have h4 : twB (.str z) = false := decide_eq_false (fun h => h3 (decide_eq_true (by omega)))
        show (!areB (.str z) || (decide (V.str z = .str "") || twB (.str z))) = false
        rw [h4, Bool.eq_false_iff.mpr h1, Bool.eq_false_iff.mpr h2]
        rfl
    | _ => exact absurd rfl h1

abbrev s_check_span : Stmt := top 21
theorem sc_check_span : FnScope ["least", "most"] ["least", "most"] (defScope s_check_span) := ⟨rfl, rfl, rfl, by decide +kernel, rfl, by decide +kernel, by decide +kernel⟩

theorem ok_check_span (F : FunD K "check_span" "check_span" (defArgs s_check_span) (defBody s_check_span) (defScope s_check_span) [] [] f fd) (G : G2 P w K mg base) : FnOk P w K mg base (L2.CX P w) 3 f fd ["least", "most"] (spChkB K) := by
  refine F.ok (CX := (L2.CX P w)) sc_check_span (fun vs H Q E h => ?_) (fun cdv A outer s H vs Q E hr h => ?_)
  · obtain ⟨l, m, rfl, _⟩ := h
    rfl
  · have hr2 : Room 2 _ := hr
    refine ⟨_, (pss_cons (ps_if (PW.pt (pw_or (pt_not (pt_val (pe_fn G.is_number (hr2.mono (by decide)) pass0 (by rfl) (pa_cons (pv 0) pa_nil)))) (pw_or1 (pt_cmpR op_lt (pv 0) pe_int (nomark _)))))
      (pss_one (ps_raise rfl (takes_of rfl rfl rfl rfl) (pmk_1 G.bf hr2 (by rfl) (pa_cons pe_str pa_nil))))
      pss_nil)
    (pss_one (ps_if (PW.pt (pw_and (pt_cmpR op_notN (pv 1) pe_non (nomark _)) (pw_and1 (PW.pt (pw_or (pt_not (pt_val (pe_fn G.is_number (hr2.mono (by decide)) pass0 (by rfl) (pa_cons (pv 1) pa_nil)))) (pw_or1 (pt_cmpR op_lt (pv 1) (pv 0) (nomark _))))))))
      (pss_one (ps_raise rfl (takes_of rfl rfl rfl rfl) (pmk_1 G.bf hr2 (by rfl) (pa_cons pe_str pa_nil))))
      pss_nil))), ?_⟩
    obtain ⟨l, m, rfl, hl, hm, q1, q2⟩ := h
    refine ⟨_, rfl, l, rfl, hl, _, rfl, ?_⟩
    show if (!numB l) = true then _ else _
    refine ite2 (fun h1 => mkO_1 (q2 _ (by show (if (!numB l || _) = true then _ else _) = _; rw [h1]; rfl))) (fun h1 => ?_)
    cases l with
    | int i =>
      refine ⟨_, rfl, _, _, rfl, rfl, _, rfl, ?_⟩
      refine ite2 (fun h2 => mkO_1 (q2 _ (by show (if (_ || decide (i < 0)) = true then _ else _) = _; rw [h2]; rfl))) (fun h2 => ?_)
      refine ⟨_, rfl, rfl, _, rfl, ?_⟩
      have e0 : bDue (.int i) m = if (!decide (m = .non) && (!numB m || ltV m (.int i))) = true then (some "most" : Option Str) else none := by
        show (if (!true || decide (i < 0)) = true then _ else _) = _
        rw [Bool.eq_false_iff.mpr h2]
        rfl
      rw [e0] at q1 q2
      refine ite2 (fun h3 => ?_) (fun h3 => q1 (by rw [Bool.eq_false_iff.mpr h3]; rfl))
      refine ⟨_, rfl, m, rfl, hm, _, rfl, ?_⟩
      show if (!numB m) = true then _ else _
      refine ite2 (fun h4 => mkO_1 (q2 _ (by rw [h3, h4]; rfl))) (fun h4 => ?_)
      cases m with
      | int j =>
        refine ⟨_, rfl, _, rfl, _, _, rfl, rfl, _, rfl, ?_⟩
        refine ite2 (fun h5 => mkO_1 (q2 _ (by show (if (_ && (_ || decide (j < i))) = true then _ else _) = _; rw [h3, h5]; rfl))) (fun h5 => q1 (by show (if (_ && (!true || decide (j < i))) = true then _ else _) = _; rw [h3, Bool.eq_false_iff.mpr h5]; rfl))
      | _ => exact absurd rfl h4
    | _ => exact absurd rfl h1

def spHww (K : Frag) : Sp := fun vs H Q _ => ∃ (a C dx : Addr) (fs : List (Str × V)) (c : Nat) (z : Str) (m : V), vs = [.ref a, .str ⟨#[c]⟩] ∧ H a = some (.ins C dx fs) ∧ Cls K C ∧ NoAttr K C "signs" ∧ NoAttr K C "most" ∧ fs.lookup ("signs" : Str) = some (.str z) ∧ fs.lookup ("most" : Str) = some m ∧
  scal m (.int 0) = true ∧ Q (.bl (wwB (.str z) m ⟨#[c]⟩)) H

abbrev s_has_words : Stmt := top 22
theorem sc_has_words : FnScope ["field", "sign"] ["field", "sign"] (defScope s_has_words) := ⟨rfl, rfl, rfl, by decide +kernel, rfl, by decide +kernel, by decide +kernel⟩

theorem ok_has_words (F : FunD K "has_words_with" "has_words_with" (defArgs s_has_words) (defBody s_has_words) (defScope s_has_words) [] [] f fd) (G : G0 P w K mg base) : FnOk P w K mg base CX0 1 f fd ["field", "sign"] (spHww K) := by
  refine F.ok (CX := CX0) sc_has_words (fun vs H Q E h => ?_) (fun cdv A outer s H vs Q E hr h => ?_)
  · obtain ⟨a, C, dx, fs, c, z, m, rfl, _⟩ := h
    rfl
  · refine ⟨_, PSs.nox (pss_one (ps_ret (pe_and (pe_cmpR op_in_sign (pv 1) (pe_fld (pv 0) rfl) (by rfl)) (pe_one (pe_cmpR op_ne (pe_fld (pv 0) rfl) pe_int (nomark _)))))), ?_⟩
    obtain ⟨a, C, dx, fs, c, z, m, rfl, ha, hC, n1, n2, l1, l2, sc, q⟩ := h
    refine ⟨_, rfl, _, rfl, a, C, dx, fs, _, rfl, ha, hC, n1, l1, c, z, rfl, rfl, _, rfl, ?_⟩
    refine ite2 (fun h1 => ?_) (fun h1 => ?_)
    · refine ⟨_, rfl, a, C, dx, fs, _, rfl, ha, hC, n2, l2, sc, ?_⟩
      have e : wwB (.str z) m ⟨#[c]⟩ = !decide (m = .int 0) := by show (decide (c ∈ z.cps.toList) && _) = _; rw [h1]; rfl
      rw [e] at q
      exact q
    · have e : wwB (.str z) m ⟨#[c]⟩ = false := by show (decide (c ∈ z.cps.toList) && _) = _; rw [Bool.eq_false_iff.mpr h1]; rfl
      rw [e] at q
      exact q

end
end L2.K79

set_option Elab.async false
set_option linter.all false
set_option maxRecDepth 100000
set_option maxHeartbeats 4000000
/-! 'x' * n, n at least 1. -/
namespace L2.Jk
open PySem PySem.W PySem.Spec PySem.Calls PyProof.Rows
def repS (z : Str) (i : Int) : Str := ⟨(List.replicate i.toNat z.cps).foldl (· ++ ·) #[]⟩
/-- it may be done -/
def repOk (z : Str) (i : Int) : Bool := decide (1 ≤ i) && (decide (i < 1000) && (decide (z.length = 1) && (!Builtin.Str.tooLong (z.length * i.toNat) && decide ((repS z i).length ≤ 16777216))))
theorem op_mulStr {X : Cx} : OpR X (binaryOp .Mult) (fun x y H Q => ∃ (z : Str) (i : Int), x = .str z ∧ y = .int i ∧ repOk z i = true ∧ Q (.str (repS z i)) H) := by
  intro pins s σ H x y v u Q I rx ry h
  obtain ⟨z, i, rfl, rfl, ok, q⟩ := h
  obtain ⟨t, rfl⟩ := rx
  obtain ⟨t', rfl⟩ := ry
  obtain ⟨o1, ok⟩ := Bool.and_eq_true_iff.mp ok
  obtain ⟨o2, ok⟩ := Bool.and_eq_true_iff.mp ok
  obtain ⟨o3, ok⟩ := Bool.and_eq_true_iff.mp ok
  obtain ⟨o4, o5⟩ := Bool.and_eq_true_iff.mp ok
  replace o1 := of_decide_eq_true o1
  replace o2 := of_decide_eq_true o2
  replace o3 := of_decide_eq_true o3
  replace o5 := of_decide_eq_true o5
  have e1 : ¬ i < 1 := by omega
  by_cases h1 : i = 1
  · subst h1
    have er : repS z 1 = z := by
      obtain ⟨c⟩ := z
      show (⟨(List.replicate 1 c).foldl (· ++ ·) #[]⟩ : Str) = ⟨c⟩
      simp
    rw [er] at q
    refine P.mul_str (by decide) (fun _ h => absurd h (by simp)) (fun _ h => absurd h (by simp)) ?_
    rw [if_neg e1, if_pos (show ((1 : Int) == 1 || z.length == 0) = true from rfl)]
    exact ⟨.str z, H, I, ⟨t, rfl⟩, q⟩
  have e2 : (i == 1 || z.length == 0) = false := by
    rw [o3, show (i == 1) = false from beq_eq_false_iff_ne.mpr h1]
    rfl
  refine P.mul_str (by rw [decide_eq_false (by omega), decide_eq_false (by omega)]; rfl) (fun _ _ => ?_) (fun _ _ => by rwa [Bool.not_eq_true'] at o4) ?_
  · rw [o3]
    have h2 : (1 : Int) ≤ (2 ^ 63 - 1) / i := Int.le_ediv_of_mul_le (by omega) (by omega)
    omega
  · rw [if_neg e1, e2]
    exact ⟨by rw [sizeLine_eq]; exact o5, ⟨.str _, H, I.tok _, ⟨_, rfl⟩, q⟩⟩
end L2.Jk

set_option Elab.async false
set_option linter.all false
set_option maxRecDepth 100000
set_option maxHeartbeats 4000000
/-! Tuples of which it is known that they have no dict: made, their methods called. -/
namespace L2.Jk
open PySem PySem.W PySem.Spec PySem.Calls PyProof.Rows
/-- at t: a tuple of these items, an object without a dict -/
def TupZ (H : Hp) (t : Addr) (xs : List V) : Prop := ∃ o : Obj, o.cls = .type "tuple" ∧ o.dict = none ∧ H t = some (.frz o (.tup xs))
theorem TupZ.same {H H' : Hp} {t : Addr} {xs : List V} (S : Same H H') (h : TupZ H t xs) : TupZ H' t xs := by
  obtain ⟨o, c, d, e⟩ := h
  exact ⟨o, c, d, S _ _ e⟩
theorem TupZ.sq {K : Frag} {H : Hp} {t : Addr} {xs : List V} (h : TupZ H t xs) : SqT K H t xs := by
  obtain ⟨o, c, d, e⟩ := h
  exact .inl (.inr ⟨o, e⟩)
section
variable {X : Cx}
def rTupZ (K : Frag) : List V → Hp → VK → Prop := fun xs H Q => ∃ p ys, xs = [.ref p] ∧ ((SqL K H p ys ∧ ∀ l H', H l = none → Same H H' → TupZ H' l ys → Q (.ref l) H') ∨ (SqT K H p ys ∧ Q (.ref p) H))
theorem call_tupleZ : CallR X (.type "tuple") (rTupZ X.K) := by
  intro pins s σ H xs us Q I r h
  obtain ⟨p, ys, rfl, h⟩ := h
  obtain ⟨u, rfl, rx⟩ := vals1 r
  cases rx
  rcases h with ⟨hq, q⟩ | ⟨hq, q⟩
  · obtain ⟨its, r', pl, hz⟩ := I.list hq
    have hlen := r'.length
    refine call_tuple_list pl.isList (fun h' kp => ?_) (by simp only [List.size_toArray] <;> omega)
    have I1 : Inv X pins σ H { s with heap := h' } := I.kept (t' := s.toks) kp
    have I2 : Inv X pins σ (upd H h'.objs.size (.frz { cls := .type "tuple", data := .seq its.toArray } (.tup ys))) { s with heap := h'.push { cls := .type "tuple", data := .seq its.toArray } } :=
      I1.laid (t' := s.toks) (fun b o e => Heap.get?_push_of_some _ e) (Nat.le_refl _) ⟨Heap.get?_push_size _ rfl, show ObjOk X.prog X.w _ _ _ (.tup ys) from ⟨hz, its, r', IsTup.new _ _⟩⟩
    have n := I1.hok.fresh (a := h'.objs.size) (Nat.le_refl _)
    exact ⟨.ref h'.objs.size, _, I2, rfl, q _ _ n (same_upd n) ⟨_, rfl, rfl, upd_same⟩⟩
  · obtain ⟨its, r', pl, hz⟩ := I.tuple hq
    exact call_tuple_same pl ⟨.ref p, H, I, rfl, q⟩
/-- a tuple display -/
def tTupZ (t : TA) : TE := fun σ H Q => t σ H fun xs H1 => xs.length ≤ 1000 ∧ ∀ p H', H1 p = none → Same H1 H' → TupZ H' p xs → Q (.ref p) H'
theorem pe_tupZ {es : List Expr} {t : TA} {pos : Pos} {k} (ha : PA X es t) : PE X (.Tuple es k pos) (tTupZ t) := by
  constructor
  intro pins s σ H Q I h
  refine wpAny_Tuple_spliced (thn (ha.run pos pins s σ H _ I h) fun us s1 ⟨xs, H1, I1, r, z, q⟩ => ?_)
  have z' := Nat.le_of_lt (small1000 z)
  have n : H1 s1.heap.objs.size = none := I1.fresh
  refine ⟨by rw [← r.length]; exact z', .ref s1.heap.objs.size, _, I1.laid (t' := s1.toks) (o := .frz { cls := .type "tuple", data := .seq us.toArray } (.tup xs)) (fun b u e => Heap.get?_push_of_some _ e) (Nat.le_refl _) ?_, rfl, q _ _ n (same_upd n) ⟨_, rfl, rfl, upd_same⟩⟩
  exact ⟨Heap.get?_push_size _ rfl, z', us, r, IsTup.new _ _⟩
/-- o.m(e, ..) of such a tuple -/
def tBMZ (r : V → List V → Hp → VK → Prop) (to : TE) (t : TA) : TE := fun σ H Q => to σ H fun x H1 => (∃ p xs, x = .ref p ∧ TupZ H1 p xs) ∧ t σ H1 fun xs H2 => r x xs H2 Q
variable {o e : Expr} {es : List Expr} {to : TE} {t : TA} {name : Str} {apos cpos : Pos} {id : String} {r : V → List V → Hp → VK → Prop}
theorem pe_bmZ (slot : Slot "tuple" name id) (hty : typeOf (.builtin id) = pure (.type "method_descriptor")) (pa : PlainAttrs "tuple") (hm : MtR X id r) (ho : PE X o to) (ha : PA X (e :: es) t)
    (hbase : attributeBase o name X.env (eval o X.env) = eval o X.env := by rfl)
    (hfew : ((backTo cpos (starEach (e :: es) X.env)).all (fun x => !x.1) && (backToKw cpos (keywordEach [] X.env)).all (fun x => x.1.isSome)
      && decide ((e :: es).length + ([] : List Keyword).length + (if ([] : List Keyword).isEmpty then 0 else 1) < 30)) = true := by rfl)
    (hline : (apos.endLine == cpos.line) = true := by rfl) (hs : starEach (e :: es) X.env = (false, eval e X.env) :: starEach es X.env := by rfl) (hplain : (backTo cpos (starEach es X.env)).any (·.1) = false := by rfl) :
    PE X (.Call (.Attribute o name apos) (e :: es) [] cpos) (tBMZ r to t) := by
  refine ⟨fun pins s σ H Q I h => ?_⟩
  refine wpAny_Call_method_late hbase hfew hline rfl (thn (ho.run pins s σ H _ I h) fun v s1 ⟨x, H1, I1, r1, ⟨p, ys, ex, ob, hc, hd, hp⟩, q1⟩ => ?_)
  subst ex
  obtain rfl : v = Value.ref p := r1
  obtain ⟨hg, _⟩ := (show s1.heap.get? p = some ob ∧ ObjOk X.prog X.w H1 s1.heap p (.tup ys) from I1.hok p _ hp)
  refine ⟨"tuple", id, pa, slot, hty, ⟨ob, hg, hc⟩, (fun a e => by cases e; exact ⟨ob, hg, hd⟩), ?_⟩
  have hA := ha.run cpos pins s1 σ H1 _ I1 q1
  rw [hs] at hA ⊢
  refine Calls.callWith_builtin (by show (false || (backTo cpos (starEach es X.env)).any (·.1)) = false; rw [hplain] <;> rfl) (Calls.evalArgs_plain ?_)
  exact thn hA fun us s2 ⟨vs, H2, I2, r2, q2⟩ => hm pins s2 σ H2 (.ref p) vs (.ref p) us Q I2 rfl r2 q2
end
end L2.Jk

set_option Elab.async false
set_option linter.all false
set_option maxRecDepth 100000
set_option maxHeartbeats 4000000
namespace L2.K79
open PySem PySem.W PySem.Spec PySem.Calls PyProof.Rows L2.Jk
section
variable {P : Program} {w : World} {K : Frag} {mg : Str → Option Value} {base : Heap} {f : Addr} {fd : FuncData}

/-- a field class: its name, its attributes -/
structure C0 (K : Frag) (mg : Str → Option Value) (x : Str) (fs : List Str) : Prop where
  mgC : mg x = some (.ref (He.ga K x))
  cl : Cls K (He.ga K x)
  no : ∀ f ∈ fs, NoAttr K (He.ga K x) f

def fWord (s l m : V) : List (Str × V) := (putF "most" m (putF "least" l (putF "signs" s [])))
theorem lWord_signs {s l m : V} : (fWord s l m).lookup ("signs" : Str) = some s := by unfold fWord; rw [lookup_putF, if_neg (by decide +kernel)]; rw [lookup_putF, if_neg (by decide +kernel)]; rw [lookup_putF, if_pos rfl]
theorem lWord_least {s l m : V} : (fWord s l m).lookup ("least" : Str) = some l := by unfold fWord; rw [lookup_putF, if_neg (by decide +kernel)]; rw [lookup_putF, if_pos rfl]
theorem lWord_most {s l m : V} : (fWord s l m).lookup ("most" : Str) = some m := by unfold fWord; rw [lookup_putF, if_pos rfl]
theorem lWord_hs {s l m : V} : (fWord s l m).lookup ("has_sign" : Str) = none := by unfold fWord; rw [lookup_putF, if_neg (by decide +kernel)]; rw [lookup_putF, if_neg (by decide +kernel)]; rw [lookup_putF, if_neg (by decide +kernel)]; rfl
def fNumber (l m : V) : List (Str × V) := (putF "most" m (putF "least" l []))
theorem lNumber_least {l m : V} : (fNumber l m).lookup ("least" : Str) = some l := by unfold fNumber; rw [lookup_putF, if_neg (by decide +kernel)]; rw [lookup_putF, if_pos rfl]
theorem lNumber_most {l m : V} : (fNumber l m).lookup ("most" : Str) = some m := by unfold fNumber; rw [lookup_putF, if_pos rfl]
theorem lNumber_hs {l m : V} : (fNumber l m).lookup ("has_sign" : Str) = none := by unfold fNumber; rw [lookup_putF, if_neg (by decide +kernel)]; rw [lookup_putF, if_neg (by decide +kernel)]; rfl
def fFixed (w : V) : List (Str × V) := (putF "width" w [])
theorem lFixed_width {w : V} : (fFixed w).lookup ("width" : Str) = some w := by unfold fFixed; rw [lookup_putF, if_pos rfl]
theorem lFixed_hs {w : V} : (fFixed w).lookup ("has_sign" : Str) = none := by unfold fFixed; rw [lookup_putF, if_neg (by decide +kernel)]; rfl
def fListed (x : V) : List (Str × V) := (putF "texts" x [])
theorem lListed_texts {x : V} : (fListed x).lookup ("texts" : Str) = some x := by unfold fListed; rw [lookup_putF, if_pos rfl]
theorem lListed_hs {x : V} : (fListed x).lookup ("has_sign" : Str) = none := by unfold fListed; rw [lookup_putF, if_neg (by decide +kernel)]; rfl
def fEnded (s e l m : V) : List (Str × V) := (putF "most" m (putF "least" l (putF "sign" e (putF "signs" s []))))
theorem lEnded_signs {s e l m : V} : (fEnded s e l m).lookup ("signs" : Str) = some s := by unfold fEnded; rw [lookup_putF, if_neg (by decide +kernel)]; rw [lookup_putF, if_neg (by decide +kernel)]; rw [lookup_putF, if_neg (by decide +kernel)]; rw [lookup_putF, if_pos rfl]
theorem lEnded_sign {s e l m : V} : (fEnded s e l m).lookup ("sign" : Str) = some e := by unfold fEnded; rw [lookup_putF, if_neg (by decide +kernel)]; rw [lookup_putF, if_neg (by decide +kernel)]; rw [lookup_putF, if_pos rfl]
theorem lEnded_least {s e l m : V} : (fEnded s e l m).lookup ("least" : Str) = some l := by unfold fEnded; rw [lookup_putF, if_neg (by decide +kernel)]; rw [lookup_putF, if_pos rfl]
theorem lEnded_most {s e l m : V} : (fEnded s e l m).lookup ("most" : Str) = some m := by unfold fEnded; rw [lookup_putF, if_pos rfl]
theorem lEnded_hs {s e l m : V} : (fEnded s e l m).lookup ("has_sign" : Str) = none := by unfold fEnded; rw [lookup_putF, if_neg (by decide +kernel)]; rw [lookup_putF, if_neg (by decide +kernel)]; rw [lookup_putF, if_neg (by decide +kernel)]; rw [lookup_putF, if_neg (by decide +kernel)]; rfl
def fMarked (n k y : V) : List (Str × V) := (putF "field" y (putF "mark" k (putF "none" n [])))
theorem lMarked_none {n k y : V} : (fMarked n k y).lookup ("none" : Str) = some n := by unfold fMarked; rw [lookup_putF, if_neg (by decide +kernel)]; rw [lookup_putF, if_neg (by decide +kernel)]; rw [lookup_putF, if_pos rfl]
theorem lMarked_mark {n k y : V} : (fMarked n k y).lookup ("mark" : Str) = some k := by unfold fMarked; rw [lookup_putF, if_neg (by decide +kernel)]; rw [lookup_putF, if_pos rfl]
theorem lMarked_field {n k y : V} : (fMarked n k y).lookup ("field" : Str) = some y := by unfold fMarked; rw [lookup_putF, if_pos rfl]
theorem lMarked_hs {n k y : V} : (fMarked n k y).lookup ("has_sign" : Str) = none := by unfold fMarked; rw [lookup_putF, if_neg (by decide +kernel)]; rw [lookup_putF, if_neg (by decide +kernel)]; rw [lookup_putF, if_neg (by decide +kernel)]; rfl

/-- the field d stands at a -/
def FieldAt (K : Frag) (H : Hp) (a : Addr) : PD → Prop
  | .word s l m => ∃ dx, H a = some (.ins (He.ga K "Word") dx (fWord s l m))
  | .number l m => ∃ dx, H a = some (.ins (He.ga K "Number") dx (fNumber l m))
  | .fixed w => ∃ dx, H a = some (.ins (He.ga K "Fixed") dx (fFixed w))
  | .listed x => ∃ dx t, H a = some (.ins (He.ga K "Listed") dx (fListed (.ref t))) ∧ TupZ H t x.els
  | .ended s e l m => ∃ dx, H a = some (.ins (He.ga K "Ended") dx (fEnded s e l m))
theorem FieldAt.same {H H' : Hp} {a : Addr} (S : Same H H') : ∀ {d : PD}, FieldAt K H a d → FieldAt K H' a d
  | .word .., ⟨dx, h⟩ => ⟨dx, S _ _ h⟩
  | .number .., ⟨dx, h⟩ => ⟨dx, S _ _ h⟩
  | .fixed _, ⟨dx, h⟩ => ⟨dx, S _ _ h⟩
  | .listed _, ⟨dx, t, h, k⟩ => ⟨dx, t, S _ _ h, k.same S⟩
  | .ended .., ⟨dx, h⟩ => ⟨dx, S _ _ h⟩
/-- of values that are taken -/
structure G3 (P : Program) (w : World) (K : Frag) (mg : Str → Option Value) (base : Heap) : Prop extends G2 P w K mg base where
  check_signs : FnAt P w K mg base (L2.CX P w) 3 "check_signs" ["signs"] (spChkS K)
  check_span : FnAt P w K mg base (L2.CX P w) 3 "check_span" ["least", "most"] (spChkB K)
  has_words_with : FnAt P w K mg base CX0 1 "has_words_with" ["field", "sign"] (spHww K)
  cWord : C0 K mg "Word" ["signs", "least", "most"]
  cNumber : C0 K mg "Number" ["least", "most"]
  cFixed : C0 K mg "Fixed" ["width"]
  cListed : C0 K mg "Listed" ["texts"]
  cEnded : C0 K mg "Ended" ["signs", "sign", "least", "most"]
  cMarked : C0 K mg "Marked" ["none", "mark", "field"]

def spWord (K : Frag) : Sp := fun vs H Q E => ∃ (a dx : Addr) (s l m : V), vs = [.ref a, s, l, m] ∧ H a = some (.ins (He.ga K "Word") dx []) ∧ s ∈ sM ∧ l ∈ nM ∧ m ∈ nM ∧ (oDue s l m = none → Q .non (upd H a (.ins (He.ga K "Word") dx (fWord s l m)))) ∧
  ∀ z, oDue s l m = some z → RaiseE (BF K) "what" (.str z) H E

abbrev s_Word_init : Stmt := inClass (top 23) 0
theorem sc_Word_init : FnScope ["self", "signs", "least", "most"] ["self", "signs", "least", "most"] (defScope s_Word_init) := ⟨rfl, rfl, rfl, by decide +kernel, rfl, by decide +kernel, by decide +kernel⟩

theorem ok_Word_init (F : FunD K "__init__" "Word.__init__" (defArgs s_Word_init) (defBody s_Word_init) (defScope s_Word_init) [] [] f fd) (G : G3 P w K mg base) : FnOk P w K mg base (L2.CX P w) 4 f fd ["self", "signs", "least", "most"] (spWord K) := by
  refine F.ok (CX := (L2.CX P w)) sc_Word_init (fun vs H Q E h => ?_) (fun cdv A outer s H vs Q E hr h => ?_)
  · obtain ⟨a, dx, s, l, m, rfl, _⟩ := h
    rfl
  · have hr3 : Room 3 _ := hr
    refine ⟨_, (pss_cons (ps_expr (pe_fnS G.check_signs hr3 (fun σ => passAt (takes_of rfl rfl rfl rfl) σ) (by rfl) (pa_cons (pv 1) pa_nil)))
    (pss_cons (ps_expr (pe_fnS G.check_span hr3 (fun σ => passAt (takes_of rfl rfl rfl rfl) σ) (by rfl) (pa_cons (pv 2) (pa_cons (pv 3) pa_nil))))
    (pss_cons (ps_fld (pv 0) (pv 1) rfl)
    (pss_cons (ps_fld (pv 0) (pv 2) rfl)
    (pss_one (ps_fld (pv 0) (pv 3) rfl)))))), ?_⟩
    obtain ⟨a, dx, s, l, m, rfl, ha, hs, hl, hm, q1, q2⟩ := h
    refine ⟨_, rfl, s, rfl, hs, fun e1 => ?_, fun e1 => q2 _ (by unfold oDue; rw [if_pos e1])⟩
    have e0 : oDue s l m = bDue l m := by unfold oDue; rw [e1]; rfl
    rw [e0] at q1 q2
    refine ⟨_, rfl, _, rfl, l, m, rfl, nM_flat l (nh hl), nM_flat m (nh hm), fun e2 => ?_, fun z e2 => q2 z e2⟩
    refine ⟨_, rfl, _, rfl, a, _, dx, _, rfl, ha, G.cWord.cl, G.cWord.no _ (by decide +kernel), (by show 0 < 1000; decide), _, rfl, _, rfl, a, _, dx, _, rfl, upd_same, G.cWord.cl, G.cWord.no _ (by decide +kernel), (by show 1 < 1000; decide), _, rfl, _, rfl, a, _, dx, _, rfl, upd_same, G.cWord.cl, G.cWord.no _ (by decide +kernel), (by show 2 < 1000; decide), ?_⟩
    have z := q1 e2
    show Q .non _
    rw [upd_upd, upd_upd]
    exact z

theorem pi_or {X : Cx} {tg e : Expr} {t1 t2 : TI} (h1 : PI X tg e t1) (h2 : PI X tg e t2) : PI X tg e (fun σ H R => t1 σ H R ∨ t2 σ H R) :=
  ⟨fun pins s σ H R I h => h.elim (h1.run pins s σ H R I) (h2.run pins s σ H R I)⟩
def spNumber (K : Frag) : Sp := fun vs H Q E => ∃ (a dx : Addr) (l m : V), vs = [.ref a, l, m] ∧ H a = some (.ins (He.ga K "Number") dx []) ∧ l ∈ nM ∧ m ∈ hM ∧ (bDue l m = none → Q .non (upd H a (.ins (He.ga K "Number") dx (fNumber l m)))) ∧
  ∀ z, bDue l m = some z → RaiseE (BF K) "what" (.str z) H E

abbrev s_Number_init : Stmt := inClass (top 24) 0
theorem sc_Number_init : FnScope ["self", "least", "most"] ["self", "least", "most"] (defScope s_Number_init) := ⟨rfl, rfl, rfl, by decide +kernel, rfl, by decide +kernel, by decide +kernel⟩

theorem ok_Number_init (F : FunD K "__init__" "Number.__init__" (defArgs s_Number_init) (defBody s_Number_init) (defScope s_Number_init) [] [] f fd) (G : G3 P w K mg base) : FnOk P w K mg base (L2.CX P w) 4 f fd ["self", "least", "most"] (spNumber K) := by
  refine F.ok (CX := (L2.CX P w)) sc_Number_init (fun vs H Q E h => ?_) (fun cdv A outer s H vs Q E hr h => ?_)
  · obtain ⟨a, dx, l, m, rfl, _⟩ := h
    rfl
  · have hr3 : Room 3 _ := hr
    refine ⟨_, (pss_cons (ps_expr (pe_fnS G.check_span hr3 (fun σ => passAt (takes_of rfl rfl rfl rfl) σ) (by rfl) (pa_cons (pv 1) (pa_cons (pv 2) pa_nil))))
    (pss_cons (ps_fld (pv 0) (pv 1) rfl)
    (pss_one (ps_fld (pv 0) (pv 2) rfl)))), ?_⟩
    obtain ⟨a, dx, l, m, rfl, ha, hl, hm, q1, q2⟩ := h
    refine ⟨_, rfl, _, rfl, l, m, rfl, nM_flat l (nh hl), nM_flat m hm, fun e2 => ?_, fun z e2 => q2 z e2⟩
    refine ⟨_, rfl, _, rfl, a, _, dx, _, rfl, ha, G.cNumber.cl, G.cNumber.no _ (by decide +kernel), (by show 0 < 1000; decide), _, rfl, _, rfl, a, _, dx, _, rfl, upd_same, G.cNumber.cl, G.cNumber.no _ (by decide +kernel), (by show 1 < 1000; decide), ?_⟩
    have z := q1 e2
    show Q .non _
    rw [upd_upd]
    exact z

def spFixed (K : Frag) : Sp := fun vs H Q E => ∃ (a dx : Addr) (v : V), vs = [.ref a, v] ∧ H a = some (.ins (He.ga K "Fixed") dx []) ∧ v ∈ wM ∧ (wDue v = none → Q .non (upd H a (.ins (He.ga K "Fixed") dx (fFixed v)))) ∧
  ∀ z, wDue v = some z → RaiseE (BF K) "what" (.str z) H E

abbrev s_Fixed_init : Stmt := inClass (top 25) 0
theorem sc_Fixed_init : FnScope ["self", "width"] ["self", "width"] (defScope s_Fixed_init) := ⟨rfl, rfl, rfl, by decide +kernel, rfl, by decide +kernel, by decide +kernel⟩

theorem ok_Fixed_init (F : FunD K "__init__" "Fixed.__init__" (defArgs s_Fixed_init) (defBody s_Fixed_init) (defScope s_Fixed_init) [] [] f fd) (G : G3 P w K mg base) : FnOk P w K mg base (L2.CX P w) 4 f fd ["self", "width"] (spFixed K) := by
  refine F.ok (CX := (L2.CX P w)) sc_Fixed_init (fun vs H Q E h => ?_) (fun cdv A outer s H vs Q E hr h => ?_)
  · obtain ⟨a, dx, v, rfl, _⟩ := h
    rfl
  · have hr3 : Room 3 _ := hr
    have hr2 : Room 2 _ := hr.mono (by decide)
    refine ⟨_, (pss_cons (ps_if (PW.pt (pw_or (pt_not (pt_val (pe_fn G.is_number (hr2.mono (by decide)) pass0 (by rfl) (pa_cons (pv 1) pa_nil)))) (pw_or1 (pt_cmpR op_lt (pv 1) pe_int (nomark _)))))
      (pss_one (ps_raise rfl (takes_of rfl rfl rfl rfl) (pmk_1 G.bf hr2 (by rfl) (pa_cons pe_str pa_nil))))
      pss_nil)
    (pss_one (ps_fld (pv 0) (pv 1) rfl))), ?_⟩
    obtain ⟨a, dx, v, rfl, ha, hv, q1, q2⟩ := h
    refine ⟨_, rfl, v, rfl, wM_flat v hv, _, rfl, ?_⟩
    show if (!numB v) = true then _ else _
    refine ite2 (fun h1 => mkO_1 (q2 _ (by show (if (!numB v || _) = true then _ else _) = _; rw [h1]; rfl))) (fun h1 => ?_)
    cases v with
    | int i =>
      refine ⟨_, rfl, _, _, rfl, rfl, _, rfl, ?_⟩
      refine ite2 (fun h2 => mkO_1 (q2 _ (by show (if (_ || decide (i < 1)) = true then _ else _) = _; rw [h2]; rfl))) (fun h2 => ?_)
      refine ⟨_, rfl, _, rfl, a, _, dx, _, rfl, ha, G.cFixed.cl, G.cFixed.no _ (by decide +kernel), (by show 0 < 1000; decide), q1 ?_⟩
      show (if (!true || decide (i < 1)) = true then _ else _) = _
      rw [Bool.eq_false_iff.mpr h2]
      rfl
    | _ => exact absurd rfl h1

/-- what is handed in as texts -/
def LXAt (H : Hp) (v : V) : LX → Prop
  | .lst xs => ∃ b, v = .ref b ∧ H b = some (.lst xs)
  | .tup xs => ∃ b, v = .ref b ∧ TupZ H b xs
  | .val u => v = u
theorem LXAt.same {H H' : Hp} {v : V} (S : Same H H') : ∀ {x : LX}, LXAt H v x → LXAt H' v x
  | .lst _, ⟨b, e, h⟩ => ⟨b, e, S _ _ h⟩
  | .tup _, ⟨b, e, h⟩ => ⟨b, e, h.same S⟩
  | .val _, e => e
theorem all_str : ∀ xs : List V, xs.all areB = true → (xs.map strV).map V.str = xs
  | [], _ => rfl
  | v :: xs, h => by
    obtain ⟨h1, h2⟩ := Bool.and_eq_true_iff.mp (show (areB v && xs.all areB) = true from h)
    have e : V.str (strV v) = v := by cases v <;> first | rfl | cases h1
    show V.str (strV v) :: (xs.map strV).map V.str = v :: xs
    rw [e, all_str xs h2]
theorem raise_mono {C : Addr} {g : Str} {v : V} {H H1 : Hp} {E : XK} (S : Same H H1) (h : RaiseE C g v H E) : RaiseE C g v H1 E := fun d H2 hd S2 e => by
  refine h d H2 ?_ (S.trans S2) e
  cases q : H d with
  | none => rfl
  | some o => rw [S d o q] at hd; cases hd
def spListed (K : Frag) : Sp := fun vs H Q E => ∃ (a dx : Addr) (v : V) (x : LX), vs = [.ref a, v] ∧ H a = some (.ins (He.ga K "Listed") dx []) ∧ x ∈ lM ∧ LXAt H v x ∧
  (lxDue x = none → ∀ t H2, Same H H2 → TupZ H2 t x.els → Q .non (upd H2 a (.ins (He.ga K "Listed") dx (fListed (.ref t))))) ∧ ∀ z, lxDue x = some z → RaiseE (BF K) "what" (.str z) H E
theorem kit_LT (K : Frag) : kitAny K (.type "list") [.type "list", .type "tuple"] = some true ∧ kitAny K (.type "tuple") [.type "list", .type "tuple"] = some true ∧ kitAny K (.type "str") [.type "list", .type "tuple"] = some false ∧ kitAny K (.type "NoneType") [.type "list", .type "tuple"] = some false := by
  have k : ∀ {S T : String} {b : Bool}, kitB S T = some b → kitOne K (.type S) (.type T) = some b := fun h => kit_ty h
  refine ⟨?_, ?_, ?_, ?_⟩
  · exact kitAny_cons (b := true) (k (by decide +kernel)) (fun z => nomatch z) (fun _ => rfl)
  · exact kitAny_cons (b := false) (k (by decide +kernel)) (fun _ => kitAny_cons (b := true) (k (by decide +kernel)) (fun z => nomatch z) (fun _ => rfl)) (fun z => nomatch z)
  · exact kitAny_cons (b := false) (k (by decide +kernel)) (fun _ => kitAny_cons (b := false) (k (by decide +kernel)) (fun _ => kitAny_nil) (fun z => nomatch z)) (fun z => nomatch z)
  · exact kitAny_cons (b := false) (k (by decide +kernel)) (fun _ => kitAny_cons (b := false) (k (by decide +kernel)) (fun _ => kitAny_nil) (fun z => nomatch z)) (fun z => nomatch z)
theorem take_succ_map {α β : Type} (g : α → β) {xs : List α} {i : Nat} {x : α} (h : xs[i]? = some x) : (xs.take (i + 1)).map g = (xs.take i).map g ++ [g x] := by
  rw [List.take_add_one, h, List.map_append]
  rfl

abbrev s_Listed_init : Stmt := inClass (top 26) 0
theorem sc_Listed_init : FnScope ["self", "texts", "text"] ["self", "texts"] (defScope s_Listed_init) := ⟨rfl, rfl, rfl, by decide +kernel, rfl, by decide +kernel, by decide +kernel⟩

theorem ok_Listed_init (F : FunD K "__init__" "Listed.__init__" (defArgs s_Listed_init) (defBody s_Listed_init) (defScope s_Listed_init) [] [] f fd) (G : G3 P w K mg base) : FnOk P w K mg base (L2.CX P w) 4 f fd ["self", "texts"] (spListed K) := by
  refine F.ok (CX := (L2.CX P w)) sc_Listed_init (fun vs H Q E h => ?_) (fun cdv A outer s H vs Q E hr h => ?_)
  · obtain ⟨a, dx, v, x, rfl, _⟩ := h
    rfl
  · have hr3 : Room 3 _ := hr
    have hr2 : Room 2 _ := hr.mono (by decide)
    refine ⟨_, (pss_cons (ps_if (PW.pt (pw_or (pt_not (pt_val (pe_callB call_ieT (by rfl) G.isinstance (by decide +kernel) (pa_cons (pv 1) (pa_cons (pe_tupS (pa_cons (pe_bty (n := "list") (by rfl) G.list (by decide +kernel)) (pa_cons (pe_bty (n := "tuple") (by rfl) G.tuple (by decide +kernel)) pa_nil))) pa_nil))))) (pw_or1 (pt_cmpR op_eq (pe_callB call_len_seq (by rfl) G.len (by decide +kernel) (pa_cons (pv 1) pa_nil)) pe_int (nomark _)))))
      (pss_one (ps_raise rfl (takes_of rfl rfl rfl rfl) (pmk_1 G.bf hr2 (by rfl) (pa_cons pe_str pa_nil))))
      pss_nil)
    (pss_cons (ps_if (PW.pt (pw_or (pt_not (pt_val (pe_callB (cr_all rfl) (by rfl) G.all (by decide +kernel) (pa_cons (pe_lc (own := [("text", 2)]) (g := gName 2) (tt := tYes) rfl sc_Listed_init.nd (pi_or (pi_list (pv 1)) (pi_tup (pv 1))) (blkOk_by (N := ["self", "texts", "text"]) (sc := defScope s_Listed_init) (by decide +kernel)) (fun _ _ _ _ _ => pg_name (i := 2) sc_Listed_init.nd rfl (Or.inl rfl)) (fun _ _ _ _ _ => pts_nil) (fun _ _ _ _ _ => (pe_fn G.are_signs hr2 pass0 (by rfl) (pa_cons (pv 2) pa_nil)))) pa_nil)))) (pw_or1 (pt_cmpR op_lt (pe_lenSetSeq rfl (by rfl) G.len (by rfl) G.set (pv 1)) (pe_callB call_len_seq (by rfl) G.len (by decide +kernel) (pa_cons (pv 1) pa_nil)) (nomark _)))))
      (pss_one (ps_raise rfl (takes_of rfl rfl rfl rfl) (pmk_1 G.bf hr2 (by rfl) (pa_cons pe_str pa_nil))))
      pss_nil)
    (pss_one (ps_fld (pv 0) (pe_callTy call_tupleZ (by rfl) G.tuple (by decide +kernel) (pa_cons (pv 1) pa_nil)) rfl)))), ?_⟩
    obtain ⟨a, dx, v, x, rfl, ha, hx, hL, q1, q2⟩ := h
    obtain ⟨hv, hz⟩ := lM_vM x hx
    rcases lM_val x hx with e | e | e
    · subst e
      obtain rfl : v = .str "ab" := hL
      refine ⟨_, rfl, by show 2 ≤ 1000; decide, fun p0 H0 hp0 S0 e0 => ⟨_, p0, _, _, _, false, rfl, e0, .cons (.ty _) (.cons (.ty _) Paired.nil), .x (.base (.str _)), (kit_LT K).2.2.1, _, rfl, iteT (mkO_1 (raise_mono S0 (q2 _ rfl)))⟩⟩
    · subst e
      obtain rfl : v = .non := hL
      refine ⟨_, rfl, by show 2 ≤ 1000; decide, fun p0 H0 hp0 S0 e0 => ⟨_, p0, _, _, _, false, rfl, e0, .cons (.ty _) (.cons (.ty _) Paired.nil), .x (.base .non), (kit_LT K).2.2.2, _, rfl, iteT (mkO_1 (raise_mono S0 (q2 _ rfl)))⟩⟩
    · cases x with
      | val u => rcases e with e | e <;> cases e
      | lst xs =>
      obtain ⟨b, rfl, hb⟩ := hL
      have hz' : xs.length ≤ 20 := hz
      refine ⟨_, rfl, by show 2 ≤ 1000; decide, fun p0 H0 hp0 S0 e0 => ⟨_, p0, _, _, _, true, rfl, e0, .cons (.ty _) (.cons (.ty _) Paired.nil), .x (.base (.lst (S0 _ _ hb))), (kit_LT K).1, _, rfl, iteF ?_⟩⟩
      refine ⟨_, rfl, b, _, rfl, .inl (SqL.of (S0 _ _ hb)), rfl, _, rfl, ?_⟩
      refine ite2 (fun h1 => mkO_1 (raise_mono S0 (q2 _ (by show (if (decide (xs.length = 0) || _) = true then _ else _) = _; rw [show decide (xs.length = 0) = true from decide_eq_true (by have := of_decide_eq_true h1; simpa using this)]; rfl)))) (fun h1 => ?_)
      have n0 : decide (xs.length = 0) = false := decide_eq_false (fun z => h1 (decide_eq_true (by rw [z]; rfl)))
      have eD : lxDue (.lst xs) = if xsBad xs = true then (some "texts" : Option Str) else none := by
        show (if (decide (xs.length = 0) || xsBad xs) = true then _ else _) = _
        rw [n0]
        rfl
      rw [eD] at q1 q2
      refine .inl ⟨_, rfl, b, rfl, ⟨_, SqL.of (S0 _ _ hb)⟩, fun D hD => ?_⟩
      refine lc_list (K := K) (a := b) (xs := xs) (LcP H0 D fun n => (xs.take n).map fun v => V.bl (areB v)) (LcP.start hD rfl) (fun i J hi p => SqL.of (p.1 _ _ (S0 _ _ hb))) ?_ ?_
      · intro i v J hx p
        refine ⟨rfl, _, rfl, v, rfl, hv v (List.mem_of_getElem? hx), p.put (Same.refl _) (take_succ_map _ hx) ?_⟩
        have := (List.getElem?_eq_some_iff.mp hx).1
        omega
      · rintro J ⟨S1, _, eJ, _⟩
        have eJ2 : J D = some (.lst ((xs.map areB).map V.bl)) := by rw [eJ]; show some (HO.lst ((xs.take xs.length).map fun v => V.bl (areB v))) = _; rw [List.take_length, List.map_map]; rfl
        refine ⟨D, xs.map areB, rfl, SqL.of eJ2, _, rfl, ?_⟩
        have ea : (xs.map areB).all id = xs.all areB := by rw [List.all_map]; rfl
        rw [ea]
        show if (!xs.all areB) = true then _ else _
        have S2 : Same H J := S0.trans S1
        refine ite2 (fun h2 => mkO_1 (raise_mono S2 (q2 _ (by unfold xsBad; rw [h2]; rfl)))) (fun h2 => ?_)
        have h2' : xs.all areB = true := by cases z : xs.all areB with | true => rfl | false => exact absurd (by rw [z]; rfl) h2
        refine ⟨_, rfl, b, xs.map strV, rfl, .inl (by rw [all_str xs h2']; exact SqL.of (S2 _ _ hb)), by rw [List.length_map]; omega, _, rfl, b, _, rfl, .inl (SqL.of (S2 _ _ hb)), _, _, rfl, rfl, _, rfl, ?_⟩
        refine ite2 (fun h3 => mkO_1 (raise_mono S2 (q2 _ ?_))) (fun h3 => ?_)
        · unfold xsBad
          rw [show decide ((newS (fun i => (xs.map strV).getD i Str.empty) (xs.map strV).length : Nat) < xs.length) = true from decide_eq_true (by have := of_decide_eq_true h3; omega), Bool.or_true]
          rfl
        · have q1' := q1 (by unfold xsBad; rw [h2', show decide ((newS (fun i => (xs.map strV).getD i Str.empty) (xs.map strV).length : Nat) < xs.length) = false from decide_eq_false (fun z => h3 (decide_eq_true (by omega)))]; rfl)
          refine ⟨_, rfl, b, xs, rfl, .inl ⟨SqL.of (S2 _ _ hb), fun t H3 ht S3 tz => ?_⟩⟩
          refine ⟨_, rfl, a, _, dx, _, rfl, S3 _ _ (S2 _ _ ha), G.cListed.cl, G.cListed.no _ (by decide +kernel), (by show 0 < 1000; decide), ?_⟩
          exact q1' t _ (S2.trans S3) tz
      | tup xs =>
      obtain ⟨b, rfl, hb⟩ := hL
      have hz' : xs.length ≤ 20 := hz
      refine ⟨_, rfl, by show 2 ≤ 1000; decide, fun p0 H0 hp0 S0 e0 => ⟨_, p0, _, _, _, true, rfl, e0, .cons (.ty _) (.cons (.ty _) Paired.nil), .x (.fTuple (hb.same S0).choose_spec.2.2), (kit_LT K).2.1, _, rfl, iteF ?_⟩⟩
      refine ⟨_, rfl, b, _, rfl, .inr ((hb.same S0).sq), rfl, _, rfl, ?_⟩
      refine ite2 (fun h1 => mkO_1 (raise_mono S0 (q2 _ (by show (if (decide (xs.length = 0) || _) = true then _ else _) = _; rw [show decide (xs.length = 0) = true from decide_eq_true (by have := of_decide_eq_true h1; simpa using this)]; rfl)))) (fun h1 => ?_)
      have n0 : decide (xs.length = 0) = false := decide_eq_false (fun z => h1 (decide_eq_true (by rw [z]; rfl)))
      have eD : lxDue (.tup xs) = if xsBad xs = true then (some "texts" : Option Str) else none := by
        show (if (decide (xs.length = 0) || xsBad xs) = true then _ else _) = _
        rw [n0]
        rfl
      rw [eD] at q1 q2
      refine .inr ⟨_, rfl, b, rfl, ⟨_, (hb.same S0).sq⟩, fun D hD => ?_⟩
      refine lc_tup (K := K) (a := b) (xs := xs) (LcP H0 D fun n => (xs.take n).map fun v => V.bl (areB v)) (LcP.start hD rfl) (fun i J hi p => ((hb.same S0).same p.1).sq) ?_ ?_
      · intro i v J hx p
        refine ⟨rfl, _, rfl, v, rfl, hv v (List.mem_of_getElem? hx), p.put (Same.refl _) (take_succ_map _ hx) ?_⟩
        have := (List.getElem?_eq_some_iff.mp hx).1
        omega
      · rintro J ⟨S1, _, eJ, _⟩
        have eJ2 : J D = some (.lst ((xs.map areB).map V.bl)) := by rw [eJ]; show some (HO.lst ((xs.take xs.length).map fun v => V.bl (areB v))) = _; rw [List.take_length, List.map_map]; rfl
        refine ⟨D, xs.map areB, rfl, SqL.of eJ2, _, rfl, ?_⟩
        have ea : (xs.map areB).all id = xs.all areB := by rw [List.all_map]; rfl
        rw [ea]
        show if (!xs.all areB) = true then _ else _
        have S2 : Same H J := S0.trans S1
        refine ite2 (fun h2 => mkO_1 (raise_mono S2 (q2 _ (by unfold xsBad; rw [h2]; rfl)))) (fun h2 => ?_)
        have h2' : xs.all areB = true := by cases z : xs.all areB with | true => rfl | false => exact absurd (by rw [z]; rfl) h2
        refine ⟨_, rfl, b, xs.map strV, rfl, .inr (by rw [all_str xs h2']; exact (hb.same S2).sq), by rw [List.length_map]; omega, _, rfl, b, _, rfl, .inr ((hb.same S2).sq), _, _, rfl, rfl, _, rfl, ?_⟩
        refine ite2 (fun h3 => mkO_1 (raise_mono S2 (q2 _ ?_))) (fun h3 => ?_)
        · unfold xsBad
          rw [show decide ((newS (fun i => (xs.map strV).getD i Str.empty) (xs.map strV).length : Nat) < xs.length) = true from decide_eq_true (by have := of_decide_eq_true h3; omega), Bool.or_true]
          rfl
        · have q1' := q1 (by unfold xsBad; rw [h2', show decide ((newS (fun i => (xs.map strV).getD i Str.empty) (xs.map strV).length : Nat) < xs.length) = false from decide_eq_false (fun z => h3 (decide_eq_true (by omega)))]; rfl)
          refine ⟨_, rfl, b, xs, rfl, .inr ⟨(hb.same S2).sq, ?_⟩⟩
          refine ⟨_, rfl, a, _, dx, _, rfl, S2 _ _ ha, G.cListed.cl, G.cListed.no _ (by decide +kernel), (by show 0 < 1000; decide), ?_⟩
          exact q1' b _ S2 (hb.same S2)


def spEnded (K : Frag) : Sp := fun vs H Q E => ∃ (a dx : Addr) (s e l m : V), vs = [.ref a, s, e, l, m] ∧ H a = some (.ins (He.ga K "Ended") dx []) ∧ s ∈ sM ∧ e ∈ eM ∧ l ∈ nM ∧ m ∈ nM ∧ (eDue s e l m = none → Q .non (upd H a (.ins (He.ga K "Ended") dx (fEnded s e l m)))) ∧
  ∀ z, eDue s e l m = some z → RaiseE (BF K) "what" (.str z) H E

abbrev s_Ended_init : Stmt := inClass (top 27) 0
theorem sc_Ended_init : FnScope ["self", "signs", "sign", "least", "most"] ["self", "signs", "sign", "least", "most"] (defScope s_Ended_init) := ⟨rfl, rfl, rfl, by decide +kernel, rfl, by decide +kernel, by decide +kernel⟩

theorem ok_Ended_init (F : FunD K "__init__" "Ended.__init__" (defArgs s_Ended_init) (defBody s_Ended_init) (defScope s_Ended_init) [] [] f fd) (G : G3 P w K mg base) : FnOk P w K mg base (L2.CX P w) 4 f fd ["self", "signs", "sign", "least", "most"] (spEnded K) := by
  refine F.ok (CX := (L2.CX P w)) sc_Ended_init (fun vs H Q E h => ?_) (fun cdv A outer s H vs Q E hr h => ?_)
  · obtain ⟨a, dx, s, e, l, m, rfl, _⟩ := h
    rfl
  · have hr3 : Room 3 _ := hr
    have hr2 : Room 2 _ := hr.mono (by decide)
    refine ⟨_, (pss_cons (ps_expr (pe_fnS G.check_signs hr3 (fun σ => passAt (takes_of rfl rfl rfl rfl) σ) (by rfl) (pa_cons (pv 1) pa_nil)))
    (pss_cons (ps_if (PW.pt (pw_or (pt_not (pt_val (pe_fn G.is_sign (hr2.mono (by decide)) pass0 (by rfl) (pa_cons (pv 2) pa_nil)))) (pw_or1 (pt_cmpR op_in_sign (pv 2) (pv 1) (by rfl)))))
      (pss_one (ps_raise rfl (takes_of rfl rfl rfl rfl) (pmk_1 G.bf hr2 (by rfl) (pa_cons pe_str pa_nil))))
      pss_nil)
    (pss_cons (ps_expr (pe_fnS G.check_span hr3 (fun σ => passAt (takes_of rfl rfl rfl rfl) σ) (by rfl) (pa_cons (pv 3) (pa_cons (pv 4) pa_nil))))
    (pss_cons (ps_fld (pv 0) (pv 1) rfl)
    (pss_cons (ps_fld (pv 0) (pv 2) rfl)
    (pss_cons (ps_fld (pv 0) (pv 3) rfl)
    (pss_one (ps_fld (pv 0) (pv 4) rfl)))))))), ?_⟩
    obtain ⟨a, dx, s, e, l, m, rfl, ha, hs, he, hl, hm, q1, q2⟩ := h
    refine ⟨_, rfl, s, rfl, hs, fun e1 => ?_, fun e1 => q2 _ (by unfold eDue; rw [if_pos e1])⟩
    have e0 : eDue s e l m = if (!isSignB e || inB (strV e) (strV s)) = true then (some "sign" : Option Str) else bDue l m := by unfold eDue; rw [e1]; rfl
    rw [e0] at q1 q2
    refine ⟨_, rfl, e, rfl, eM_vM he, _, rfl, ?_⟩
    show if (!isSignB e) = true then _ else _
    refine ite2 (fun h1 => mkO_1 (q2 _ (by rw [h1]; rfl))) (fun h1 => ?_)
    have h1' : isSignB e = true := by cases z : isSignB e with | true => rfl | false => exact absurd (by rw [z]; rfl) h1
    refine ⟨_, rfl, _, rfl, _, strV s, eM_one e he h1', sM_str s hs e1, _, rfl, ?_⟩
    show if inB (strV e) (strV s) = true then _ else _
    refine ite2 (fun h2 => mkO_1 (q2 _ (by rw [h2, Bool.or_true]; rfl))) (fun h2 => ?_)
    have h2' : inB (strV e) (strV s) = false := Bool.eq_false_iff.mpr h2
    rw [h1', h2'] at q1 q2
    refine ⟨_, rfl, _, rfl, l, m, rfl, nM_flat l (nh hl), nM_flat m (nh hm), fun e2 => ?_, fun z e2 => q2 z e2⟩
    refine ⟨_, rfl, _, rfl, a, _, dx, _, rfl, ha, G.cEnded.cl, G.cEnded.no _ (by decide +kernel), (by show 0 < 1000; decide), _, rfl, _, rfl, a, _, dx, _, rfl, upd_same, G.cEnded.cl, G.cEnded.no _ (by decide +kernel), (by show 1 < 1000; decide), _, rfl, _, rfl, a, _, dx, _, rfl, upd_same, G.cEnded.cl, G.cEnded.no _ (by decide +kernel), (by show 2 < 1000; decide), _, rfl, _, rfl, a, _, dx, _, rfl, upd_same, G.cEnded.cl, G.cEnded.no _ (by decide +kernel), (by show 3 < 1000; decide), ?_⟩
    have z := q1 e2
    show Q .non _
    rw [upd_upd, upd_upd, upd_upd]
    exact z

def spHasWord (K : Frag) : Sp := fun vs H Q _ => ∃ (a : Addr) (c : Nat) (s l m : V), vs = [.ref a, .str ⟨#[c]⟩] ∧ FieldAt K H a (.word s l m) ∧ PD.In (.word s l m) ∧ PD.due (.word s l m) = none ∧ ∀ H', Same H H' → Q (.bl (PD.has ⟨#[c]⟩ (.word s l m))) H'

def spHasNumber (K : Frag) : Sp := fun vs H Q _ => ∃ (a : Addr) (c : Nat) (l m : V), vs = [.ref a, .str ⟨#[c]⟩] ∧ FieldAt K H a (.number l m) ∧ PD.In (.number l m) ∧ PD.due (.number l m) = none ∧ ∀ H', Same H H' → Q (.bl (PD.has ⟨#[c]⟩ (.number l m))) H'

def spHasFixed (K : Frag) : Sp := fun vs H Q _ => ∃ (a : Addr) (c : Nat) (v : V), vs = [.ref a, .str ⟨#[c]⟩] ∧ FieldAt K H a (.fixed v) ∧ PD.In (.fixed v) ∧ PD.due (.fixed v) = none ∧ ∀ H', Same H H' → Q (.bl (PD.has ⟨#[c]⟩ (.fixed v))) H'

def spHasListed (K : Frag) : Sp := fun vs H Q _ => ∃ (a : Addr) (c : Nat) (x : LX), vs = [.ref a, .str ⟨#[c]⟩] ∧ FieldAt K H a (.listed x) ∧ PD.In (.listed x) ∧ PD.due (.listed x) = none ∧ ∀ H', Same H H' → Q (.bl (PD.has ⟨#[c]⟩ (.listed x))) H'

def spHasEnded (K : Frag) : Sp := fun vs H Q _ => ∃ (a : Addr) (c : Nat) (s e l m : V), vs = [.ref a, .str ⟨#[c]⟩] ∧ FieldAt K H a (.ended s e l m) ∧ PD.In (.ended s e l m) ∧ PD.due (.ended s e l m) = none ∧ ∀ H', Same H H' → Q (.bl (PD.has ⟨#[c]⟩ (.ended s e l m))) H'

abbrev s_Word_has : Stmt := inClass (top 23) 7
theorem sc_Word_has : FnScope ["self", "sign"] ["self", "sign"] (defScope s_Word_has) := ⟨rfl, rfl, rfl, by decide +kernel, rfl, by decide +kernel, by decide +kernel⟩

theorem ok_Word_has (F : FunD K "has_sign" "Word.has_sign" (defArgs s_Word_has) (defBody s_Word_has) (defScope s_Word_has) [] [] f fd) (G : G3 P w K mg base) : FnOk P w K mg base CX0 2 f fd ["self", "sign"] (spHasWord K) := by
  refine F.ok (CX := CX0) sc_Word_has (fun vs H Q E h => ?_) (fun cdv A outer s H vs Q E hr h => ?_)
  · obtain ⟨a, c, s, l, m, rfl, _⟩ := h
    rfl
  · refine ⟨_, PSs.nox (pss_one (ps_ret (pe_fn G.has_words_with hr pass0 (by rfl) (pa_cons (pv 0) (pa_cons (pv 1) pa_nil))))), ?_⟩
    obtain ⟨a, c, s, l, m, rfl, ⟨dx, ha⟩, ⟨hs, hl, hm⟩, hd, q⟩ := h
    obtain ⟨es, sc, _⟩ := word_due s hs l hl m hm hd
    rw [es] at ha q
    exact ⟨_, rfl, _, rfl, a, _, dx, _, c, strV s, m, rfl, ha, G.cWord.cl, G.cWord.no _ (by decide +kernel), G.cWord.no _ (by decide +kernel), lWord_signs, lWord_most, sc, q _ (Same.refl _)⟩

abbrev s_Fixed_has : Stmt := inClass (top 25) 7
theorem sc_Fixed_has : FnScope ["self", "sign"] ["self", "sign"] (defScope s_Fixed_has) := ⟨rfl, rfl, rfl, by decide +kernel, rfl, by decide +kernel, by decide +kernel⟩

theorem ok_Fixed_has (F : FunD K "has_sign" "Fixed.has_sign" (defArgs s_Fixed_has) (defBody s_Fixed_has) (defScope s_Fixed_has) [] [] f fd) (G : G3 P w K mg base) : FnOk P w K mg base CX0 2 f fd ["self", "sign"] (spHasFixed K) := by
  refine F.ok (CX := CX0) sc_Fixed_has (fun vs H Q E h => ?_) (fun cdv A outer s H vs Q E hr h => ?_)
  · obtain ⟨a, c, v, rfl, _⟩ := h
    rfl
  · refine ⟨_, PSs.nox (pss_one (ps_ret (pe_cmpR op_in_sign (pv 1) (pe_sg G.dgs) (by rfl)))), ?_⟩
    obtain ⟨a, c, v, rfl, hf, _, _, q⟩ := h
    exact ⟨_, rfl, c, DG, rfl, rfl, q _ (Same.refl _)⟩

abbrev s_Ended_has : Stmt := inClass (top 27) 7
theorem sc_Ended_has : FnScope ["self", "sign"] ["self", "sign"] (defScope s_Ended_has) := ⟨rfl, rfl, rfl, by decide +kernel, rfl, by decide +kernel, by decide +kernel⟩

theorem ok_Ended_has (F : FunD K "has_sign" "Ended.has_sign" (defArgs s_Ended_has) (defBody s_Ended_has) (defScope s_Ended_has) [] [] f fd) (G : G3 P w K mg base) : FnOk P w K mg base CX0 2 f fd ["self", "sign"] (spHasEnded K) := by
  refine F.ok (CX := CX0) sc_Ended_has (fun vs H Q E h => ?_) (fun cdv A outer s H vs Q E hr h => ?_)
  · obtain ⟨a, c, s, e, l, m, rfl, _⟩ := h
    rfl
  · refine ⟨_, PSs.nox (pss_one (ps_ret (pe_or (pe_cmpR op_eq (pv 1) (pe_fld (pv 0) rfl) (nomark _)) (pe_one (pe_fn G.has_words_with hr pass0 (by rfl) (pa_cons (pv 0) (pa_cons (pv 1) pa_nil))))))), ?_⟩
    obtain ⟨a, c, s, e, l, m, rfl, ⟨dx, ha⟩, ⟨hs, he, hl, hm⟩, hd, q⟩ := h
    obtain ⟨es, ee, sc, _⟩ := end_due s hs e he l hl m hm hd
    have q0 := q _ (Same.refl _)
    refine ⟨_, rfl, _, rfl, a, _, dx, _, _, rfl, ha, G.cEnded.cl, G.cEnded.no _ (by decide +kernel), lEnded_sign, (by rw [ee]; rfl), _, rfl, ?_⟩
    refine ite2 (fun h1 => ?_) (fun h1 => ?_)
    · have r : PD.has ⟨#[c]⟩ (.ended s e l m) = true := by show (decide (V.str ⟨#[c]⟩ = e) || _) = true; rw [h1]; rfl
      rw [r] at q0
      exact q0
    · have r : PD.has ⟨#[c]⟩ (.ended s e l m) = wwB s m ⟨#[c]⟩ := by show (decide (V.str ⟨#[c]⟩ = e) || _) = _; rw [Bool.eq_false_iff.mpr h1]; rfl
      rw [r] at q0
      rw [es] at ha q0
      exact ⟨_, rfl, _, rfl, a, _, dx, _, c, strV s, m, rfl, ha, G.cEnded.cl, G.cEnded.no _ (by decide +kernel), G.cEnded.no _ (by decide +kernel), lEnded_signs, lEnded_most, sc, q0⟩

abbrev s_Listed_has : Stmt := inClass (top 26) 7
theorem sc_Listed_has : FnScope ["self", "sign", "text"] ["self", "sign"] (defScope s_Listed_has) := ⟨rfl, rfl, rfl, by decide +kernel, rfl, by decide +kernel, by decide +kernel⟩

theorem ok_Listed_has (F : FunD K "has_sign" "Listed.has_sign" (defArgs s_Listed_has) (defBody s_Listed_has) (defScope s_Listed_has) [] [] f fd) (G : G3 P w K mg base) : FnOk P w K mg base CX0 2 f fd ["self", "sign"] (spHasListed K) := by
  refine F.ok (CX := CX0) sc_Listed_has (fun vs H Q E h => ?_) (fun cdv A outer s H vs Q E hr h => ?_)
  · obtain ⟨a, c, x, rfl, _⟩ := h
    rfl
  · refine ⟨_, PSs.nox (pss_one (ps_ret (pe_callB (cr_any rfl) (by rfl) G.any (by decide +kernel) (pa_cons (pe_lc (own := [("text", 2)]) (g := gName 2) (tt := tYes) rfl sc_Listed_has.nd (pi_tup (pe_fld (pv 0) rfl)) (blkOk_by (N := ["self", "sign", "text"]) (sc := defScope s_Listed_has) (by decide +kernel)) (fun _ _ _ _ _ => pg_name (i := 2) sc_Listed_has.nd rfl (Or.inl rfl)) (fun _ _ _ _ _ => pts_nil) (fun _ _ _ _ _ => (pe_cmpR op_in_sign (pv 1) (pv 2) (by rfl)))) pa_nil)))), ?_⟩
    obtain ⟨a, c, x, rfl, ⟨dx, t, ha, ht⟩, hx, hd, q⟩ := h
    obtain ⟨hs, hz, _⟩ := lst_due x hx hd
    refine ⟨_, rfl, a, _, dx, _, _, rfl, ha, G.cListed.cl, G.cListed.no _ (by decide +kernel), lListed_texts, t, rfl, ⟨_, ht.sq⟩, fun D hD => ?_⟩
    refine lc_tup (K := K) (a := t) (xs := x.els) (LcP H D fun n => (x.els.take n).map fun v => V.bl (inB ⟨#[c]⟩ (strV v))) (LcP.start hD rfl) (fun i J hi p => (ht.same p.1).sq) ?_ ?_
    · intro i v J hv p
      have ev := hs v (List.mem_of_getElem? hv)
      have := (List.getElem?_eq_some_iff.mp hv).1
      exact ⟨rfl, _, rfl, _, rfl, c, strV v, rfl, ev, p.put (Same.refl _) (take_succ_map _ hv) (by omega)⟩
    · rintro J ⟨S1, _, eJ, _⟩
      have eJ2 : J D = some (.lst ((x.els.map fun v => inB ⟨#[c]⟩ (strV v)).map V.bl)) := by rw [eJ]; show some (HO.lst ((x.els.take x.els.length).map fun v => V.bl (inB ⟨#[c]⟩ (strV v)))) = _; rw [List.take_length, List.map_map]; rfl
      refine ⟨D, _, rfl, SqL.of eJ2, ?_⟩
      rw [List.any_map]
      exact q _ S1

abbrev s_Number_has : Stmt := inClass (top 24) 7
theorem sc_Number_has : FnScope ["self", "sign", "number"] ["self", "sign"] (defScope s_Number_has) := ⟨rfl, rfl, rfl, by decide +kernel, rfl, by decide +kernel, by decide +kernel⟩

theorem ok_Number_has (F : FunD K "has_sign" "Number.has_sign" (defArgs s_Number_has) (defBody s_Number_has) (defScope s_Number_has) [] [] f fd) (G : G3 P w K mg base) : FnOk P w K mg base CX0 2 f fd ["self", "sign"] (spHasNumber K) := by
  refine F.ok (CX := CX0) sc_Number_has (fun vs H Q E h => ?_) (fun cdv A outer s H vs Q E hr h => ?_)
  · obtain ⟨a, c, l, m, rfl, _⟩ := h
    rfl
  · refine ⟨_, PSs.nox (pss_cons (ps_if (PW.pt (pw_or (pt_cmpR op_isN (pe_fld (pv 0) rfl) pe_non (nomark _)) (pw_or1 (pt_cmpR op_ge (pe_op op_sub (pe_fld (pv 0) rfl) (pe_fld (pv 0) rfl)) pe_int (nomark _)))))
      (pss_one (ps_ret (pe_cmpR op_in_sign (pv 1) (pe_sg G.dgs) (by rfl))))
      pss_nil)
    (pss_one (ps_ret (pe_callB (cr_any rfl) (by rfl) G.any (by decide +kernel) (pa_cons (pe_lc (own := [("number", 2)]) (g := gName 2) (tt := tYes) rfl sc_Number_has.nd (pi_range2 (by rfl) G.range (pa_cons (pe_fld (pv 0) rfl) (pa_cons (pe_op op_add (pe_fld (pv 0) rfl) pe_int) pa_nil))) (blkOk_by (N := ["self", "sign", "number"]) (sc := defScope s_Number_has) (by decide +kernel)) (fun _ _ _ _ _ => pg_name (i := 2) sc_Number_has.nd rfl (Or.inl rfl)) (fun _ _ _ _ _ => pts_nil) (fun _ _ _ _ _ => (pe_cmpR op_in_sign (pv 1) (pe_fn G.digits_of hr pass0 (by rfl) (pa_cons (pv 2) pa_nil)) (by rfl)))) pa_nil))))), ?_⟩
    obtain ⟨a, c, l, m, rfl, ⟨dx, ha⟩, ⟨hl, hm⟩, hd, q⟩ := h
    obtain ⟨el, em, hl0, hl1, hm0, hm1, _⟩ := num_due l hl m hm hd
    refine ⟨_, rfl, a, _, dx, _, _, rfl, ha, G.cNumber.cl, G.cNumber.no _ (by decide +kernel), lNumber_most, rfl, _, rfl, ?_⟩
    refine ite2 (fun h1 => ?_) (fun h1 => ?_)
    · have r : PD.has ⟨#[c]⟩ (.number l m) = inB ⟨#[c]⟩ DG := by show (if (decide (m = .non) || _) = true then _ else _) = _; rw [h1]; rfl
      have q0 := q _ (Same.refl _)
      rw [r] at q0
      exact ⟨_, rfl, c, DG, rfl, rfl, q0⟩
    rcases em with em | em
    · exact absurd (decide_eq_true em) h1
    refine ⟨_, rfl, a, _, dx, _, _, rfl, ha, G.cNumber.cl, G.cNumber.no _ (by decide +kernel), lNumber_most, _, rfl, a, _, dx, _, _, rfl, ha, G.cNumber.cl, G.cNumber.no _ (by decide +kernel), lNumber_least, intV m, intV l, em, el, _, _, rfl, rfl, _, rfl, ?_⟩
    refine ite2 (fun h2 => ?_) (fun h2 => ?_)
    · have r : PD.has ⟨#[c]⟩ (.number l m) = inB ⟨#[c]⟩ DG := by show (if (_ || decide (9 ≤ intV m - intV l)) = true then _ else _) = _; rw [h2, Bool.or_true]; rfl
      have q0 := q _ (Same.refl _)
      rw [r] at q0
      exact ⟨_, rfl, c, DG, rfl, rfl, q0⟩
    have h9 : ¬ 9 ≤ intV m - intV l := fun z => h2 (decide_eq_true z)
    have r : PD.has ⟨#[c]⟩ (.number l m) = (List.range (intV m + 1 - intV l).toNat).any fun (i : Nat) => inB ⟨#[c]⟩ (dg (intV l + i)) := by
      show (if (decide (m = .non) || decide (9 ≤ intV m - intV l)) = true then _ else _) = _
      rw [Bool.eq_false_iff.mpr h1, Bool.eq_false_iff.mpr h2]
      rfl
    rw [r] at q
    refine ⟨_, rfl, a, _, dx, _, _, rfl, ha, G.cNumber.cl, G.cNumber.no _ (by decide +kernel), lNumber_least, _, rfl, a, _, dx, _, _, rfl, ha, G.cNumber.cl, G.cNumber.no _ (by decide +kernel), lNumber_most, intV m, 1, em, rfl, intV l, intV m + 1, by rw [el]; rfl, ⟨by omega, by omega, by omega, by omega⟩, fun D hD => ?_⟩
    refine lc_range (lo := intV l) (n := (intV m + 1 - intV l).toNat) (LcP H D fun n => (List.range n).map fun (i : Nat) => V.bl (inB ⟨#[c]⟩ (dg (intV l + i)))) (LcP.start hD rfl) ?_ ?_
    · intro i J hi p
      refine ⟨rfl, _, rfl, _, rfl, _, rfl, by omega, by omega, fun J' S' => ⟨c, _, rfl, rfl, p.put S' (by rw [List.range_succ, List.map_append]; rfl) (by omega)⟩⟩
    · rintro J ⟨S1, _, eJ, _⟩
      have eJ2 : J D = some (.lst (((List.range (intV m + 1 - intV l).toNat).map fun (i : Nat) => inB ⟨#[c]⟩ (dg (intV l + i))).map V.bl)) := by rw [eJ, List.map_map]; rfl
      refine ⟨D, _, rfl, SqL.of eJ2, ?_⟩
      rw [List.any_map]
      exact q _ S1

end
end L2.K79

set_option Elab.async false
set_option linter.all false
set_option maxRecDepth 100000
set_option maxHeartbeats 4000000
namespace L2.K79
open PySem PySem.W PySem.Spec PySem.Calls PyProof.Rows L2.Jk
def PD.ci : PD → Nat
  | .word .. => 0
  | .number .. => 1
  | .fixed _ => 2
  | .listed _ => 3
  | .ended .. => 4
theorem PD.ci_lt (d : PD) : d.ci < 5 := by cases d <;> simp [PD.ci]
/-- what the head says of a field class beyond C0 -/
structure KC (K : Frag) (C : Addr) : Prop where
  kk : findIn K (.ref C) "__class__" = some (some (.builtin "object.__class__"))
  km : mroIn K C (.type "object") = some true
  nf : notFirst K C (.type "tuple") = true
  eq : EqcC K C
  ke : keepIn K (.ref (He.ma K C "__eq__")) = true
structure G4 (P : Program) (w : World) (K : Frag) (mg : Str → Option Value) (base : Heap) : Prop extends G3 P w K mg base where
  kc : ∀ i, i < 6 → KC K (ca K i)
  kn : specialIn K (.builtin "object.__class__") "__get__" = some (some (.builtin "getset_descriptor.__get__"))
  kt : takesIn K (.builtin "object.__class__") = some true
  kit : ∀ i j, i < 6 → j < 6 → kitOne K (.ref (ca K i)) (.ref (ca K j)) = some (decide (i = j))
  mks : ∀ i, i < 7 → makesIn K (ca K i) = true
  ne : ∀ i j, i < 7 → j < 7 → (ca K i = ca K j ↔ i = j)
  kitN : ∀ j, j < 6 → kitOne K (.type "NoneType") (.ref (ca K j)) = some false
  kitS : ∀ j, j < 6 → kitOne K (.type "str") (.ref (ca K j)) = some false
section
variable {P : Program} {w : World} {K : Frag} {mg : Str → Option Value} {base : Heap} {f : Addr} {fd : FuncData}
theorem FieldAt.ins {H : Hp} {y : Addr} : ∀ {d : PD}, FieldAt K H y d → ∃ dx fs, H y = some (.ins (ca K d.ci) dx fs) ∧ fs.lookup ("has_sign" : Str) = none
  | .word .., ⟨dx, h⟩ => ⟨dx, _, h, lWord_hs⟩
  | .number .., ⟨dx, h⟩ => ⟨dx, _, h, lNumber_hs⟩
  | .fixed _, ⟨dx, h⟩ => ⟨dx, _, h, lFixed_hs⟩
  | .listed _, ⟨dx, t, h, k⟩ => ⟨dx, _, h, lListed_hs⟩
  | .ended .., ⟨dx, h⟩ => ⟨dx, _, h, lEnded_hs⟩
theorem G4.cl (G : G4 P w K mg base) : ∀ i, i < 6 → Cls K (ca K i)
  | 0, _ => G.cWord.cl
  | 1, _ => G.cNumber.cl
  | 2, _ => G.cFixed.cl
  | 3, _ => G.cListed.cl
  | 4, _ => G.cEnded.cl
  | 5, _ => G.cMarked.cl
  | n + 6, h => absurd h (by omega)
theorem G4.ty (G : G4 P w K mg base) {H : Hp} {y dx : Addr} {fs : List (Str × V)} {i : Nat} (hi : i < 6) (h : H y = some (.ins (ca K i) dx fs)) : TyE K H (.ref y) (.ref (ca K i)) :=
  .x (.base (.ins h (G.cl i hi) (G.kc i hi).kk G.kn G.kt (G.kc i hi).km))
theorem dp_flat {H : Hp} : ∀ {v : V}, flatV v = true → Dp K H v (dV v)
  | .non, _ => .non
  | .bl b, _ => .bl b
  | .int i, _ => .int i
  | .str z, _ => .str z
theorem dpAll_flat {H : Hp} : ∀ {xs : List V}, xs.all flatV = true → DpAll K H xs (xs.map dV)
  | [], _ => .nil
  | v :: xs, h => by
    obtain ⟨h1, h2⟩ := Bool.and_eq_true_iff.mp (show (flatV v && xs.all flatV) = true from h)
    exact .cons (dp_flat h1) (dpAll_flat h2)

def spEqWord (K : Frag) : Sp := fun vs H Q _ => ∃ (a : Addr) (u : V) (s l m : V), vs = [.ref a, u] ∧ FieldAt K H a (.word s l m) ∧ PD.In (.word s l m) ∧ PD.due (.word s l m) = none ∧
  ((∃ b, u = .ref b ∧ FieldAt K H b (.word s l m) ∧ Q (.bl true) H) ∨ (∃ b xs, u = .ref b ∧ H b = some (.tup xs) ∧ Q (.bl false) H) ∨ (∃ b j dy fs, u = .ref b ∧ H b = some (.ins (ca K j) dy fs) ∧ j < 7 ∧ j ≠ 0 ∧ Q (.bl false) H))

def spEqNumber (K : Frag) : Sp := fun vs H Q _ => ∃ (a : Addr) (u : V) (l m : V), vs = [.ref a, u] ∧ FieldAt K H a (.number l m) ∧ PD.In (.number l m) ∧ PD.due (.number l m) = none ∧
  ((∃ b, u = .ref b ∧ FieldAt K H b (.number l m) ∧ Q (.bl true) H) ∨ (∃ b xs, u = .ref b ∧ H b = some (.tup xs) ∧ Q (.bl false) H) ∨ (∃ b j dy fs, u = .ref b ∧ H b = some (.ins (ca K j) dy fs) ∧ j < 7 ∧ j ≠ 1 ∧ Q (.bl false) H))

def spEqFixed (K : Frag) : Sp := fun vs H Q _ => ∃ (a : Addr) (u : V) (v : V), vs = [.ref a, u] ∧ FieldAt K H a (.fixed v) ∧ PD.In (.fixed v) ∧ PD.due (.fixed v) = none ∧
  ((∃ b, u = .ref b ∧ FieldAt K H b (.fixed v) ∧ Q (.bl true) H) ∨ (∃ b xs, u = .ref b ∧ H b = some (.tup xs) ∧ Q (.bl false) H) ∨ (∃ b j dy fs, u = .ref b ∧ H b = some (.ins (ca K j) dy fs) ∧ j < 7 ∧ j ≠ 2 ∧ Q (.bl false) H) ∨ (∃ b z, u = .ref b ∧ FieldAt K H b (.fixed z) ∧ scal v z = true ∧ v ≠ z ∧ Q (.bl false) H))

def spEqListed (K : Frag) : Sp := fun vs H Q _ => ∃ (a : Addr) (u : V) (x : LX), vs = [.ref a, u] ∧ FieldAt K H a (.listed x) ∧ PD.In (.listed x) ∧ PD.due (.listed x) = none ∧
  ((∃ b, u = .ref b ∧ FieldAt K H b (.listed x) ∧ Q (.bl true) H) ∨ (∃ b xs, u = .ref b ∧ H b = some (.tup xs) ∧ Q (.bl false) H) ∨ (∃ b j dy fs, u = .ref b ∧ H b = some (.ins (ca K j) dy fs) ∧ j < 7 ∧ j ≠ 3 ∧ Q (.bl false) H))

def spEqEnded (K : Frag) : Sp := fun vs H Q _ => ∃ (a : Addr) (u : V) (s e l m : V), vs = [.ref a, u] ∧ FieldAt K H a (.ended s e l m) ∧ PD.In (.ended s e l m) ∧ PD.due (.ended s e l m) = none ∧
  ((∃ b, u = .ref b ∧ FieldAt K H b (.ended s e l m) ∧ Q (.bl true) H) ∨ (∃ b xs, u = .ref b ∧ H b = some (.tup xs) ∧ Q (.bl false) H) ∨ (∃ b j dy fs, u = .ref b ∧ H b = some (.ins (ca K j) dy fs) ∧ j < 7 ∧ j ≠ 4 ∧ Q (.bl false) H))

abbrev s_Word_eq : Stmt := inClass (top 23) 1
theorem sc_Word_eq : FnScope ["self", "other"] ["self", "other"] (defScope s_Word_eq) := ⟨rfl, rfl, rfl, by decide +kernel, rfl, by decide +kernel, by decide +kernel⟩

theorem ok_Word_eq (F : FunD K "__eq__" "Word.__eq__" (defArgs s_Word_eq) (defBody s_Word_eq) (defScope s_Word_eq) [] [] f fd) (G : G4 P w K mg base) : FnOk P w K mg base CX0 1 f fd ["self", "other"] (spEqWord K) := by
  refine F.ok (CX := CX0) sc_Word_eq (fun vs H Q E h => ?_) (fun cdv A outer s H vs Q E hr h => ?_)
  · obtain ⟨a, u, s, l, m, rfl, _⟩ := h
    rfl
  · refine ⟨_, PSs.nox (pss_one (ps_ret (pe_and (pe_cmpR op_isA (pe_callTy call_tyA (by rfl) G.type (by decide +kernel) (pa_cons (pv 0) pa_nil)) (pe_callTy call_tyA (by rfl) G.type (by decide +kernel) (pa_cons (pv 1) pa_nil)) (nomark _)) (pe_and (pe_cmpR op_eq (pe_fld (pv 0) rfl) (pe_fld (pv 1) rfl) (nomark _)) (pe_and (pe_cmpR op_eq (pe_fld (pv 0) rfl) (pe_fld (pv 1) rfl) (nomark _)) (pe_one (pe_cmpR op_eq (pe_fld (pv 0) rfl) (pe_fld (pv 1) rfl) (nomark _)))))))), ?_⟩
    obtain ⟨a, u, s, l, m, rfl, ⟨dx, ha⟩, hin, hd, h⟩ := h
    obtain ⟨hs, hl, hm⟩ := hin
    obtain ⟨_, _, z⟩ := word_due s hs l hl m hm hd
    obtain ⟨k0, z⟩ := Bool.and_eq_true_iff.mp z
    obtain ⟨k1, k2⟩ := Bool.and_eq_true_iff.mp z

    rcases h with ⟨b, rfl, ⟨dy, hb⟩, q⟩ | ⟨b, xs, rfl, hb, q⟩ | ⟨b, j, dy, fs, rfl, hb, hj, hn, q⟩
    · refine ⟨_, rfl, _, rfl, .inl ⟨a, _, dx, _, rfl, ha, _, rfl, _, rfl, .inl ⟨b, _, dy, _, rfl, hb, _, rfl, .inl ⟨_, rfl, .inl rfl, _, rfl, ?_⟩⟩⟩⟩
      refine ite2 (fun _ => ?_) (fun h => absurd (decide_eq_true rfl) h)
      refine ⟨_, rfl, a, _, dx, _, _, rfl, ha, G.cWord.cl, G.cWord.no _ (by decide +kernel), lWord_signs, _, rfl, b, _, dy, _, _, rfl, hb, G.cWord.cl, G.cWord.no _ (by decide +kernel), lWord_signs, k0, _, rfl, ?_⟩
      refine ite2 (fun _ => ?_) (fun h => absurd (decide_eq_true rfl) h)
      refine ⟨_, rfl, a, _, dx, _, _, rfl, ha, G.cWord.cl, G.cWord.no _ (by decide +kernel), lWord_least, _, rfl, b, _, dy, _, _, rfl, hb, G.cWord.cl, G.cWord.no _ (by decide +kernel), lWord_least, k1, _, rfl, ?_⟩
      refine ite2 (fun _ => ?_) (fun h => absurd (decide_eq_true rfl) h)
      refine ⟨_, rfl, a, _, dx, _, _, rfl, ha, G.cWord.cl, G.cWord.no _ (by decide +kernel), lWord_most, _, rfl, b, _, dy, _, _, rfl, hb, G.cWord.cl, G.cWord.no _ (by decide +kernel), lWord_most, k2, ?_⟩
      rw [decide_eq_true rfl]
      exact q
    · exact ⟨_, rfl, _, rfl, .inl ⟨a, _, dx, _, rfl, ha, _, rfl, _, rfl, .inr ⟨_, .tup hb, _, rfl, .inr ⟨_, rfl, _, rfl, iteF q⟩⟩⟩⟩
    · refine ⟨_, rfl, _, rfl, .inl ⟨a, _, dx, _, rfl, ha, _, rfl, _, rfl, .inl ⟨b, _, dy, _, rfl, hb, _, rfl, .inl ⟨_, rfl, .inr ⟨G.mks 0 (by decide), G.mks j hj⟩, _, rfl, ?_⟩⟩⟩⟩
      rw [decide_eq_false (show ¬ He.ga K "Word" = ca K j from fun e => hn ((G.ne 0 j (by decide) hj).mp e).symm)]
      exact iteF q


abbrev s_Number_eq : Stmt := inClass (top 24) 1
theorem sc_Number_eq : FnScope ["self", "other"] ["self", "other"] (defScope s_Number_eq) := ⟨rfl, rfl, rfl, by decide +kernel, rfl, by decide +kernel, by decide +kernel⟩

theorem ok_Number_eq (F : FunD K "__eq__" "Number.__eq__" (defArgs s_Number_eq) (defBody s_Number_eq) (defScope s_Number_eq) [] [] f fd) (G : G4 P w K mg base) : FnOk P w K mg base CX0 1 f fd ["self", "other"] (spEqNumber K) := by
  refine F.ok (CX := CX0) sc_Number_eq (fun vs H Q E h => ?_) (fun cdv A outer s H vs Q E hr h => ?_)
  · obtain ⟨a, u, l, m, rfl, _⟩ := h
    rfl
  · refine ⟨_, PSs.nox (pss_one (ps_ret (pe_and (pe_cmpR op_isA (pe_callTy call_tyA (by rfl) G.type (by decide +kernel) (pa_cons (pv 0) pa_nil)) (pe_callTy call_tyA (by rfl) G.type (by decide +kernel) (pa_cons (pv 1) pa_nil)) (nomark _)) (pe_and (pe_cmpR op_eq (pe_fld (pv 0) rfl) (pe_fld (pv 1) rfl) (nomark _)) (pe_one (pe_cmpR op_eq (pe_fld (pv 0) rfl) (pe_fld (pv 1) rfl) (nomark _))))))), ?_⟩
    obtain ⟨a, u, l, m, rfl, ⟨dx, ha⟩, hin, hd, h⟩ := h
    obtain ⟨hl, hm⟩ := hin
    obtain ⟨_, _, _, _, _, _, z⟩ := num_due l hl m hm hd
    obtain ⟨k0, k1⟩ := Bool.and_eq_true_iff.mp z

    rcases h with ⟨b, rfl, ⟨dy, hb⟩, q⟩ | ⟨b, xs, rfl, hb, q⟩ | ⟨b, j, dy, fs, rfl, hb, hj, hn, q⟩
    · refine ⟨_, rfl, _, rfl, .inl ⟨a, _, dx, _, rfl, ha, _, rfl, _, rfl, .inl ⟨b, _, dy, _, rfl, hb, _, rfl, .inl ⟨_, rfl, .inl rfl, _, rfl, ?_⟩⟩⟩⟩
      refine ite2 (fun _ => ?_) (fun h => absurd (decide_eq_true rfl) h)
      refine ⟨_, rfl, a, _, dx, _, _, rfl, ha, G.cNumber.cl, G.cNumber.no _ (by decide +kernel), lNumber_least, _, rfl, b, _, dy, _, _, rfl, hb, G.cNumber.cl, G.cNumber.no _ (by decide +kernel), lNumber_least, k0, _, rfl, ?_⟩
      refine ite2 (fun _ => ?_) (fun h => absurd (decide_eq_true rfl) h)
      refine ⟨_, rfl, a, _, dx, _, _, rfl, ha, G.cNumber.cl, G.cNumber.no _ (by decide +kernel), lNumber_most, _, rfl, b, _, dy, _, _, rfl, hb, G.cNumber.cl, G.cNumber.no _ (by decide +kernel), lNumber_most, k1, ?_⟩
      rw [decide_eq_true rfl]
      exact q
    · exact ⟨_, rfl, _, rfl, .inl ⟨a, _, dx, _, rfl, ha, _, rfl, _, rfl, .inr ⟨_, .tup hb, _, rfl, .inr ⟨_, rfl, _, rfl, iteF q⟩⟩⟩⟩
    · refine ⟨_, rfl, _, rfl, .inl ⟨a, _, dx, _, rfl, ha, _, rfl, _, rfl, .inl ⟨b, _, dy, _, rfl, hb, _, rfl, .inl ⟨_, rfl, .inr ⟨G.mks 1 (by decide), G.mks j hj⟩, _, rfl, ?_⟩⟩⟩⟩
      rw [decide_eq_false (show ¬ He.ga K "Number" = ca K j from fun e => hn ((G.ne 1 j (by decide) hj).mp e).symm)]
      exact iteF q


abbrev s_Fixed_eq : Stmt := inClass (top 25) 1
theorem sc_Fixed_eq : FnScope ["self", "other"] ["self", "other"] (defScope s_Fixed_eq) := ⟨rfl, rfl, rfl, by decide +kernel, rfl, by decide +kernel, by decide +kernel⟩

theorem ok_Fixed_eq (F : FunD K "__eq__" "Fixed.__eq__" (defArgs s_Fixed_eq) (defBody s_Fixed_eq) (defScope s_Fixed_eq) [] [] f fd) (G : G4 P w K mg base) : FnOk P w K mg base CX0 1 f fd ["self", "other"] (spEqFixed K) := by
  refine F.ok (CX := CX0) sc_Fixed_eq (fun vs H Q E h => ?_) (fun cdv A outer s H vs Q E hr h => ?_)
  · obtain ⟨a, u, v, rfl, _⟩ := h
    rfl
  · refine ⟨_, PSs.nox (pss_one (ps_ret (pe_and (pe_cmpR op_isA (pe_callTy call_tyA (by rfl) G.type (by decide +kernel) (pa_cons (pv 0) pa_nil)) (pe_callTy call_tyA (by rfl) G.type (by decide +kernel) (pa_cons (pv 1) pa_nil)) (nomark _)) (pe_one (pe_cmpR op_eq (pe_fld (pv 0) rfl) (pe_fld (pv 1) rfl) (nomark _)))))), ?_⟩
    obtain ⟨a, u, v, rfl, ⟨dx, ha⟩, hin, hd, h⟩ := h
    have k0 := fix_due v hin hd

    rcases h with ⟨b, rfl, ⟨dy, hb⟩, q⟩ | ⟨b, xs, rfl, hb, q⟩ | ⟨b, j, dy, fs, rfl, hb, hj, hn, q⟩ | ⟨b, z, rfl, ⟨dy, hb⟩, hz, hv, q⟩
    · refine ⟨_, rfl, _, rfl, .inl ⟨a, _, dx, _, rfl, ha, _, rfl, _, rfl, .inl ⟨b, _, dy, _, rfl, hb, _, rfl, .inl ⟨_, rfl, .inl rfl, _, rfl, ?_⟩⟩⟩⟩
      refine ite2 (fun _ => ?_) (fun h => absurd (decide_eq_true rfl) h)
      refine ⟨_, rfl, a, _, dx, _, _, rfl, ha, G.cFixed.cl, G.cFixed.no _ (by decide +kernel), lFixed_width, _, rfl, b, _, dy, _, _, rfl, hb, G.cFixed.cl, G.cFixed.no _ (by decide +kernel), lFixed_width, k0, ?_⟩
      rw [decide_eq_true rfl]
      exact q
    · exact ⟨_, rfl, _, rfl, .inl ⟨a, _, dx, _, rfl, ha, _, rfl, _, rfl, .inr ⟨_, .tup hb, _, rfl, .inr ⟨_, rfl, _, rfl, iteF q⟩⟩⟩⟩
    · refine ⟨_, rfl, _, rfl, .inl ⟨a, _, dx, _, rfl, ha, _, rfl, _, rfl, .inl ⟨b, _, dy, _, rfl, hb, _, rfl, .inl ⟨_, rfl, .inr ⟨G.mks 2 (by decide), G.mks j hj⟩, _, rfl, ?_⟩⟩⟩⟩
      rw [decide_eq_false (show ¬ He.ga K "Fixed" = ca K j from fun e => hn ((G.ne 2 j (by decide) hj).mp e).symm)]
      exact iteF q
    · refine ⟨_, rfl, _, rfl, .inl ⟨a, _, dx, _, rfl, ha, _, rfl, _, rfl, .inl ⟨b, _, dy, _, rfl, hb, _, rfl, .inl ⟨_, rfl, .inl rfl, _, rfl, ?_⟩⟩⟩⟩
      refine ite2 (fun _ => ?_) (fun h => absurd (decide_eq_true rfl) h)
      refine ⟨_, rfl, a, _, dx, _, _, rfl, ha, G.cFixed.cl, G.cFixed.no _ (by decide +kernel), lFixed_width, _, rfl, b, _, dy, _, _, rfl, hb, G.cFixed.cl, G.cFixed.no _ (by decide +kernel), lFixed_width, hz, ?_⟩
      rw [decide_eq_false hv]
      exact q


abbrev s_Ended_eq : Stmt := inClass (top 27) 1
theorem sc_Ended_eq : FnScope ["self", "other"] ["self", "other"] (defScope s_Ended_eq) := ⟨rfl, rfl, rfl, by decide +kernel, rfl, by decide +kernel, by decide +kernel⟩

theorem ok_Ended_eq (F : FunD K "__eq__" "Ended.__eq__" (defArgs s_Ended_eq) (defBody s_Ended_eq) (defScope s_Ended_eq) [] [] f fd) (G : G4 P w K mg base) : FnOk P w K mg base CX0 1 f fd ["self", "other"] (spEqEnded K) := by
  refine F.ok (CX := CX0) sc_Ended_eq (fun vs H Q E h => ?_) (fun cdv A outer s H vs Q E hr h => ?_)
  · obtain ⟨a, u, s, e, l, m, rfl, _⟩ := h
    rfl
  · refine ⟨_, PSs.nox (pss_one (ps_ret (pe_and (pe_cmpR op_isA (pe_callTy call_tyA (by rfl) G.type (by decide +kernel) (pa_cons (pv 0) pa_nil)) (pe_callTy call_tyA (by rfl) G.type (by decide +kernel) (pa_cons (pv 1) pa_nil)) (nomark _)) (pe_and (pe_cmpR op_eq (pe_fld (pv 0) rfl) (pe_fld (pv 1) rfl) (nomark _)) (pe_and (pe_cmpR op_eq (pe_fld (pv 0) rfl) (pe_fld (pv 1) rfl) (nomark _)) (pe_and (pe_cmpR op_eq (pe_fld (pv 0) rfl) (pe_fld (pv 1) rfl) (nomark _)) (pe_one (pe_cmpR op_eq (pe_fld (pv 0) rfl) (pe_fld (pv 1) rfl) (nomark _))))))))), ?_⟩
    obtain ⟨a, u, s, e, l, m, rfl, ⟨dx, ha⟩, hin, hd, h⟩ := h
    obtain ⟨hs, he, hl, hm⟩ := hin
    obtain ⟨_, _, _, z⟩ := end_due s hs e he l hl m hm hd
    obtain ⟨k0, z⟩ := Bool.and_eq_true_iff.mp z
    obtain ⟨k1, z⟩ := Bool.and_eq_true_iff.mp z
    obtain ⟨k2, k3⟩ := Bool.and_eq_true_iff.mp z

    rcases h with ⟨b, rfl, ⟨dy, hb⟩, q⟩ | ⟨b, xs, rfl, hb, q⟩ | ⟨b, j, dy, fs, rfl, hb, hj, hn, q⟩
    · refine ⟨_, rfl, _, rfl, .inl ⟨a, _, dx, _, rfl, ha, _, rfl, _, rfl, .inl ⟨b, _, dy, _, rfl, hb, _, rfl, .inl ⟨_, rfl, .inl rfl, _, rfl, ?_⟩⟩⟩⟩
      refine ite2 (fun _ => ?_) (fun h => absurd (decide_eq_true rfl) h)
      refine ⟨_, rfl, a, _, dx, _, _, rfl, ha, G.cEnded.cl, G.cEnded.no _ (by decide +kernel), lEnded_signs, _, rfl, b, _, dy, _, _, rfl, hb, G.cEnded.cl, G.cEnded.no _ (by decide +kernel), lEnded_signs, k0, _, rfl, ?_⟩
      refine ite2 (fun _ => ?_) (fun h => absurd (decide_eq_true rfl) h)
      refine ⟨_, rfl, a, _, dx, _, _, rfl, ha, G.cEnded.cl, G.cEnded.no _ (by decide +kernel), lEnded_sign, _, rfl, b, _, dy, _, _, rfl, hb, G.cEnded.cl, G.cEnded.no _ (by decide +kernel), lEnded_sign, k1, _, rfl, ?_⟩
      refine ite2 (fun _ => ?_) (fun h => absurd (decide_eq_true rfl) h)
      refine ⟨_, rfl, a, _, dx, _, _, rfl, ha, G.cEnded.cl, G.cEnded.no _ (by decide +kernel), lEnded_least, _, rfl, b, _, dy, _, _, rfl, hb, G.cEnded.cl, G.cEnded.no _ (by decide +kernel), lEnded_least, k2, _, rfl, ?_⟩
      refine ite2 (fun _ => ?_) (fun h => absurd (decide_eq_true rfl) h)
      refine ⟨_, rfl, a, _, dx, _, _, rfl, ha, G.cEnded.cl, G.cEnded.no _ (by decide +kernel), lEnded_most, _, rfl, b, _, dy, _, _, rfl, hb, G.cEnded.cl, G.cEnded.no _ (by decide +kernel), lEnded_most, k3, ?_⟩
      rw [decide_eq_true rfl]
      exact q
    · exact ⟨_, rfl, _, rfl, .inl ⟨a, _, dx, _, rfl, ha, _, rfl, _, rfl, .inr ⟨_, .tup hb, _, rfl, .inr ⟨_, rfl, _, rfl, iteF q⟩⟩⟩⟩
    · refine ⟨_, rfl, _, rfl, .inl ⟨a, _, dx, _, rfl, ha, _, rfl, _, rfl, .inl ⟨b, _, dy, _, rfl, hb, _, rfl, .inl ⟨_, rfl, .inr ⟨G.mks 4 (by decide), G.mks j hj⟩, _, rfl, ?_⟩⟩⟩⟩
      rw [decide_eq_false (show ¬ He.ga K "Ended" = ca K j from fun e => hn ((G.ne 4 j (by decide) hj).mp e).symm)]
      exact iteF q


abbrev s_Listed_eq : Stmt := inClass (top 26) 1
theorem sc_Listed_eq : FnScope ["self", "other"] ["self", "other"] (defScope s_Listed_eq) := ⟨rfl, rfl, rfl, by decide +kernel, rfl, by decide +kernel, by decide +kernel⟩

theorem ok_Listed_eq (F : FunD K "__eq__" "Listed.__eq__" (defArgs s_Listed_eq) (defBody s_Listed_eq) (defScope s_Listed_eq) [] [] f fd) (G : G4 P w K mg base) : FnOk P w K mg base CX0 1 f fd ["self", "other"] (spEqListed K) := by
  refine F.ok (CX := CX0) sc_Listed_eq (fun vs H Q E h => ?_) (fun cdv A outer s H vs Q E hr h => ?_)
  · obtain ⟨a, u, x, rfl, _⟩ := h
    rfl
  · refine ⟨_, PSs.nox (pss_one (ps_ret (pe_and (pe_cmpR op_isA (pe_callTy call_tyA (by rfl) G.type (by decide +kernel) (pa_cons (pv 0) pa_nil)) (pe_callTy call_tyA (by rfl) G.type (by decide +kernel) (pa_cons (pv 1) pa_nil)) (nomark _)) (pe_one (pe_cmpR (op_eqD hr.units) (pe_fld (pv 0) rfl) (pe_fld (pv 1) rfl) (nomark _)))))), ?_⟩
    obtain ⟨a, u, x, rfl, ⟨dx, t, ha, ht⟩, hin, hd, h⟩ := h
    obtain ⟨hf, hsh⟩ := lM_shaped x hin hd
    rcases h with ⟨b, rfl, ⟨dy, t2, hb, ht2⟩, q⟩ | ⟨b, xs, rfl, hb, q⟩ | ⟨b, j, dy, fs, rfl, hb, hj, hn, q⟩
    · refine ⟨_, rfl, _, rfl, .inl ⟨a, _, dx, _, rfl, ha, _, rfl, _, rfl, .inl ⟨b, _, dy, _, rfl, hb, _, rfl, .inl ⟨_, rfl, .inl rfl, _, rfl, ?_⟩⟩⟩⟩
      refine ite2 (fun _ => ?_) (fun h => absurd (decide_eq_true rfl) h)
      refine ⟨_, rfl, a, _, dx, _, _, rfl, ha, G.cListed.cl, G.cListed.no _ (by decide +kernel), lListed_texts, _, rfl, b, _, dy, _, _, rfl, hb, G.cListed.cl, G.cListed.no _ (by decide +kernel), lListed_texts, _, _, .tup ht.sq (dpAll_flat hf), .tup ht2.sq (dpAll_flat hf), hsh, hsh, ?_⟩
      rw [eqv_same hsh]
      exact q
    · exact ⟨_, rfl, _, rfl, .inl ⟨a, _, dx, _, rfl, ha, _, rfl, _, rfl, .inr ⟨_, .tup hb, _, rfl, .inr ⟨_, rfl, _, rfl, iteF q⟩⟩⟩⟩
    · refine ⟨_, rfl, _, rfl, .inl ⟨a, _, dx, _, rfl, ha, _, rfl, _, rfl, .inl ⟨b, _, dy, _, rfl, hb, _, rfl, .inl ⟨_, rfl, .inr ⟨G.mks 3 (by decide), G.mks j hj⟩, _, rfl, ?_⟩⟩⟩⟩
      rw [decide_eq_false (show ¬ He.ga K "Listed" = ca K j from fun e => hn ((G.ne 3 j (by decide) hj).mp e).symm)]
      exact iteF q


/-- has_sign and == of each class -/
structure HM (P : Program) (w : World) (K : Frag) (mg : Str → Option Value) (base : Heap) (k : Nat) (C : Addr) (m : Str) (ps : List Str) (sp : Sp) : Prop where
  me : Meth K C m (He.ma K C m)
  ok : ∃ fd, FnOk P w K mg base CX0 k (He.ma K C m) fd ps sp ∧ Binds K fd ps []
structure EQ (P : Program) (w : World) (K : Frag) (mg : Str → Option Value) (base : Heap) (C : Addr) (sp : Sp) : Prop where
  ok : ∃ fd, FnOk P w K mg base CX0 1 (He.ma K C "__eq__") fd ["self", "other"] sp ∧ Binds K fd ["self", "other"] []
structure G5 (P : Program) (w : World) (K : Frag) (mg : Str → Option Value) (base : Heap) : Prop extends G4 P w K mg base where
  hWord : HM P w K mg base 2 (ca K 0) "has_sign" ["self", "sign"] (spHasWord K)
  eWord : EQ P w K mg base (ca K 0) (spEqWord K)
  hNumber : HM P w K mg base 2 (ca K 1) "has_sign" ["self", "sign"] (spHasNumber K)
  eNumber : EQ P w K mg base (ca K 1) (spEqNumber K)
  hFixed : HM P w K mg base 2 (ca K 2) "has_sign" ["self", "sign"] (spHasFixed K)
  eFixed : EQ P w K mg base (ca K 2) (spEqFixed K)
  hListed : HM P w K mg base 2 (ca K 3) "has_sign" ["self", "sign"] (spHasListed K)
  eListed : EQ P w K mg base (ca K 3) (spEqListed K)
  hEnded : HM P w K mg base 2 (ca K 4) "has_sign" ["self", "sign"] (spHasEnded K)
  eEnded : EQ P w K mg base (ca K 4) (spEqEnded K)
theorem G5.has (G : G5 P w K mg base) {H : Hp} {y : Addr} : ∀ {d : PD}, FieldAt K H y d → d.In → d.due = none → ∃ sp, HM P w K mg base 2 (ca K d.ci) "has_sign" ["self", "sign"] sp ∧
    ∀ c Q E, (∀ H', Same H H' → Q (.bl (d.has ⟨#[c]⟩)) H') → sp [.ref y, .str ⟨#[c]⟩] H Q E
  | .word s l m, h, i, u => ⟨_, G.hWord, fun c Q E q => ⟨y, c, s, l, m, rfl, h, i, u, q⟩⟩
  | .number l m, h, i, u => ⟨_, G.hNumber, fun c Q E q => ⟨y, c, l, m, rfl, h, i, u, q⟩⟩
  | .fixed v, h, i, u => ⟨_, G.hFixed, fun c Q E q => ⟨y, c, v, rfl, h, i, u, q⟩⟩
  | .listed x, h, i, u => ⟨_, G.hListed, fun c Q E q => ⟨y, c, x, rfl, h, i, u, q⟩⟩
  | .ended s e l m, h, i, u => ⟨_, G.hEnded, fun c Q E q => ⟨y, c, s, e, l, m, rfl, h, i, u, q⟩⟩
theorem G5.eqs (G : G5 P w K mg base) {H : Hp} {y : Addr} : ∀ {d : PD}, FieldAt K H y d → d.In → d.due = none → ∃ sp, EQ P w K mg base (ca K d.ci) sp ∧
    ∀ u Q E, ((∃ b, u = .ref b ∧ FieldAt K H b d ∧ Q (.bl true) H) ∨ (∃ b xs, u = .ref b ∧ H b = some (.tup xs) ∧ Q (.bl false) H) ∨ (∃ b j dy fs, u = .ref b ∧ H b = some (.ins (ca K j) dy fs) ∧ j < 7 ∧ j ≠ d.ci ∧ Q (.bl false) H)) → sp [.ref y, u] H Q E
  | .word s l m, h, i, u => ⟨_, G.eWord, fun v Q E q => ⟨y, v, s, l, m, rfl, h, i, u, q⟩⟩
  | .number l m, h, i, u => ⟨_, G.eNumber, fun v Q E q => ⟨y, v, l, m, rfl, h, i, u, q⟩⟩
  | .fixed z, h, i, u => ⟨_, G.eFixed, fun v Q E q => ⟨y, v, z, rfl, h, i, u, q.imp id (Or.imp id Or.inl)⟩⟩
  | .listed x, h, i, u => ⟨_, G.eListed, fun v Q E q => ⟨y, v, x, rfl, h, i, u, q⟩⟩
  | .ended s e l m, h, i, u => ⟨_, G.eEnded, fun v Q E q => ⟨y, v, s, e, l, m, rfl, h, i, u, q⟩⟩
/-- what is handed in as the field of a marked one -/
def IVAt (K : Frag) (H : Hp) (fv : V) : OD → Prop
  | .val u => fv = u ∧ (u = .non ∨ u = .str "word")
  | .pl d => ∃ y, fv = .ref y ∧ FieldAt K H y d ∧ d.In ∧ d.due = none
  | .mk .. => ∃ y dx fs, fv = .ref y ∧ H y = some (.ins (ca K 5) dx fs)
theorem kit5 (G : G4 P w K mg base) : ∀ i, i < 6 → kitAny K (.ref (ca K i)) [.ref (ca K 0), .ref (ca K 1), .ref (ca K 2), .ref (ca K 3), .ref (ca K 4)] = some (decide (i < 5))
  | 0, h => by
    have k := fun j (hj : j < 6) => G.kit 0 j h hj
    exact kitAny_cons (b := true) (k 0 (by decide)) (fun z => nomatch z) (fun _ => rfl)
  | 1, h => by
    have k := fun j (hj : j < 6) => G.kit 1 j h hj
    exact kitAny_cons (b := false) (k 0 (by decide)) (fun _ => kitAny_cons (b := true) (k 1 (by decide)) (fun z => nomatch z) (fun _ => rfl)) (fun z => nomatch z)
  | 2, h => by
    have k := fun j (hj : j < 6) => G.kit 2 j h hj
    exact kitAny_cons (b := false) (k 0 (by decide)) (fun _ => kitAny_cons (b := false) (k 1 (by decide)) (fun _ => kitAny_cons (b := true) (k 2 (by decide)) (fun z => nomatch z) (fun _ => rfl)) (fun z => nomatch z)) (fun z => nomatch z)
  | 3, h => by
    have k := fun j (hj : j < 6) => G.kit 3 j h hj
    exact kitAny_cons (b := false) (k 0 (by decide)) (fun _ => kitAny_cons (b := false) (k 1 (by decide)) (fun _ => kitAny_cons (b := false) (k 2 (by decide)) (fun _ => kitAny_cons (b := true) (k 3 (by decide)) (fun z => nomatch z) (fun _ => rfl)) (fun z => nomatch z)) (fun z => nomatch z)) (fun z => nomatch z)
  | 4, h => by
    have k := fun j (hj : j < 6) => G.kit 4 j h hj
    exact kitAny_cons (b := false) (k 0 (by decide)) (fun _ => kitAny_cons (b := false) (k 1 (by decide)) (fun _ => kitAny_cons (b := false) (k 2 (by decide)) (fun _ => kitAny_cons (b := false) (k 3 (by decide)) (fun _ => kitAny_cons (b := true) (k 4 (by decide)) (fun z => nomatch z) (fun _ => rfl)) (fun z => nomatch z)) (fun z => nomatch z)) (fun z => nomatch z)) (fun z => nomatch z)
  | 5, h => by
    have k := fun j (hj : j < 6) => G.kit 5 j h hj
    exact kitAny_cons (b := false) (k 0 (by decide)) (fun _ => kitAny_cons (b := false) (k 1 (by decide)) (fun _ => kitAny_cons (b := false) (k 2 (by decide)) (fun _ => kitAny_cons (b := false) (k 3 (by decide)) (fun _ => kitAny_cons (b := false) (k 4 (by decide)) (fun _ => kitAny_nil) (fun z => nomatch z)) (fun z => nomatch z)) (fun z => nomatch z)) (fun z => nomatch z)) (fun z => nomatch z)
  | n + 6, h => absurd h (by omega)
theorem kit5N (G : G4 P w K mg base) : kitAny K (.type "NoneType") [.ref (ca K 0), .ref (ca K 1), .ref (ca K 2), .ref (ca K 3), .ref (ca K 4)] = some false := by
  have k := G.kitN
  exact kitAny_cons (b := false) (k 0 (by decide)) (fun _ => kitAny_cons (b := false) (k 1 (by decide)) (fun _ => kitAny_cons (b := false) (k 2 (by decide)) (fun _ => kitAny_cons (b := false) (k 3 (by decide)) (fun _ => kitAny_cons (b := false) (k 4 (by decide)) (fun _ => kitAny_nil) (fun z => nomatch z)) (fun z => nomatch z)) (fun z => nomatch z)) (fun z => nomatch z)) (fun z => nomatch z)
theorem kit5S (G : G4 P w K mg base) : kitAny K (.type "str") [.ref (ca K 0), .ref (ca K 1), .ref (ca K 2), .ref (ca K 3), .ref (ca K 4)] = some false := by
  have k := G.kitS
  exact kitAny_cons (b := false) (k 0 (by decide)) (fun _ => kitAny_cons (b := false) (k 1 (by decide)) (fun _ => kitAny_cons (b := false) (k 2 (by decide)) (fun _ => kitAny_cons (b := false) (k 3 (by decide)) (fun _ => kitAny_cons (b := false) (k 4 (by decide)) (fun _ => kitAny_nil) (fun z => nomatch z)) (fun z => nomatch z)) (fun z => nomatch z)) (fun z => nomatch z)) (fun z => nomatch z)
def spMarked (K : Frag) : Sp := fun vs H Q E => ∃ (a dx : Addr) (n m fv : V) (i : OD), vs = [.ref a, n, m, fv] ∧ H a = some (.ins (ca K 5) dx []) ∧ n ∈ mQ ∧ m ∈ mQ ∧ IVAt K H fv i ∧
  (OD.due (.mk n m i) = none → ∀ H2, Same H H2 → Q .non (upd H2 a (.ins (ca K 5) dx (fMarked n m fv)))) ∧ ∀ z, OD.due (.mk n m i) = some z → RaiseE (BF K) "what" (.str z) H E

abbrev s_Marked_init : Stmt := inClass (top 28) 0
theorem sc_Marked_init : FnScope ["self", "none", "mark", "field"] ["self", "none", "mark", "field"] (defScope s_Marked_init) := ⟨rfl, rfl, rfl, by decide +kernel, rfl, by decide +kernel, by decide +kernel⟩

theorem ok_Marked_init (F : FunD K "__init__" "Marked.__init__" (defArgs s_Marked_init) (defBody s_Marked_init) (defScope s_Marked_init) [] [] f fd) (G : G5 P w K mg base) : FnOk P w K mg base (L2.CX P w) 4 f fd ["self", "none", "mark", "field"] (spMarked K) := by
  refine F.ok (CX := (L2.CX P w)) sc_Marked_init (fun vs H Q E h => ?_) (fun cdv A outer s H vs Q E hr h => ?_)
  · obtain ⟨a, dx, n, m, fv, i, rfl, _⟩ := h
    rfl
  · have hr3 : Room 3 _ := hr
    have hr2 : Room 2 _ := hr.mono (by decide)
    refine ⟨_, (pss_cons (ps_if (pt_not (pt_val (pe_fn G.is_sign (hr2.mono (by decide)) pass0 (by rfl) (pa_cons (pv 1) pa_nil))))
      (pss_one (ps_raise rfl (takes_of rfl rfl rfl rfl) (pmk_1 G.bf hr2 (by rfl) (pa_cons pe_str pa_nil))))
      pss_nil)
    (pss_cons (ps_if (PW.pt (pw_or (pt_not (pt_val (pe_fn G.is_sign (hr2.mono (by decide)) pass0 (by rfl) (pa_cons (pv 2) pa_nil)))) (pw_or1 (pt_cmpR op_eq (pv 2) (pv 1) (nomark _)))))
      (pss_one (ps_raise rfl (takes_of rfl rfl rfl rfl) (pmk_1 G.bf hr2 (by rfl) (pa_cons pe_str pa_nil))))
      pss_nil)
    (pss_cons (ps_if (pt_not (pt_val (pe_callB call_ieT (by rfl) G.isinstance (by decide +kernel) (pa_cons (pv 3) (pa_cons (pe_tupS (pa_cons (pe_gref (by rfl) G.cWord.mgC) (pa_cons (pe_gref (by rfl) G.cNumber.mgC) (pa_cons (pe_gref (by rfl) G.cFixed.mgC) (pa_cons (pe_gref (by rfl) G.cListed.mgC) (pa_cons (pe_gref (by rfl) G.cEnded.mgC) pa_nil)))))) pa_nil)))))
      (pss_one (ps_raise rfl (takes_of rfl rfl rfl rfl) (pmk_1 G.bf hr2 (by rfl) (pa_cons pe_str pa_nil))))
      pss_nil)
    (pss_cons (ps_if (PW.pt (pw_or (pt_val (pe_methD (CX := CX0) (pv 3) pass0 (pa_cons (pv 1) pa_nil))) (pw_or1 (pt_val (pe_methD (CX := CX0) (pv 3) pass0 (pa_cons (pv 2) pa_nil))))))
      (pss_one (ps_raise rfl (takes_of rfl rfl rfl rfl) (pmk_1 G.bf hr2 (by rfl) (pa_cons pe_str pa_nil))))
      pss_nil)
    (pss_cons (ps_fld (pv 0) (pv 1) rfl)
    (pss_cons (ps_fld (pv 0) (pv 2) rfl)
    (pss_one (ps_fld (pv 0) (pv 3) rfl)))))))), ?_⟩
    obtain ⟨a, dx, n, m, fv, i, rfl, ha, hn, hm, hI, q1, q2⟩ := h
    refine ⟨_, rfl, n, rfl, mQ_vM hn, _, rfl, ?_⟩
    show if (!isSignB n) = true then _ else _
    refine ite2 (fun h1 => mkO_1 (q2 _ (by show (if (!isSignB n) = true then _ else _) = _; rw [if_pos h1]))) (fun h1 => ?_)
    have e1 : OD.due (.mk n m i) = if (!isSignB m || decide (m = n)) = true then (some "mark" : Option Str) else iDue n m i := by show (if (!isSignB n) = true then _ else _) = _; rw [if_neg h1]
    rw [e1] at q1 q2
    have h1' : isSignB n = true := by cases z : isSignB n with | true => rfl | false => exact absurd (by rw [z]; rfl) h1
    obtain ⟨en, cn⟩ := mQ_one n hn h1'
    refine ⟨_, rfl, m, rfl, mQ_vM hm, _, rfl, ?_⟩
    show if (!isSignB m) = true then _ else _
    refine ite2 (fun h2 => mkO_1 (q2 _ (by rw [h2]; rfl))) (fun h2 => ?_)
    have h2' : isSignB m = true := by cases z : isSignB m with | true => rfl | false => exact absurd (by rw [z]; rfl) h2
    obtain ⟨em, cm⟩ := mQ_one m hm h2'
    refine ⟨_, rfl, _, rfl, (by rw [en, em]; rfl), _, rfl, ?_⟩
    refine ite2 (fun h3 => mkO_1 (q2 _ (by rw [h3, Bool.or_true]; rfl))) (fun h3 => ?_)
    rw [h2', Bool.eq_false_iff.mpr h3] at q1 q2
    replace q1 : iDue n m i = none → ∀ H2, Same H H2 → Q .non (upd H2 a (.ins (ca K 5) dx (fMarked n m fv))) := q1
    replace q2 : ∀ z, iDue n m i = some z → RaiseE (BF K) "what" (.str z) H E := q2
    clear e1
    cases i with
    | val u =>
      obtain ⟨rfl, rfl | rfl⟩ := hI
      · refine ⟨_, rfl, by show 5 ≤ 1000; decide, fun p0 H0 hp0 S0 e0 => ⟨_, p0, _, _, _, false, rfl, e0, .cons (.own _) (.cons (.own _) (.cons (.own _) (.cons (.own _) (.cons (.own _) Paired.nil)))), .x (.base .non), (kit5N G.toG4), _, rfl, iteT (mkO_1 (raise_mono S0 (q2 _ rfl)))⟩⟩
      · refine ⟨_, rfl, by show 5 ≤ 1000; decide, fun p0 H0 hp0 S0 e0 => ⟨_, p0, _, _, _, false, rfl, e0, .cons (.own _) (.cons (.own _) (.cons (.own _) (.cons (.own _) (.cons (.own _) Paired.nil)))), .x (.base (.str _)), (kit5S G.toG4), _, rfl, iteT (mkO_1 (raise_mono S0 (q2 _ rfl)))⟩⟩
    | mk n2 m2 i2 =>
      obtain ⟨y, dy, fs, rfl, hy⟩ := hI
      refine ⟨_, rfl, by show 5 ≤ 1000; decide, fun p0 H0 hp0 S0 e0 => ⟨_, p0, _, _, _, false, rfl, e0, .cons (.own _) (.cons (.own _) (.cons (.own _) (.cons (.own _) (.cons (.own _) Paired.nil)))), G.ty (i := 5) (by decide) (S0 _ _ hy), (kit5 G.toG4 5 (by decide)), _, rfl, iteT (mkO_1 (raise_mono S0 (q2 _ rfl)))⟩⟩
    | pl d =>
      obtain ⟨y, rfl, hy, hin, hd⟩ := hI
      have eD : iDue n m (.pl d) = if (d.has ⟨#[(strV n).cps.getD 0 0]⟩ || d.has ⟨#[(strV m).cps.getD 0 0]⟩) = true then (some "field" : Option Str) else none := by
        have e1 : strV n = ⟨#[(strV n).cps.getD 0 0]⟩ := congrArg strV en
        have e2 : strV m = ⟨#[(strV m).cps.getD 0 0]⟩ := congrArg strV em
        rw [← e1, ← e2]
        rfl
      rw [eD] at q1 q2
      obtain ⟨dy, fs, hi, lf⟩ := hy.ins
      refine ⟨_, rfl, by show 5 ≤ 1000; decide, fun p0 H0 hp0 S0 e0 => ⟨_, p0, _, _, _, true, rfl, e0, .cons (.own _) (.cons (.own _) (.cons (.own _) (.cons (.own _) (.cons (.own _) Paired.nil)))), G.ty (Nat.lt_of_lt_of_le d.ci_lt (by decide)) (S0 _ _ hi), ((kit5 G.toG4 d.ci (Nat.lt_of_lt_of_le d.ci_lt (by decide))).trans (congrArg some (decide_eq_true d.ci_lt))), _, rfl, iteF ?_⟩⟩
      obtain ⟨sp, M, Hs⟩ := G.has (hy.same S0) hin hd
      obtain ⟨fdh, Fh, Bh⟩ := M.ok
      refine ⟨_, rfl, y, _, dy, _, fs, 2, fdh, _, sp, rfl, S0 _ _ hi, lf, G.cl _ (Nat.lt_of_lt_of_le d.ci_lt (by decide)), M.me, Fh, hr2, Bh, _, rfl, ?_⟩
      show sp [.ref y, n] H0 _ _
      rw [en]
      refine Hs _ _ _ fun H1 S1 => ⟨_, rfl, ?_⟩
      have S1' := S0.trans S1
      refine ite2 (fun h4 => mkO_1 (raise_mono S1' (q2 _ (by rw [h4]; rfl)))) (fun h4 => ?_)
      obtain ⟨sp2, M2, Hs2⟩ := G.has (hy.same S1') hin hd
      obtain ⟨fdh2, Fh2, Bh2⟩ := M2.ok
      refine ⟨_, rfl, y, _, dy, _, fs, 2, fdh2, _, sp2, rfl, S1' _ _ hi, lf, G.cl _ (Nat.lt_of_lt_of_le d.ci_lt (by decide)), M2.me, Fh2, hr2, Bh2, _, rfl, ?_⟩
      show sp2 [.ref y, m] H1 _ _
      rw [em]
      refine Hs2 _ _ _ fun H2 S2 => ⟨_, rfl, ?_⟩
      have S2' := S1'.trans S2
      refine ite2 (fun h5 => mkO_1 (raise_mono S2' (q2 _ (by rw [h5, Bool.or_true]; rfl)))) (fun h5 => ?_)
      have z := q1 (by rw [Bool.eq_false_iff.mpr h4, Bool.eq_false_iff.mpr h5]; rfl) H2 S2'
      rw [← en, ← em]
      have ha := S2' _ _ ha
      refine ⟨_, rfl, _, rfl, a, _, dx, _, rfl, ha, G.cMarked.cl, G.cMarked.no _ (by decide +kernel), (by show 0 < 1000; decide), _, rfl, _, rfl, a, _, dx, _, rfl, upd_same, G.cMarked.cl, G.cMarked.no _ (by decide +kernel), (by show 1 < 1000; decide), _, rfl, _, rfl, a, _, dx, _, rfl, upd_same, G.cMarked.cl, G.cMarked.no _ (by decide +kernel), (by show 2 < 1000; decide), ?_⟩
      show Q .non _
      rw [upd_upd, upd_upd]
      exact z

/-- a marked field -/
def MkAt (K : Frag) (H : Hp) (a : Addr) (n m : V) (d : PD) : Prop := ∃ dx y, H a = some (.ins (ca K 5) dx (fMarked n m (.ref y))) ∧ FieldAt K H y d
def spEqMarked (K : Frag) : Sp := fun vs H Q _ => ∃ (a : Addr) (u n m : V) (d : PD), vs = [.ref a, u] ∧ MkAt K H a n m d ∧ d.In ∧ d.due = none ∧ scal n n = true ∧ scal m m = true ∧
  ((∃ b, u = .ref b ∧ MkAt K H b n m d ∧ Q (.bl true) H) ∨ (∃ b xs, u = .ref b ∧ H b = some (.tup xs) ∧ Q (.bl false) H) ∨ (∃ b j dy fs, u = .ref b ∧ H b = some (.ins (ca K j) dy fs) ∧ j < 7 ∧ j ≠ 5 ∧ Q (.bl false) H))

abbrev s_Marked_eq : Stmt := inClass (top 28) 1
theorem sc_Marked_eq : FnScope ["self", "other"] ["self", "other"] (defScope s_Marked_eq) := ⟨rfl, rfl, rfl, by decide +kernel, rfl, by decide +kernel, by decide +kernel⟩

theorem ok_Marked_eq (F : FunD K "__eq__" "Marked.__eq__" (defArgs s_Marked_eq) (defBody s_Marked_eq) (defScope s_Marked_eq) [] [] f fd) (G : G5 P w K mg base) : FnOk P w K mg base CX0 2 f fd ["self", "other"] (spEqMarked K) := by
  refine F.ok (CX := CX0) sc_Marked_eq (fun vs H Q E h => ?_) (fun cdv A outer s H vs Q E hr h => ?_)
  · obtain ⟨a, u, n, m, d, rfl, _⟩ := h
    rfl
  · refine ⟨_, PSs.nox (pss_one (ps_ret (pe_and (pe_cmpR op_isA (pe_callTy call_tyA (by rfl) G.type (by decide +kernel) (pa_cons (pv 0) pa_nil)) (pe_callTy call_tyA (by rfl) G.type (by decide +kernel) (pa_cons (pv 1) pa_nil)) (nomark _)) (pe_and (pe_cmpR op_eq (pe_fld (pv 0) rfl) (pe_fld (pv 1) rfl) (nomark _)) (pe_and (pe_cmpR op_eq (pe_fld (pv 0) rfl) (pe_fld (pv 1) rfl) (nomark _)) (pe_one (pe_cmpR (op_eqO (CX := CX0) pass0) (pe_fld (pv 0) rfl) (pe_fld (pv 1) rfl) (nomark _)))))))), ?_⟩
    obtain ⟨a, u, n, m, d, rfl, ⟨dx, y, ha, hy⟩, hin, hd, k0, k1, h⟩ := h
    rcases h with ⟨b, rfl, ⟨dy, y2, hb, hy2⟩, q⟩ | ⟨b, xs, rfl, hb, q⟩ | ⟨b, j, dy, fs, rfl, hb, hj, hn, q⟩
    · refine ⟨_, rfl, _, rfl, .inl ⟨a, _, dx, _, rfl, ha, _, rfl, _, rfl, .inl ⟨b, _, dy, _, rfl, hb, _, rfl, .inl ⟨_, rfl, .inl rfl, _, rfl, ?_⟩⟩⟩⟩
      refine ite2 (fun _ => ?_) (fun h => absurd (decide_eq_true rfl) h)
      refine ⟨_, rfl, a, _, dx, _, _, rfl, ha, G.cMarked.cl, G.cMarked.no _ (by decide +kernel), lMarked_none, _, rfl, b, _, dy, _, _, rfl, hb, G.cMarked.cl, G.cMarked.no _ (by decide +kernel), lMarked_none, k0, _, rfl, ?_⟩
      refine ite2 (fun _ => ?_) (fun h => absurd (decide_eq_true rfl) h)
      refine ⟨_, rfl, a, _, dx, _, _, rfl, ha, G.cMarked.cl, G.cMarked.no _ (by decide +kernel), lMarked_mark, _, rfl, b, _, dy, _, _, rfl, hb, G.cMarked.cl, G.cMarked.no _ (by decide +kernel), lMarked_mark, k1, _, rfl, ?_⟩
      refine ite2 (fun _ => ?_) (fun h => absurd (decide_eq_true rfl) h)
      obtain ⟨ey, fs, hi, _⟩ := hy.ins
      obtain ⟨ey2, fs2, hi2, _⟩ := hy2.ins
      have h6 := Nat.lt_of_lt_of_le d.ci_lt (by decide : 5 ≤ 6)
      obtain ⟨sp, M, Hs⟩ := G.eqs hy hin hd
      obtain ⟨fde, Fe, Be⟩ := M.ok
      refine ⟨_, rfl, a, _, dx, _, _, rfl, ha, G.cMarked.cl, G.cMarked.no _ (by decide +kernel), lMarked_field, _, rfl, b, _, dy, _, _, rfl, hb, G.cMarked.cl, G.cMarked.no _ (by decide +kernel), lMarked_field, y, ca K d.ci, ey, fs, .ref (ca K d.ci), rfl, hi, (G.kc _ h6).eq, G.ty h6 hi2, ?_, 1, fde, _, sp, (G.kc _ h6).ke, Fe, hr, Be, Hs _ _ _ (.inl ⟨y2, rfl, hy2, true, rfl, q⟩)⟩
      unfold notFirst
      rw [beq_self_eq_true]
      rfl
    · exact ⟨_, rfl, _, rfl, .inl ⟨a, _, dx, _, rfl, ha, _, rfl, _, rfl, .inr ⟨_, .tup hb, _, rfl, .inr ⟨_, rfl, _, rfl, iteF q⟩⟩⟩⟩
    · refine ⟨_, rfl, _, rfl, .inl ⟨a, _, dx, _, rfl, ha, _, rfl, _, rfl, .inl ⟨b, _, dy, _, rfl, hb, _, rfl, .inl ⟨_, rfl, .inr ⟨G.mks 5 (by decide), G.mks j hj⟩, _, rfl, ?_⟩⟩⟩⟩
      rw [decide_eq_false (show ¬ ca K 5 = ca K j from fun e => hn ((G.ne 5 j (by decide) hj).mp e).symm)]
      exact iteF q


end
end L2.K79

set_option Elab.async false
set_option linter.all false
set_option maxRecDepth 100000
set_option maxHeartbeats 4000000
/-! Fields, layouts: what stands where. -/
namespace L2.K79
open PySem PySem.W PySem.Spec PySem.Calls PyProof.Rows L2.Jk
def withinB (l m : V) (n : Int) : Bool := decide (intV l ≤ n) && (decide (m = .non) || decide (n ≤ intV m))
def wordB (s l m : V) : V → Bool
  | .str z => madeB z (strV s) && withinB l m z.length
  | _ => false
def numeralB (t : Str) : Bool := if (decide (V.str t = .str "") || !madeB t DG) = true then false else decide (V.str t = .str "0") || !decide (V.str ⟨#[t.cps.getD 0 0]⟩ = .str "0")
def numTx (t : Str) : Str := ("0" : Str) ++ cutS t none (some ((t.length : Int) % 64))
def numOf (t : Str) : Int := (PySem.intText? (numTx t)).getD 0
def numOk (t : Str) : Bool := (PySem.intText? (numTx t)).isSome && (decide (t.length < 64) && (decide ((numTx t).length ≤ 640) && decide (("0" : Str).length + (cutS t none (some ((t.length : Int) % 64))).length ≤ 640)))
def great (w : V) : Int := numOf (repS "9" (intV w))
def greatOk (w : V) : Bool := numOk (repS "9" (intV w)) && repOk "9" (intV w)
def init1 (t : Str) : Str := cutS t none (some (-1))
def last1 (t : Str) : Str := cutS t (some (-1)) none
def PD.hasV (v : V) : PD → Bool
  | .word s l m => wordB s l m v
  | .number l m => numB v && withinB l m (intV v)
  | .fixed w => numB v && (decide (0 ≤ intV v) && decide (intV v ≤ great w))
  | .listed x => (match v with | .str _ => inV v x.els | _ => false)
  | .ended s _ l m => wordB s l m v
def PD.hasT (t : Str) : PD → Bool
  | .word s l m => wordB s l m (.str t)
  | .number l m => numeralB t && withinB l m (numOf t)
  | .fixed w => decide (V.int t.length = w) && madeB t DG
  | .listed x => inV (.str t) x.els
  | .ended s e l m => decide (V.str (last1 t) = e) && wordB s l m (.str (init1 t))
def PD.textF (v : V) : PD → Str
  | .word .. => strV v
  | .number .. => dg (intV v)
  | .fixed w => Txt.zfill (dg (intV v)) (intV w)
  | .listed _ => strV v
  | .ended _ e _ _ => strV v ++ strV e
def PD.valF (t : Str) : PD → V
  | .word .. => .str t
  | .number .. => .int (numOf t)
  | .fixed _ => .int (numOf t)
  | .listed _ => .str t
  | .ended .. => .str (init1 t)
def txOk (t : Str) : Bool := decide (t.length ≤ 900) && (decide ((init1 t).length ≤ 900) && (!numeralB t || numOk t))
def vaOk : V → Bool
  | .int i => decide (0 ≤ i) && decide (i < 400)
  | .str z => decide (z.length ≤ 900)
  | _ => true
def idx (z : Str) : List Str → Nat
  | [] => 0
  | y :: ys => if y = z then 0 else idx z ys + 1
theorem idx_at {z : Str} : ∀ {ys : List Str}, z ∈ ys → ys[idx z ys]? = some z ∧ ∀ m, m < idx z ys → ys[m]? ≠ some z
  | [], h => by cases h
  | y :: ys, h => by
    unfold idx
    by_cases e : y = z
    · rw [if_pos e]
      exact ⟨by rw [e]; rfl, fun m hm => absurd hm (Nat.not_lt_zero _)⟩
    · rw [if_neg e]
      have h2 : z ∈ ys := by
        rcases List.mem_cons.mp h with k | k
        · exact absurd k.symm e
        · exact k
      obtain ⟨i1, i2⟩ := idx_at h2
      refine ⟨i1, fun m hm => ?_⟩
      cases m with
      | zero => exact fun k => e (Option.some.inj k)
      | succ m => exact i2 m (Nat.lt_of_succ_lt_succ hm)
def PD.bef (v u : V) : PD → Bool
  | .word .. => decide ((strV v).cps.toList < (strV u).cps.toList)
  | .number .. => decide (intV v < intV u)
  | .fixed _ => decide (intV v < intV u)
  | .listed x => decide ((idx (strV v) (x.els.map strV) : Int) < (idx (strV u) (x.els.map strV) : Int))
  | .ended .. => decide ((strV v).cps.toList < (strV u).cps.toList)
theorem in_els {x : LX} (ha : x.els.all areB = true) {z : Str} (h : inV (.str z) x.els = true) : z ∈ x.els.map strV := by
  obtain ⟨y, hy, e⟩ := List.any_eq_true.mp h
  have hy2 := List.all_eq_true.mp ha y hy
  cases y with
  | str t =>
    have e2 : t = z := by simpa [eqV] using e
    exact List.mem_map.mpr ⟨_, hy, e2⟩
  | _ => cases hy2
inductive FD where
  | pl (d : PD)
  | mk (n m : V) (d : PD)
def FdAt (K : Frag) (H : Hp) (a : Addr) : FD → Prop
  | .pl d => FieldAt K H a d ∧ d.In ∧ d.due = none
  | .mk n m d => MkAt K H a n m d ∧ d.In ∧ d.due = none ∧ (∃ c, n = .str ⟨#[c]⟩) ∧ ∃ c, m = .str ⟨#[c]⟩
theorem FdAt.same {K : Frag} {H H' : Hp} {a : Addr} (S : Same H H') : ∀ {d : FD}, FdAt K H a d → FdAt K H' a d
  | .pl _, ⟨h, i⟩ => ⟨h.same S, i⟩
  | .mk _ _ _, ⟨⟨dx, y, h, k⟩, i⟩ => ⟨⟨dx, y, S _ _ h, k.same S⟩, i⟩
def tail1 (t : Str) : Str := cutS t (some 1) none
def head1 (t : Str) : Str := cutS t none (some 1)
def FD.hasV (v : V) : FD → Bool
  | .pl d => d.hasV v
  | .mk _ _ d => decide (v = .non) || d.hasV v
def FD.textF (v : V) : FD → Str
  | .pl d => d.textF v
  | .mk n m d => if decide (v = .non) = true then strV n else strV m ++ d.textF v
def FD.bef (v u : V) : FD → Bool
  | .pl d => d.bef v u
  | .mk _ _ d => if decide (u = .non) = true then false else decide (v = .non) || d.bef v u
abbrev LA (K : Frag) : Addr := He.ga K "Layout"
def FD.ci : FD → Nat
  | .pl d => d.ci
  | .mk .. => 5
theorem FD.ci_lt : ∀ d : FD, d.ci < 6
  | .pl d => Nat.lt_of_lt_of_le d.ci_lt (by decide)
  | .mk .. => by show 5 < 6; decide
def FD.tfOk (v : V) : FD → Bool
  | .pl _ => true
  | .mk _ _ d => decide ((d.textF v).length ≤ 900)
section
variable {P : Program} {w : World} {K : Frag} {mg : Str → Option Value} {base : Heap} {f : Addr} {fd : FuncData}
theorem FdAt.ins {H : Hp} {y : Addr} : ∀ {d : FD}, FdAt K H y d → ∃ dx fs, H y = some (.ins (ca K d.ci) dx fs)
  | .pl d, ⟨h, _⟩ => by
    obtain ⟨dx, fs, e, _⟩ := h.ins
    exact ⟨dx, fs, e⟩
  | .mk _ _ _, ⟨⟨dx, y, h, _⟩, _⟩ => ⟨dx, _, h⟩
end
def fLayout (x y : V) : List (Str × V) := putF "joints" y (putF "fields" x [])
theorem lLayout_fields {x y : V} : (fLayout x y).lookup ("fields" : Str) = some x := by unfold fLayout; rw [lookup_putF, if_neg (by decide +kernel)]; rw [lookup_putF, if_pos rfl]
theorem lLayout_joints {x y : V} : (fLayout x y).lookup ("joints" : Str) = some y := by unfold fLayout; rw [lookup_putF, if_pos rfl]
def FsAt (K : Frag) (H : Hp) (ys : List V) (ds : List FD) : Prop := ys.length = ds.length ∧ ∀ (i : Nat) (v : V) (d : FD), ys[i]? = some v → ds[i]? = some d → ∃ y, v = .ref y ∧ FdAt K H y d
theorem FsAt.same {K : Frag} {H H' : Hp} {ys : List V} {ds : List FD} (S : Same H H') (h : FsAt K H ys ds) : FsAt K H' ys ds := ⟨h.1, fun i v d a b => by
  obtain ⟨y, e, k⟩ := h.2 i v d a b
  exact ⟨y, e, k.same S⟩⟩
theorem FsAt.get {K : Frag} {H : Hp} {ys : List V} {ds : List FD} (h : FsAt K H ys ds) {i : Nat} {v : V} (e : ys[i]? = some v) : ∃ y d, v = .ref y ∧ ds[i]? = some d ∧ FdAt K H y d := by
  have hi := (List.getElem?_eq_some_iff.mp e).1
  have e2 := List.getElem?_eq_getElem (show i < ds.length by rw [← h.1]; exact hi)
  obtain ⟨y, ev, k⟩ := h.2 i v _ e e2
  exact ⟨y, _, ev, e2, k⟩
def JN : List Str := ["", "!", "~"]
structure LyOk (ds : List FD) (js : List Str) : Prop where
  few : ds.length ≤ 30
  some : ds ≠ []
  len : js.length + 1 = ds.length
  jn : ∀ j ∈ js, j ∈ JN
structure LayAt (K : Frag) (H : Hp) (L : Addr) (ds : List FD) (js : List Str) : Prop where
  ex : ∃ dx t1 t2 ys, H L = some (.ins (LA K) dx (fLayout (.ref t1) (.ref t2))) ∧ SqT K H t1 ys ∧ FsAt K H ys ds ∧ SqT K H t2 (js.map V.str)
  ok : LyOk ds js
def JK : List Str := JN
theorem call_ieTK {X : Cx} {K : Frag} (h : X.K = K) : CallR X (.builtin "isinstance") (rIeT K) := by
  subst h
  exact call_ieT
theorem seqT_same {K : Frag} {H H' : Hp} {a : Addr} {xs : List V} (S : Same H H') (h : SqT K H a xs) : SqT K H' a xs := by
  rcases h with (h | ⟨o, h⟩) | h
  · exact .inl (.inl (S _ _ h))
  · exact .inl (.inr ⟨o, S _ _ h⟩)
  · exact .inr h
theorem LayAt.same {K : Frag} {H H' : Hp} {L : Addr} {ds : List FD} {js : List Str} (S : Same H H') (h : LayAt K H L ds js) : LayAt K H' L ds js := by
  obtain ⟨⟨dx, t1, t2, ys, a, b, c, d⟩, o⟩ := h
  exact ⟨⟨dx, t1, t2, ys, S _ _ a, seqT_same S b, c.same S, seqT_same S d⟩, o⟩
section
variable {P : Program} {w : World} {K : Frag} {mg : Str → Option Value} {base : Heap} {f : Addr} {fd : FuncData}
theorem kit6 (G : G4 P w K mg base) : ∀ i, i < 6 → kitAny K (.ref (ca K i)) [.ref (ca K 0), .ref (ca K 1), .ref (ca K 2), .ref (ca K 3), .ref (ca K 4), .ref (ca K 5)] = some true
  | 0, h => by
    have k := fun j (hj : j < 6) => G.kit 0 j h hj
    exact kitAny_cons (b := true) (k 0 (by decide)) (fun z => nomatch z) (fun _ => rfl)
  | 1, h => by
    have k := fun j (hj : j < 6) => G.kit 1 j h hj
    exact kitAny_cons (b := false) (k 0 (by decide)) (fun _ => kitAny_cons (b := true) (k 1 (by decide)) (fun z => nomatch z) (fun _ => rfl)) (fun z => nomatch z)
  | 2, h => by
    have k := fun j (hj : j < 6) => G.kit 2 j h hj
    exact kitAny_cons (b := false) (k 0 (by decide)) (fun _ => kitAny_cons (b := false) (k 1 (by decide)) (fun _ => kitAny_cons (b := true) (k 2 (by decide)) (fun z => nomatch z) (fun _ => rfl)) (fun z => nomatch z)) (fun z => nomatch z)
  | 3, h => by
    have k := fun j (hj : j < 6) => G.kit 3 j h hj
    exact kitAny_cons (b := false) (k 0 (by decide)) (fun _ => kitAny_cons (b := false) (k 1 (by decide)) (fun _ => kitAny_cons (b := false) (k 2 (by decide)) (fun _ => kitAny_cons (b := true) (k 3 (by decide)) (fun z => nomatch z) (fun _ => rfl)) (fun z => nomatch z)) (fun z => nomatch z)) (fun z => nomatch z)
  | 4, h => by
    have k := fun j (hj : j < 6) => G.kit 4 j h hj
    exact kitAny_cons (b := false) (k 0 (by decide)) (fun _ => kitAny_cons (b := false) (k 1 (by decide)) (fun _ => kitAny_cons (b := false) (k 2 (by decide)) (fun _ => kitAny_cons (b := false) (k 3 (by decide)) (fun _ => kitAny_cons (b := true) (k 4 (by decide)) (fun z => nomatch z) (fun _ => rfl)) (fun z => nomatch z)) (fun z => nomatch z)) (fun z => nomatch z)) (fun z => nomatch z)
  | 5, h => by
    have k := fun j (hj : j < 6) => G.kit 5 j h hj
    exact kitAny_cons (b := false) (k 0 (by decide)) (fun _ => kitAny_cons (b := false) (k 1 (by decide)) (fun _ => kitAny_cons (b := false) (k 2 (by decide)) (fun _ => kitAny_cons (b := false) (k 3 (by decide)) (fun _ => kitAny_cons (b := false) (k 4 (by decide)) (fun _ => kitAny_cons (b := true) (k 5 (by decide)) (fun z => nomatch z) (fun _ => rfl)) (fun z => nomatch z)) (fun z => nomatch z)) (fun z => nomatch z)) (fun z => nomatch z)) (fun z => nomatch z)
  | n + 6, h => absurd h (by omega)
end
theorem append_len (a b : Str) : (a ++ b).length = a.length + b.length := by
  show (a.cps ++ b.cps).size = _
  rw [Array.size_append]
  rfl
theorem sum_len {α : Type} {f : α → Nat} {k : Nat} : ∀ (xs : List α), (∀ x ∈ xs, f x ≤ k) → (xs.map f).sum ≤ xs.length * k
  | [], _ => Nat.zero_le _
  | x :: xs, h => by
    have h1 := h x (List.mem_cons_self ..)
    have h2 := sum_len xs fun y hy => h y (List.mem_cons_of_mem _ hy)
    rw [List.map_cons, List.sum_cons, List.length_cons, Nat.succ_mul]
    omega
end L2.K79

set_option Elab.async false
set_option linter.all false
set_option maxRecDepth 100000
set_option maxHeartbeats 4000000
/-! Layouts: what is refused. -/
namespace L2.K79
open PySem PySem.W PySem.Spec PySem.Calls PyProof.Rows L2.Jk
structure Q0 (P : Program) (w : World) (K : Frag) (mg : Str → Option Value) (base : Heap) : Prop extends G5 P w K mg base where
  byl : ErrAt P w K mg base "BadLayout" (BY K) ["what"] "refused badlayout"
  low : ∃ t, mg "LOW" = some (.str "!" t)
  high : ∃ t, mg "HIGH" = some (.str "~" t)
  cLayout : C0 K mg "Layout" ["fields", "joints"]
  kitO : ∀ T ∈ (["NoneType", "str", "int", "bool", "tuple", "list"] : List String), ∀ j, j < 6 → kitOne K (.type T) (.ref (ca K j)) = some false
/-! ### sequences -/
inductive SeqIs (K : Frag) (H : Hp) : V → Option (List V) → Prop
  | flat {v : V} (h : flatV v = true) : SeqIs K H v none
  | dict {p : Addr} {kvs : List (Key × V)} (h : H p = some (.dK kvs)) : SeqIs K H (.ref p) none
  | lst {p : Addr} {xs : List V} (h : H p = some (.lst xs)) : SeqIs K H (.ref p) (some xs)
  | tup {p : Addr} {xs : List V} (h : H p = some (.tup xs)) : SeqIs K H (.ref p) (some xs)
theorem SeqIs.same {K : Frag} {H H' : Hp} {v : V} {o : Option (List V)} (S : Same H H') : SeqIs K H v o → SeqIs K H' v o
  | .flat h => .flat h
  | .dict h => .dict (S _ _ h)
  | .lst h => .lst (S _ _ h)
  | .tup h => .tup (S _ _ h)
theorem SeqIs.sqb {K : Frag} {H : Hp} {v : V} {xs : List V} (h : SeqIs K H v (some xs)) : ∃ p, v = .ref p ∧ (SqL K H p xs ∨ SqT K H p xs) := by
  cases h with
  | lst h => exact ⟨_, rfl, .inl (SqL.of h)⟩
  | tup h => exact ⟨_, rfl, .inr (SqT.of h)⟩
def spSeq (K : Frag) : Sp := fun vs H Q _ => ∃ (v : V) (o : Option (List V)), vs = [v] ∧ SeqIs K H v o ∧ ∀ H', Same H H' → Q (.bl o.isSome) H'
section
variable {P : Program} {w : World} {K : Frag} {mg : Str → Option Value} {base : Heap} {f : Addr} {fd : FuncData}

abbrev s_is_sequence : Stmt := top 30
theorem sc_is_sequence : FnScope ["thing"] ["thing"] (defScope s_is_sequence) := ⟨rfl, rfl, rfl, by decide +kernel, rfl, by decide +kernel, by decide +kernel⟩

theorem ok_is_sequence (F : FunD K "is_sequence" "is_sequence" (defArgs s_is_sequence) (defBody s_is_sequence) (defScope s_is_sequence) [] [] f fd) (G : Q0 P w K mg base) : FnOk P w K mg base CX0 1 f fd ["thing"] (spSeq K) := by
  refine F.ok (CX := CX0) sc_is_sequence (fun vs H Q E h => ?_) (fun cdv A outer s H vs Q E hr h => ?_)
  · obtain ⟨v, o, rfl, _⟩ := h
    rfl
  · refine ⟨_, PSs.nox (pss_one (ps_ret (pe_callB call_ieT (by rfl) G.isinstance (by decide +kernel) (pa_cons (pv 0) (pa_cons (pe_tupS (pa_cons (pe_bty (n := "list") (by rfl) G.list (by decide +kernel)) (pa_cons (pe_bty (n := "tuple") (by rfl) G.tuple (by decide +kernel)) pa_nil))) pa_nil))))), ?_⟩
    obtain ⟨v, o, rfl, h, q⟩ := h
    refine ⟨_, rfl, by show 2 ≤ 1000; decide, fun p0 H0 hp0 S0 e0 => ?_⟩
    have h := h.same S0
    have hn : ∀ S : String, kitB S "list" = some false → kitB S "tuple" = some false → kitAny K (.type S) [.type "list", .type "tuple"] = some false := fun S a b =>
      kitAny_cons (b := false) (kit_ty a) (fun _ => kitAny_cons (b := false) (kit_ty b) (fun _ => kitAny_nil) (fun z => nomatch z)) (fun z => nomatch z)
    cases h with
    | flat hf =>
      refine ⟨_, p0, _, _, _, false, rfl, e0, .cons (.ty _) (.cons (.ty _) Paired.nil), flat_ty hf, ?_, q _ S0⟩
      cases v with
      | non => exact hn "NoneType" (by decide +kernel) (by decide +kernel)
      | bl b => exact hn "bool" (by decide +kernel) (by decide +kernel)
      | int i => exact hn "int" (by decide +kernel) (by decide +kernel)
      | str z => exact hn "str" (by decide +kernel) (by decide +kernel)
      | _ => cases hf
    | dict hd => exact ⟨_, p0, _, _, _, false, rfl, e0, .cons (.ty _) (.cons (.ty _) Paired.nil), .x (.base (.dK hd)), hn "dict" (by decide +kernel) (by decide +kernel), q _ S0⟩
    | lst hl => exact ⟨_, p0, _, _, _, true, rfl, e0, .cons (.ty _) (.cons (.ty _) Paired.nil), .x (.base (.lst hl)), (kit_LT K).1, q _ S0⟩
    | tup hl => exact ⟨_, p0, _, _, _, true, rfl, e0, .cons (.ty _) (.cons (.ty _) Paired.nil), .x (.base (.tup hl)), (kit_LT K).2.1, q _ S0⟩

structure Q1 (P : Program) (w : World) (K : Frag) (mg : Str → Option Value) (base : Heap) : Prop extends Q0 P w K mg base where
  is_sequence : FnAt P w K mg base CX0 1 "is_sequence" ["thing"] (spSeq K)
/-- an item of what is handed in as fields: a field, or something else -/
def Itm (K : Frag) (H : Hp) (y : V) (g : Bool) : Prop := if g = true then ∃ a dx fs i, y = .ref a ∧ H a = some (.ins (ca K i) dx fs) ∧ i < 6 else flatV y = true ∨ ∃ a, y = .ref a ∧ ((∃ xs, H a = some (.lst xs)) ∨ ∃ xs, H a = some (.tup xs))
theorem Itm.same {K : Frag} {H H' : Hp} {y : V} {g : Bool} (S : Same H H') (h : Itm K H y g) : Itm K H' y g := by
  unfold Itm at h ⊢
  cases g with
  | true =>
    obtain ⟨a, dx, fs, i, e, k, hi⟩ := h
    exact ⟨a, dx, fs, i, e, S _ _ k, hi⟩
  | false =>
    rcases h with h | ⟨a, e, ⟨xs, h⟩ | ⟨xs, h⟩⟩
    · exact .inl h
    · exact .inr ⟨a, e, .inl ⟨xs, S _ _ h⟩⟩
    · exact .inr ⟨a, e, .inr ⟨xs, S _ _ h⟩⟩
def Itms (K : Frag) (H : Hp) (ys : List V) (gs : List Bool) : Prop := gs.length = ys.length ∧ ∀ (i : Nat) (y : V) (g : Bool), ys[i]? = some y → gs[i]? = some g → Itm K H y g
theorem Itms.same {K : Frag} {H H' : Hp} {ys : List V} {gs : List Bool} (S : Same H H') (h : Itms K H ys gs) : Itms K H' ys gs := ⟨h.1, fun i y g a b => (h.2 i y g a b).same S⟩
/-- what is handed in as fields -/
def FsIn (K : Frag) (H : Hp) (v : V) (o : Option (List V)) (gs : List Bool) : Prop := SeqIs K H v o ∧ ∀ ys, o = some ys → ys.length ≤ 1000 ∧ Itms K H ys gs
theorem FsIn.same {K : Frag} {H H' : Hp} {v : V} {o : Option (List V)} {gs : List Bool} (S : Same H H') (h : FsIn K H v o gs) : FsIn K H' v o gs := ⟨h.1.same S, fun ys e => ⟨(h.2 ys e).1, (h.2 ys e).2.same S⟩⟩
def fsGood (o : Option (List V)) (gs : List Bool) : Bool := match o with
  | none => false
  | some ys => !decide (ys.length = 0) && gs.all id
def spCkF (K : Frag) : Sp := fun vs H Q E => ∃ (v : V) (o : Option (List V)) (gs : List Bool), vs = [v] ∧ FsIn K H v o gs ∧ (fsGood o gs = true → ∀ H', Same H H' → Q .non H') ∧ (fsGood o gs = false → RaiseE (BY K) "what" (.str "fields") H E)
theorem kitO6 (G : Q0 P w K mg base) {T : String} (h : T ∈ (["NoneType", "str", "int", "bool", "tuple", "list"] : List String)) : kitAny K (.type T) [.ref (ca K 0), .ref (ca K 1), .ref (ca K 2), .ref (ca K 3), .ref (ca K 4), .ref (ca K 5)] = some false := by
  have k := G.kitO T h
  exact kitAny_cons (b := false) (k 0 (by decide)) (fun _ => kitAny_cons (b := false) (k 1 (by decide)) (fun _ => kitAny_cons (b := false) (k 2 (by decide)) (fun _ => kitAny_cons (b := false) (k 3 (by decide)) (fun _ => kitAny_cons (b := false) (k 4 (by decide)) (fun _ => kitAny_cons (b := false) (k 5 (by decide)) (fun _ => kitAny_nil) (fun z => nomatch z)) (fun z => nomatch z)) (fun z => nomatch z)) (fun z => nomatch z)) (fun z => nomatch z)) (fun z => nomatch z)
theorem itm_kit (G : Q0 P w K mg base) {H : Hp} {y : V} {g : Bool} (h : Itm K H y g) : ∃ t, TyE K H y t ∧ kitAny K t [.ref (ca K 0), .ref (ca K 1), .ref (ca K 2), .ref (ca K 3), .ref (ca K 4), .ref (ca K 5)] = some g := by
  unfold Itm at h
  cases g with
  | true =>
    obtain ⟨a, dx, fs, i, rfl, k, hi⟩ := h
    exact ⟨_, G.ty hi k, kit6 G.toG4 _ hi⟩
  | false =>
    rcases h with h | ⟨a, rfl, ⟨xs, h⟩ | ⟨xs, h⟩⟩
    · refine ⟨_, flat_ty h, ?_⟩
      cases y with
      | non => exact kitO6 G (T := "NoneType") (by decide)
      | bl b => exact kitO6 G (T := "bool") (by decide)
      | int i => exact kitO6 G (T := "int") (by decide)
      | str z => exact kitO6 G (T := "str") (by decide)
      | _ => cases h
    · exact ⟨_, .x (.base (.lst h)), kitO6 G (T := "list") (by decide)⟩
    · exact ⟨_, .x (.base (.tup h)), kitO6 G (T := "tuple") (by decide)⟩

abbrev s_check_fields : Stmt := top 31
theorem sc_check_fields : FnScope ["fields", "field"] ["fields"] (defScope s_check_fields) := ⟨rfl, rfl, rfl, by decide +kernel, rfl, by decide +kernel, by decide +kernel⟩

theorem ok_check_fields (F : FunD K "check_fields" "check_fields" (defArgs s_check_fields) (defBody s_check_fields) (defScope s_check_fields) [] [] f fd) (G : Q1 P w K mg base) : FnOk P w K mg base (L2.CX P w) 3 f fd ["fields"] (spCkF K) := by
  refine F.ok (CX := (L2.CX P w)) sc_check_fields (fun vs H Q E h => ?_) (fun cdv A outer s H vs Q E hr h => ?_)
  · obtain ⟨v, o, gs, rfl, _⟩ := h
    rfl
  · have hr2 : Room 2 _ := hr.mono (by decide)
    refine ⟨_, (pss_cons (ps_if (PW.pt (pw_or (pt_not (pt_val (pe_fn G.is_sequence (hr.mono (by decide)) pass0 (by rfl) (pa_cons (pv 0) pa_nil)))) (pw_or1 (pt_cmpR op_eq (pe_callB call_len_seq (by rfl) G.len (by decide +kernel) (pa_cons (pv 0) pa_nil)) pe_int (nomark _)))))
      (pss_one (ps_raise rfl (takes_of rfl rfl rfl rfl) (pmk_1 G.byl hr2 (by rfl) (pa_cons pe_str pa_nil))))
      pss_nil)
    (pss_one (ps_if (pt_not (pt_val (pe_callB (cr_all rfl) (by rfl) G.all (by decide +kernel) (pa_cons (pe_lc (own := [("field", 1)]) (g := gName 1) (tt := tYes) rfl sc_check_fields.nd (pi_or (pi_list (pv 0)) (pi_tup (pv 0))) (blkOk_by (N := ["fields", "field"]) (sc := defScope s_check_fields) (by decide +kernel)) (fun _ _ _ _ _ => pg_name (i := 1) sc_check_fields.nd rfl (Or.inl rfl)) (fun _ _ _ _ _ => pts_nil) (fun _ _ _ _ _ => (pe_callB (call_ieTK (K := K) rfl) (by rfl) G.isinstance (by decide +kernel) (pa_cons (pv 1) (pa_cons (pe_tupS (pa_cons (pe_gref (by rfl) G.cWord.mgC) (pa_cons (pe_gref (by rfl) G.cNumber.mgC) (pa_cons (pe_gref (by rfl) G.cFixed.mgC) (pa_cons (pe_gref (by rfl) G.cListed.mgC) (pa_cons (pe_gref (by rfl) G.cEnded.mgC) (pa_cons (pe_gref (by rfl) G.cMarked.mgC) pa_nil))))))) pa_nil))))) pa_nil))))
      (pss_one (ps_raise rfl (takes_of rfl rfl rfl rfl) (pmk_1 G.byl hr2 (by rfl) (pa_cons pe_str pa_nil))))
      pss_nil))), ?_⟩
    obtain ⟨v, o, gs, rfl, hI, q1, q2⟩ := h
    refine ⟨_, rfl, v, o, rfl, hI.1, fun H0 S0 => ⟨_, rfl, ?_⟩⟩
    have hI0 := hI.same S0
    cases o with
    | none => exact iteT (mkO_1 (raise_mono S0 (q2 rfl)))
    | some ys =>
    refine iteF ?_
    obtain ⟨p, rfl, hor⟩ := hI0.1.sqb
    obtain ⟨hz, hit⟩ := hI0.2 ys rfl
    refine ⟨_, rfl, p, ys, rfl, hor, rfl, _, rfl, ?_⟩
    refine ite2 (fun c => mkO_1 (raise_mono S0 (q2 ?_))) (fun c => ?_)
    · show (!decide (ys.length = 0) && _) = false
      rw [decide_eq_true (show ys.length = 0 by have z := of_decide_eq_true c; injection z with z; omega)]
      rfl
    have hne : ys.length ≠ 0 := fun z => c (decide_eq_true (by rw [z]; rfl))
    have hgl : gs.length = ys.length := hit.1
    have fin : ∀ (D : Addr) (J : Hp), Same H0 J → J D = some (.lst (gs.map V.bl)) → (if (!gs.all id) = true then RaiseE (BY K) "what" (.str "fields") J E else Q .non J) := fun D J S e => by
      have r : fsGood (some ys) gs = gs.all id := by
        show (!decide (ys.length = 0) && gs.all id) = gs.all id
        rw [decide_eq_false hne]
        rfl
      cases z : gs.all id with
      | true => exact q1 (r.trans z) _ (S0.trans S)
      | false => exact raise_mono (S0.trans S) (q2 (r.trans z))
    rcases hor with hl | hl
    · refine .inl ⟨_, rfl, p, rfl, ⟨_, hl⟩, fun D hD => ?_⟩
      refine lc_list (K := K) (a := p) (xs := ys) (LcP H0 D fun n => (gs.take n).map V.bl) (LcP.start hD rfl) (fun i J hi pJ => pJ.1.seq hl) ?_ ?_
      · intro i v J hv pJ
        have hlt := (List.getElem?_eq_some_iff.mp hv).1
        have hg := List.getElem?_eq_getElem (show i < gs.length by omega)
        refine ⟨rfl, _, rfl, by show 6 ≤ 1000; decide, fun p1 H1 hp1 S1 e1 => ?_⟩
        obtain ⟨t, ty, kt⟩ := itm_kit G.toQ0 ((hit.2 i v _ hv hg).same (pJ.1.trans S1))
        exact ⟨_, p1, _, t, _, _, rfl, e1, .cons (.own _) (.cons (.own _) (.cons (.own _) (.cons (.own _) (.cons (.own _) (.cons (.own _) Paired.nil))))), ty, kt, pJ.put S1 (by rw [List.take_add_one, hg, List.map_append]; rfl) (by omega)⟩
      · rintro J ⟨S1, _, eJ, _⟩
        have eJ2 : J D = some (.lst (gs.map V.bl)) := by rw [eJ]; show some (HO.lst ((gs.take ys.length).map V.bl)) = _; rw [← hgl, List.take_length]
        have z := fin D J S1 eJ2
        refine ⟨D, gs, rfl, SqL.of eJ2, _, rfl, ?_⟩
        refine ite2 (fun c => ?_) (fun c => ?_)
        · rw [if_pos c] at z
          exact mkO_1 z
        · rw [if_neg c] at z
          exact z
    · refine .inr ⟨_, rfl, p, rfl, ⟨_, hl⟩, fun D hD => ?_⟩
      refine lc_tup (K := K) (a := p) (xs := ys) (LcP H0 D fun n => (gs.take n).map V.bl) (LcP.start hD rfl) (fun i J hi pJ => seqT_same pJ.1 hl) ?_ ?_
      · intro i v J hv pJ
        have hlt := (List.getElem?_eq_some_iff.mp hv).1
        have hg := List.getElem?_eq_getElem (show i < gs.length by omega)
        refine ⟨rfl, _, rfl, by show 6 ≤ 1000; decide, fun p1 H1 hp1 S1 e1 => ?_⟩
        obtain ⟨t, ty, kt⟩ := itm_kit G.toQ0 ((hit.2 i v _ hv hg).same (pJ.1.trans S1))
        exact ⟨_, p1, _, t, _, _, rfl, e1, .cons (.own _) (.cons (.own _) (.cons (.own _) (.cons (.own _) (.cons (.own _) (.cons (.own _) Paired.nil))))), ty, kt, pJ.put S1 (by rw [List.take_add_one, hg, List.map_append]; rfl) (by omega)⟩
      · rintro J ⟨S1, _, eJ, _⟩
        have eJ2 : J D = some (.lst (gs.map V.bl)) := by rw [eJ]; show some (HO.lst ((gs.take ys.length).map V.bl)) = _; rw [← hgl, List.take_length]
        have z := fin D J S1 eJ2
        refine ⟨D, gs, rfl, SqL.of eJ2, _, rfl, ?_⟩
        refine ite2 (fun c => ?_) (fun c => ?_)
        · rw [if_pos c] at z
          exact mkO_1 z
        · rw [if_neg c] at z
          exact z

structure Q2 (P : Program) (w : World) (K : Frag) (mg : Str → Option Value) (base : Heap) : Prop extends Q1 P w K mg base where
  check_fields : FnAt P w K mg base (L2.CX P w) 3 "check_fields" ["fields"] (spCkF K)
def jnB : V → Bool
  | .str z => inV (.str z) [V.str "", V.str "!", V.str "~"]
  | _ => false
def spJn : Sp := fun vs H Q _ => ∃ v : V, vs = [v] ∧ Thg H v ∧ ∀ H', Same H H' → Q (.bl (jnB v)) H'

abbrev s_is_joint : Stmt := top 32
theorem sc_is_joint : FnScope ["thing"] ["thing"] (defScope s_is_joint) := ⟨rfl, rfl, rfl, by decide +kernel, rfl, by decide +kernel, by decide +kernel⟩

theorem ok_is_joint (F : FunD K "is_joint" "is_joint" (defArgs s_is_joint) (defBody s_is_joint) (defScope s_is_joint) [] [] f fd) (G : Q0 P w K mg base) : FnOk P w K mg base CX0 1 f fd ["thing"] spJn := by
  refine F.ok (CX := CX0) sc_is_joint (fun vs H Q E h => ?_) (fun cdv A outer s H vs Q E hr h => ?_)
  · obtain ⟨v, rfl, _⟩ := h
    rfl
  · refine ⟨_, PSs.nox (pss_one (ps_ret (pe_and (pe_callB call_ie (by rfl) G.isinstance (by decide +kernel) (pa_cons (pv 0) (pa_cons (pe_bty (n := "str") (by rfl) G.str (by decide +kernel)) pa_nil))) (pe_one (pe_cmpR op_in_seq (pv 0) (pe_tupS (pa_cons pe_str (pa_cons (pe_sg G.low) (pa_cons (pe_sg G.high) pa_nil)))) (by rfl)))))), ?_⟩
    obtain ⟨v, rfl, hv, q⟩ := h
    obtain ⟨T, ty, ks, _, _⟩ := thg_ty (K := K) hv
    refine ⟨_, rfl, _, _, _, _, _, rfl, .ty _, ty, kit_ty ks, _, rfl, ?_⟩
    cases v with
    | str z => exact iteT ⟨_, rfl, by show 3 ≤ 1000; decide, fun p H1 hp S1 e1 => ⟨p, _, rfl, .inr (SqT.of e1), rfl, rfl, q _ S1⟩⟩
    | _ => exact iteF (q _ (Same.refl _))

structure Q3 (P : Program) (w : World) (K : Frag) (mg : Str → Option Value) (base : Heap) : Prop extends Q2 P w K mg base where
  is_joint : FnAt P w K mg base CX0 1 "is_joint" ["thing"] spJn
/-- what is handed in as joints -/
def JsIn (K : Frag) (H : Hp) (v : V) (o : Option (List V)) : Prop := SeqIs K H v o ∧ ∀ xs, o = some xs → xs.length ≤ 1000 ∧ ∀ x ∈ xs, Thg H x
theorem JsIn.same {K : Frag} {H H' : Hp} {v : V} {o : Option (List V)} (S : Same H H') (h : JsIn K H v o) : JsIn K H' v o := ⟨h.1.same S, fun ys e => ⟨(h.2 ys e).1, fun x hx => ((h.2 ys e).2 x hx).same S⟩⟩
def jsGood (n : Nat) (o : Option (List V)) : Bool := match o with
  | none => false
  | some xs => decide (xs.length + 1 = n) && xs.all jnB
def oLen : Option (List V) → Nat
  | none => 0
  | some ys => ys.length
/-- the layout's own parameters -/
def spLay (K : Frag) : Sp := fun vs H Q E => ∃ (L dx : Addr) (v u : V) (o o2 : Option (List V)) (gs : List Bool), vs = [.ref L, v, u] ∧ H L = some (.ins (LA K) dx []) ∧ FsIn K H v o gs ∧ JsIn K H u o2 ∧
  (fsGood o gs = false → RaiseE (BY K) "what" (.str "fields") H E) ∧ (fsGood o gs = true → jsGood (oLen o) o2 = false → RaiseE (BY K) "what" (.str "joints") H E) ∧
  (fsGood o gs = true → jsGood (oLen o) o2 = true → ∀ ys xs, o = some ys → o2 = some xs → ∀ H' t1 t2, Same H H' → SqT K H' t1 ys → SqT K H' t2 xs → Q .non (upd H' L (.ins (LA K) dx (fLayout (.ref t1) (.ref t2)))))
def rTupA2 (K : Frag) : List V → Hp → VK → Prop := fun xs H Q => ∃ p ys, xs = [.ref p] ∧ (SqL K H p ys ∨ SqT K H p ys) ∧ ∀ t H', Same H H' → SqT K H' t ys → (t = p ∨ H t = none) → Q (.ref t) H'
theorem call_tupleA2 {X : Cx} : CallR X (.type "tuple") (rTupA2 X.K) := by
  intro pins s σ H xs us Q I r h
  obtain ⟨p, ys, e, hh, q⟩ := h
  exact call_tupleZ pins s σ H xs us Q I r ⟨p, ys, e, hh.imp (fun hl => ⟨hl, fun l H' hn S z => q l H' S z.sq (.inr hn)⟩) (fun ht => ⟨ht, q p H (Same.refl _) ht (.inl rfl)⟩)⟩
theorem ne_tup {H : Hp} {p t L : Addr} (n : p ≠ L) (hL : H L ≠ none) (h : t = p ∨ H t = none) : t ≠ L := by
  rcases h with rfl | h
  · exact n
  · exact fun e => hL (by rw [← e]; exact h)
theorem seqT_ne {K : Frag} {H : Hp} {t L : Addr} {o : HO} {xs : List V} (n : t ≠ L) (h : SqT K H t xs) : SqT K (upd H L o) t xs := by
  rcases h with (h | ⟨u, h⟩) | h
  · exact .inl (.inl (by rw [upd_ne n]; exact h))
  · exact .inl (.inr ⟨u, by rw [upd_ne n]; exact h⟩)
  · exact .inr h
theorem seqL_ne {K : Frag} {H : Hp} {t L : Addr} {o : HO} {xs : List V} (n : t ≠ L) (h : SqL K H t xs) : SqL K (upd H L o) t xs := by
  rcases h with (h | ⟨u, h⟩) | h
  · exact .inl (.inl (by rw [upd_ne n]; exact h))
  · exact .inl (.inr ⟨u, by rw [upd_ne n]; exact h⟩)
  · exact .inr h
theorem ne_lay {H : Hp} {p L dx C : Addr} {fs : List (Str × V)} {K : Frag} {v : V} {o : Option (List V)} (h : SeqIs K H v o) (hL : H L = some (.ins C dx fs)) (e : v = .ref p) : p ≠ L := fun z => by
  subst e
  cases h with
  | flat h => cases h
  | dict h => rw [z, hL] at h; cases h
  | lst h => rw [z, hL] at h; cases h
  | tup h => rw [z, hL] at h; cases h

abbrev s_Layout_init : Stmt := inClass (top 33) 0
theorem sc_Layout_init : FnScope ["self", "fields", "joints", "joint"] ["self", "fields", "joints"] (defScope s_Layout_init) := ⟨rfl, rfl, rfl, by decide +kernel, rfl, by decide +kernel, by decide +kernel⟩

theorem ok_Layout_init (F : FunD K "__init__" "Layout.__init__" (defArgs s_Layout_init) (defBody s_Layout_init) (defScope s_Layout_init) [] [] f fd) (G : Q3 P w K mg base) : FnOk P w K mg base (L2.CX P w) 4 f fd ["self", "fields", "joints"] (spLay K) := by
  refine F.ok (CX := (L2.CX P w)) sc_Layout_init (fun vs H Q E h => ?_) (fun cdv A outer s H vs Q E hr h => ?_)
  · obtain ⟨L, dx, v, u, o, o2, gs, rfl, _⟩ := h
    rfl
  · have hr2 : Room 2 _ := hr.mono (by decide)
    refine ⟨_, (pss_cons (ps_expr (pe_fnS G.check_fields hr (fun σ => passAt (takes_of rfl rfl rfl rfl) σ) (by rfl) (pa_cons (pv 1) pa_nil)))
    (pss_cons (ps_if (PW.pt (pw_or (pt_not (pt_val (pe_fn G.is_sequence (hr.mono (by decide)) pass0 (by rfl) (pa_cons (pv 2) pa_nil)))) (pw_or1 (pt_cmpR op_ne (pe_callB call_len_seq (by rfl) G.len (by decide +kernel) (pa_cons (pv 2) pa_nil)) (pe_op op_sub (pe_callB call_len_seq (by rfl) G.len (by decide +kernel) (pa_cons (pv 1) pa_nil)) pe_int) (nomark _)))))
      (pss_one (ps_raise rfl (takes_of rfl rfl rfl rfl) (pmk_1 G.byl hr2 (by rfl) (pa_cons pe_str pa_nil))))
      pss_nil)
    (pss_cons (ps_if (pt_not (pt_val (pe_callB (cr_all rfl) (by rfl) G.all (by decide +kernel) (pa_cons (pe_lc (own := [("joint", 3)]) (g := gName 3) (tt := tYes) rfl sc_Layout_init.nd (pi_or (pi_list (pv 2)) (pi_tup (pv 2))) (blkOk_by (N := ["self", "fields", "joints", "joint"]) (sc := defScope s_Layout_init) (by decide +kernel)) (fun _ _ _ _ _ => pg_name (i := 3) sc_Layout_init.nd rfl (Or.inl rfl)) (fun _ _ _ _ _ => pts_nil) (fun _ _ _ _ _ => (pe_fn G.is_joint (hr.mono (by decide)) pass0 (by rfl) (pa_cons (pv 3) pa_nil)))) pa_nil))))
      (pss_one (ps_raise rfl (takes_of rfl rfl rfl rfl) (pmk_1 G.byl hr2 (by rfl) (pa_cons pe_str pa_nil))))
      pss_nil)
    (pss_cons (ps_fld (pv 0) (pe_callTy call_tupleA2 (by rfl) G.tuple (by decide +kernel) (pa_cons (pv 1) pa_nil)) rfl)
    (pss_one (ps_fld (pv 0) (pe_callTy call_tupleA2 (by rfl) G.tuple (by decide +kernel) (pa_cons (pv 2) pa_nil)) rfl)))))), ?_⟩
    obtain ⟨L, dx, v, u, o, o2, gs, rfl, hL, hI, hJ, q1, q2, q3⟩ := h
    refine ⟨_, rfl, v, o, gs, rfl, hI, fun gd H0 S0 => ?_, fun gd => q1 gd⟩
    have hI0 := hI.same S0
    have hJ0 := hJ.same S0
    refine ⟨_, rfl, u, o2, rfl, hJ0.1, fun H1 S1 => ⟨_, rfl, ?_⟩⟩
    have T1 := S0.trans S1
    have hI1 := hI.same T1
    have hJ1 := hJ.same T1
    cases o2 with
    | none => exact iteT (mkO_1 (raise_mono T1 (q2 gd rfl)))
    | some xs =>
    refine iteF ?_
    cases o with
    | none => cases gd
    | some ys =>
    obtain ⟨p2, rfl, hor2⟩ := hJ1.1.sqb
    obtain ⟨p, rfl, hor⟩ := hI1.1.sqb
    obtain ⟨hz2, hth⟩ := hJ1.2 xs rfl
    obtain ⟨hz, hit⟩ := hI1.2 ys rfl
    refine ⟨_, rfl, p2, _, rfl, hor2, _, rfl, p, _, rfl, hor, _, _, rfl, rfl, rfl, _, rfl, ?_⟩
    refine ite2 (fun c => mkO_1 (raise_mono T1 (q2 gd ?_))) (fun c => ?_)
    · have c2 : V.int (xs.length : Nat) ≠ V.int ((ys.length : Int) - 1) := fun e => by
        rw [decide_eq_true e] at c
        cases c
      show (decide (xs.length + 1 = ys.length) && _) = false
      rw [decide_eq_false (fun e => c2 (congrArg V.int (by omega)))]
      rfl
    have hjl : xs.length + 1 = ys.length := by
      have e : decide (V.int (xs.length : Nat) = V.int ((ys.length : Int) - 1)) = true := by
        cases e : decide (V.int (xs.length : Nat) = V.int ((ys.length : Int) - 1)) with
        | true => rfl
        | false => exact absurd (show (!decide (V.int (xs.length : Nat) = V.int ((ys.length : Int) - 1))) = true by rw [e]; rfl) c
      have z := of_decide_eq_true e
      injection z with z
      omega
    have r : jsGood ys.length (some xs) = xs.all jnB := by
      show (decide (xs.length + 1 = ys.length) && xs.all jnB) = _
      rw [decide_eq_true hjl]
      rfl
    have fin : ∀ (D : Addr) (J : Hp), Same H1 J → J D = some (.lst ((xs.map jnB).map V.bl)) → xs.all jnB = false → RaiseE (BY K) "what" (.str "joints") J E := fun D J S e z => raise_mono (T1.trans S) (q2 gd (r.trans z))
    have nL : p ≠ L := ne_lay hI.1 hL rfl
    have nL2 : p2 ≠ L := ne_lay hJ.1 hL rfl
    have hL1 : H1 L = some (.ins (LA K) dx []) := T1 _ _ hL
    rcases hor2 with hl | hl
    · refine .inl ⟨_, rfl, p2, rfl, ⟨_, hl⟩, fun D hD => ?_⟩
      refine lc_list (K := K) (a := p2) (xs := xs) (LcP H1 D fun n => ((xs.take n).map jnB).map V.bl) (LcP.start hD rfl) (fun i J hi pJ => pJ.1.seq hl) ?_ ?_
      · intro i v J hv pJ
        have hlt := (List.getElem?_eq_some_iff.mp hv).1
        exact ⟨rfl, _, rfl, v, rfl, (hth v (List.mem_of_getElem? hv)).same pJ.1, fun H2 S2 => pJ.put S2 (by rw [List.take_add_one, hv, List.map_append, List.map_append]; rfl) (by omega)⟩
      · rintro J ⟨S2, _, eJ, _⟩
        have eJ2 : J D = some (.lst ((xs.map jnB).map V.bl)) := by rw [eJ]; show some (HO.lst (((xs.take xs.length).map jnB).map V.bl)) = _; rw [List.take_length]
        have ea : (xs.map jnB).all id = xs.all jnB := by rw [List.all_map]; rfl
        refine ⟨D, xs.map jnB, rfl, SqL.of eJ2, _, rfl, ?_⟩
        rw [ea]
        refine ite2 (fun c => ?_) (fun c => ?_)
        · exact mkO_1 (fin D J S2 eJ2 (by cases z : xs.all jnB with
            | false => rfl
            | true => rw [z] at c; cases c))
        · have good : xs.all jnB = true := by
            cases z : xs.all jnB with
            | true => rfl
            | false => rw [z] at c; exact absurd rfl c
          have hLJ := S2 _ _ hL1
          refine ⟨_, rfl, p, ys, rfl, hor.imp (fun h => S2.seq h) (fun h => seqT_same S2 h), fun t1 J3 S3 w1 n1 => ?_⟩
          replace n1 := ne_tup nL (by rw [hLJ]; exact fun e => by cases e) n1
          have hL3 := S3 _ _ hLJ
          refine ⟨_, rfl, L, _, dx, _, rfl, hL3, G.cLayout.cl, G.cLayout.no _ (by decide +kernel), (by show 0 < 1000; decide), ?_⟩
          have w2 : SqL K J3 p2 xs := (S2.trans S3).seq hl
          refine ⟨_, rfl, p2, xs, rfl, .inl (seqL_ne nL2 w2), fun t2 J4 S4 w3 n2 => ?_⟩
          replace n2 := ne_tup nL2 (by rw [upd_same]; exact fun e => by cases e) n2
          refine ⟨_, rfl, L, _, dx, _, rfl, S4 _ _ upd_same, G.cLayout.cl, G.cLayout.no _ (by decide +kernel), (by show 1 < 1000; decide), ?_⟩
          have z := q3 gd (r.trans good) ys xs rfl rfl (upd J4 L (.ins (LA K) dx [])) t1 t2 (fun b o e => by
            by_cases hb : b = L
            · subst hb
              rw [upd_same]
              rw [hL] at e
              exact e
            · rw [upd_ne hb]
              refine S4 _ _ ?_
              rw [upd_ne hb]
              exact S3 _ _ (S2 _ _ (T1 _ _ e))) (seqT_ne n1 (seqT_same S4 (seqT_ne n1 w1))) (seqT_ne n2 w3)
          rw [upd_upd] at z
          exact z
    · refine .inr ⟨_, rfl, p2, rfl, ⟨_, hl⟩, fun D hD => ?_⟩
      refine lc_tup (K := K) (a := p2) (xs := xs) (LcP H1 D fun n => ((xs.take n).map jnB).map V.bl) (LcP.start hD rfl) (fun i J hi pJ => seqT_same pJ.1 hl) ?_ ?_
      · intro i v J hv pJ
        have hlt := (List.getElem?_eq_some_iff.mp hv).1
        exact ⟨rfl, _, rfl, v, rfl, (hth v (List.mem_of_getElem? hv)).same pJ.1, fun H2 S2 => pJ.put S2 (by rw [List.take_add_one, hv, List.map_append, List.map_append]; rfl) (by omega)⟩
      · rintro J ⟨S2, _, eJ, _⟩
        have eJ2 : J D = some (.lst ((xs.map jnB).map V.bl)) := by rw [eJ]; show some (HO.lst (((xs.take xs.length).map jnB).map V.bl)) = _; rw [List.take_length]
        have ea : (xs.map jnB).all id = xs.all jnB := by rw [List.all_map]; rfl
        refine ⟨D, xs.map jnB, rfl, SqL.of eJ2, _, rfl, ?_⟩
        rw [ea]
        refine ite2 (fun c => ?_) (fun c => ?_)
        · exact mkO_1 (fin D J S2 eJ2 (by cases z : xs.all jnB with
            | false => rfl
            | true => rw [z] at c; cases c))
        · have good : xs.all jnB = true := by
            cases z : xs.all jnB with
            | true => rfl
            | false => rw [z] at c; exact absurd rfl c
          have hLJ := S2 _ _ hL1
          refine ⟨_, rfl, p, ys, rfl, hor.imp (fun h => S2.seq h) (fun h => seqT_same S2 h), fun t1 J3 S3 w1 n1 => ?_⟩
          replace n1 := ne_tup nL (by rw [hLJ]; exact fun e => by cases e) n1
          have hL3 := S3 _ _ hLJ
          refine ⟨_, rfl, L, _, dx, _, rfl, hL3, G.cLayout.cl, G.cLayout.no _ (by decide +kernel), (by show 0 < 1000; decide), ?_⟩
          have w2 : SqT K J3 p2 xs := seqT_same (S2.trans S3) hl
          refine ⟨_, rfl, p2, xs, rfl, .inr (seqT_ne nL2 w2), fun t2 J4 S4 w3 n2 => ?_⟩
          replace n2 := ne_tup nL2 (by rw [upd_same]; exact fun e => by cases e) n2
          refine ⟨_, rfl, L, _, dx, _, rfl, S4 _ _ upd_same, G.cLayout.cl, G.cLayout.no _ (by decide +kernel), (by show 1 < 1000; decide), ?_⟩
          have z := q3 gd (r.trans good) ys xs rfl rfl (upd J4 L (.ins (LA K) dx [])) t1 t2 (fun b o e => by
            by_cases hb : b = L
            · subst hb
              rw [upd_same]
              rw [hL] at e
              exact e
            · rw [upd_ne hb]
              refine S4 _ _ ?_
              rw [upd_ne hb]
              exact S3 _ _ (S2 _ _ (T1 _ _ e))) (seqT_ne n1 (seqT_same S4 (seqT_ne n1 w1))) (seqT_ne n2 w3)
          rw [upd_upd] at z
          exact z

end
end L2.K79

set_option Elab.async false
set_option linter.all false
set_option maxRecDepth 100000
set_option maxHeartbeats 4000000
/-! Comparisons with instances in them: lists by !=, tuples of unlike lengths by ==, an instance != anything that is no subclass' instance. -/
namespace L2.Jk
open PySem PySem.W PySem.Spec PySem.Calls PyProof.Rows PySem.SeqAt
open AutoSeq1 (wpAny_loadPart')
open MeetsSeq MeetsSeq2 MeetsSeq3 SeqRoads2
section
variable {prog : Program} {w : World} {A : Around} {R : Result → Shared → Prop} {E : Value → Shared → Prop} {s : Shared}
/-- the two lists, read anew each turn, have N items each, and the next two are equal -/
def LsI (prog : Program) (w : World) (A : Around) (E : Value → Shared → Prop) (a b : Addr) (N : Nat) (J : Nat → Shared → Prop) : Prop :=
  ∀ i s, J i s → ∃ (its jts : Array Value) (n m : Nat), s.heap.get? a = some { cls := .type "list", data := .seq its n } ∧ s.heap.get? b = some { cls := .type "list", data := .seq jts m } ∧ its.size = N ∧ jts.size = N ∧
    ∀ (h1 : i < its.size) (h2 : i < jts.size), wpAny (model prog w) A.in1 (eqBool its[i] jts[i]) (fun r s' => r = true ∧ J (i + 1) s') E s
theorem ne_turns (a b : Addr) (N : Nat) (J : Nat → Shared → Prop) (hJ : LsI prog w A (fun e s' => R (.error e) s') a b N J) (fin : ∀ s, J N s → R (.ok (.ret (.bool false))) s) (m : Nat) :
    ∀ i : Nat, N - i = m → i ≤ N → ∀ s, J i s → wpAny (model prog w) A.in1 (Builtin.«list.__eq__.loop» ⟨[.ref a, .ref b, rawInt i, rawInt 3], []⟩) (GQ.FinOf prog w A R) (fun e s' => R (.error e) s') s := by
  induction m with
  | zero =>
    intro i hm hi s h
    obtain ⟨its, jts, n, m, ea, eb, sa, sb, _⟩ := hJ _ _ h
    obtain rfl : i = N := by omega
    have done : R (.ok (.ret (.bool false))) s := fin s h
    obtain ⟨hp, g, d, tk, os⟩ := s
    wp_walk using wpAny_loadPart' ea, wpAny_loadPart' eb
    rw [show its[((i : Nat) : Int).toNat]? = none by simp; omega, show jts[((i : Nat) : Int).toNat]? = none by simp; omega]
    wp_walk using wpAny_loadPart' ea, wpAny_loadPart' eb
    show R (.ok (.ret (.bool (its.size != jts.size)))) _
    rw [sa, sb]
    simpa using done
  | succ m ih =>
    intro i hm hi s h
    obtain ⟨its, jts, n, k, ea, eb, sa, sb, turn⟩ := hJ _ _ h
    have l1 : i < its.size := by omega
    have l2 : i < jts.size := by omega
    have one := turn l1 l2
    obtain ⟨hp, g, d, tk, os⟩ := s
    wp_walk using wpAny_loadPart' ea, wpAny_loadPart' eb
    rw [show its[((i : Nat) : Int).toNat]? = some its[i] by simp [l1], show jts[((i : Nat) : Int).toNat]? = some jts[i] by simp [l2]]
    refine wpAny_bind (wpAny_mono one (fun r s2 q2 => ?_) fun _ _ x => x)
    obtain ⟨rfl, q2⟩ := q2
    have next := ih (i + 1) (by omega) (by omega) s2 q2
    obtain ⟨hp2, g2, d2, tk2, os2⟩ := s2
    wp_walk
    rw [show ((i : Int) + 1) = ((i + 1 : Nat) : Int) by omega]
    refine ⟨plainId_quiet plain_eq_loop _, codeAny_builtin entry_eq_loop ?_⟩
    rw [Around.under_plainId plain_eq_loop _]
    exact next
theorem list_ne_same (a b : Addr) (N : Nat) (J : Nat → Shared → Prop) (hJ : LsI prog w A (fun e s' => R (.error e) s') a b N J) (fin : ∀ s, J N s → R (.ok (.ret (.bool false))) s) (h : J 0 s) :
    wpAny (model prog w) A.in1 (Builtin.«list.__ne__» ⟨[.ref a, .ref b], []⟩) (GQ.FinOf prog w A R) (fun e s' => R (.error e) s') s := by
  obtain ⟨its, jts, n, m, ea, eb, sa, sb, _⟩ := hJ _ _ h
  have all := ne_turns (A := A) (R := R) a b N J hJ fin _ 0 rfl (Nat.zero_le _) s h
  obtain ⟨hp, g, d, tk, os⟩ := s
  have f3 := AutoSeq1.sub_list_list
  have same : ¬ (its.size != jts.size) = true := by simp [sa, sb]
  wp_walk using wpAny_loadPart' ea, wpAny_loadPart' eb
  refine ⟨plainId_quiet plain_eq_loop _, codeAny_builtin entry_eq_loop ?_⟩
  rw [Around.under_plainId plain_eq_loop _]
  exact all
/-- == of tuples of unlike lengths whose items are equal as far as both go -/
theorem tup_eq_pre (l b : Addr) (its jts : Array Value) (n n2 : Nat) (dd dd2 : Option Addr) (sl sl2 : Array (Option Value)) (hsz : jts.size < its.size) (J : Nat → Shared → Prop)
    (turn : ∀ i (h1 : i < its.size) (h2 : i < jts.size) s, J i s → wpAny (model prog w) A.in1 (eqBool its[i] jts[i]) (fun r s' => r = true ∧ J (i + 1) s') (fun e s' => R (.error e) s') s)
    (fin : ∀ s, J jts.size s → R (.ok (.ret (.bool false))) s) (hl : s.heap.get? l = some { cls := .type "tuple", dict := dd, data := .seq its n, slots := sl }) (hb : s.heap.get? b = some { cls := .type "tuple", dict := dd2, data := .seq jts n2, slots := sl2 })
    (h : J 0 s) : wpAny (model prog w) A.in1 (Builtin.«tuple.__eq__» ⟨[.ref l, .ref b], []⟩) (GQ.FinOf prog w A R) (fun e s' => R (.error e) s') s := by
  have f2 := AutoSeq1.sub_tuple_tuple
  have len : (its.toList.zip jts.toList).length = jts.size := by simp; omega
  have h0 := h
  obtain ⟨hp, g, d, tk, os⟩ := s
  wp_walk using wpAny_loadPart' hl, wpAny_loadPart' hb, wpAny_forIn_list _ (fun rest b s' => b.1 = none ∧ ∃ i, rest = (its.toList.zip jts.toList).drop i ∧ i ≤ jts.size ∧ J i s') _
  case turn =>
    rintro ⟨y, x⟩ rest b s' ⟨hb', i, hz, hi, hJ⟩
    have lt : i < (its.toList.zip jts.toList).length := by
      refine Nat.lt_of_not_le fun z => ?_
      rw [List.drop_of_length_le z] at hz
      cases hz
    have h2 : i < jts.size := len ▸ lt
    have h1 : i < its.size := by omega
    rw [List.drop_eq_getElem_cons lt] at hz
    obtain ⟨e1, e2⟩ := List.cons.inj hz
    obtain rfl : y = its[i] := by simpa using congrArg Prod.fst e1
    obtain rfl : x = jts[i] := by simpa using congrArg Prod.snd e1
    refine wpAny_bind (wpAny_mono (turn i h1 h2 s' hJ) (fun r s2 q2 => ?_) fun _ _ x => x)
    obtain ⟨rfl, q2⟩ := q2
    wp_walk
    exact ⟨rfl, i + 1, e2, h2, q2⟩
  case fin =>
    rintro ⟨b1, b2⟩ s' ⟨hb', i, hz, hi, hJ⟩
    dsimp only at hb'
    subst hb'
    have ge : jts.size ≤ i := by
      refine Nat.le_of_not_lt fun z => ?_
      rw [List.drop_eq_getElem_cons (by rw [len]; exact z)] at hz
      cases hz
    obtain rfl : i = jts.size := by omega
    have hR := fin s' hJ
    have ns : (its.size == jts.size) = false := beq_eq_false_iff_ne.mpr (by omega)
    wp_walk
    simpa [Builtin.Tuple.tupleCompareSizes, ns] using hR
  case h => exact ⟨rfl, 0, rfl, Nat.zero_le _, h0⟩
end
section
variable {X : Cx} {n : Nat} {D : Eqv}
/-- xs != ys of two lists whose items D says to be equal -/
def rNeL (D : Eqv) : R2 := fun x y H Q => DList D x y H ∧ ∀ H', Same H H' → Q (.bl false) H'
theorem op_neL (hD : Mon D) (h : EqG X n D) (hr : Room (n + 1) X.A) : OpR X (compareOp .NotEq) (rNeL D) := by
  intro pins s σ H x y v u Q I rx ry hq
  obtain ⟨⟨a, b, xs, ys, rfl, rfl, ha, hb, p⟩, q⟩ := hq
  cases rx
  cases ry
  obtain ⟨_, its, n1, r, e⟩ := I.hok a _ ha
  obtain ⟨_, jts, n2, r2, e2⟩ := I.hok b _ hb
  show wpAny (model X.prog X.w) X.A (richCompare .NotEq (.ref a) (.ref b)) (EP X pins σ Q) X.xe s
  refine wpAny_richCompare_same_room (op := .NotEq) ⟨_, e, rfl⟩ ⟨_, e2, rfl⟩ PySem.F.slot_list_ne (GQ.call_here PySem.F.slot_list_ne ⟨_, e, rfl⟩ PySem.F.entry_list_ne (PySem.F.args_list_ne_2 _ _) ?_) hr.units0
  refine list_ne_same (R := wants (fun v s' => v ≠ .notImplemented ∧ EP X pins σ Q v s') X.xe) a b xs.length (fun _ s' => LoopI X pins σ H s') (fun i s' q => ?_) (fun s' k => ⟨(fun x => nomatch x), ?_⟩) ⟨H, I, Ext.rfl'⟩
  · obtain ⟨H1, I1, e1⟩ := id q
    obtain ⟨z, its, k, r, e⟩ := I1.hok a _ (e1 _ _ ha)
    obtain ⟨z2, its2, k2, r2, e2⟩ := I1.hok b _ (e1 _ _ hb)
    refine ⟨its.toArray, its2.toArray, k, k2, e, e2, by rw [List.size_toArray, ← r.length], by rw [List.size_toArray, ← r2.length, ← p.1], fun h1 h2 => ?_⟩
    exact turnG hD h ⟨hr, rfl⟩ p r r2 i h1 h2 s' q
  · obtain ⟨H', I', x⟩ := k
    exact ⟨.bl false, H', I', rfl, q H' x⟩
/-- t == u of two tuples, the second one shorter, whose items D says to be equal as far as it goes -/
def rEqP (X : Cx) (D : Eqv) : R2 := fun x y H Q => ∃ a b xs ys, x = .ref a ∧ y = .ref b ∧ SqT X.K H a xs ∧ SqT X.K H b ys ∧ ys.length < xs.length ∧ Prs D (xs.take ys.length) ys H ∧ ∀ H', Same H H' → Q (.bl false) H'
theorem op_eqP (hD : Mon D) (h : EqG X n D) (hr : Room (n + 1) X.A) : OpR X (compareOp .Eq) (rEqP X D) := by
  intro pins s σ H x y v u Q I rx ry hq
  obtain ⟨a, b, xs, ys, rfl, rfl, ha, hb, hlt, p, q⟩ := hq
  cases rx
  cases ry
  obtain ⟨its, r, e, z⟩ := I.tuple ha
  obtain ⟨jts, r2, e2, z2⟩ := I.tuple hb
  have hsz : jts.toArray.size < its.toArray.size := by rw [List.size_toArray, List.size_toArray, ← r.length, ← r2.length]; exact hlt
  obtain ⟨⟨c1, d1, t1, s1⟩, g1, k1, n1, e1⟩ := id e
  obtain ⟨⟨c2, d2, t2, s2⟩, g2, k2, n2, e22⟩ := id e2
  dsimp only at k1 e1 k2 e22
  subst k1 e1 k2 e22
  show wpAny (model X.prog X.w) X.A (richCompare .Eq (.ref a) (.ref b)) (EP X pins σ Q) X.xe s
  refine wpAny_richCompare_same_room (op := .Eq) ⟨_, g1, rfl⟩ ⟨_, g2, rfl⟩ PySem.F.slot_tuple_eq (GQ.call_here PySem.F.slot_tuple_eq ⟨_, g1, rfl⟩ PySem.F.entry_tuple_eq (PySem.F.args_tuple_eq_2 _ _) ?_) hr.units0
  refine tup_eq_pre (R := wants (fun v s' => v ≠ .notImplemented ∧ EP X pins σ Q v s') X.xe) a b its.toArray jts.toArray n1 n2 d1 d2 s1 s2 hsz (fun _ s' => LoopI X pins σ H s') (fun i h1 h2 s' k => ?_) (fun s' k => ⟨(fun x => nomatch x), ?_⟩) g1 g2 ⟨H, I, Ext.rfl'⟩
  · have h1' : i < (its.take ys.length).toArray.size := by
      rw [List.size_toArray, List.length_take, ← r.length]
      rw [List.size_toArray, ← r2.length] at h2
      omega
    have t := turnG hD h ⟨hr, rfl⟩ p (Vals.take ys.length r) r2 i h1' h2 s' k
    have et : (its.take ys.length).toArray[i] = its.toArray[i] := by simp
    rw [et] at t
    exact t
  · obtain ⟨H', I', x⟩ := k
    exact ⟨.bl false, H', I', rfl, q H' x⟩
end
section
variable {X : Cx} {CX : CXT} {E : XK}
/-- x != y, x an instance with an own __eq__ and no __ne__, y a reference whose class does not come first -/
def rNeA (X : Cx) (CX : CXT) (E : XK) : R2 := fun x y H Q => ∃ (a b C dx : Addr) (fs : List (Str × V)) (t : Value), x = .ref a ∧ y = .ref b ∧ H a = some (.ins C dx fs) ∧ EqcC X.K C ∧ TyE X.K H y t ∧ notFirst X.K C t = true ∧
  ∃ (k : Nat) (fd : FuncData) (ps : List Str) (sp : Sp), keepIn X.K (.ref (He.ma X.K C "__eq__")) = true ∧ FnOk X.prog X.w X.K X.mg X.base CX k (He.ma X.K C "__eq__") fd ps sp ∧ Room (k + 1) X.A ∧ Binds X.K fd ps [] ∧ sp [x, y] H (fun v H' => ∃ b, v = .bl b ∧ Q (.bl !b) H') E
theorem op_neA (hx : Passes CX X E) : OpR X (compareOp .NotEq) (rNeA X CX E) := by
  intro pins s σ H x y v u Q I rx ry h
  obtain ⟨a, b, C, dx, fs, t, rfl, rfl, ha, T, ty, nf, k, fd, ps, sp, kp, G, hr, hb, q⟩ := h
  cases rx
  obtain ⟨mA, J, _⟩ := ins_get I.hok ha
  obtain ⟨od, J, _⟩ := J.look
  obtain ⟨P, Z, p, _⟩ := kit_ofE I ry ty
  cases ry
  have hty : Looks (model X.prog X.w) s.heap (typeOf (.ref b)) t := Z.ty _ _ I.kIn p
  obtain ⟨nm, qn, N, bs, hdct, sn, sub, ab, col, dd, k0, k1, k2, k3, k5, nid, hC, ok, ne1, ne2⟩ := T.cls
  have hn : s.heap.Ns N (s.heap.nsMap N) := .of_isNs (isNs_of_in I.kIn ok)
  obtain ⟨of, hof, hcl⟩ := Option.map_eq_some_iff.mp (show (X.K.lookup (He.ma X.K C "__eq__")).map (·.cls) = some (.type "function") from beq_iff_eq.mp T.fn)
  have own : s.heap.OwnEqNoNe a C (He.ma X.K C "__eq__") "object" [.type "object"] := ⟨_, of, nm, qn, N, bs, hdct, sn, sub, ab, col, dd, k0, k1, k2, k3, k5, nid, _, _, J.at_, rfl, I.kIn _ _ hC, hn, ns_at_of I.kIn hn ne1,
    I.kIn _ _ hof, hcl, F.cmp_object.mro, F.cmp_object.eq.lookup, ns_none_of I.kIn hn ne2⟩
  have kin := I.kIn
  have fin : wpAny (model X.prog X.w) X.A (tryCompare (.ref a) "__ne__" (.ref b)) (fun r s' => ∃ v, r = some v ∧ EP X pins σ Q v s') X.xe s := by
    have c := run_in1 (us := [.ref a, .ref b]) (vs := [.ref a, .ref b]) G hr.in1 hb hx I (.cons rfl (.cons rfl .nil)) q
    obtain ⟨hp, g, d, tk, os⟩ := s
    refine tryCompare_ne_ownEq F.cmp_object own (by have := hr.units; omega) (wpAny_mono c (fun z s' hz => ?_) fun _ _ e => e)
    obtain ⟨v', H', I', r', b', rfl, q'⟩ := hz
    obtain rfl : z = Value.bool b' := r'
    exact ⟨b', rfl, _, rfl, .bl !b', H', I', rfl, q'⟩
  show wpAny (model X.prog X.w) X.A (richCompare .NotEq (.ref a) (.ref b)) (EP X pins σ Q) X.xe s
  unfold richCompare
  simp only [oneThing_ref]
  refine wpAny_holding (wpAny_bind (wpAny_cRoomFor (by have := hr.units; omega) ?_))
  rw [cmpInfo_NotEq]
  dsimp only
  refine wpAny_bind (J.type.here (wpAny_bind (hty.here ?_)))
  have last : wpAny (model X.prog X.w) X.A (tryCompare (.ref a) "__ne__" (.ref b)) (fun r s' => ∃ v, r = some v ∧ EP X pins σ Q v s') X.xe s := fin
  split
  · rename_i z
    have e : subIn X.K t (.ref C) = some false := by
      rcases Bool.or_eq_true_iff.mp nf with e | e
      · rw [beq_iff_eq.mp e] at z
        simp at z
      · exact beq_iff_eq.mp e
    refine wpAny_bind ((looks_subIn kin e).here ?_)
    simp only [Bool.false_eq_true, if_false]
    refine wpAny_bind (wpAny_mono last (fun r s' z => ?_) fun _ _ e => e)
    obtain ⟨v, rfl, hq⟩ := z
    exact wpAny_pure hq
  · refine wpAny_bind (wpAny_pure ?_)
    simp only [Bool.false_eq_true, if_false]
    refine wpAny_bind (wpAny_mono last (fun r s' z => ?_) fun _ _ e => e)
    obtain ⟨v, rfl, hq⟩ := z
    exact wpAny_pure hq
end
end L2.Jk

set_option Elab.async false
set_option linter.all false
set_option maxRecDepth 100000
set_option maxHeartbeats 4000000
/-! == inside tuples, whatever it answers: instances with an own __eq__ among the items. -/
namespace L2.Jk
open PySem PySem.W PySem.Spec PySem.Calls PyProof.Rows PySem.SeqAt
open AutoSeq1 (wpAny_loadPart')
open MeetsSeq MeetsSeq2 MeetsSeq3 SeqRoads2
/-- how the items answer, up to the first No -/
def allE (e : Nat → Bool) (n : Nat) : Bool := (List.range n).all e
theorem allE_of {e : Nat → Bool} {n : Nat} (h : ∀ i, i < n → e i = true) : allE e n = true := List.all_eq_true.mpr fun i hi => h i (List.mem_range.mp hi)
theorem allE_no {e : Nat → Bool} {n i : Nat} (hi : i < n) (h : e i = false) : allE e n = false := by
  cases z : allE e n with
  | false => rfl
  | true => rw [List.all_eq_true.mp z i (List.mem_range.mpr hi)] at h; cases h
section
variable {prog : Program} {w : World} {A : Around} {R : Result → Shared → Prop} {E : Value → Shared → Prop} {s : Shared}
theorem tup_eq_any (l b : Addr) (its jts : Array Value) (n n2 : Nat) (dd dd2 : Option Addr) (sl sl2 : Array (Option Value)) (e : Nat → Bool) (J : Nat → Shared → Prop)
    (turn : ∀ i (h1 : i < its.size) (h2 : i < jts.size) s, J i s → wpAny (model prog w) A.in1 (eqBool its[i] jts[i]) (fun r s' => r = e i ∧ J (i + 1) s') (fun e s' => R (.error e) s') s)
    (fin : ∀ i s, J i s → R (.ok (.ret (.bool (allE e (min its.size jts.size) && (its.size == jts.size))))) s) (hl : s.heap.get? l = some { cls := .type "tuple", dict := dd, data := .seq its n, slots := sl }) (hb : s.heap.get? b = some { cls := .type "tuple", dict := dd2, data := .seq jts n2, slots := sl2 })
    (h : J 0 s) : wpAny (model prog w) A.in1 (Builtin.«tuple.__eq__» ⟨[.ref l, .ref b], []⟩) (GQ.FinOf prog w A R) (fun e s' => R (.error e) s') s := by
  have f2 := AutoSeq1.sub_tuple_tuple
  have len : (its.toList.zip jts.toList).length = min its.size jts.size := by simp
  have h0 := h
  obtain ⟨hp, g, d, tk, os⟩ := s
  wp_walk using wpAny_loadPart' hl, wpAny_loadPart' hb, wpAny_forIn_list _ (fun rest b s' => b.1 = none ∧ ∃ i, rest = (its.toList.zip jts.toList).drop i ∧ i ≤ min its.size jts.size ∧ (∀ k, k < i → e k = true) ∧ J i s') _
  case turn =>
    rintro ⟨y, x⟩ rest b s' ⟨hb', i, hz, hi, he, hJ⟩
    have lt : i < (its.toList.zip jts.toList).length := by
      refine Nat.lt_of_not_le fun z => ?_
      rw [List.drop_of_length_le z] at hz
      cases hz
    have h1 : i < its.size := by omega
    have h2 : i < jts.size := by omega
    rw [List.drop_eq_getElem_cons lt] at hz
    obtain ⟨e1, e2⟩ := List.cons.inj hz
    obtain rfl : y = its[i] := by simpa using congrArg Prod.fst e1
    obtain rfl : x = jts[i] := by simpa using congrArg Prod.snd e1
    refine wpAny_bind (wpAny_mono (turn i h1 h2 s' hJ) (fun r s2 q2 => ?_) fun _ _ x => x)
    obtain ⟨rfl, q2⟩ := q2
    cases ez : e i with
    | true =>
      wp_walk
      exact ⟨rfl, i + 1, e2, by omega, fun k hk => if h : k = i then h ▸ ez else he k (by omega), q2⟩
    | false =>
      have hR := fin (i + 1) s2 q2
      rw [allE_no (show i < min its.size jts.size by omega) ez, Bool.false_and] at hR
      wp_walk
      exact hR
  case fin =>
    rintro ⟨b1, b2⟩ s' ⟨hb', i, hz, hi, he, hJ⟩
    dsimp only at hb'
    subst hb'
    have ge : min its.size jts.size ≤ i := by
      refine Nat.le_of_not_lt fun z => ?_
      rw [List.drop_eq_getElem_cons (by rw [len]; exact z)] at hz
      cases hz
    have hR := fin i s' hJ
    rw [allE_of (fun k hk => he k (by omega)), Bool.true_and] at hR
    wp_walk
    simpa [Builtin.Tuple.tupleCompareSizes] using hR
  case h => exact ⟨rfl, 0, rfl, Nat.zero_le _, (fun k hk => absurd hk (Nat.not_lt_zero _)), h0⟩
end
/-- how two values are seen to answer, by the abstract heap -/
abbrev EqvB := V → V → Bool → Hp → Prop
def MonB (D : EqvB) : Prop := ∀ x y b H H', Ext H H' → D x y b H → D x y b H'
def EqGB (X : Cx) (n : Nat) (D : EqvB) : Prop := ∀ (A : Around) (pins : List (Addr × Obj)) (s : Shared) (σ : St) (H : Hp) (x y : V) (u v : Value) (b : Bool), Sub X n A → Inv X pins σ H s → RelV x u → RelV y v → D x y b H →
  wpAny (model X.prog X.w) A (eqBool u v) (fun r s' => r = b ∧ ∃ H', Inv X pins σ H' s' ∧ Ext H H') X.xe s
section
variable {X : Cx} {n : Nat} {D : EqvB}
theorem EqGB.mono {m : Nat} (h : EqGB X n D) (hn : n ≤ m) : EqGB X m D := fun A pins s σ H x y u v b sb => h A pins s σ H x y u v b (sb.mono hn)
theorem EqGB.or {D' : EqvB} (h : EqGB X n D) (h' : EqGB X n D') : EqGB X n (fun x y b H => D x y b H ∨ D' x y b H) := fun A pins s σ H x y u v b sb I rx ry d => by
  rcases d with d | d
  · exact h A pins s σ H x y u v b sb I rx ry d
  · exact h' A pins s σ H x y u v b sb I rx ry d
/-- instances of the class at C with the text's own ==: what it answers -/
def DInB (C : Addr) (R : Addr → Addr → Bool → Hp → Prop) : EqvB := fun x y c H => ∃ a b dx dy fs gs, x = .ref a ∧ y = .ref b ∧ H a = some (.ins C dx fs) ∧ H b = some (.ins C dy gs) ∧ R a b c H ∧ (a = b → c = true)
def spEqB (R : Addr → Addr → Bool → Hp → Prop) : Sp := fun vs H Q _ => ∃ a b c, vs = [.ref a, .ref b] ∧ R a b c H ∧ ∀ H', Ext H H' → Q (.bl c) H'
theorem monB_in {C : Addr} {R : Addr → Addr → Bool → Hp → Prop} (hR : ∀ a b c H H', Ext H H' → R a b c H → R a b c H') : MonB (DInB C R) := fun x y c H H' e d => by
  obtain ⟨a, b, dx, dy, fs, gs, hx, hy, h1, h2, r, z⟩ := d
  exact ⟨a, b, dx, dy, fs, gs, hx, hy, e _ _ h1, e _ _ h2, hR a b c H H' e r, z⟩
theorem eqGB_in {CX : CXT} {C f : Addr} {fd : FuncData} {ps : List Str} {R : Addr → Addr → Bool → Hp → Prop} {E : XK} (F : FnOk X.prog X.w X.K X.mg X.base CX n f fd ps (spEqB R))
    (hs : PySem.W.findIn X.K (.ref C) "__eq__" = some (some (.ref f))) (hf : PySem.W.isFn X.K (.ref f) = true) (hb : Binds X.K fd ps []) (hx : Passes CX X E) : EqGB X n (DInB C R) := by
  intro A pins s σ H x y u v c sb I rx ry d
  obtain ⟨a, b, dx, dy, fs, gs, rfl, rfl, ha, hb', hr, hsame⟩ := d
  cases rx
  cases ry
  by_cases hab : a = b
  · subst hab
    rw [hsame rfl]
    exact SeqAt.EqAt.same (A := A) (s := s) (.ref a) X.prog X.w X.xe _ ⟨rfl, H, I, Ext.rfl'⟩
  refine GQ.eqBool_refG hab ?_
  obtain ⟨mA, J, _⟩ := ins_get I.hok ha
  obtain ⟨mB, J', _⟩ := ins_get I.hok hb'
  obtain ⟨od, J, _⟩ := J.look
  obtain ⟨od', J', _⟩ := J'.look
  obtain ⟨m, hF⟩ := I.fr
  refine cmp_K (op := .Eq) (tb := .ref C) sb.room.units0 hF I.ok.mod.kin J J'.type (by simp [notFirst]) hs hf ?_
  have sp : spEqB R [.ref a, .ref b] H (fun v H' => v = .bl c ∧ Ext H H') E := ⟨a, b, c, rfl, hr, fun H' e => ⟨rfl, e⟩⟩
  have e0 : Env0 X.prog X.w X.K X.mg X.base A X.stack s H := by
    have e := I.env0
    exact ⟨(by rw [sb.fr]; exact e.frames), e.mod, e.bs, e.bsz, e.funs, e.frf, e.hok, e.bare⟩
  have hl := F.len _ _ _ _ sp
  have rv : Vals [V.ref a, V.ref b] [Value.ref a, Value.ref b] := .cons rfl (.cons rfl .nil)
  have bt := hb s [.ref a, .ref b] I.kIn (by simpa using hl)
  refine wpAny_call (codeAny_mono (F.run A X.stack s H ⟨[.ref a, .ref b], []⟩ [.ref a, .ref b] [.ref a, .ref b] _ E sb.room e0 (by simpa using bt) rv sp) fun r s' hq => ?_)
  cases r with
  | error e => exact hx pins σ H s e s' I hq
  | ok fl =>
    cases fl with
    | ret w =>
      obtain ⟨z, H', I', rz, ez, ex⟩ := I.after hq
      subst ez
      cases rz
      exact ⟨c, rfl, rfl, H', I', ex⟩
    | next => exact False.elim hq
    | brk => exact False.elim hq
    | cont => exact False.elim hq
/-- t == u of tuples whose items answer as D says -/
def rEqTB (K : Frag) (D : EqvB) : R2 := fun x y H Q => ∃ (a b : Addr) (xs ys : List V) (e : Nat → Bool), x = .ref a ∧ y = .ref b ∧ SqT K H a xs ∧ SqT K H b ys ∧ (∀ (i : Nat) x y, xs[i]? = some x → ys[i]? = some y → D x y (e i) H) ∧
  ∀ H', Same H H' → Q (.bl (allE e (min xs.length ys.length) && (xs.length == ys.length))) H'
theorem op_eqTB (hD : MonB D) (h : EqGB X n D) (hr : Room (n + 1) X.A) : OpR X (compareOp .Eq) (rEqTB X.K D) := by
  intro pins s σ H x y v u Q I rx ry hq
  obtain ⟨a, b, xs, ys, e, rfl, rfl, ha, hb, p, q⟩ := hq
  cases rx
  cases ry
  obtain ⟨its, r, ea, z⟩ := I.tuple ha
  obtain ⟨jts, r2, eb, z2⟩ := I.tuple hb
  obtain ⟨⟨c1, d1, t1, s1⟩, g1, k1, n1, e1⟩ := id ea
  obtain ⟨⟨c2, d2, t2, s2⟩, g2, k2, n2, e2⟩ := id eb
  dsimp only at k1 e1 k2 e2
  subst k1 e1 k2 e2
  have sz1 : its.toArray.size = xs.length := by rw [List.size_toArray, ← r.length]
  have sz2 : jts.toArray.size = ys.length := by rw [List.size_toArray, ← r2.length]
  show wpAny (model X.prog X.w) X.A (richCompare .Eq (.ref a) (.ref b)) (EP X pins σ Q) X.xe s
  refine wpAny_richCompare_same_room (op := .Eq) ⟨_, g1, rfl⟩ ⟨_, g2, rfl⟩ PySem.F.slot_tuple_eq (GQ.call_here PySem.F.slot_tuple_eq ⟨_, g1, rfl⟩ PySem.F.entry_tuple_eq (PySem.F.args_tuple_eq_2 _ _) ?_) hr.units0
  refine tup_eq_any (R := wants (fun v s' => v ≠ .notImplemented ∧ EP X pins σ Q v s') X.xe) a b its.toArray jts.toArray n1 n2 d1 d2 s1 s2 e (fun _ s' => LoopI X pins σ H s') (fun i h1 h2 s' k => ?_) (fun i s' k => ⟨(fun x => nomatch x), ?_⟩) g1 g2 ⟨H, I, Ext.rfl'⟩
  · obtain ⟨H1, I1, x1⟩ := k
    have i1 : i < xs.length := by rw [← sz1]; exact h1
    have i2 : i < ys.length := by rw [← sz2]; exact h2
    obtain ⟨u', hu, ru⟩ := r.get (List.getElem?_eq_getElem i1)
    obtain ⟨v', hv, rv⟩ := r2.get (List.getElem?_eq_getElem i2)
    have g1' : its[i]? = some its.toArray[i] := by
      have h1' : i < its.length := by simpa using h1
      rw [List.getElem?_eq_getElem h1'] <;> simp
    have g2' : jts[i]? = some jts.toArray[i] := by
      have h2' : i < jts.length := by simpa using h2
      rw [List.getElem?_eq_getElem h2'] <;> simp
    rw [g1'] at hu
    rw [g2'] at hv
    rw [Option.some.inj hu, Option.some.inj hv]
    refine wpAny_mono (h X.A.in1 pins s' σ H1 _ _ u' v' (e i) (Sub.in1 ⟨hr, rfl⟩) I1 ru rv (hD _ _ _ _ _ x1 (p i _ _ (List.getElem?_eq_getElem i1) (List.getElem?_eq_getElem i2)))) (fun r s2 q => ?_) fun _ _ x => x
    obtain ⟨hr', H2, I2, e2⟩ := q
    exact ⟨hr', H2, I2, x1.trans e2⟩
  · obtain ⟨H', I', x⟩ := k
    rw [sz1, sz2]
    exact ⟨.bl _, H', I', rfl, q H' x⟩
end
end L2.Jk

set_option Elab.async false
set_option linter.all false
set_option maxRecDepth 100000
set_option maxHeartbeats 4000000
/-! == inside tuples: an instance with an own __eq__ and an instance of any class. -/
namespace L2.Jk
open PySem PySem.W PySem.Spec PySem.Calls PyProof.Rows PySem.SeqAt
section
variable {X : Cx} {n : Nat} {D : EqvB}
/-- an instance of the class at C with the text's own ==, and an instance of any class that does not come first: what it answers -/
def DInX (K : Frag) (C : Addr) (R : Addr → Addr → Bool → Hp → Prop) : EqvB := fun x y c H => ∃ a b dx dy C2 fs gs, x = .ref a ∧ y = .ref b ∧ H a = some (.ins C dx fs) ∧ H b = some (.ins C2 dy gs) ∧ notFirst K C (.ref C2) = true ∧ R a b c H ∧ (a = b → c = true)
theorem monB_inX {K : Frag} {C : Addr} {R : Addr → Addr → Bool → Hp → Prop} (hR : ∀ a b c H H', Ext H H' → R a b c H → R a b c H') : MonB (DInX K C R) := fun x y c H H' e d => by
  obtain ⟨a, b, dx, dy, C2, fs, gs, hx, hy, h1, h2, nf, r, z⟩ := d
  exact ⟨a, b, dx, dy, C2, fs, gs, hx, hy, e _ _ h1, e _ _ h2, nf, hR a b c H H' e r, z⟩
theorem eqGB_inX {CX : CXT} {C f : Addr} {fd : FuncData} {ps : List Str} {R : Addr → Addr → Bool → Hp → Prop} {E : XK} (F : FnOk X.prog X.w X.K X.mg X.base CX n f fd ps (spEqB R))
    (hs : PySem.W.findIn X.K (.ref C) "__eq__" = some (some (.ref f))) (hf : PySem.W.isFn X.K (.ref f) = true) (hb : Binds X.K fd ps []) (hx : Passes CX X E) : EqGB X n (DInX X.K C R) := by
  intro A pins s σ H x y u v c sb I rx ry d
  obtain ⟨a, b, dx, dy, C2, fs, gs, rfl, rfl, ha, hb', nf, hr, hsame⟩ := d
  cases rx
  cases ry
  by_cases hab : a = b
  · subst hab
    rw [hsame rfl]
    exact SeqAt.EqAt.same (A := A) (s := s) (.ref a) X.prog X.w X.xe _ ⟨rfl, H, I, Ext.rfl'⟩
  refine GQ.eqBool_refG hab ?_
  obtain ⟨mA, J, _⟩ := ins_get I.hok ha
  obtain ⟨mB, J', _⟩ := ins_get I.hok hb'
  obtain ⟨od, J, _⟩ := J.look
  obtain ⟨od', J', _⟩ := J'.look
  obtain ⟨m, hF⟩ := I.fr
  refine cmp_K (op := .Eq) (tb := .ref C2) sb.room.units0 hF I.ok.mod.kin J J'.type nf hs hf ?_
  have sp : spEqB R [.ref a, .ref b] H (fun v H' => v = .bl c ∧ Ext H H') E := ⟨a, b, c, rfl, hr, fun H' e => ⟨rfl, e⟩⟩
  have e0 : Env0 X.prog X.w X.K X.mg X.base A X.stack s H := by
    have e := I.env0
    exact ⟨(by rw [sb.fr]; exact e.frames), e.mod, e.bs, e.bsz, e.funs, e.frf, e.hok, e.bare⟩
  have hl := F.len _ _ _ _ sp
  have rv : Vals [V.ref a, V.ref b] [Value.ref a, Value.ref b] := .cons rfl (.cons rfl .nil)
  have bt := hb s [.ref a, .ref b] I.kIn (by simpa using hl)
  refine wpAny_call (codeAny_mono (F.run A X.stack s H ⟨[.ref a, .ref b], []⟩ [.ref a, .ref b] [.ref a, .ref b] _ E sb.room e0 (by simpa using bt) rv sp) fun r s' hq => ?_)
  cases r with
  | error e => exact hx pins σ H s e s' I hq
  | ok fl =>
    cases fl with
    | ret w =>
      obtain ⟨z, H', I', rz, ez, ex⟩ := I.after hq
      subst ez
      cases rz
      exact ⟨c, rfl, rfl, H', I', ex⟩
    | next => exact False.elim hq
    | brk => exact False.elim hq
    | cont => exact False.elim hq
theorem MonB.or {D' : EqvB} (h : MonB D) (h' : MonB D') : MonB (fun x y b H => D x y b H ∨ D' x y b H) := fun x y b H H' e d => d.imp (h x y b H H' e) (h' x y b H H' e)
/-- the same object -/
def DSameB : EqvB := fun x y c _ => ∃ a : Addr, x = .ref a ∧ y = .ref a ∧ c = true
theorem monB_same : MonB DSameB := fun _ _ _ _ _ _ d => d
theorem eqGB_same : EqGB X 0 DSameB := by
  intro A pins s σ H x y u v c sb I rx ry d
  obtain ⟨a, rfl, rfl, rfl⟩ := d
  cases rx
  cases ry
  exact SeqAt.EqAt.same (A := A) (s := s) (.ref a) X.prog X.w X.xe _ ⟨rfl, H, I, Ext.rfl'⟩
end
end L2.Jk

set_option Elab.async false
set_option linter.all false
set_option maxRecDepth 100000
set_option maxHeartbeats 4000000
/-! Layouts: equal or not; without separators. -/
namespace L2.K79
open PySem PySem.W PySem.Spec PySem.Calls PyProof.Rows L2.Jk
def rTyN (X : Cx) : List V → Hp → VK → Prop := fun xs H Q => rTyA X xs H Q ∨ (xs = [.non] ∧ Q (.ty "NoneType") H)
theorem call_tyN {X : Cx} : CallR X (.type "type") (rTyN X) := by
  intro pins s σ H xs us Q I r h
  rcases h with h | ⟨rfl, q⟩
  · exact call_tyA pins s σ H xs us Q I r h
  · obtain ⟨u, rfl, rx⟩ := vals1 r
    obtain rfl : u = Value.none := rx
    exact call_type_of (typeIs_none s) (by decide +kernel) ⟨.ty "NoneType", H, I, rfl, q⟩
structure Q4 (P : Program) (w : World) (K : Frag) (mg : Str → Option Value) (base : Heap) : Prop extends Q3 P w K mg base where
  eMarked : ∃ fd, FnOk P w K mg base CX0 2 (He.ma K (ca K 5) "__eq__") fd ["self", "other"] (spEqMarked K) ∧ Binds K fd ["self", "other"] []
  nf : ∀ i j, i < 7 → j < 7 → notFirst K (ca K i) (.ref (ca K j)) = true
  eqc : ∀ i, i < 7 → EqcC K (ca K i)
/-- b is the same kind of field (yes), or Fixed(4) where d is none such (no) -/
def Ans (K : Frag) (H : Hp) (b : Addr) (d : FD) (c : Bool) : Prop := (c = true ∧ FdAt K H b d) ∨ (c = false ∧ FieldAt K H b (.fixed (.int 4)) ∧ (d.ci ≠ 2 ∨ d = .pl (.fixed (.int 1))))
def RF (K : Frag) (i : Nat) (a b : Addr) (c : Bool) (H : Hp) : Prop := ∃ d : FD, d.ci = i ∧ FdAt K H a d ∧ Ans K H b d c
theorem Ans.ext {K : Frag} {H H' : Hp} {b : Addr} {d : FD} {c : Bool} (e : Ext H H') (h : Ans K H b d c) : Ans K H' b d c := by
  rcases h with ⟨x, y⟩ | ⟨x, y, z⟩
  · exact .inl ⟨x, y.same e⟩
  · exact .inr ⟨x, y.same e, z⟩
theorem RF.ext {K : Frag} {i : Nat} {a b : Addr} {c : Bool} {H H' : Hp} (e : Ext H H') : RF K i a b c H → RF K i a b c H'
  | ⟨d, x, y, z⟩ => ⟨d, x, y.same e, z.ext e⟩
def DFd (K : Frag) : EqvB := fun x y c H => DSameB x y c H ∨ DInX K (ca K 0) (RF K 0) x y c H ∨ DInX K (ca K 1) (RF K 1) x y c H ∨ DInX K (ca K 2) (RF K 2) x y c H ∨ DInX K (ca K 3) (RF K 3) x y c H ∨ DInX K (ca K 4) (RF K 4) x y c H ∨ DInX K (ca K 5) (RF K 5) x y c H
theorem mon_fd (K : Frag) : MonB (DFd K) := by
  have m : ∀ i, MonB (DInX K (ca K i) (RF K i)) := fun i => monB_inX fun _ _ _ _ _ e r => r.ext e
  exact monB_same.or ((m 0).or ((m 1).or ((m 2).or ((m 3).or ((m 4).or (m 5))))))
section
variable {P : Program} {w : World} {K : Frag} {mg : Str → Option Value} {base : Heap} {f : Addr} {fd : FuncData}

theorem eq_Word (G : Q4 P w K mg base) : ∃ fd, FnOk P w K mg base CX0 2 (He.ma K (ca K 0) "__eq__") fd ["self", "other"] (spEqB (RF K 0)) ∧ Binds K fd ["self", "other"] [] := by
  obtain ⟨fd, F, B⟩ := G.eWord.ok
  have F2 : FnOk P w K mg base CX0 1 (He.ma K (ca K 0) "__eq__") fd ["self", "other"] (spEqB (RF K 0)) := F.imp fun vs H Q E h => by
    obtain ⟨a, b, c, rfl, ⟨d, hd, ha, an⟩, q⟩ := h
    cases d with
    | mk n m d => exact absurd (show (5 : Nat) = 0 from hd) (by decide)
    | pl d =>
    cases d with
    | number l m => exact absurd (show (1 : Nat) = 0 from hd) (by decide)
    | fixed z => exact absurd (show (2 : Nat) = 0 from hd) (by decide)
    | listed x => exact absurd (show (3 : Nat) = 0 from hd) (by decide)
    | ended s e l m => exact absurd (show (4 : Nat) = 0 from hd) (by decide)
    | word s l m =>
      obtain ⟨hF, hIn, hdue⟩ := ha
      refine ⟨a, .ref b, s, l, m, rfl, hF, hIn, hdue, ?_⟩
      rcases an with ⟨rfl, hb⟩ | ⟨rfl, ⟨dy, hb⟩, hne⟩
      · exact .inl ⟨b, rfl, hb.1, q H (Same.refl _)⟩
      · exact .inr (.inr ⟨b, 2, dy, _, rfl, hb, by decide, by decide, q H (Same.refl _)⟩)
  exact ⟨fd, F2.mono (by decide), B⟩

theorem eq_Number (G : Q4 P w K mg base) : ∃ fd, FnOk P w K mg base CX0 2 (He.ma K (ca K 1) "__eq__") fd ["self", "other"] (spEqB (RF K 1)) ∧ Binds K fd ["self", "other"] [] := by
  obtain ⟨fd, F, B⟩ := G.eNumber.ok
  have F2 : FnOk P w K mg base CX0 1 (He.ma K (ca K 1) "__eq__") fd ["self", "other"] (spEqB (RF K 1)) := F.imp fun vs H Q E h => by
    obtain ⟨a, b, c, rfl, ⟨d, hd, ha, an⟩, q⟩ := h
    cases d with
    | mk n m d => exact absurd (show (5 : Nat) = 1 from hd) (by decide)
    | pl d =>
    cases d with
    | word s l m => exact absurd (show (0 : Nat) = 1 from hd) (by decide)
    | fixed z => exact absurd (show (2 : Nat) = 1 from hd) (by decide)
    | listed x => exact absurd (show (3 : Nat) = 1 from hd) (by decide)
    | ended s e l m => exact absurd (show (4 : Nat) = 1 from hd) (by decide)
    | number l m =>
      obtain ⟨hF, hIn, hdue⟩ := ha
      refine ⟨a, .ref b, l, m, rfl, hF, hIn, hdue, ?_⟩
      rcases an with ⟨rfl, hb⟩ | ⟨rfl, ⟨dy, hb⟩, hne⟩
      · exact .inl ⟨b, rfl, hb.1, q H (Same.refl _)⟩
      · exact .inr (.inr ⟨b, 2, dy, _, rfl, hb, by decide, by decide, q H (Same.refl _)⟩)
  exact ⟨fd, F2.mono (by decide), B⟩

theorem eq_Fixed (G : Q4 P w K mg base) : ∃ fd, FnOk P w K mg base CX0 2 (He.ma K (ca K 2) "__eq__") fd ["self", "other"] (spEqB (RF K 2)) ∧ Binds K fd ["self", "other"] [] := by
  obtain ⟨fd, F, B⟩ := G.eFixed.ok
  have F2 : FnOk P w K mg base CX0 1 (He.ma K (ca K 2) "__eq__") fd ["self", "other"] (spEqB (RF K 2)) := F.imp fun vs H Q E h => by
    obtain ⟨a, b, c, rfl, ⟨d, hd, ha, an⟩, q⟩ := h
    cases d with
    | mk n m d => exact absurd (show (5 : Nat) = 2 from hd) (by decide)
    | pl d =>
    cases d with
    | word s l m => exact absurd (show (0 : Nat) = 2 from hd) (by decide)
    | number l m => exact absurd (show (1 : Nat) = 2 from hd) (by decide)
    | listed x => exact absurd (show (3 : Nat) = 2 from hd) (by decide)
    | ended s e l m => exact absurd (show (4 : Nat) = 2 from hd) (by decide)
    | fixed z =>
      obtain ⟨hF, hIn, hdue⟩ := ha
      refine ⟨a, .ref b, z, rfl, hF, hIn, hdue, ?_⟩
      rcases an with ⟨rfl, hb⟩ | ⟨rfl, ⟨dy, hb⟩, hne⟩
      · exact .inl ⟨b, rfl, hb.1, q H (Same.refl _)⟩
      · rcases hne with hne | hne
        · exact absurd rfl hne
        · injection hne with hne
          injection hne with hne
          subst hne
          exact .inr (.inr (.inr ⟨b, .int 4, rfl, ⟨dy, hb⟩, rfl, (fun z => by injection z with z; exact absurd z (by decide)), q H (Same.refl _)⟩))
  exact ⟨fd, F2.mono (by decide), B⟩

theorem eq_Listed (G : Q4 P w K mg base) : ∃ fd, FnOk P w K mg base CX0 2 (He.ma K (ca K 3) "__eq__") fd ["self", "other"] (spEqB (RF K 3)) ∧ Binds K fd ["self", "other"] [] := by
  obtain ⟨fd, F, B⟩ := G.eListed.ok
  have F2 : FnOk P w K mg base CX0 1 (He.ma K (ca K 3) "__eq__") fd ["self", "other"] (spEqB (RF K 3)) := F.imp fun vs H Q E h => by
    obtain ⟨a, b, c, rfl, ⟨d, hd, ha, an⟩, q⟩ := h
    cases d with
    | mk n m d => exact absurd (show (5 : Nat) = 3 from hd) (by decide)
    | pl d =>
    cases d with
    | word s l m => exact absurd (show (0 : Nat) = 3 from hd) (by decide)
    | number l m => exact absurd (show (1 : Nat) = 3 from hd) (by decide)
    | fixed z => exact absurd (show (2 : Nat) = 3 from hd) (by decide)
    | ended s e l m => exact absurd (show (4 : Nat) = 3 from hd) (by decide)
    | listed x =>
      obtain ⟨hF, hIn, hdue⟩ := ha
      refine ⟨a, .ref b, x, rfl, hF, hIn, hdue, ?_⟩
      rcases an with ⟨rfl, hb⟩ | ⟨rfl, ⟨dy, hb⟩, hne⟩
      · exact .inl ⟨b, rfl, hb.1, q H (Same.refl _)⟩
      · exact .inr (.inr ⟨b, 2, dy, _, rfl, hb, by decide, by decide, q H (Same.refl _)⟩)
  exact ⟨fd, F2.mono (by decide), B⟩

theorem eq_Ended (G : Q4 P w K mg base) : ∃ fd, FnOk P w K mg base CX0 2 (He.ma K (ca K 4) "__eq__") fd ["self", "other"] (spEqB (RF K 4)) ∧ Binds K fd ["self", "other"] [] := by
  obtain ⟨fd, F, B⟩ := G.eEnded.ok
  have F2 : FnOk P w K mg base CX0 1 (He.ma K (ca K 4) "__eq__") fd ["self", "other"] (spEqB (RF K 4)) := F.imp fun vs H Q E h => by
    obtain ⟨a, b, c, rfl, ⟨d, hd, ha, an⟩, q⟩ := h
    cases d with
    | mk n m d => exact absurd (show (5 : Nat) = 4 from hd) (by decide)
    | pl d =>
    cases d with
    | word s l m => exact absurd (show (0 : Nat) = 4 from hd) (by decide)
    | number l m => exact absurd (show (1 : Nat) = 4 from hd) (by decide)
    | fixed z => exact absurd (show (2 : Nat) = 4 from hd) (by decide)
    | listed x => exact absurd (show (3 : Nat) = 4 from hd) (by decide)
    | ended s e l m =>
      obtain ⟨hF, hIn, hdue⟩ := ha
      refine ⟨a, .ref b, s, e, l, m, rfl, hF, hIn, hdue, ?_⟩
      rcases an with ⟨rfl, hb⟩ | ⟨rfl, ⟨dy, hb⟩, hne⟩
      · exact .inl ⟨b, rfl, hb.1, q H (Same.refl _)⟩
      · exact .inr (.inr ⟨b, 2, dy, _, rfl, hb, by decide, by decide, q H (Same.refl _)⟩)
  exact ⟨fd, F2.mono (by decide), B⟩

theorem eq_Marked (G : Q4 P w K mg base) : ∃ fd, FnOk P w K mg base CX0 2 (He.ma K (ca K 5) "__eq__") fd ["self", "other"] (spEqB (RF K 5)) ∧ Binds K fd ["self", "other"] [] := by
  obtain ⟨fd, F, B⟩ := G.eMarked
  have F2 : FnOk P w K mg base CX0 2 (He.ma K (ca K 5) "__eq__") fd ["self", "other"] (spEqB (RF K 5)) := F.imp fun vs H Q E h => by
    obtain ⟨a, b, c, rfl, ⟨d, hd, ha, an⟩, q⟩ := h
    cases d with
    | pl d => exact absurd hd (Nat.ne_of_lt d.ci_lt)
    | mk n m d =>
      obtain ⟨hF, hIn, hdue, ⟨cn, en⟩, cm, em⟩ := ha
      refine ⟨a, .ref b, n, m, d, rfl, hF, hIn, hdue, by rw [en]; rfl, by rw [em]; rfl, ?_⟩
      rcases an with ⟨rfl, hb⟩ | ⟨rfl, ⟨dy, hb⟩, hne⟩
      · exact .inl ⟨b, rfl, hb.1, q H (Same.refl _)⟩
      · exact .inr (.inr ⟨b, 2, dy, _, rfl, hb, by decide, by decide, q H (Same.refl _)⟩)
  exact ⟨fd, F2, B⟩
theorem eq_fd {X : Cx} (G : Q4 X.prog X.w X.K X.mg X.base) (hx : Passes CX0 X (fun _ _ _ => False)) : EqGB X 2 (DFd X.K) := by
  obtain ⟨f0, F0, B0⟩ := eq_Word G
  obtain ⟨f1, F1, B1⟩ := eq_Number G
  obtain ⟨f2, F2, B2⟩ := eq_Fixed G
  obtain ⟨f3, F3, B3⟩ := eq_Listed G
  obtain ⟨f4, F4, B4⟩ := eq_Ended G
  obtain ⟨f5, F5, B5⟩ := eq_Marked G
  have m := fun i (hi : i < 7) => G.eqc i hi
  exact (eqGB_same.mono (by decide)).or ((eqGB_inX F0 (m 0 (by decide)).find (m 0 (by decide)).fn B0 hx).or ((eqGB_inX F1 (m 1 (by decide)).find (m 1 (by decide)).fn B1 hx).or ((eqGB_inX F2 (m 2 (by decide)).find (m 2 (by decide)).fn B2 hx).or ((eqGB_inX F3 (m 3 (by decide)).find (m 3 (by decide)).fn B3 hx).or ((eqGB_inX F4 (m 4 (by decide)).find (m 4 (by decide)).fn B4 hx).or (eqGB_inX F5 (m 5 (by decide)).find (m 5 (by decide)).fn B5 hx))))))
/-! ### == of layouts -/
def LyX (K : Frag) (H : Hp) (a : Addr) (ys : List V) (js : List Str) : Prop := ∃ dx t1 t2, H a = some (.ins (LA K) dx (fLayout (.ref t1) (.ref t2))) ∧ SqT K H t1 ys ∧ SqT K H t2 (js.map V.str)
theorem LyX.same {H H' : Hp} {a : Addr} {ys : List V} {js : List Str} (S : Same H H') : LyX K H a ys js → LyX K H' a ys js
  | ⟨dx, t1, t2, x, y, z⟩ => ⟨dx, t1, t2, S _ _ x, seqT_same S y, seqT_same S z⟩
def strsD (js : List Str) : PyData := .tuple (js.map PyData.str)
theorem dp_strL : ∀ js : List Str, ∀ H, DpAll K H (js.map V.str) (js.map PyData.str)
  | [], _ => .nil
  | j :: js, H => .cons (.str j) (dp_strL js H)
theorem jn_lay : ∀ j ∈ JN, (PyData.str j).canLay0 = true := by decide +kernel
theorem sh_jn {js : List Str} (h : ∀ j ∈ js, j ∈ JN) : SeqAt.shaped (strsD js) = true := by
  have k : ∀ js : List Str, (∀ j ∈ js, j ∈ JN) → PyData.canLayAll0 (js.map PyData.str) = true ∧ PyData.depthAll (js.map PyData.str) = 0 := fun js => by
    induction js with
    | nil => exact fun _ => ⟨rfl, rfl⟩
    | cons j js ih =>
      intro h
      obtain ⟨h1, h2⟩ := ih fun x hx => h x (List.mem_cons_of_mem _ hx)
      refine ⟨Bool.and_eq_true_iff.mpr ⟨jn_lay j (h j (List.mem_cons_self ..)), h1⟩, ?_⟩
      show max 0 (PyData.depthAll (js.map PyData.str)) = 0
      rw [h2]
      rfl
  obtain ⟨l1, l2⟩ := k js h
  refine Bool.and_eq_true_iff.mpr ⟨l1, decide_eq_true ?_⟩
  show PyData.depthAll (js.map PyData.str) + 1 ≤ 64
  omega
theorem eqv_strs : ∀ js ks : List Str, PyData.eqvAll (js.map PyData.str) (ks.map PyData.str) = decide (js = ks)
  | [], [] => by simp [PyData.eqvAll]
  | [], _ :: _ => by simp [PyData.eqvAll]
  | _ :: _, [] => by simp [PyData.eqvAll]
  | j :: js, k :: ks => by
    rw [List.map_cons, List.map_cons, PyData.eqvAll, eqv_strs js ks, show PyData.eqv (.str j) (.str k) = decide (j = k) by simp only [PyData.eqv]; exact PySem.W.beq_decide _ _, ← Bool.decide_and]
    exact decide_eq_decide.mpr (by rw [List.cons.injEq])
theorem eqv_js (js ks : List Str) : PyData.eqv (strsD js) (strsD ks) = decide (js = ks) := by
  show PyData.eqv (.tuple _) (.tuple _) = _
  simp only [PyData.eqv]
  exact eqv_strs js ks
def spEqLay (K : Frag) : Sp := fun vs H Q _ => ∃ (a : Addr) (u : V) (ys : List V) (js : List Str), vs = [.ref a, u] ∧ LyX K H a ys js ∧ (∀ j ∈ js, j ∈ JN) ∧
  ((∃ b zs ks e, u = .ref b ∧ LyX K H b zs ks ∧ (∀ j ∈ ks, j ∈ JN) ∧ (∀ (i : Nat) x y, ys[i]? = some x → zs[i]? = some y → DFd K x y (e i) H) ∧ ∀ H', Same H H' → Q (.bl ((allE e (min ys.length zs.length) && (ys.length == zs.length)) && decide (js = ks))) H') ∨
    ((u = .non ∨ ∃ b, u = .ref b ∧ ((∃ xs, H b = some (.tup xs)) ∨ ∃ xs, H b = some (.lst xs))) ∧ Q (.bl false) H))

abbrev s_Layout_eq : Stmt := inClass (top 33) 1
theorem sc_Layout_eq : FnScope ["self", "other"] ["self", "other"] (defScope s_Layout_eq) := ⟨rfl, rfl, rfl, by decide +kernel, rfl, by decide +kernel, by decide +kernel⟩

theorem ok_Layout_eq (F : FunD K "__eq__" "Layout.__eq__" (defArgs s_Layout_eq) (defBody s_Layout_eq) (defScope s_Layout_eq) [] [] f fd) (G : Q4 P w K mg base) : FnOk P w K mg base CX0 4 f fd ["self", "other"] (spEqLay K) := by
  refine F.ok (CX := CX0) sc_Layout_eq (fun vs H Q E h => ?_) (fun cdv A outer s H vs Q E hr h => ?_)
  · obtain ⟨a, u, ys, js, rfl, _⟩ := h
    rfl
  · refine ⟨_, PSs.nox (pss_one (ps_ret (pe_and (pe_cmpR op_isA (pe_callTy call_tyA (by rfl) G.type (by decide +kernel) (pa_cons (pv 0) pa_nil)) (pe_callTy call_tyN (by rfl) G.type (by decide +kernel) (pa_cons (pv 1) pa_nil)) (nomark _)) (pe_and (pe_cmpR (op_eqTB (mon_fd K) (eq_fd G pass0) hr) (pe_fld (pv 0) rfl) (pe_fld (pv 1) rfl) (nomark _)) (pe_one (pe_cmpR (op_eqD hr.units) (pe_fld (pv 0) rfl) (pe_fld (pv 1) rfl) (nomark _))))))), ?_⟩
    obtain ⟨a, u, ys, js, rfl, hA, hj, h⟩ := h
    obtain ⟨dx, t1, t2, ha, y1, y2⟩ := id hA
    rcases h with ⟨b, zs, ks, e, rfl, hB, hk, hd, q⟩ | ⟨hu, q⟩
    · obtain ⟨dy, t3, t4, hb, y3, y4⟩ := id hB
      refine ⟨_, rfl, _, rfl, .inl ⟨a, _, dx, _, rfl, ha, _, rfl, .inl ⟨_, rfl, .inl ⟨b, _, dy, _, rfl, hb, _, rfl, .inl ⟨_, rfl, .inl rfl, _, rfl, ?_⟩⟩⟩⟩⟩
      refine ite2 (fun _ => ?_) (fun h => absurd (decide_eq_true rfl) h)
      refine ⟨_, rfl, a, _, dx, _, _, rfl, ha, G.cLayout.cl, G.cLayout.no _ (by decide +kernel), lLayout_fields, _, rfl, b, _, dy, _, _, rfl, hb, G.cLayout.cl, G.cLayout.no _ (by decide +kernel), lLayout_fields, t1, t3, ys, zs, e, rfl, rfl, y1, y3, hd, fun H0 S0 => ?_⟩
      refine ⟨_, rfl, ?_⟩
      refine ite2 (fun c => ?_) (fun c => ?_)
      · refine ⟨_, rfl, a, _, dx, _, _, rfl, (S0 _ _ ha), G.cLayout.cl, G.cLayout.no _ (by decide +kernel), lLayout_joints, _, rfl, b, _, dy, _, _, rfl, (S0 _ _ hb), G.cLayout.cl, G.cLayout.no _ (by decide +kernel), lLayout_joints, strsD js, strsD ks, .tup (seqT_same S0 y2) (dp_strL js _), .tup (seqT_same S0 y4) (dp_strL ks _), sh_jn hj, sh_jn hk, ?_⟩
        rw [eqv_js]
        have z := q H0 S0
        rw [c, Bool.true_and] at z
        exact z
      · have z := q H0 S0
        rw [Bool.eq_false_iff.mpr c, Bool.false_and] at z
        exact z
    · rcases hu with rfl | ⟨b, rfl, ⟨xs, hb⟩ | ⟨xs, hb⟩⟩
      · exact ⟨_, rfl, _, rfl, .inl ⟨a, _, dx, _, rfl, ha, _, rfl, .inr ⟨rfl, _, rfl, .inr ⟨_, rfl, _, rfl, iteF q⟩⟩⟩⟩
      · exact ⟨_, rfl, _, rfl, .inl ⟨a, _, dx, _, rfl, ha, _, rfl, .inl ⟨_, rfl, .inr ⟨_, .tup hb, _, rfl, .inr ⟨_, rfl, _, rfl, iteF q⟩⟩⟩⟩⟩
      · exact ⟨_, rfl, _, rfl, .inl ⟨a, _, dx, _, rfl, ha, _, rfl, .inl ⟨_, rfl, .inr ⟨_, .lst hb, _, rfl, .inr ⟨_, rfl, _, rfl, iteF q⟩⟩⟩⟩⟩

end
end L2.K79

set_option Elab.async false
set_option linter.all false
set_option maxRecDepth 100000
set_option maxHeartbeats 4000000
/-! Texts cut at one sign, and put together again. -/
namespace L2.Jk
open PySem PySem.W PySem.StrLaws
theorem str_ext {a b : Str} (h : a.cps.toList = b.cps.toList) : a = b := by
  cases a
  cases b
  exact congrArg Str.mk (Array.toList_inj.mp h)
theorem cat_list (a b : Str) : (a ++ b).cps.toList = a.cps.toList ++ b.cps.toList := by
  show (a.cps ++ b.cps).toList = _
  exact Array.toList_append
/-- the list cut at a sign, n times at most -/
def cutN (c : Nat) : Nat → List Nat → List (List Nat)
  | 0, l => [l]
  | n + 1, l => match l.dropWhile (· != c) with
    | [] => [l]
    | _ :: r => l.takeWhile (· != c) :: cutN c n r
def occL (c : Nat) : List Nat → Nat → List Nat
  | [], _ => []
  | x :: r, a => if x = c then a :: occL c r (a + 1) else occL c r (a + 1)
theorem occL_run (s : Str) (c lim : Nat) : ∀ (m i : Nat) (st : Array Nat × Nat), i + m = s.length + 1 → st.2 ≤ i → st.1.size ≤ lim →
    (forIn (List.range' i m) st (occBody s ⟨#[c]⟩ s.length lim)).run.1.toList = (st.1.toList ++ occL c (s.cps.toList.drop i) i).take lim
  | 0, i, st, h, _, hs => by
    have e : s.cps.toList.drop i = [] := List.drop_eq_nil_of_le (by rw [Array.length_toList]; show s.cps.size ≤ i; have : s.length = s.cps.size := rfl; omega)
    rw [e]
    show st.1.toList = (st.1.toList ++ []).take lim
    rw [List.append_nil, List.take_of_length_le (by rw [Array.length_toList]; exact hs)]
  | m + 1, i, st, h, hf, hs => by
    have ih := occL_run s c lim m (i + 1)
    rw [List.range'_succ, List.forIn_cons, occBody.eq_1]
    by_cases hc : s.cps.toList[i]? = some c
    · have hi : i < s.cps.toList.length := (List.getElem?_eq_some_iff.mp hc).1
      have e : s.cps.toList.drop i = c :: s.cps.toList.drop (i + 1) := by
        rw [List.drop_eq_getElem_cons hi, (List.getElem?_eq_some_iff.mp hc).2]
      have r : occL c (s.cps.toList.drop i) i = i :: occL c (s.cps.toList.drop (i + 1)) (i + 1) := by rw [e]; exact if_pos rfl
      by_cases hl : st.1.size < lim
      · rw [if_pos ⟨⟨⟨hl, hf⟩, ((subAt_one s c i).mpr hc).1⟩, ((subAt_one s c i).mpr hc).2⟩]
        have z := ih (st.1.push i, i + 1) (by omega) (Nat.le_refl _) (by show (st.1.push i).size ≤ lim; rw [Array.size_push]; omega)
        rw [r]
        refine Eq.trans z ?_
        show ((st.1.push i).toList ++ _).take lim = _
        rw [Array.toList_push, List.append_assoc]
        rfl
      · rw [if_neg (fun k => hl k.1.1.1)]
        have z := ih (st.1, st.2) (by omega) (by show st.2 ≤ i + 1; omega) hs
        refine Eq.trans z ?_
        have hz : lim = st.1.toList.length := by rw [Array.length_toList]; omega
        rw [hz, List.take_left, List.take_left]
    · rw [if_neg (fun k => hc ((subAt_one s c i).mp ⟨k.1.2, k.2⟩))]
      have z := ih (st.1, st.2) (by omega) (by show st.2 ≤ i + 1; omega) hs
      refine Eq.trans z ?_
      have r : occL c (s.cps.toList.drop i) i = occL c (s.cps.toList.drop (i + 1)) (i + 1) := by
        by_cases hi : i < s.cps.toList.length
        · rw [List.drop_eq_getElem_cons hi]
          exact if_neg (fun k => hc (by rw [List.getElem?_eq_getElem hi, k]))
        · rw [List.drop_eq_nil_of_le (by omega), List.drop_eq_nil_of_le (by omega)]
          rfl
      rw [r]
theorem occ_is (s : Str) (c lim : Nat) : Builtin.Str.occurrences s ⟨#[c]⟩ 0 s.length lim = (occL c s.cps.toList 0).take lim := by
  rw [occ_eq]
  have z := occL_run s c lim (s.length + 1 - 0) 0 (#[], 0) (by omega) (Nat.le_refl _) (Nat.zero_le _)
  refine Eq.trans z ?_
  rfl
theorem occL_cut (c : Nat) : ∀ (l : List Nat) (a : Nat), occL c l a = match l.dropWhile (· != c) with
    | [] => []
    | _ :: r => (a + (l.takeWhile (· != c)).length) :: occL c r (a + (l.takeWhile (· != c)).length + 1)
  | [], a => rfl
  | x :: l, a => by
    by_cases h : x = c
    · have e : (x != c) = false := by rw [h]; exact bne_self_eq_false c
      rw [List.dropWhile_cons_of_neg (by rw [e]; exact Bool.false_ne_true), List.takeWhile_cons_of_neg (by rw [e]; exact Bool.false_ne_true)]
      show (if x = c then _ else _) = _
      rw [if_pos h]
      rfl
    · have e : (x != c) = true := bne_iff_ne.mpr h
      rw [List.dropWhile_cons_of_pos (p := (· != c)) e, List.takeWhile_cons_of_pos (p := (· != c)) e]
      show (if x = c then _ else _) = _
      rw [if_neg h, occL_cut c l (a + 1)]
      cases l.dropWhile (· != c) with
      | nil => rfl
      | cons y r =>
        show (a + 1 + _) :: _ = (a + (_ + 1)) :: _
        rw [show a + 1 + (l.takeWhile (· != c)).length = a + ((l.takeWhile (· != c)).length + 1) by omega]
        rfl
theorem parts_cut (s : Str) (c : Nat) : ∀ (lim a : Nat), a ≤ s.length → (partsFrom s 1 a ((occL c (s.cps.toList.drop a) a).take lim)).map (·.cps.toList) = cutN c lim (s.cps.toList.drop a)
  | 0, a, ha => by
    rw [List.take_zero, partsFrom.eq_1]
    show [(Builtin.Str.strSub s a s.length).cps.toList] = [_]
    rw [strSub_toList, List.take_of_length_le (by rw [List.length_drop, Array.length_toList]; exact Nat.le_refl _)]
  | n + 1, a, ha => by
    rw [occL_cut]
    unfold cutN
    generalize hl : s.cps.toList.drop a = l
    have hlen : l.length = s.length - a := by rw [← hl, List.length_drop, Array.length_toList]; rfl
    cases e : l.dropWhile (· != c) with
    | nil =>
      show (partsFrom s 1 a []).map _ = [l]
      rw [partsFrom.eq_1]
      show [(Builtin.Str.strSub s a s.length).cps.toList] = [_]
      rw [strSub_toList, hl, List.take_of_length_le (by omega)]
    | cons y r =>
      have whole := List.takeWhile_append_dropWhile (p := (· != c)) (l := l)
      rw [e] at whole
      have hk : (l.takeWhile (· != c)).length + (r.length + 1) = l.length := by
        have := congrArg List.length whole
        rw [List.length_append, List.length_cons] at this
        exact this
      show (partsFrom s 1 a (((a + (l.takeWhile (· != c)).length) :: _).take (n + 1))).map _ = _
      rw [List.take_succ_cons, partsFrom.eq_2]
      show (Builtin.Str.strSub s a (a + (l.takeWhile (· != c)).length)).cps.toList :: (partsFrom s 1 (a + (l.takeWhile (· != c)).length + 1) _).map _ = _
      have hr : s.cps.toList.drop (a + (l.takeWhile (· != c)).length + 1) = r := by
        rw [Nat.add_assoc, ← List.drop_drop, hl]
        have z : (l.takeWhile (· != c) ++ y :: r).drop ((l.takeWhile (· != c)).length + 1) = r := by
          rw [← List.drop_drop, List.drop_left]
          rfl
        rw [whole] at z
        exact z
      have ih := parts_cut s c n (a + (l.takeWhile (· != c)).length + 1) (by omega)
      rw [hr] at ih
      rw [ih, strSub_toList, hl, show a + (l.takeWhile (· != c)).length - a = (l.takeWhile (· != c)).length by omega]
      congr 1
      exact (List.prefix_iff_eq_take.mp (List.takeWhile_prefix _)).symm
theorem dropW_free {c : Nat} {l : List Nat} (h : c ∉ l) : l.dropWhile (· != c) = [] := by
  induction l with
  | nil => rfl
  | cons x l ih =>
    have e : (x != c) = true := bne_iff_ne.mpr fun e => h (e ▸ List.mem_cons_self ..)
    rw [List.dropWhile_cons_of_pos (p := (· != c)) e]
    exact ih fun k => h (List.mem_cons_of_mem _ k)
theorem cutN_free {c : Nat} {l : List Nat} (h : c ∉ l) : ∀ n, cutN c n l = [l]
  | 0 => rfl
  | n + 1 => by
    unfold cutN
    rw [dropW_free h]
theorem cutN_cons {c : Nat} {a l : List Nat} (h : c ∉ a) (n : Nat) : cutN c (n + 1) (a ++ c :: l) = a :: cutN c n l := by
  have hp : ∀ x ∈ a, (x != c) = true := fun x hx => bne_iff_ne.mpr fun e => h (e ▸ hx)
  conv => lhs; unfold cutN
  rw [List.dropWhile_append_of_pos hp, List.takeWhile_append_of_pos hp, List.dropWhile_cons_of_neg (by simp), List.takeWhile_cons_of_neg (by simp)]
  rw [List.append_nil]
theorem one_occ {s : Str} {c : Nat} (h : (decide (s.length < (⟨#[c]⟩ : Str).length) || decide (Builtin.Str.strKind s < Builtin.Str.strKind ⟨#[c]⟩)) = true) : c ∉ s.cps.toList := by
  rcases Bool.or_eq_true_iff.mp h with h | h
  · have z : s.cps.size < 1 := of_decide_eq_true h
    intro k
    have := List.length_pos_of_mem k
    rw [Array.length_toList] at this
    omega
  · exact kind_free s c (of_decide_eq_true h)
theorem cut_any (s : Str) (c lim : Nat) : (if (decide (s.length < (⟨#[c]⟩ : Str).length) || decide (Builtin.Str.strKind s < Builtin.Str.strKind ⟨#[c]⟩)) = true then [s]
    else if (Builtin.Str.occurrences s ⟨#[c]⟩ 0 s.length lim).isEmpty = true then [s] else Builtin.Str.partsBetween s (Builtin.Str.occurrences s ⟨#[c]⟩ 0 s.length lim) (⟨#[c]⟩ : Str).length).map (·.cps.toList) = cutN c lim s.cps.toList := by
  have whole := parts_cut s c lim 0 (Nat.zero_le _)
  rw [List.drop_zero, ← occ_is] at whole
  split
  · rename_i h
    rw [cutN_free (one_occ h)]
    rfl
  · split
    · rename_i h
      rw [List.isEmpty_iff.mp h, partsFrom.eq_1] at whole
      rw [← whole]
      show [s.cps.toList] = [(Builtin.Str.strSub s 0 s.length).cps.toList]
      rw [sub_whole]
    · rw [partsBetween_eq]
      exact whole
theorem splitMax_cut (s : Str) (c : Nat) (k : Int) : (Txt.splitMax s ⟨#[c]⟩ k).map (·.cps.toList) = cutN c (limitOf s k) s.cps.toList := cut_any s c _
theorem split_cut (s : Str) (c : Nat) : (Txt.split s ⟨#[c]⟩).map (·.cps.toList) = cutN c (s.length + 1) s.cps.toList := cut_any s c _
theorem map_list_inj {xs ys : List Str} (h : xs.map (·.cps.toList) = ys.map (·.cps.toList)) : xs = ys := List.map_inj_right (fun _ _ e => str_ext e) |>.mp h
theorem occL_len (c : Nat) : ∀ (l : List Nat) (a : Nat), (occL c l a).length = l.count c
  | [], _ => rfl
  | x :: l, a => by
    show (if x = c then _ else _ : List Nat).length = _
    rw [List.count_cons]
    split
    · rename_i h
      rw [List.length_cons, occL_len c l, if_pos (by rw [h]; exact beq_self_eq_true c)]
    · rename_i h
      rw [occL_len c l, if_neg (by simpa using h), Nat.add_zero]
theorem count_is (s : Str) (c : Nat) : Txt.count s ⟨#[c]⟩ = ((s.cps.toList.count c : Nat) : Int) := by
  show ((Builtin.Str.occurrences s ⟨#[c]⟩ 0 s.length (s.length + 1)).length : Int) = _
  rw [occ_is, List.take_of_length_le, occL_len]
  rw [occL_len]
  have := List.count_le_length (a := c) (l := s.cps.toList)
  rw [Array.length_toList] at this
  show s.cps.toList.count c ≤ s.cps.size + 1
  omega
/-! ### put together -/
theorem join_nil (s : Str) : Txt.join s [] = "" := by
  show Builtin.Str.glued s [] = _
  rw [glued_eq_join]
  rfl
theorem join_one (s x : Str) : Txt.join s [x] = x := by
  show Builtin.Str.glued s [x] = _
  rw [glued_eq_join, ← glued_cons]
  rfl
theorem join_cons (s x y : Str) (r : List Str) : Txt.join s (x :: y :: r) = x ++ s ++ Txt.join s (y :: r) := by
  show Builtin.Str.glued s (x :: y :: r) = x ++ s ++ Builtin.Str.glued s (y :: r)
  rw [glued_eq_join, glued_eq_join, ← join_shift, ← glued_cons, ← glued_cons]
  rfl
theorem cutN_join (c : Nat) : ∀ (ps : List Str) (n : Nat), ps ≠ [] → ps.length ≤ n + 1 → (∀ p ∈ ps, c ∉ p.cps.toList) → cutN c n (Txt.join ⟨#[c]⟩ ps).cps.toList = ps.map (·.cps.toList)
  | [], _, h, _, _ => absurd rfl h
  | [x], n, _, _, hf => by
    rw [join_one, cutN_free (hf x (List.mem_cons_self ..))]
    rfl
  | x :: y :: r, 0, _, hl, _ => by
    simp only [List.length_cons] at hl
    omega
  | x :: y :: r, n + 1, _, hl, hf => by
    rw [join_cons, cat_list, cat_list]
    show cutN c (n + 1) (x.cps.toList ++ [c] ++ _) = _
    rw [List.append_assoc, List.singleton_append]
    rw [cutN_cons (hf x (List.mem_cons_self ..)), cutN_join c (y :: r) n (by simp) (by simp only [List.length_cons] at hl ⊢; omega) fun p hp => hf p (List.mem_cons_of_mem _ hp)]
    rfl
theorem join_len (s : Str) : ∀ ps : List Str, ps ≠ [] → (Txt.join s ps).length + s.length = (ps.map fun p => p.length + s.length).sum
  | [], h => absurd rfl h
  | [x], _ => by rw [join_one]; simp
  | x :: y :: r, _ => by
    have ih := join_len s (y :: r) (by simp)
    rw [join_cons]
    have e : ∀ a b : Str, (a ++ b).length = a.length + b.length := fun a b => by
      show (a.cps ++ b.cps).size = _
      exact Array.size_append
    rw [e, e, List.map_cons, List.sum_cons, ← ih]
    omega
theorem split_join {c : Nat} {ps : List Str} (hne : ps ≠ []) (hf : ∀ p ∈ ps, c ∉ p.cps.toList) : Txt.split (Txt.join ⟨#[c]⟩ ps) ⟨#[c]⟩ = ps := by
  refine map_list_inj ?_
  rw [split_cut]
  refine cutN_join c ps _ hne ?_ hf
  have z := join_len ⟨#[c]⟩ ps hne
  have k : ∀ l : List Str, l.length ≤ (l.map fun p => p.length + (⟨#[c]⟩ : Str).length).sum := fun l => by
    induction l with
    | nil => exact Nat.le_refl _
    | cons a l ih =>
      rw [List.map_cons, List.sum_cons, List.length_cons]
      have : (⟨#[c]⟩ : Str).length = 1 := rfl
      omega
  have k2 := k ps
  have : (⟨#[c]⟩ : Str).length = 1 := rfl
  omega
end L2.Jk

set_option Elab.async false
set_option linter.all false
set_option maxRecDepth 100000
set_option maxHeartbeats 4000000
/-! Numbers as texts, and back. -/
namespace L2.Jk
open PySem PySem.W PySem.StrLaws PyProof.Rows
def T (n : Nat) : Str := (toString ((n : Nat) : Int) : Str)
theorem T_list (n : Nat) : (T n).cps.toList = (Nat.toDigits 10 n).map Char.toNat := KIN.signs_num n
theorem T_val (n : Nat) : NumText.digitsVal (T n).cps.toList = n := by
  have h := KIN.val_back n
  rw [← KIN.signs_num] at h
  exact h
theorem T_dg (n : Nat) : NumText.AllDigits (T n).cps.toList := by
  rw [T_list]
  induction n using Nat.strongRecOn with
  | _ m ih =>
    have dc : ∀ d : Nat, d < 10 → 48 ≤ (Nat.digitChar d).toNat ∧ (Nat.digitChar d).toNat ≤ 57 := by decide
    by_cases h : m < 10
    · rw [Nat.toDigits_of_lt_base h]
      intro c hc
      rw [List.mem_singleton.mp hc]
      exact dc m h
    · have hm : m % 10 < 10 := Nat.mod_lt m (by decide)
      have t : Nat.toDigits 10 (m / 10) ++ Nat.toDigits 10 (m % 10) = Nat.toDigits 10 (10 * (m / 10) + m % 10) := Nat.toDigits_append_toDigits (by decide) (by omega) hm
      rw [Nat.div_add_mod] at t
      rw [← t, List.map_append, Nat.toDigits_of_lt_base hm]
      intro c hc
      rcases List.mem_append.mp hc with hc | hc
      · exact ih (m / 10) (by omega) c hc
      · rw [List.mem_singleton.mp hc]
        exact dc _ hm
/-- the first digit is no zero, but of 0 -/
theorem T_head (n : Nat) : ∃ c r, (T n).cps.toList = c :: r ∧ (c = 48 → n = 0) := by
  rw [T_list]
  induction n using Nat.strongRecOn with
  | _ m ih =>
    have dc : ∀ d : Nat, d < 10 → (Nat.digitChar d).toNat = 48 → d = 0 := by decide
    by_cases h : m < 10
    · rw [Nat.toDigits_of_lt_base h]
      exact ⟨_, [], rfl, dc m h⟩
    · have hm : m % 10 < 10 := Nat.mod_lt m (by decide)
      have t : Nat.toDigits 10 (m / 10) ++ Nat.toDigits 10 (m % 10) = Nat.toDigits 10 (10 * (m / 10) + m % 10) := Nat.toDigits_append_toDigits (by decide) (by omega) hm
      rw [Nat.div_add_mod] at t
      rw [← t, List.map_append]
      obtain ⟨c, r, e, k⟩ := ih (m / 10) (by omega)
      rw [e]
      exact ⟨c, _, rfl, fun z => by have := k z; omega⟩
theorem T_ne (n : Nat) : (T n).cps.toList ≠ [] := by
  obtain ⟨c, r, e, _⟩ := T_head n
  rw [e]
  exact List.cons_ne_nil _ _
theorem T_len {n k : Nat} (hk : 0 < k) (h : n < 10 ^ k) : (T n).length ≤ k := toString_length_le (Int.natCast_nonneg n) hk (by exact_mod_cast h)
theorem int_zT {n : Nat} (h : (T n).length ≤ 4000) : PySem.intText? (("0" : Str) ++ T n) = some (n : Int) := by
  have e : (("0" : Str) ++ T n).cps.toList = 48 :: (T n).cps.toList := by rw [cat_list]; rfl
  have l : (("0" : Str) ++ T n).length = 1 + (T n).length := by
    have := congrArg List.length e
    rw [List.length_cons, Array.length_toList, Array.length_toList] at this
    show (("0" : Str) ++ T n).cps.size = 1 + (T n).cps.size
    omega
  have hd : NumText.AllDigits (("0" : Str) ++ T n).cps.toList := by
    rw [e]
    intro c hc
    rcases List.mem_cons.mp hc with rfl | hc
    · exact ⟨by decide, by decide⟩
    · exact T_dg n c hc
  rw [intText_digits hd (by rw [e]; exact List.cons_ne_nil _ _) (by omega), e, NumText.digitsVal_zero, T_val]
theorem cut_all {z : Str} : cutS z none (some (z.length : Int)) = z := by
  refine str_ext ?_
  show ((z.cps.toList.drop 0).take (HT.sIx z.length z.length (some ((z.length : Nat) : Int)) - 0)) = _
  rw [HT.sIx_nat, List.drop_zero, List.take_of_length_le]
  rw [Array.length_toList, Nat.min_self]
  exact Nat.le_refl _
end L2.Jk

set_option Elab.async false
set_option linter.all false
set_option maxRecDepth 100000
set_option maxHeartbeats 4000000
/-! list < list, of whole numbers. -/
namespace L2.Jk
open PySem PySem.W PySem.Spec PySem.Calls PyProof.Rows L2
def rLtL (K : Frag) : R2 := fun x y H Q => ∃ a b ns ms, x = .ref a ∧ y = .ref b ∧ SqL K H a (ns.map V.int) ∧ SqL K H b (ms.map V.int) ∧ Q (.bl (listLt ns ms)) H
theorem dp_ints {K : Frag} {H : Hp} : ∀ ns : List Int, DpAll K H (ns.map V.int) (ns.map PyData.int)
  | [] => .nil
  | n :: ns => .cons (.int n) (dp_ints ns)
theorem op_ltL {X : Cx} (hu : X.A.units + 64 < cLine) : OpR X (compareOp .Lt) (rLtL X.K) := by
  intro pins s σ H x y v u Q I rx ry h
  obtain ⟨a, b, ns, ms, rfl, rfl, ha, hb, q⟩ := h
  obtain ⟨as, r1⟩ := Dp.reads I (.list (ns.map PyData.int)) _ v (.lst ha (dp_ints ns)) rx
  obtain ⟨bs, r2⟩ := Dp.reads I (.list (ms.map PyData.int)) _ u (.lst hb (dp_ints ms)) ry
  exact PySem.W.lt_datum (x := ns) (y := ms) ⟨as, r1⟩ ⟨bs, r2⟩ (by
    have : Datum.depth (List Int) ≤ 64 := by decide
    omega) ⟨.bl (listLt ns ms), H, I, rfl, q⟩
/-! tuples: a slice, a sum, told by their items -/
def rSlTS : V → Option Int → Option Int → Hp → VK → Prop := fun x lo hi H Q => ∃ a xs, x = .ref a ∧ H a = some (.tup xs) ∧ ∀ p H', (∀ b o, H b = some o → H' b = some o) → H' p = some (.tup (cutV xs lo hi)) → Q (.ref p) H'
theorem sl_tupTS {X : Cx} : SlR X rSlTS := by
  intro pins s σ H x v vl vu lo hi sl Q I rx hs pl pu h
  obtain ⟨a, xs, rfl, hx, q⟩ := h
  refine sl_tupA pins s σ H _ v vl vu lo hi sl Q I rx hs pl pu ⟨a, xs, rfl, SqT.of hx, fun hw => q a H (fun _ _ e => e) ?_, fun hw p hp => q p _ (fun b o e => ?_) upd_same⟩
  · have e : cutV xs lo hi = xs := by
      unfold cutV
      rw [hw.1, hw.2, List.drop_zero, Nat.sub_zero, List.take_length]
    rw [e]
    exact hx
  · rw [upd_ne (ne_of_none e hp)]
    exact e
def rCatTS : R2 := fun x y H Q => ∃ a b xs ys, x = .ref a ∧ y = .ref b ∧ H a = some (.tup xs) ∧ H b = some (.tup ys) ∧ xs.length + ys.length ≤ sizeLine ∧ ∀ p H', (∀ b o, H b = some o → H' b = some o) → H' p = some (.tup (xs ++ ys)) → Q (.ref p) H'
theorem op_catTS {X : Cx} : OpR X (binaryOp .Add) rCatTS := by
  intro pins s σ H x y v u Q I rx ry h
  obtain ⟨a, b, xs, ys, rfl, rfl, ha, hb, hz, q⟩ := h
  refine op_catA pins s σ H _ _ v u Q I rx ry ⟨a, b, xs, ys, rfl, rfl, SqT.of ha, SqT.of hb, hz, fun e => q b H (fun _ _ e => e) ?_, fun _ e => q a H (fun _ _ e => e) ?_, fun _ _ p hp => q p _ (fun c o e => ?_) upd_same⟩
  · rw [e, List.nil_append]
    exact hb
  · rw [e, List.append_nil]
    exact ha
  · rw [upd_ne (ne_of_none e hp)]
    exact e
theorem call_ieK {X : Cx} {K : Frag} (h : X.K = K) : CallR X (.builtin "isinstance") (rIe K) := by
  subst h
  exact call_ie
theorem mt_indexK {X : Cx} {K : Frag} (h : X.K = K) : MtR X "list.index" (rIndex K) := by
  subst h
  exact mt_index
end L2.Jk

set_option Elab.async false
set_option linter.all false
set_option maxRecDepth 100000
set_option maxHeartbeats 4000000
/-! Numerals. -/
namespace L2.K79
open PySem PySem.W PySem.Spec PySem.Calls PyProof.Rows L2.Jk
theorem dgT (n : Nat) : dg (n : Nat) = T n := rfl
theorem T9 {n : Nat} (h : n < 1000000000) : (T n).length ≤ 9 := T_len (by decide) (by simpa using h)
theorem numTx_T {n : Nat} (h : (T n).length < 64) : numTx (T n) = ("0" : Str) ++ T n := by
  unfold numTx
  rw [Int.emod_eq_of_lt (by omega) (by omega), cut_all]
theorem numOf_T {n : Nat} (h : (T n).length < 64) : numOf (T n) = n := by
  unfold numOf
  rw [numTx_T h, int_zT (by omega)]
  rfl
theorem app_len (a b : Str) : (a ++ b).length = a.length + b.length := by
  show (a.cps ++ b.cps).size = _
  exact Array.size_append
theorem numOk_T {n : Nat} (h : (T n).length < 64) : numOk (T n) = true := by
  unfold numOk
  rw [numTx_T h, int_zT (by omega), Int.emod_eq_of_lt (by omega) (by omega), cut_all, app_len]
  have : ("0" : Str).length = 1 := rfl
  rw [decide_eq_true h, decide_eq_true (show ("0" : Str).length + (T n).length ≤ 640 by omega)]
  rfl
theorem inSG : ∀ c ∈ DG.cps.toList, 48 ≤ c ∧ c ≤ 57 := by decide +kernel
theorem dgs_in : ∀ c, 48 ≤ c → c ≤ 57 → c ∈ DG.cps.toList := by
  intro c h1 h2
  have : ∀ k ∈ List.range 10, 48 + k ∈ DG.cps.toList := by decide +kernel
  have z := this (c - 48) (List.mem_range.mpr (by omega))
  rwa [show 48 + (c - 48) = c by omega] at z
theorem made_of {t z : Str} (h : ∀ c ∈ t.cps.toList, c ∈ z.cps.toList) : madeB t z = true := by
  have go : ∀ k, k < t.length → z.cps.contains (t.cps.getD k 0) = true := fun k hk => by
    have hk : k < t.cps.size := hk
    rw [Array.contains_iff]
    have e : t.cps.getD k 0 = t.cps[k] := by simp [Array.getD, hk]
    rw [e]
    have m := h t.cps[k] (by simp)
    simpa using m
  obtain ⟨l1, l2, l3⟩ := lo_facts z.cps.contains t
  have e1 : PySem.stripLo z.cps.contains true t = t.length := by
    rcases l3 with e | e
    · exact e
    · by_cases k : PySem.stripLo z.cps.contains true t < t.length
      · rw [go _ k] at e
        cases e
      · omega
  obtain ⟨h1, h2, _⟩ := hi_facts z.cps.contains t _ l1
  refine decide_eq_true ?_
  have e2 : Txt.stripChars t z = Str.empty := by
    show Txt.stripBy _ _ _ _ = _
    rw [PyProof.Rows.stripBy_eq]
    have e3 : PySem.stripHi z.cps.contains true t (PySem.stripLo z.cps.contains true t) = t.length := by rw [e1] at h1 h2 ⊢; omega
    rw [e3, e1]
    show Str.mk (t.cps.extract t.cps.size t.cps.size) = ⟨#[]⟩
    simp
  rw [e2]
  rfl
theorem numeral_T (n : Nat) : numeralB (T n) = true := by
  obtain ⟨c, r, e, k⟩ := T_head n
  unfold numeralB
  have h1 : decide (V.str (T n) = .str "") = false := decide_eq_false fun z => by
    injection z with z
    rw [z] at e
    cases e
  have h2 : madeB (T n) DG = true := made_of fun x hx => dgs_in x (T_dg n x hx).1 (T_dg n x hx).2
  rw [h1, h2, if_neg (by decide)]
  have e0 : (T n).cps.getD 0 0 = c := by
    have z : (T n).cps = (c :: r).toArray := by rw [← e, Array.toArray_toList]
    rw [z]
    rfl
  rw [e0]
  by_cases hc : c = 48
  · rw [k hc]
    rfl
  · rw [decide_eq_false (show ¬ V.str ⟨#[c]⟩ = V.str "0" from fun z => hc (by
      injection z with z
      have z2 := congrArg (fun s : Str => s.cps.toList) z
      have z3 : [c] = [48] := z2
      injection z3)), Bool.not_false, Bool.or_true]
theorem itN {a b : Str} {A B : Prop} (h : decide (V.str a = V.str b) = false) (k : B) : if decide (V.str a = V.str b) = true then A else B := by
  rw [h]
  exact iteF k
theorem itY {a : V} {A B : Prop} (k : A) : if decide (a = a) = true then A else B := by
  rw [decide_eq_true rfl]
  exact iteT k
theorem itNn {n : Int} {A B : Prop} (k : B) : if decide (V.int n = V.non) = true then A else B := by
  rw [decide_eq_false (fun z => by cases z)]
  exact iteF k
theorem none_of {H H' : Hp} {p : Addr} (S : Same H H') (h : H' p = none) : H p = none := by
  cases e : H p with
  | none => rfl
  | some o => rw [S _ _ e] at h; cases h

theorem in_of_made {t z : Str} (h : madeB t z = true) : ∀ c ∈ t.cps.toList, c ∈ z.cps.toList := by
  have e : Txt.stripChars t z = "" := by
    have := of_decide_eq_true h
    injection this
  obtain ⟨l1, l2, l3⟩ := lo_facts z.cps.contains t
  obtain ⟨h1, h2, h3, h4⟩ := hi_facts z.cps.contains t _ l1
  have e2 : Builtin.Str.strSub t (PySem.stripLo z.cps.contains true t) (PySem.stripHi z.cps.contains true t (PySem.stripLo z.cps.contains true t)) = "" := by
    rw [← PyProof.Rows.stripBy_eq]
    exact e
  have e3 := StrLaws.sub_len t (PySem.stripLo z.cps.contains true t) _ h2
  rw [e2] at e3
  have e4 : ("" : Str).length = 0 := rfl
  have all : ∀ k, k < t.length → z.cps.contains (t.cps.getD k 0) = true := fun k hk => by
    by_cases q : k < PySem.stripLo z.cps.contains true t
    · exact l2 k q
    · exact h3 k (by omega) hk
  intro c hc
  obtain ⟨k, hk⟩ := List.mem_iff_getElem?.mp hc
  have hk2 : k < t.length := by
    have := (List.getElem?_eq_some_iff.mp hk).1
    rw [Array.length_toList] at this
    exact this
  have a := all k hk2
  rw [StrLaws.getD_of_getElem? hk, Array.contains_iff] at a
  simpa using a
theorem made_iff {t z : Str} : madeB t z = true ↔ ∀ c ∈ t.cps.toList, c ∈ z.cps.toList := ⟨in_of_made, made_of⟩
theorem dg_lt : ∀ c ∈ DG.cps.toList, 48 ≤ c ∧ c ≤ 57 := by decide +kernel
/-- a numeral is the text of a number -/
theorem numeral_is {t : Str} (h : numeralB t = true) : ∃ n : Nat, t = T n := by
  unfold numeralB at h
  split at h
  · cases h
  · rename_i c
    have c1 : t ≠ "" := fun z => c (by rw [z]; rfl)
    have c2 : madeB t DG = true := by
      cases q : madeB t DG with
      | true => rfl
      | false => exact absurd (by rw [q]; simp) c
    have hd : NumText.AllDigits t.cps.toList := fun x hx => dg_lt x (in_of_made c2 x hx)
    have hne : t.cps.toList ≠ [] := fun z => c1 (str_ext z)
    cases e : t.cps.toList with
    | nil => exact absurd e hne
    | cons x r =>
      have h0 : t.cps.getD 0 0 = x := StrLaws.getD_of_getElem? (by rw [e]; rfl)
      have hz : r.length = 0 ∨ 49 ≤ x := by
        rcases Bool.or_eq_true_iff.mp h with h | h
        · have h : V.str t = V.str "0" := of_decide_eq_true h
          injection h with h
          rw [h] at e
          cases e
          exact .inl rfl
        · rw [h0] at h
          refine .inr ?_
          have h5 := (hd x (by rw [e]; exact List.mem_cons_self ..)).1
          have : x ≠ 48 := fun z => by rw [z] at h; exact absurd h (by decide +kernel)
          omega
      refine ⟨NumText.digitsVal t.cps.toList, str_ext ?_⟩
      rw [T_list, NumText.toDigits_digitsVal r.length t.cps.toList (by rw [e]; rfl) hd (by rcases hz with z | z; exact .inl z; exact .inr ⟨x, r, e, z⟩), List.map_map]
      have z : ∀ k ∈ List.range 58, (Char.ofNat k).toNat = k := by decide
      have m : t.cps.toList.map (Char.toNat ∘ Char.ofNat) = t.cps.toList.map id := List.map_congr_left fun c hc => z c (List.mem_range.mpr (by have := hd c hc; omega))
      rw [m, List.map_id]
theorem T_length (n : Nat) : (T n).length = (Nat.toDigits 10 n).length := by
  have := congrArg List.length (T_list n)
  rw [Array.length_toList, List.length_map] at this
  exact this
theorem T_len_ge {n k : Nat} (h : 10 ^ k ≤ n) : k + 1 ≤ (T n).length := by rw [T_length]; exact digits10_ge h
theorem T_lt {n k : Nat} (hk : 0 < k) : (T n).length ≤ k ↔ n < 10 ^ k := ⟨fun h => by
  rcases Nat.lt_or_ge n (10 ^ k) with z | z
  · exact z
  · have := T_len_ge z; omega, fun h => T_len hk h⟩
theorem T_inj {n m : Nat} (h : T n = T m) : n = m := by rw [← T_val n, ← T_val m, h]
/-- a most: none, or a number -/
def mostT : V → Str
  | .int i => dg i
  | _ => "*"
def MOk (m : V) : Prop := m = .non ∨ ∃ n : Nat, m = .int (n : Nat) ∧ n < 1000000000
theorem mostT_len {m : V} (h : MOk m) : (mostT m).length ≤ 9 := by
  rcases h with rfl | ⟨n, rfl, h⟩
  · decide
  · exact T9 h
def shortB (t : Str) : Bool := numeralB t && decide (t.length ≤ 9)
def spansB (l m : Str) : Bool := shortB l && (decide (V.str m = .str "*") || shortB m)
def freeB (t : Str) : Bool := !inB "," t
def spNumeral : Sp := fun vs H Q _ => ∃ t : Str, vs = [.str t] ∧ t.length ≤ 900 ∧ Q (.bl (numeralB t)) H
def spNumOf : Sp := fun vs H Q _ => ∃ t : Str, vs = [.str t] ∧ numOk t = true ∧ Q (.int (numOf t)) H
def spShort : Sp := fun vs H Q _ => ∃ t : Str, vs = [.str t] ∧ t.length ≤ 900 ∧ Q (.bl (shortB t)) H
def spMostIn : Sp := fun vs H Q _ => ∃ m : V, vs = [.str (mostT m)] ∧ MOk m ∧ Q m H
def spSpans (K : Frag) : Sp := fun vs H Q _ => ∃ (p : Addr) (l m : Str), vs = [.ref p] ∧ H p = some (.lst [.str l, .str m]) ∧ l.length ≤ 900 ∧ m.length ≤ 900 ∧ Q (.bl (spansB l m)) H
def spFree (K : Frag) : Sp := fun vs H Q _ => ∃ (p : Addr) (ts : List Str), vs = [.ref p] ∧ H p = some (.lst (ts.map V.str)) ∧ ts.length ≤ 1000 ∧ ∀ H', Same H H' → Q (.bl (ts.all freeB)) H'
/-- a short numeral is a number's text -/
theorem short_is {t : Str} (h : shortB t = true) : ∃ n : Nat, t = T n ∧ n < 1000000000 := by
  obtain ⟨h1, h2⟩ := Bool.and_eq_true_iff.mp h
  obtain ⟨n, rfl⟩ := numeral_is h1
  exact ⟨n, rfl, by have := (T_lt (n := n) (k := 9) (by decide)).mp (of_decide_eq_true h2); omega⟩
theorem short_T {n : Nat} (h : n < 1000000000) : shortB (T n) = true := by
  unfold shortB
  rw [numeral_T, decide_eq_true (T9 h)]
  rfl
theorem spans_is {l m : Str} (h : spansB l m = true) : ∃ (n : Nat) (v : V), l = T n ∧ n < 1000000000 ∧ m = mostT v ∧ MOk v := by
  obtain ⟨h1, h2⟩ := Bool.and_eq_true_iff.mp h
  obtain ⟨n, rfl, hn⟩ := short_is h1
  rcases Bool.or_eq_true_iff.mp h2 with h2 | h2
  · exact ⟨n, .non, rfl, hn, by have := of_decide_eq_true h2; injection this, .inl rfl⟩
  · obtain ⟨k, rfl, hk⟩ := short_is h2
    exact ⟨n, .int (k : Nat), rfl, hn, rfl, .inr ⟨k, rfl, hk⟩⟩
section
variable {P : Program} {w : World} {K : Frag} {mg : Str → Option Value} {base : Heap} {f : Addr} {fd : FuncData}
abbrev s_is_numeral : Stmt := top 16
theorem sc_is_numeral : FnScope ["text"] ["text"] (defScope s_is_numeral) := ⟨rfl, rfl, rfl, by decide +kernel, rfl, by decide +kernel, by decide +kernel⟩

theorem ok_is_numeral (F : FunD K "is_numeral" "is_numeral" (defArgs s_is_numeral) (defBody s_is_numeral) (defScope s_is_numeral) [] [] f fd) (G : G1 P w K mg base) : FnOk P w K mg base CX0 2 f fd ["text"] spNumeral := by
  refine F.ok (CX := CX0) sc_is_numeral (fun vs H Q E h => ?_) (fun cdv A outer s H vs Q E hr h => ?_)
  · obtain ⟨t, rfl, _⟩ := h
    rfl
  · refine ⟨_, PSs.nox (pss_cons (ps_if (PW.pt (pw_or (pt_cmpR op_eq (pv 0) pe_str (nomark _)) (pw_or1 (pt_not (pt_val (pe_fn G.is_made_of hr pass0 (by rfl) (pa_cons (pv 0) (pa_cons (pe_sg G.dgs) pa_nil))))))))
      (pss_one (ps_ret pe_bl))
      pss_nil)
    (pss_one (ps_ret (pe_or (pe_cmpR op_eq (pv 0) pe_str (nomark _)) (pe_one (pe_cmpR op_ne (pe_ix ix_str (pv 0) pe_int (fun _ _ => rfl)) pe_str (nomark _))))))), ?_⟩
    obtain ⟨t, rfl, hz, q⟩ := h
    refine ⟨_, rfl, rfl, _, rfl, ?_⟩
    have no : (decide (V.str t = .str "") || !madeB t DG) = true → Q (.bl false) H := fun e => by
      have r : numeralB t = false := by unfold numeralB; rw [if_pos e]
      rw [r] at q
      exact q
    refine ite2 (fun h1 => iteT (no (by rw [h1]; rfl))) (fun h1 => ?_)
    refine ⟨_, rfl, t, DG, rfl, Nat.le_trans hz (by decide), _, rfl, ?_⟩
    show if (!madeB t DG) = true then _ else _
    refine ite2 (fun h2 => no (by rw [h2, Bool.or_true])) (fun h2 => ?_)
    have r : numeralB t = (decide (V.str t = .str "0") || !decide (V.str ⟨#[t.cps.getD 0 0]⟩ = .str "0")) := by
      unfold numeralB
      rw [if_neg (by rw [Bool.eq_false_iff.mpr h1, Bool.eq_false_iff.mpr h2]; exact Bool.false_ne_true)]
    rw [r] at q
    refine ⟨_, rfl, rfl, _, rfl, ?_⟩
    refine ite2 (fun h3 => ?_) (fun h3 => ?_)
    · rw [h3] at q
      exact q
    · rw [Bool.eq_false_iff.mpr h3] at q
      have hp : 0 < t.cps.toList.length := by
        cases e : t.cps.toList with
        | nil => exact absurd (decide_eq_true (by
            have e2 : t.cps = #[] := by rw [← Array.toArray_toList (xs := t.cps), e]
            show V.str t = V.str ⟨#[]⟩
            exact congrArg V.str (by cases t; exact congrArg Str.mk e2))) h1
        | cons x xs => exact Nat.zero_lt_succ _
      refine ⟨_, rfl, t, 0, t.cps.getD 0 0, rfl, rfl, small_line t (Nat.le_trans hz (by decide)), atI_nat (j := 0) ?_, rfl, ?_⟩
      · cases e : t.cps.toList with
        | nil => rw [e] at hp; exact absurd hp (Nat.lt_irrefl _)
        | cons x xs =>
          show some x = some (t.cps.getD 0 0)
          have e2 : t.cps = (x :: xs).toArray := by rw [← Array.toArray_toList (xs := t.cps), e]
          rw [e2]
          rfl
      · exact q

theorem rg64 : ∀ k ∈ List.range 64, Builtin.Range.small (k : Nat) (k : Nat) 64 = true ∧ Builtin.Range.rangeSize (k : Nat) (k : Nat) 64 = 0 := by decide +kernel

abbrev s_number_of : Stmt := top 18
theorem sc_number_of : FnScope ["digits", "limit", "start", "number", "at"] ["digits"] (defScope s_number_of) := ⟨rfl, rfl, rfl, by decide +kernel, rfl, by decide +kernel, by decide +kernel⟩

theorem ok_number_of (F : FunD K "number_of" "number_of" (defArgs s_number_of) (defBody s_number_of) (defScope s_number_of) [] [] f fd) (G : G0 P w K mg base) : FnOk P w K mg base CX0 1 f fd ["digits"] spNumOf := by
  refine F.ok (CX := CX0) sc_number_of (fun vs H Q E h => ?_) (fun cdv A outer s H vs Q E hr h => ?_)
  · obtain ⟨t, rfl, _⟩ := h
    rfl
  · refine ⟨_, PSs.nox (pss_cons (ps_set (i := 1) sc_number_of.nd rfl (Or.inl rfl) (pe_op op_pow pe_int pe_int))
    (pss_cons (ps_set (i := 2) sc_number_of.nd rfl (Or.inl rfl) (pe_op op_mod (pe_callB call_len_str (by rfl) G.len (by decide +kernel) (pa_cons (pv 0) pa_nil)) pe_int))
    (pss_cons (ps_set (i := 3) sc_number_of.nd rfl (Or.inl rfl) (pe_callTy call_int_str (by rfl) G.int (by decide +kernel) (pa_cons (pe_op op_add_str pe_str (pe_slice sl_str (pv 0) po_none (po_some (pv 2)))) pa_nil)))
    (pss_cons (ps_for PassesOwn.never rfl (pi_range3 (by rfl) G.range (pa_cons (pv 2) (pa_cons (pe_callB call_len_str (by rfl) G.len (by decide +kernel) (pa_cons (pv 0) pa_nil)) (pa_cons pe_int pa_nil)))) (pg_name (i := 4) sc_number_of.nd rfl (Or.inl rfl)) pss_never)
    (pss_one (ps_ret (pv 3))))))), ?_⟩
    obtain ⟨t, rfl, ok, q⟩ := h
    obtain ⟨o1, ok⟩ := Bool.and_eq_true_iff.mp ok
    obtain ⟨o2, ok⟩ := Bool.and_eq_true_iff.mp ok
    obtain ⟨o3, o4⟩ := Bool.and_eq_true_iff.mp ok
    replace o4 := of_decide_eq_true o4
    replace o2 := of_decide_eq_true o2
    replace o3 := of_decide_eq_true o3
    obtain ⟨n, en⟩ := Option.isSome_iff_exists.mp o1
    have zl := small_line t (Nat.le_trans (Nat.le_of_lt o2) (by decide))
    refine ⟨_, _, rfl, rfl, ⟨by decide, by decide, by decide⟩, _, rfl, t, rfl, zl, _, _, rfl, rfl, (by show (0 : Int) < 64; decide), ?_⟩
    refine ⟨_, rfl, _, rfl, _, rfl, t, rfl, zl, ?_⟩
    refine ⟨_, _, rfl, rfl, Nat.le_trans o4 (by rw [sizeLine_eq]; decide), numTx t, n, rfl, en, o3, ?_⟩
    have en2 : numOf t = n := by unfold numOf; rw [en]; rfl
    rw [en2] at q
    have em : (t.length : Int) % 64 = (t.length : Int) := Int.emod_eq_of_lt (by omega) (by omega)
    refine ⟨_, rfl, _, rfl, t, rfl, zl, _, _, 64, 0, rfl, ?_, ?_⟩
    · rw [em]
      obtain ⟨g1, g2⟩ := rg64 t.length (List.mem_range.mpr o2)
      exact ⟨by decide, by decide, g1, g2⟩
    · refine for_rangeC (n := 0) (fun _ σ H' => σ = [some (.str t), some (.int (10 ^ (64 : Int).toNat)), some (.int ((t.length : Int) % 64)), some (.int n), none] ∧ H' = H) ⟨rfl, rfl⟩ (fun i σ H' hi => absurd hi (Nat.not_lt_zero _)) ?_
      rintro σ H' ⟨rfl, rfl⟩
      exact ⟨_, rfl, q⟩

structure N1 (P : Program) (w : World) (K : Frag) (mg : Str → Option Value) (base : Heap) : Prop extends Q4 P w K mg base where
  number_of : FnAt P w K mg base CX0 1 "number_of" ["digits"] spNumOf
  is_numeral : FnAt P w K mg base CX0 2 "is_numeral" ["text"] spNumeral

abbrev s_is_short_numeral : Stmt := top 40
theorem sc_is_short_numeral : FnScope ["text"] ["text"] (defScope s_is_short_numeral) := ⟨rfl, rfl, rfl, by decide +kernel, rfl, by decide +kernel, by decide +kernel⟩

theorem ok_is_short_numeral (F : FunD K "is_short_numeral" "is_short_numeral" (defArgs s_is_short_numeral) (defBody s_is_short_numeral) (defScope s_is_short_numeral) [] [] f fd) (G : N1 P w K mg base) : FnOk P w K mg base CX0 3 f fd ["text"] spShort := by
  refine F.ok (CX := CX0) sc_is_short_numeral (fun vs H Q E h => ?_) (fun cdv A outer s H vs Q E hr h => ?_)
  · obtain ⟨_, rfl, _⟩ := h
    rfl
  · refine ⟨_, PSs.nox (pss_one (ps_ret (pe_and (pe_fn G.is_numeral hr pass0 (by rfl) (pa_cons (pv 0) pa_nil)) (pe_one (pe_cmpR op_le (pe_callB call_len_str (by rfl) G.len (by decide +kernel) (pa_cons (pv 0) pa_nil)) pe_int (nomark _)))))), ?_⟩
    obtain ⟨t, rfl, h, q⟩ := h
    refine ⟨_, rfl, t, rfl, h, _, rfl, ?_⟩
    unfold shortB at q
    refine ite2 (fun h1 => ?_) (fun h1 => ?_)
    · rw [h1, Bool.true_and] at q
      refine ⟨_, rfl, t, rfl, small_line _ (by omega), _, _, rfl, rfl, ?_⟩
      show Q (.bl (decide ((t.length : Int) ≤ 9))) H
      rw [show decide ((t.length : Int) ≤ 9) = decide (t.length ≤ 9) from decide_eq_decide.mpr (by omega)]
      exact q
    · rw [Bool.eq_false_iff.mpr h1, Bool.false_and] at q
      exact q

abbrev s_most_in : Stmt := top 43
theorem sc_most_in : FnScope ["text"] ["text"] (defScope s_most_in) := ⟨rfl, rfl, rfl, by decide +kernel, rfl, by decide +kernel, by decide +kernel⟩

theorem ok_most_in (F : FunD K "most_in" "most_in" (defArgs s_most_in) (defBody s_most_in) (defScope s_most_in) [] [] f fd) (G : N1 P w K mg base) : FnOk P w K mg base CX0 2 f fd ["text"] spMostIn := by
  refine F.ok (CX := CX0) sc_most_in (fun vs H Q E h => ?_) (fun cdv A outer s H vs Q E hr h => ?_)
  · obtain ⟨_, rfl, _⟩ := h
    rfl
  · refine ⟨_, PSs.nox (pss_one (ps_ret (pe_ifExp (pt_cmpR op_eq (pv 0) pe_str (nomark _)) pe_non (pe_fn G.number_of hr pass0 (by rfl) (pa_cons (pv 0) pa_nil))))), ?_⟩
    obtain ⟨m, rfl, h, q⟩ := h
    rcases h with rfl | ⟨n, rfl, h⟩
    · exact ⟨_, rfl, rfl, _, rfl, itY q⟩
    · have hl := T9 h
      refine ⟨_, rfl, rfl, _, rfl, itN (decide_eq_false fun z => ?_) ⟨_, rfl, T n, rfl, numOk_T (by omega), by rw [numOf_T (by omega)]; exact q⟩⟩
      injection z with z
      have d := T_dg n 42 (by have z : T n = "*" := z; rw [z]; decide)
      exact absurd d.1 (by decide)

abbrev s_are_free : Stmt := top 38
theorem sc_are_free : FnScope ["texts", "text"] ["texts"] (defScope s_are_free) := ⟨rfl, rfl, rfl, by decide +kernel, rfl, by decide +kernel, by decide +kernel⟩

theorem ok_are_free (F : FunD K "are_free" "are_free" (defArgs s_are_free) (defBody s_are_free) (defScope s_are_free) [] [] f fd) (G : G5 P w K mg base) : FnOk P w K mg base CX0 1 f fd ["texts"] (spFree K) := by
  refine F.ok (CX := CX0) sc_are_free (fun vs H Q E h => ?_) (fun cdv A outer s H vs Q E hr h => ?_)
  · obtain ⟨_, _, rfl, _⟩ := h
    rfl
  · refine ⟨_, PSs.nox (pss_one (ps_ret (pe_not (pe_callB (cr_any rfl) (by rfl) G.any (by decide +kernel) (pa_cons (pe_lc (own := [("text", 1)]) (g := gName 1) (tt := tYes) rfl sc_are_free.nd (pi_list (pv 0)) (blkOk_by (N := ["texts", "text"]) (sc := defScope s_are_free) (by decide +kernel)) (fun _ _ _ _ _ => pg_name (i := 1) sc_are_free.nd rfl (Or.inl rfl)) (fun _ _ _ _ _ => pts_nil) (fun _ _ _ _ _ => (pe_cmpR op_in_sign pe_str (pv 1) (by rfl)))) pa_nil))))), ?_⟩
    obtain ⟨p, ts, rfl, hp, hl, q⟩ := h
    refine ⟨_, rfl, p, rfl, ⟨_, SqL.of hp⟩, fun D hD => ?_⟩
    refine lc_list (K := K) (a := p) (xs := ts.map V.str) (LcP H D fun n => (ts.take n).map fun t => V.bl (inB "," t)) (LcP.start hD rfl) (fun i J hi pJ => pJ.1.seq (SqL.of hp)) ?_ ?_
    · intro i v J hv pJ
      rw [List.getElem?_map] at hv
      obtain ⟨x, hx, rfl⟩ := Option.map_eq_some_iff.mp hv
      have hlt := (List.getElem?_eq_some_iff.mp hx).1
      refine ⟨rfl, _, rfl, 44, x, rfl, rfl, ?_⟩
      exact pJ.put (Same.refl _) (by rw [List.take_add_one, hx, List.map_append]; rfl) (by omega)
    · rintro J ⟨S1, _, eJ, _⟩
      have eJ2 : J D = some (.lst ((ts.map fun t => inB "," t).map V.bl)) := by
        rw [eJ, List.map_map]
        show some (HO.lst ((ts.take (ts.map V.str).length).map _)) = _
        rw [List.length_map, List.take_length]
        rfl
      refine ⟨D, _, rfl, SqL.of eJ2, _, rfl, ?_⟩
      have z : (!(ts.map fun t => inB "," t).any id) = ts.all freeB := by
        rw [List.any_map, List.not_any_eq_all_not]
        rfl
      rw [← z] at q
      exact q _ S1

structure N2 (P : Program) (w : World) (K : Frag) (mg : Str → Option Value) (base : Heap) : Prop extends N1 P w K mg base where
  is_short_numeral : FnAt P w K mg base CX0 3 "is_short_numeral" ["text"] spShort
  most_in : FnAt P w K mg base CX0 2 "most_in" ["text"] spMostIn
  are_free : FnAt P w K mg base CX0 1 "are_free" ["texts"] (spFree K)

abbrev s_are_spans : Stmt := top 39
theorem sc_are_spans : FnScope ["texts", "least", "most"] ["texts"] (defScope s_are_spans) := ⟨rfl, rfl, rfl, by decide +kernel, rfl, by decide +kernel, by decide +kernel⟩

theorem ok_are_spans (F : FunD K "are_spans" "are_spans" (defArgs s_are_spans) (defBody s_are_spans) (defScope s_are_spans) [] [] f fd) (G : N2 P w K mg base) : FnOk P w K mg base CX0 4 f fd ["texts"] (spSpans K) := by
  refine F.ok (CX := CX0) sc_are_spans (fun vs H Q E h => ?_) (fun cdv A outer s H vs Q E hr h => ?_)
  · obtain ⟨_, _, _, rfl, _⟩ := h
    rfl
  · refine ⟨_, PSs.nox (pss_cons (ps_asg (pv 0) (pg_unl rfl (pgs_cons (pg_name (i := 1) sc_are_spans.nd rfl (Or.inl rfl)) (pgs_cons (pg_name (i := 2) sc_are_spans.nd rfl (Or.inl rfl)) pgs_nil))))
    (pss_one (ps_ret (pe_and (pe_fn G.is_short_numeral hr pass0 (by rfl) (pa_cons (pv 1) pa_nil)) (pe_one (pe_or (pe_cmpR op_eq (pv 2) pe_str (nomark _)) (pe_one (pe_fn G.is_short_numeral hr pass0 (by rfl) (pa_cons (pv 2) pa_nil))))))))), ?_⟩
    obtain ⟨p, l, m, rfl, hp, hl, hm, q⟩ := h
    refine ⟨_, rfl, p, _, rfl, SqL.of hp, rfl, _, _, rfl, _, _, rfl, rfl, ?_⟩
    unfold spansB at q
    refine ⟨_, rfl, l, rfl, hl, _, rfl, ?_⟩
    refine ite2 (fun h1 => ?_) (fun h1 => ?_)
    · rw [h1, Bool.true_and] at q
      refine ⟨_, rfl, rfl, _, rfl, ?_⟩
      refine ite2 (fun h2 => ?_) (fun h2 => ?_)
      · rw [h2, Bool.true_or] at q
        exact q
      · rw [Bool.eq_false_iff.mpr h2, Bool.false_or] at q
        exact ⟨_, rfl, m, rfl, hm, q⟩
    · rw [Bool.eq_false_iff.mpr h1, Bool.false_and] at q
      exact q

end
end L2.K79

set_option Elab.async false
set_option linter.all false
set_option maxRecDepth 100000
set_option maxHeartbeats 4000000
/-! Texts as words, words as parts: any texts. -/
namespace L2.K79
open PySem PySem.W PySem.Spec PySem.Calls PyProof.Rows L2.Jk
theorem colon_is : (":" : Str) = ⟨#[58]⟩ := rfl
theorem comma_is : ("," : Str) = ⟨#[44]⟩ := rfl
theorem blank_is : (" " : Str) = ⟨#[32]⟩ := rfl
theorem pieces (c : Nat) : ∀ l : List Nat, ∃ ps : List Str, ps ≠ [] ∧ (∀ p ∈ ps, c ∉ p.cps.toList) ∧ (Txt.join ⟨#[c]⟩ ps).cps.toList = l
  | [] => by
    refine ⟨[""], List.cons_ne_nil _ _, fun p hp => ?_, by rw [Jk.join_one]; rfl⟩
    rw [List.mem_singleton.mp hp]
    intro h
    cases h
  | x :: l => by
    obtain ⟨ps, h0, h1, h2⟩ := pieces c l
    cases ps with
    | nil => exact absurd rfl h0
    | cons q r =>
    by_cases hx : x = c
    · refine ⟨"" :: q :: r, List.cons_ne_nil _ _, fun p hp => ?_, ?_⟩
      · rcases List.mem_cons.mp hp with rfl | hp
        · intro h; cases h
        · exact h1 p hp
      · rw [Jk.join_cons, cat_list, cat_list, h2, hx]
        rfl
    · refine ⟨⟨(x :: q.cps.toList).toArray⟩ :: r, List.cons_ne_nil _ _, fun p hp => ?_, ?_⟩
      · rcases List.mem_cons.mp hp with rfl | hp
        · intro h
          rcases List.mem_cons.mp h with e | h
          · exact hx e.symm
          · exact h1 q (List.mem_cons_self ..) h
        · exact h1 p (List.mem_cons_of_mem _ hp)
      · cases r with
        | nil =>
          rw [Jk.join_one] at h2 ⊢
          show x :: q.cps.toList = _
          rw [h2]
        | cons y r =>
          rw [Jk.join_cons, cat_list, cat_list] at h2 ⊢
          rw [← h2]
          rfl
theorem cut_text (c : Nat) (t : Str) : ∃ ps : List Str, ps ≠ [] ∧ (∀ p ∈ ps, c ∉ p.cps.toList) ∧ Txt.join ⟨#[c]⟩ ps = t ∧ Txt.split t ⟨#[c]⟩ = ps := by
  obtain ⟨ps, h0, h1, h2⟩ := pieces c t.cps.toList
  have e : Txt.join ⟨#[c]⟩ ps = t := str_ext h2
  refine ⟨ps, h0, h1, e, ?_⟩
  rw [← e]
  exact split_join h0 h1
/-- the parts of a word -/
def pcs (t : Str) : List Str := Txt.split t ":"
theorem pcs_ne (t : Str) : pcs t ≠ [] := by
  obtain ⟨ps, h0, _, _, h⟩ := cut_text 58 t
  show Txt.split t ":" ≠ []
  rw [colon_is, h]
  exact h0
theorem pcs_free (t : Str) : ∀ p ∈ pcs t, 58 ∉ p.cps.toList := by
  obtain ⟨ps, _, h1, _, h⟩ := cut_text 58 t
  show ∀ p ∈ Txt.split t ":", _
  rw [colon_is, h]
  exact h1
theorem pcs_join (t : Str) : Txt.join ":" (pcs t) = t := by
  obtain ⟨ps, _, _, h2, h⟩ := cut_text 58 t
  show Txt.join ":" (Txt.split t ":") = t
  rw [colon_is, h]
  exact h2
theorem pcs_of {ps : List Str} (h0 : ps ≠ []) (h : ∀ p ∈ ps, 58 ∉ p.cps.toList) : pcs (Txt.join ":" ps) = ps := split_join h0 h
/-- what no part has more of -/
structure PtOk (p : Str) : Prop where
  len : p.length ≤ 80
  col : 58 ∉ p.cps.toList
  bl : 32 ∉ p.cps.toList
  asc : ∀ c ∈ p.cps.toList, c < 200
/-- a word of at most n parts -/
structure Wee (n : Nat) (t : Str) : Prop where
  few : (pcs t).length ≤ n
  ok : ∀ p ∈ pcs t, PtOk p
theorem Wee.of {n : Nat} {ps : List Str} (h : ∀ p ∈ ps, PtOk p) (hn : ps.length ≤ n) (h1 : 1 ≤ n) : Wee n (Txt.join ":" ps) := by
  cases ps with
  | nil =>
    have e : pcs (Txt.join ":" []) = ([""] : List Str) := by
      rw [show Txt.join ":" [] = Txt.join ":" ([""] : List Str) by rw [Jk.join_nil, Jk.join_one]]
      exact pcs_of (List.cons_ne_nil _ _) (fun p hp => by rw [List.mem_singleton.mp hp]; intro h; cases h)
    refine ⟨by rw [e]; exact h1, ?_⟩
    rw [e]
    intro p hp
    rw [List.mem_singleton.mp hp]
    exact ⟨by decide, by decide, by decide, by decide⟩
  | cons x r =>
    have e : pcs (Txt.join ":" (x :: r)) = x :: r := pcs_of (List.cons_ne_nil _ _) fun p hp => (h p hp).col
    exact ⟨by rw [e]; exact hn, by rw [e]; exact h⟩
theorem Wee.mono {n m : Nat} {t : Str} (h : Wee n t) (hn : n ≤ m) : Wee m t := ⟨Nat.le_trans h.few hn, h.ok⟩
theorem join_le {s : Str} {B : Nat} (hs : s.length ≤ 1) : ∀ ps : List Str, (∀ p ∈ ps, p.length ≤ B) → (Txt.join s ps).length ≤ ps.length * (B + 1)
  | [], _ => by rw [Jk.join_nil]; exact Nat.zero_le _
  | [x], h => by
    rw [Jk.join_one]
    have := h x (List.mem_cons_self ..)
    simp only [List.length_cons, List.length_nil]
    omega
  | x :: y :: r, h => by
    have ih := join_le hs (y :: r) (fun p hp => h p (List.mem_cons_of_mem _ hp))
    have := h x (List.mem_cons_self ..)
    rw [Jk.join_cons, app_len, app_len]
    simp only [List.length_cons] at ih ⊢
    rw [Nat.succ_mul]
    omega
theorem Wee.len {n : Nat} {t : Str} (h : Wee n t) : t.length ≤ n * 81 := by
  have := join_le (s := ":") (by decide) (pcs t) (fun p hp => (h.ok p hp).len)
  rw [pcs_join] at this
  exact Nat.le_trans this (Nat.mul_le_mul_right _ h.few)
theorem join_no {s : Str} {c : Nat} (hs : c ∉ s.cps.toList) : ∀ ps : List Str, (∀ p ∈ ps, c ∉ p.cps.toList) → c ∉ (Txt.join s ps).cps.toList
  | [], _ => by rw [Jk.join_nil]; intro k; cases k
  | [x], h => by rw [Jk.join_one]; exact h x (List.mem_cons_self ..)
  | x :: y :: r, h => by
    rw [Jk.join_cons, cat_list, cat_list]
    intro k
    rcases List.mem_append.mp k with k | k
    · rcases List.mem_append.mp k with k | k
      · exact h x (List.mem_cons_self ..) k
      · exact hs k
    · exact join_no hs (y :: r) (fun p hp => h p (List.mem_cons_of_mem _ hp)) k
/-- a sign stands in a joined text where it stands in a part or between -/
theorem join_in {s : Str} {c : Nat} {p : Str} (h : c ∈ p.cps.toList) : ∀ ps : List Str, p ∈ ps → c ∈ (Txt.join s ps).cps.toList
  | [], hp => nomatch hp
  | [x], hp => by
    rw [Jk.join_one, ← List.mem_singleton.mp hp]
    exact h
  | x :: y :: r, hp => by
    rw [Jk.join_cons, cat_list, cat_list]
    rcases List.mem_cons.mp hp with rfl | hp
    · exact List.mem_append_left _ (List.mem_append_left _ h)
    · exact List.mem_append_right _ (join_in h (y :: r) hp)
theorem join_has {s : Str} {c : Nat} (hs : c ∉ s.cps.toList) (ps : List Str) : c ∈ (Txt.join s ps).cps.toList ↔ ∃ p ∈ ps, c ∈ p.cps.toList := by
  refine ⟨fun h => ?_, fun ⟨p, hp, h⟩ => join_in h ps hp⟩
  apply Classical.byContradiction
  intro k
  exact join_no hs ps (fun p hp q => k ⟨p, hp, q⟩) h
theorem Wee.blank {n : Nat} {t : Str} (h : Wee n t) : 32 ∉ t.cps.toList := by
  have := join_no (s := ":") (c := 32) (by decide) (pcs t) fun p hp => (h.ok p hp).bl
  rwa [pcs_join] at this
/-- the marks of a word's parts, and what is left -/
def mkL : List Str → List (Str × Str) × List Str
  | m :: n :: k :: p :: r => if m = "marked" then ((n, k) :: (mkL (p :: r)).1, (mkL (p :: r)).2) else ([], m :: n :: k :: p :: r)
  | ps => ([], ps)
theorem mkL_yes (n k p : Str) (r : List Str) : mkL (("marked" : Str) :: n :: k :: p :: r) = ((n, k) :: (mkL (p :: r)).1, (mkL (p :: r)).2) := by
  rw [mkL, if_pos rfl]
theorem mkL_no {ps : List Str} (h : ¬ ∃ n k p r, ps = ("marked" : Str) :: n :: k :: p :: r) : mkL ps = ([], ps) := by
  match ps, h with
  | [], _ => rfl
  | [_], _ => rfl
  | [_, _], _ => rfl
  | [_, _, _], _ => rfl
  | m :: n :: k :: p :: r, h =>
    rw [mkL, if_neg (fun e => h ⟨n, k, p, r, by rw [e]⟩)]
/-- a plain field's parts -/
def plB : List Str → Bool
  | [k, x] => (decide (k = "fixed") && shortB x) || decide (k = "listed")
  | [k, l, m] => decide (k = "number") && spansB l m
  | [k, a, l, m] => decide (k = "word") && (freeB a && spansB l m)
  | [k, a, e, l, m] => decide (k = "ended") && (freeB a && freeB e && spansB l m)
  | _ => false
def wB (t : Str) : Bool := (mkL (pcs t)).1.all (fun p => freeB p.1 && freeB p.2) && plB (mkL (pcs t)).2
/-! ### marks by texts -/
theorem startsB {a b : Str} : Txt.startswith a b = (decide (b.length ≤ a.length) && (a.cps.toList.take b.length == b.cps.toList)) := by
  show (decide (0 + b.length ≤ a.length) && Builtin.Str.subAt a b 0) = _
  rw [StrLaws.subAt_eq, Nat.zero_add, List.drop_zero]
theorem mk_list (n m x : Str) : (Txt.join ":" ["marked", n, m, x]).cps.toList = ("marked" : Str).cps.toList ++ 58 :: (n.cps.toList ++ 58 :: (m.cps.toList ++ 58 :: x.cps.toList)) := by
  rw [Jk.join_cons, Jk.join_cons, Jk.join_cons, Jk.join_one]
  simp only [cat_list, List.append_assoc]
  rfl
theorem mk_starts (n m x : Str) : Txt.startswith (Txt.join ":" ["marked", n, m, x]) "marked:" = true := by
  have e : ("marked:" : Str).cps.toList = ("marked" : Str).cps.toList ++ [58] := by decide +kernel
  have l : ("marked:" : Str).length = (("marked" : Str).cps.toList ++ [58]).length := by decide +kernel
  rw [startsB, e, l, mk_list]
  rw [show ("marked" : Str).cps.toList ++ 58 :: (n.cps.toList ++ 58 :: (m.cps.toList ++ 58 :: x.cps.toList)) = (("marked" : Str).cps.toList ++ [58]) ++ (n.cps.toList ++ 58 :: (m.cps.toList ++ 58 :: x.cps.toList)) by simp, List.take_left, beq_self_eq_true, Bool.and_true]
  refine decide_eq_true ?_
  have z := congrArg List.length (mk_list n m x)
  rw [Array.length_toList] at z
  show _ ≤ (Txt.join ":" ["marked", n, m, x]).cps.size
  rw [z]
  simp only [List.length_append, List.length_cons, List.length_nil]
  omega
theorem mk_count (n m x : Str) : (2 : Int) < Txt.count (Txt.join ":" ["marked", n, m, x]) ":" := by
  rw [colon_is, Jk.count_is, ← colon_is, mk_list]
  simp only [List.count_append, List.count_cons_self]
  omega
theorem lit_col : 58 ∉ ("marked" : Str).cps.toList := by decide +kernel
theorem mk_split {n m x : Str} (hn : 58 ∉ n.cps.toList) (hm : 58 ∉ m.cps.toList) : Txt.splitMax (Txt.join ":" ["marked", n, m, x]) ":" 3 = (["marked", n, m, x] : List Str) := by
  refine map_list_inj ?_
  rw [colon_is, splitMax_cut, ← colon_is, mk_list]
  show cutN 58 3 _ = _
  rw [cutN_cons lit_col, cutN_cons hn, cutN_cons hm]
  rfl
theorem count_join : ∀ {ps : List Str}, ps ≠ [] → (∀ p ∈ ps, 58 ∉ p.cps.toList) → (Txt.join ":" ps).cps.toList.count 58 + 1 = ps.length
  | [], h, _ => absurd rfl h
  | [x], _, h => by
    rw [Jk.join_one, List.count_eq_zero.mpr (h x (List.mem_cons_self ..))]
    rfl
  | x :: y :: r, _, h => by
    have ih := count_join (List.cons_ne_nil y r) fun p hp => h p (List.mem_cons_of_mem _ hp)
    rw [Jk.join_cons, cat_list, cat_list, List.count_append, List.count_append, List.count_eq_zero.mpr (h x (List.mem_cons_self ..)), show (":" : Str).cps.toList.count 58 = 1 by decide]
    simp only [List.length_cons] at ih ⊢
    omega
theorem starts_head {ps : List Str} (h0 : ps ≠ []) (hf : ∀ p ∈ ps, 58 ∉ p.cps.toList) (h : Txt.startswith (Txt.join ":" ps) "marked:" = true) : ∃ r, ps = ("marked" : Str) :: r := by
  rw [startsB] at h
  have h2 := eq_of_beq (Bool.and_eq_true_iff.mp h).2
  have e : ("marked:" : Str).cps.toList = ("marked" : Str).cps.toList ++ [58] := by decide +kernel
  obtain ⟨rest, hr⟩ : ∃ rest, (Txt.join ":" ps).cps.toList = ("marked" : Str).cps.toList ++ 58 :: rest := by
    refine ⟨((Txt.join ":" ps).cps.toList).drop ("marked:" : Str).length, ?_⟩
    have z := (List.take_append_drop ("marked:" : Str).length (Txt.join ":" ps).cps.toList).symm
    rw [h2, e] at z
    rw [List.append_assoc] at z
    exact z
  have uniq : ∀ (a b x y : List Nat), 58 ∉ a → 58 ∉ b → a ++ 58 :: x = b ++ 58 :: y → a = b := by
    intro a
    induction a with
    | nil =>
      intro b x y _ hb e
      cases b with
      | nil => rfl
      | cons z b =>
        injection e with e1 _
        exact absurd (by rw [e1]; exact List.mem_cons_self) hb
    | cons z a ih =>
      intro b x y ha hb e
      cases b with
      | nil =>
        injection e with e1 _
        exact absurd (by rw [e1]; exact List.mem_cons_self) ha
      | cons w b =>
        injection e with e1 e2
        rw [e1, ih b x y (fun k => ha (List.mem_cons_of_mem _ k)) (fun k => hb (List.mem_cons_of_mem _ k)) e2]
  cases ps with
  | nil => exact absurd rfl h0
  | cons x r =>
    cases r with
    | nil =>
      rw [Jk.join_one] at hr
      exact absurd (by rw [hr]; exact List.mem_append_right _ List.mem_cons_self) (hf x (List.mem_cons_self ..))
    | cons y r =>
      rw [Jk.join_cons, cat_list, cat_list, List.append_assoc] at hr
      have := uniq x.cps.toList ("marked" : Str).cps.toList _ _ (hf x (List.mem_cons_self ..)) lit_col hr
      exact ⟨y :: r, by rw [str_ext this]⟩
/-- the loop goes on just where a mark stands ahead -/
theorem no_mark {ps : List Str} (h0 : ps ≠ []) (hf : ∀ p ∈ ps, 58 ∉ p.cps.toList) (h : ¬ ∃ n k p r, ps = ("marked" : Str) :: n :: k :: p :: r) (hs : Txt.startswith (Txt.join ":" ps) "marked:" = true) : ¬ (2 : Int) < Txt.count (Txt.join ":" ps) ":" := by
  obtain ⟨r, rfl⟩ := starts_head h0 hf hs
  have hc := count_join h0 hf
  rw [colon_is, Jk.count_is, ← colon_is]
  have hl : (("marked" : Str) :: r).length ≤ 3 := by
    match r, h with
    | [], _ => exact (by decide : 1 ≤ 3)
    | [_], _ => exact (by decide : 2 ≤ 3)
    | [_, _], _ => exact (by decide : 3 ≤ 3)
    | n :: k :: p :: r, h => exact absurd ⟨n, k, p, r, rfl⟩ h
  omega
theorem mk_join (n k p : Str) (r : List Str) : Txt.join ":" (("marked" : Str) :: n :: k :: p :: r) = Txt.join ":" ["marked", n, k, Txt.join ":" (p :: r)] := by
  rw [Jk.join_cons, Jk.join_cons, Jk.join_cons, Jk.join_cons, Jk.join_cons, Jk.join_cons, Jk.join_one]
end L2.K79

set_option Elab.async false
set_option linter.all false
set_option maxRecDepth 100000
set_option maxHeartbeats 4000000
/-! The words of fields: looked at. -/
namespace L2.K79
open PySem PySem.W PySem.Spec PySem.Calls PyProof.Rows L2.Jk
section
variable {X : Cx} {K : Frag}
theorem pg_tupK {es : List Expr} {k : Nat} {t : TGs} {n : Nat} {pos : Pos} (hK : X.K = K) (hc : X.calm = true) (h : PGs X es t)
    (hn : (assignEach es X.env).length = n := by rfl) (hst : (assignEach es X.env).findIdx? (·.1) = none := by rfl) : PG X (.Tuple es k pos) (gTup K n t) := by
  subst hK
  exact pg_tup hc h hn hst
theorem ix_tupK (h : X.K = K) : IxR X (rIxT K) := by
  subst h
  exact ix_tup
end

/-- a mark's tuple, the marks' list -/
def MarkV (H : Hp) (v : V) (p : Str × Str) : Prop := ∃ a, v = .ref a ∧ H a = some (.tup [.str p.1, .str p.2])
def MksAt (H : Hp) (M : Addr) (ms : List (Str × Str)) : Prop := ∃ vs : List V, H M = some (.lst vs) ∧ vs.length = ms.length ∧ ∀ (i : Nat) (v : V) (p : Str × Str), vs[i]? = some v → ms[i]? = some p → MarkV H v p
theorem MksAt.same {H H' : Hp} {M : Addr} {ms : List (Str × Str)} (S : Same H H') (h : MksAt H M ms) : MksAt H' M ms := by
  obtain ⟨vs, a, b, c⟩ := h
  exact ⟨vs, S _ _ a, b, fun i v p h1 h2 => by
    obtain ⟨x, y, z⟩ := c i v p h1 h2
    exact ⟨x, y, S _ _ z⟩⟩
theorem mkL_len : ∀ ps : List Str, (mkL ps).1.length ≤ ps.length
  | m :: n :: k :: p :: r => by
    by_cases h : m = "marked"
    · subst h
      have := mkL_len (p :: r)
      rw [mkL_yes]
      simp only [List.length_cons] at this ⊢
      omega
    · rw [mkL_no (fun ⟨_, _, _, _, e⟩ => h (List.cons.inj e).1)]
      exact Nat.zero_le _
  | [] => Nat.zero_le _
  | [_] => Nat.zero_le _
  | [_, _] => Nat.zero_le _
  | [_, _, _] => Nat.zero_le _
theorem mkL_ne : ∀ ps : List Str, ps ≠ [] → (mkL ps).2 ≠ []
  | m :: n :: k :: p :: r, _ => by
    by_cases h : m = "marked"
    · subst h
      rw [mkL_yes]
      exact mkL_ne (p :: r) (List.cons_ne_nil _ _)
    · rw [mkL_no (fun ⟨_, _, _, _, e⟩ => h (List.cons.inj e).1)]
      exact List.cons_ne_nil _ _
  | [], h => absurd rfl h
  | [_], h => h
  | [_, _], h => h
  | [_, _, _], h => h
theorem mkL_mem (Q : Str → Prop) : ∀ ps : List Str, (∀ p ∈ ps, Q p) → (∀ p ∈ (mkL ps).2, Q p) ∧ ∀ p ∈ (mkL ps).1, Q p.1 ∧ Q p.2
  | m :: n :: k :: p :: r, hq => by
    by_cases h : m = "marked"
    · subst h
      obtain ⟨h1, h2⟩ := mkL_mem Q (p :: r) fun x hx => hq x (List.mem_cons_of_mem _ (List.mem_cons_of_mem _ (List.mem_cons_of_mem _ hx)))
      rw [mkL_yes]
      refine ⟨h1, fun x hx => ?_⟩
      rcases List.mem_cons.mp hx with rfl | hx
      · exact ⟨hq n (by simp), hq k (by simp)⟩
      · exact h2 x hx
    · rw [mkL_no (fun ⟨_, _, _, _, e⟩ => h (List.cons.inj e).1)]
      exact ⟨hq, fun p hp => by cases hp⟩
  | [], hq => ⟨hq, fun p hp => by cases hp⟩
  | [_], hq => ⟨hq, fun p hp => by cases hp⟩
  | [_, _], hq => ⟨hq, fun p hp => by cases hp⟩
  | [_, _, _], hq => ⟨hq, fun p hp => by cases hp⟩
theorem mkL_ok {n : Nat} {t : Str} (h : Wee n t) : (mkL (pcs t)).2 ≠ [] ∧ (∀ p ∈ (mkL (pcs t)).2, PtOk p) ∧ ∀ p ∈ (mkL (pcs t)).1, PtOk p.1 ∧ PtOk p.2 :=
  ⟨mkL_ne _ (pcs_ne t), mkL_mem PtOk _ h.ok⟩
theorem len1 {r : List Str} (h : r.length + 1 = 2) : ∃ x, r = [x] := by
  match r, h with
  | [x], _ => exact ⟨x, rfl⟩
theorem len2 {r : List Str} (h : r.length + 1 = 3) : ∃ x y, r = [x, y] := by
  match r, h with
  | [x, y], _ => exact ⟨x, y, rfl⟩
theorem len3 {r : List Str} (h : r.length + 1 = 4) : ∃ x y z, r = [x, y, z] := by
  match r, h with
  | [x, y, z], _ => exact ⟨x, y, z, rfl⟩
theorem len4 {r : List Str} (h : r.length + 1 = 5) : ∃ x y z u, r = [x, y, z, u] := by
  match r, h with
  | [x, y, z, u], _ => exact ⟨x, y, z, u, rfl⟩
theorem kinds : ∀ a ∈ (["word", "number", "fixed", "ended", "listed"] : List Str), ∀ b ∈ (["word", "number", "fixed", "ended", "listed"] : List Str), (decide (a = b) = true ↔ a = b) := fun _ _ _ _ => ⟨of_decide_eq_true, fun h => decide_eq_true h⟩
theorem k1 : decide (("word" : Str) = "fixed") = false ∧ decide (("word" : Str) = "listed") = false ∧ decide (("word" : Str) = "number") = false ∧ decide (("word" : Str) = "ended") = false := by decide +kernel
theorem k2 : decide (("number" : Str) = "fixed") = false ∧ decide (("number" : Str) = "listed") = false ∧ decide (("number" : Str) = "word") = false ∧ decide (("number" : Str) = "ended") = false := by decide +kernel
theorem k3 : decide (("fixed" : Str) = "number") = false ∧ decide (("fixed" : Str) = "listed") = false ∧ decide (("fixed" : Str) = "word") = false ∧ decide (("fixed" : Str) = "ended") = false := by decide +kernel
theorem k4 : decide (("ended" : Str) = "number") = false ∧ decide (("ended" : Str) = "listed") = false ∧ decide (("ended" : Str) = "word") = false ∧ decide (("ended" : Str) = "fixed") = false := by decide +kernel
theorem k5 : decide (("listed" : Str) = "number") = false ∧ decide (("listed" : Str) = "ended") = false ∧ decide (("listed" : Str) = "word") = false ∧ decide (("listed" : Str) = "fixed") = false := by decide +kernel
theorem plB_word {a l m : Str} : plB ["word", a, l, m] = (freeB a && spansB l m) := by
  simp [plB]
theorem plB_number {l m : Str} : plB ["number", l, m] = spansB l m := by
  simp [plB]
theorem plB_fixed {x : Str} : plB ["fixed", x] = shortB x := by
  show (decide (("fixed" : Str) = "fixed") && shortB x || decide (("fixed" : Str) = "listed")) = _
  rw [k3.2.1, Bool.or_false]
  simp
theorem plB_ended {a e l m : Str} : plB ["ended", a, e, l, m] = (freeB a && freeB e && spansB l m) := by
  simp [plB]
theorem plB_shape {k : Str} {r : List Str} (h2 : ∀ x, r = [x] → (decide (k = "fixed") && shortB x || decide (k = "listed")) = false) (h3 : ∀ x y, r = [x, y] → decide (k = "number") = false) (h4 : ∀ x y z, r = [x, y, z] → decide (k = "word") = false)
    (h5 : ∀ x y z u, r = [x, y, z, u] → decide (k = "ended") = false) : plB (k :: r) = false := by
  match r, h2, h3, h4, h5 with
  | [], _, _, _, _ => rfl
  | [x], h2, _, _, _ => exact h2 x rfl
  | [x, y], _, h3, _, _ =>
    show (decide (k = "number") && _) = false
    rw [h3 x y rfl]
    rfl
  | [x, y, z], _, _, h4, _ =>
    show (decide (k = "word") && _) = false
    rw [h4 x y z rfl]
    rfl
  | [x, y, z, u], _, _, _, h5 =>
    show (decide (k = "ended") && _) = false
    rw [h5 x y z u rfl]
    rfl
  | _ :: _ :: _ :: _ :: _ :: _, _, _, _, _ => rfl
theorem plB_wordN {r : List Str} (h : r.length ≠ 3) : plB ("word" :: r) = false :=
  plB_shape (fun x _ => by rw [k1.1, k1.2.1]; rfl) (fun x y _ => k1.2.2.1) (fun x y z e => absurd (by rw [e]; rfl) h) (fun x y z u _ => k1.2.2.2)
theorem plB_numberN {r : List Str} (h : r.length ≠ 2) : plB ("number" :: r) = false :=
  plB_shape (fun x _ => by rw [k2.1, k2.2.1]; rfl) (fun x y e => absurd (by rw [e]; rfl) h) (fun x y z e => k2.2.2.1) (fun x y z u _ => k2.2.2.2)
theorem plB_fixedN {r : List Str} (h : r.length ≠ 1) : plB ("fixed" :: r) = false :=
  plB_shape (fun x e => absurd (by rw [e]; rfl) h) (fun x y e => k3.1) (fun x y z e => k3.2.2.1) (fun x y z u _ => k3.2.2.2)
theorem plB_endedN {r : List Str} (h : r.length ≠ 4) : plB ("ended" :: r) = false :=
  plB_shape (fun x _ => by rw [k4.2.2.2, k4.2.1]; rfl) (fun x y e => k4.1) (fun x y z e => k4.2.2.1) (fun x y z u e => absurd (by rw [e]; rfl) h)
theorem plB_listed {r : List Str} : plB ("listed" :: r) = decide (r.length + 1 = 2) := by
  by_cases h : r.length + 1 = 2
  · obtain ⟨x, rfl⟩ := len1 h
    show (decide (("listed" : Str) = "fixed") && shortB x || decide (("listed" : Str) = "listed")) = _
    rw [decide_eq_true (rfl : ("listed" : Str) = "listed"), Bool.or_true]
    rfl
  · rw [decide_eq_false h]
    exact plB_shape (fun x e => absurd (by rw [e]; rfl) h) (fun x y e => k5.1) (fun x y z e => k5.2.2.1) (fun x y z u e => k5.2.1)
theorem plB_none {k : Str} {r : List Str} (h1 : k ≠ "word") (h2 : k ≠ "number") (h3 : k ≠ "fixed") (h4 : k ≠ "ended") (h5 : k ≠ "listed") : plB (k :: r) = false :=
  plB_shape (fun x _ => by rw [decide_eq_false h3, decide_eq_false h5]; rfl) (fun _ _ _ => decide_eq_false h2) (fun _ _ _ _ => decide_eq_false h1) (fun _ _ _ _ _ => decide_eq_false h4)
def spPo (K : Frag) : Sp := fun vs H Q _ => ∃ (t : Str) (n : Nat), vs = [.str t] ∧ Wee n t ∧ n ≤ 200 ∧ ∀ tp M Pl H', H tp = none → Same H H' → H' tp = some (.tup [.ref M, .ref Pl]) → MksAt H' M (mkL (pcs t)).1 → H' Pl = some (.lst ((mkL (pcs t)).2.map V.str)) → Q (.ref tp) H'
def spIfw (K : Frag) : Sp := fun vs H Q _ => ∃ (t : Str) (n : Nat), vs = [.str t] ∧ Wee n t ∧ n ≤ 200 ∧ ∀ H', Same H H' → Q (.bl (wB t)) H'
structure N3 (P : Program) (w : World) (K : Frag) (mg : Str → Option Value) (base : Heap) : Prop extends N2 P w K mg base where
  are_spans : FnAt P w K mg base CX0 4 "are_spans" ["texts"] (spSpans K)
section
variable {P : Program} {w : World} {K : Frag} {mg : Str → Option Value} {base : Heap} {f : Addr} {fd : FuncData}
abbrev s_parts_of : Stmt := top 36
theorem sc_parts_of : FnScope ["word", "marks", "_", "none", "mark"] ["word"] (defScope s_parts_of) := ⟨rfl, rfl, rfl, by decide +kernel, rfl, by decide +kernel, by decide +kernel⟩

theorem ok_parts_of (F : FunD K "parts_of" "parts_of" (defArgs s_parts_of) (defBody s_parts_of) (defScope s_parts_of) [] [] f fd) (G : N2 P w K mg base) : FnOk P w K mg base CX0 1 f fd ["word"] (spPo K) := by
  refine F.ok (CX := CX0) sc_parts_of (fun vs H Q E h => ?_) (fun cdv A outer s H vs Q E hr h => ?_)
  · obtain ⟨_, _, rfl, _⟩ := h
    rfl
  · refine ⟨_, PSs.nox (pss_cons (ps_set (i := 1) sc_parts_of.nd rfl (Or.inl rfl) (pe_lstS pa_nil))
    (pss_cons (ps_while PassesOwn.never (PW.pt (pw_and (pt_val (pe_bm PySem.F.plainAttrs_str PySem.F.slot_str_startswith PySem.F.type_str_startswith mt_startswith (pv 0) (pa_cons pe_str pa_nil))) (pw_and1 (pt_cmpR op_gt (pe_bm PySem.F.plainAttrs_str PySem.F.slot_str_count PySem.F.type_str_count mt_count (pv 0) (pa_cons pe_str pa_nil)) pe_int (nomark _)))))
      (pss_cons (ps_asg (pe_bm PySem.F.plainAttrs_str PySem.F.slot_str_split PySem.F.type_str_split mt_splitMax (pv 0) (pa_cons pe_str (pa_cons pe_int pa_nil))) (pg_unl rfl (pgs_cons (pg_name (i := 2) sc_parts_of.nd rfl (Or.inl rfl)) (pgs_cons (pg_name (i := 3) sc_parts_of.nd rfl (Or.inl rfl)) (pgs_cons (pg_name (i := 4) sc_parts_of.nd rfl (Or.inl rfl)) (pgs_cons (pg_name (i := 0) sc_parts_of.nd rfl (Or.inl rfl)) pgs_nil))))))
      (pss_one (ps_expr (pe_bm PySem.F.plainAttrs_list PySem.F.slot_list_append PySem.F.type_list_append mt_append (pv 1) (pa_cons (pe_tupS (pa_cons (pv 3) (pa_cons (pv 4) pa_nil))) pa_nil))))))
    (pss_one (ps_ret (pe_tupS (pa_cons (pv 1) (pa_cons (pe_split (pv 0) pe_str) pa_nil))))))), ?_⟩
    obtain ⟨t, n, rfl, hW, hn, q⟩ := h
    refine ⟨by show 0 ≤ 1000; decide, fun M H1 hM S1 e1 => ?_⟩
    refine ⟨fun m σ J => ∃ (u : Str) (ms : List (Str × Str)), m = (pcs u).length ∧ Same H J ∧ Wee n u ∧ MksAt J M ms ∧ mkL (pcs t) = (ms ++ (mkL (pcs u)).1, (mkL (pcs u)).2) ∧ ∃ v2 v3 v4, σ = [some (.str u), some (.ref M), v2, v3, v4], ?_, ?_⟩
    · exact ⟨_, t, [], rfl, S1, hW, ⟨[], e1, rfl, fun i v p a => by cases a⟩, by rw [List.nil_append], _, _, _, rfl⟩
    rintro m σ J ⟨u, ms, rfl, S, hu, ⟨vs, eM, hvl, hvs⟩, hmk, v2, v3, v4, rfl⟩
    have hul := hu.len
    have hM0 : H M = none := hM
    by_cases hc : ∃ n k p r, pcs u = ("marked" : Str) :: n :: k :: p :: r
    · obtain ⟨nn, kk, p, r, hp⟩ := hc
      have hf := pcs_free u
      have hok := hu.ok
      rw [hp] at hf hok
      have eu : u = Txt.join ":" ["marked", nn, kk, Txt.join ":" (p :: r)] := by rw [← mk_join, ← hp, pcs_join]
      have eu2 : pcs (Txt.join ":" (p :: r)) = p :: r := pcs_of (List.cons_ne_nil _ _) fun x hx => hf x (List.mem_cons_of_mem _ (List.mem_cons_of_mem _ (List.mem_cons_of_mem _ hx)))
      have hlen : (pcs u).length = (p :: r).length + 3 := by rw [hp]; rfl
      have hw2 : Wee n (Txt.join ":" (p :: r)) := ⟨by rw [eu2]; have := hu.few; omega, by rw [eu2]; exact fun x hx => hok x (List.mem_cons_of_mem _ (List.mem_cons_of_mem _ (List.mem_cons_of_mem _ hx)))⟩
      have hmk2 : mkL (pcs t) = ((ms ++ [(nn, kk)]) ++ (mkL (pcs (Txt.join ":" (p :: r)))).1, (mkL (pcs (Txt.join ":" (p :: r)))).2) := by
        rw [hmk, hp, mkL_yes, eu2, List.append_assoc]
        rfl
      have hvm : vs.length ≤ 4000 := by
        have h3 := congrArg (fun z => z.1.length) hmk
        have h3 : (mkL (pcs t)).1.length = (ms ++ (mkL (pcs u)).1).length := h3
        have h4 := mkL_len (pcs t)
        rw [h3, List.length_append] at h4
        have := hW.few
        omega
      refine ⟨_, rfl, rfl, u, "marked:", rfl, rfl, _, rfl, ?_⟩
      rw [show Txt.startswith u "marked:" = true by rw [eu]; exact mk_starts ..]
      refine iteT ⟨_, rfl, rfl, u, ":", rfl, rfl, _, _, rfl, rfl, _, rfl, ?_⟩
      rw [show decide ((2 : Int) < Txt.count u ":") = true from decide_eq_true (by rw [eu]; exact mk_count ..)]
      refine iteT ?_
      refine ⟨fun σ2 J2 => Same H J2 ∧ MksAt J2 M (ms ++ [(nn, kk)]) ∧ ∃ v2 v3 v4, σ2 = [some (.str (Txt.join ":" (p :: r))), some (.ref M), v2, v3, v4], fun σ2 J2 ⟨x, y, z⟩ => ⟨(p :: r).length, by omega, Txt.join ":" (p :: r), ms ++ [(nn, kk)], by rw [eu2], x, hw2, y, hmk2, z⟩, ?_⟩
      refine ⟨_, rfl, rfl, u, ":", 3, rfl, rfl, rfl, by decide, by decide, by rw [sizeLine_eq]; omega, fun pl hpl => ?_⟩
      rw [show Txt.splitMax u ":" 3 = (["marked", nn, kk, Txt.join ":" (p :: r)] : List Str) by
        rw [eu]
        exact mk_split (hf nn (by simp)) (hf kk (by simp))]
      have S3 : Same J (upd J pl (.lst ((["marked", nn, kk, Txt.join ":" (p :: r)] : List Str).map V.str))) := same_upd hpl
      have e3 : upd J pl (.lst ((["marked", nn, kk, Txt.join ":" (p :: r)] : List Str).map V.str)) pl = some (.lst ((["marked", nn, kk, Txt.join ":" (p :: r)] : List Str).map V.str)) := upd_same
      generalize upd J pl (.lst ((["marked", nn, kk, Txt.join ":" (p :: r)] : List Str).map V.str)) = J3 at S3 e3 ⊢
      refine ⟨pl, _, rfl, SqL.of e3, rfl, _, _, rfl, _, _, rfl, _, _, rfl, _, _, rfl, rfl, ?_⟩
      refine ⟨_, rfl, .inl ⟨rfl, _, SqL.of (S3 _ _ eM)⟩, _, rfl, _, rfl, by show 2 ≤ 1000; decide, fun tt J4 ht S4 e4 => ?_⟩
      have nMt : tt ≠ M := ne_of e4 (S4 _ _ (S3 _ _ eM)) (fun z => by cases z)
      refine ⟨M, _, _, rfl, rfl, S4 _ _ (S3 _ _ eM), by rw [sizeLine_eq]; omega, ?_⟩
      refine ⟨same_put ((S.trans S3).trans S4) hM0, ⟨vs ++ [.ref tt], upd_same, by rw [List.length_append, List.length_append, hvl]; rfl, fun i v p' h1 h2 => ?_⟩, _, _, _, rfl⟩
      have keep : ∀ b xs, J4 b = some (.tup xs) → upd J4 M (.lst (vs ++ [.ref tt])) b = some (.tup xs) := fun b xs e => by
        rw [upd_ne (ne_of e (S4 _ _ (S3 _ _ eM)) (fun z => by cases z))]
        exact e
      rcases Nat.lt_or_ge i vs.length with hi | hi
      · rw [List.getElem?_append_left hi] at h1
        rw [List.getElem?_append_left (by omega)] at h2
        obtain ⟨b, rfl, eb⟩ := hvs i v p' h1 h2
        exact ⟨b, rfl, keep _ _ (S4 _ _ (S3 _ _ eb))⟩
      · rw [List.getElem?_append_right hi] at h1
        rw [List.getElem?_append_right (by omega), ← hvl] at h2
        cases hk : i - vs.length with
        | succ j => rw [hk] at h1; cases h1
        | zero =>
          rw [hk] at h1 h2
          obtain rfl := Option.some.inj h1
          obtain rfl := Option.some.inj h2
          exact ⟨tt, rfl, keep _ _ e4⟩
    · have h0 := pcs_ne u
      have hf := pcs_free u
      have en : mkL (pcs u) = ([], pcs u) := mkL_no hc
      refine ⟨_, rfl, rfl, u, "marked:", rfl, rfl, _, rfl, ?_⟩
      refine ite2 (fun hs => ?_) (fun hs => ?_)
      · refine ⟨_, rfl, rfl, u, ":", rfl, rfl, _, _, rfl, rfl, _, rfl, ?_⟩
        have nc : ¬ (2 : Int) < Txt.count u ":" := by
          have z := no_mark h0 hf hc (by rw [pcs_join]; exact hs)
          rwa [pcs_join] at z
        rw [decide_eq_false nc]
        refine iteF ?_
        refine ⟨_, rfl, _, rfl, ⟨_, rfl⟩, u, ":", rfl, rfl, rfl, by rw [sizeLine_eq]; omega, fun pl hpl => ?_⟩
        have S3 : Same J (upd J pl (.lst ((pcs u).map V.str))) := same_upd hpl
        refine ⟨by show 2 ≤ 1000; decide, fun tp J4 ht S4 e4 => ?_⟩
        refine q tp M pl J4 (none_of (S.trans S3) ht) ((S.trans S3).trans S4) e4 ?_ ?_
        · rw [hmk, en, List.append_nil]
          exact MksAt.same (S3.trans S4) ⟨vs, eM, hvl, hvs⟩
        · rw [hmk, en]
          exact S4 _ _ upd_same
      · refine ⟨_, rfl, _, rfl, ⟨_, rfl⟩, u, ":", rfl, rfl, rfl, by rw [sizeLine_eq]; omega, fun pl hpl => ?_⟩
        have S3 : Same J (upd J pl (.lst ((pcs u).map V.str))) := same_upd hpl
        refine ⟨by show 2 ≤ 1000; decide, fun tp J4 ht S4 e4 => ?_⟩
        refine q tp M pl J4 (none_of (S.trans S3) ht) ((S.trans S3).trans S4) e4 ?_ ?_
        · rw [hmk, en, List.append_nil]
          exact MksAt.same (S3.trans S4) ⟨vs, eM, hvl, hvs⟩
        · rw [hmk, en]
          exact S4 _ _ upd_same


structure N4 (P : Program) (w : World) (K : Frag) (mg : Str → Option Value) (base : Heap) : Prop extends N3 P w K mg base where
  parts_of : FnAt P w K mg base CX0 1 "parts_of" ["word"] (spPo K)

abbrev s_is_field_word : Stmt := top 37
theorem sc_is_field_word : FnScope ["word", "marks", "parts", "none", "mark"] ["word"] (defScope s_is_field_word) := ⟨rfl, rfl, rfl, by decide +kernel, rfl, by decide +kernel, by decide +kernel⟩

theorem ok_is_field_word (F : FunD K "is_field_word" "is_field_word" (defArgs s_is_field_word) (defBody s_is_field_word) (defScope s_is_field_word) [] [] f fd) (G : N4 P w K mg base) : FnOk P w K mg base CX0 5 f fd ["word"] (spIfw K) := by
  refine F.ok (CX := CX0) sc_is_field_word (fun vs H Q E h => ?_) (fun cdv A outer s H vs Q E hr h => ?_)
  · obtain ⟨_, _, rfl, _⟩ := h
    rfl
  · refine ⟨_, PSs.nox (C8.pss_cut (ps_asg (pe_fn G.parts_of (hr.mono (by decide)) pass0 (by rfl) (pa_cons (pv 0) pa_nil)) (pg_tup rfl (pgs_cons (pg_name (i := 1) sc_is_field_word.nd rfl (Or.inl rfl)) (pgs_cons (pg_name (i := 2) sc_is_field_word.nd rfl (Or.inl rfl)) pgs_nil))))
    (C8.pss_cut (ps_if (pt_not (pt_val (pe_callB (cr_all rfl) (by rfl) G.all (by decide +kernel) (pa_cons (pe_lc (own := [("none", 3), ("mark", 4)]) (g := (gTup K 2 (gCons (gName 3) (gCons (gName 4) gNil)))) (tt := tYes) rfl sc_is_field_word.nd (pi_list (pv 1)) (blkOk_by (N := ["word", "marks", "parts", "none", "mark"]) (sc := defScope s_is_field_word) (by decide +kernel)) (fun _ _ _ _ _ => pg_tupK (n := 2) (K := K) rfl rfl (pgs_cons (pg_name (i := 3) sc_is_field_word.nd rfl (Or.inl rfl)) (pgs_cons (pg_name (i := 4) sc_is_field_word.nd rfl (Or.inl rfl)) pgs_nil))) (fun _ _ _ _ _ => pts_nil) (fun _ _ _ _ _ => (pe_fn G.are_free (hr.mono (by decide)) pass0 (by rfl) (pa_cons (pe_lstS (pa_cons (pv 3) (pa_cons (pv 4) pa_nil))) pa_nil)))) pa_nil))))
      (pss_one (ps_ret pe_bl))
      pss_nil)
    (pss_cons (ps_if (pt_cmpR op_eq (pe_ix ix_list (pv 2) pe_int (fun _ _ => rfl)) pe_str (nomark _))
      (pss_one (ps_ret (pe_and (pe_cmpR op_eq (pe_callB call_len_seq (by rfl) G.len (by decide +kernel) (pa_cons (pv 2) pa_nil)) pe_int (nomark _)) (pe_and (pe_fn G.are_free (hr.mono (by decide)) pass0 (by rfl) (pa_cons (pe_slice sl_listS (pv 2) (po_some pe_int) (po_some pe_int)) pa_nil)) (pe_one (pe_fn G.are_spans (hr.mono (by decide)) pass0 (by rfl) (pa_cons (pe_slice sl_listS (pv 2) (po_some pe_int) po_none) pa_nil)))))))
      pss_nil)
    (pss_cons (ps_if (pt_cmpR op_eq (pe_ix ix_list (pv 2) pe_int (fun _ _ => rfl)) pe_str (nomark _))
      (pss_one (ps_ret (pe_and (pe_cmpR op_eq (pe_callB call_len_seq (by rfl) G.len (by decide +kernel) (pa_cons (pv 2) pa_nil)) pe_int (nomark _)) (pe_one (pe_fn G.are_spans (hr.mono (by decide)) pass0 (by rfl) (pa_cons (pe_slice sl_listS (pv 2) (po_some pe_int) po_none) pa_nil))))))
      pss_nil)
    (pss_cons (ps_if (pt_cmpR op_eq (pe_ix ix_list (pv 2) pe_int (fun _ _ => rfl)) pe_str (nomark _))
      (pss_one (ps_ret (pe_and (pe_cmpR op_eq (pe_callB call_len_seq (by rfl) G.len (by decide +kernel) (pa_cons (pv 2) pa_nil)) pe_int (nomark _)) (pe_one (pe_fn G.is_short_numeral (hr.mono (by decide)) pass0 (by rfl) (pa_cons (pe_ix ix_list (pv 2) pe_int (fun _ _ => rfl)) pa_nil))))))
      pss_nil)
    (pss_cons (ps_if (pt_cmpR op_eq (pe_ix ix_list (pv 2) pe_int (fun _ _ => rfl)) pe_str (nomark _))
      (pss_one (ps_ret (pe_and (pe_cmpR op_eq (pe_callB call_len_seq (by rfl) G.len (by decide +kernel) (pa_cons (pv 2) pa_nil)) pe_int (nomark _)) (pe_and (pe_fn G.are_free (hr.mono (by decide)) pass0 (by rfl) (pa_cons (pe_slice sl_listS (pv 2) (po_some pe_int) (po_some pe_int)) pa_nil)) (pe_one (pe_fn G.are_spans (hr.mono (by decide)) pass0 (by rfl) (pa_cons (pe_slice sl_listS (pv 2) (po_some pe_int) po_none) pa_nil)))))))
      pss_nil)
    (pss_one (ps_ret (pe_and (pe_cmpR op_eq (pe_ix ix_list (pv 2) pe_int (fun _ _ => rfl)) pe_str (nomark _)) (pe_one (pe_cmpR op_eq (pe_callB call_len_seq (by rfl) G.len (by decide +kernel) (pa_cons (pv 2) pa_nil)) pe_int (nomark _)))))))))))), ?_⟩
    obtain ⟨t, n, rfl, hW, hn, q⟩ := h
    refine ⟨fun σ J => ∃ M Pl v3 v4, σ = [some (.str t), some (.ref M), some (.ref Pl), v3, v4] ∧ Same H J ∧ MksAt J M (mkL (pcs t)).1 ∧ J Pl = some (.lst ((mkL (pcs t)).2.map V.str)), ?_, ?_⟩
    · refine ⟨_, rfl, t, n, rfl, hW, hn, fun tp M Pl H1 ht S1 e1 eM eP => ?_⟩
      exact ⟨tp, _, rfl, SqT.of e1, rfl, _, _, rfl, _, _, rfl, rfl, M, Pl, _, _, rfl, S1, eM, eP⟩
    rintro σ J ⟨M, Pl, v3, v4, rfl, S, ⟨vs, eM, hvl, hvs⟩, eP⟩
    obtain ⟨hpk1, hpk2, hpk3⟩ := mkL_ok hW
    have hml := mkL_len (pcs t)
    have hfw := hW.few
    unfold wB at q
    generalize (mkL (pcs t)).1 = ms at *
    generalize (mkL (pcs t)).2 = ps at *
    refine ⟨fun σ J => ms.all (fun p => freeB p.1 && freeB p.2) = true ∧ ∃ M v3 v4, σ = [some (.str t), some (.ref M), some (.ref Pl), v3, v4] ∧ Same H J ∧ J Pl = some (.lst (ps.map V.str)), ?_, ?_⟩
    · refine ⟨_, rfl, M, rfl, ⟨_, SqL.of eM⟩, fun D hD => ?_⟩
      refine lc_list (K := K) (a := M) (xs := vs) (LcP J D fun n => (ms.take n).map fun p => V.bl (freeB p.1 && freeB p.2)) (LcP.start hD rfl) (fun i J2 hi pJ => pJ.1.seq (SqL.of eM)) ?_ ?_
      · intro i v J2 hv pJ
        have hi := (List.getElem?_eq_some_iff.mp hv).1
        obtain ⟨p, hp⟩ : ∃ p, ms[i]? = some p := ⟨_, List.getElem?_eq_getElem (by omega)⟩
        obtain ⟨tm, rfl, k2⟩ := hvs i v p hv hp
        refine ⟨tm, _, rfl, SqT.of (pJ.1 _ _ k2), rfl, _, _, rfl, _, _, rfl, rfl, rfl, ?_⟩
        refine ⟨_, rfl, _, rfl, by show 2 ≤ 1000; decide, fun pa J3 hpa S3 e3 => ?_⟩
        refine ⟨pa, [p.1, p.2], rfl, e3, by show 2 ≤ 1000; decide, fun J4 S4 => pJ.put (S3.trans S4) ?_ (by omega)⟩
        rw [List.take_add_one, hp, List.map_append]
        rw [show ([p.1, p.2] : List Str).all freeB = (freeB p.1 && freeB p.2) by show (freeB p.1 && (freeB p.2 && true)) = _; rw [Bool.and_true]]
        rfl
      · rintro J2 ⟨S2, _, eJ, _⟩
        have eJ2 : J2 D = some (.lst ((ms.map fun p => freeB p.1 && freeB p.2).map V.bl)) := by
          rw [eJ, hvl, List.map_map]
          show some (HO.lst ((ms.take ms.length).map _)) = _
          rw [List.take_length]
          rfl
        refine ⟨D, _, rfl, SqL.of eJ2, _, rfl, ?_⟩
        have ea : (ms.map fun p => freeB p.1 && freeB p.2).all id = ms.all fun p => freeB p.1 && freeB p.2 := by rw [List.all_map]; rfl
        rw [ea]
        refine ite2 (fun h => ?_) (fun h => ?_)
        · have h : (!ms.all fun p => freeB p.1 && freeB p.2) = true := h
          have h : (ms.all fun p => freeB p.1 && freeB p.2) = false := by rw [Bool.not_eq_true'] at h; exact h
          rw [h, Bool.false_and] at q
          exact q _ (S.trans S2)
        · have h : ¬ (!ms.all fun p => freeB p.1 && freeB p.2) = true := h
          have h : (ms.all fun p => freeB p.1 && freeB p.2) = true := by
            cases z : (ms.all fun p => freeB p.1 && freeB p.2) with
            | true => rfl
            | false => rw [z] at h; exact absurd rfl h
          exact ⟨h, M, _, _, rfl, S.trans S2, S2 _ _ eP⟩
    rintro σ J ⟨hall, M, v3, v4, rfl, S, eP⟩
    rw [hall, Bool.true_and] at q
    cases ps with
    | nil => exact absurd rfl hpk1
    | cons p0 r =>
    have line : ∀ x ∈ r, x.length ≤ 900 := fun x hx => Nat.le_trans (hpk2 x (List.mem_cons_of_mem _ hx)).len (by decide)
    have eP : J Pl = some (.lst (V.str p0 :: r.map V.str)) := eP
    have hl : (V.str p0 :: r.map V.str).length = r.length + 1 := by rw [List.length_cons, List.length_map]
    have lenq : ∀ k : Nat, decide (V.int ((V.str p0 :: r.map V.str).length : Nat) = V.int (k : Nat)) = decide (r.length + 1 = k) := fun k => by
      rw [hl]
      exact decide_eq_decide.mpr ⟨fun z => by injection z with z; omega, fun z => by rw [z]⟩
    -- word
    refine ⟨_, rfl, Pl, _, _, _, rfl, rfl, SqL.of eP, atI_nat (j := 0) rfl, rfl, _, rfl, ?_⟩
    refine ite2 (fun hk => ?_) (fun hk1 => ?_)
    · have hk := of_decide_eq_true hk
      injection hk with hk
      subst hk
      refine ⟨_, rfl, Pl, _, rfl, .inl (SqL.of eP), rfl, _, rfl, ?_⟩
      refine ite2 (fun hl4 => ?_) (fun hl4 => ?_)
      · rw [show decide (V.int ((V.str "word" :: r.map V.str).length : Nat) = V.int 4) = decide (r.length + 1 = 4) from lenq 4] at hl4
        obtain ⟨a, l, m, rfl⟩ := len3 (of_decide_eq_true hl4)
        rw [plB_word] at q
        refine ⟨_, rfl, 1, rfl, 2, rfl, Pl, _, rfl, SqL.of eP, fun p1 J1 hp1 S1 e1 => ⟨p1, [a], rfl, e1, by show 1 ≤ 1000; decide, fun J2 S2 => ⟨_, rfl, ?_⟩⟩⟩
        have S12 := S1.trans S2
        rw [show ([a] : List Str).all freeB = freeB a by show (freeB a && true) = _; rw [Bool.and_true]]
        refine ite2 (fun h1 => ?_) (fun h1 => ?_)
        · rw [h1, Bool.true_and] at q
          exact ⟨_, rfl, 2, rfl, Pl, _, rfl, SqL.of (S12 _ _ eP), fun p2 J3 hp2 S3 e3 => ⟨p2, l, m, rfl, e3, line l (by simp), line m (by simp), q J3 ((S.trans S12).trans S3)⟩⟩
        · rw [Bool.eq_false_iff.mpr h1, Bool.false_and] at q
          exact q _ (S.trans S12)
      · rw [show decide (V.int ((V.str "word" :: r.map V.str).length : Nat) = V.int 4) = decide (r.length + 1 = 4) from lenq 4] at hl4
        rw [plB_wordN (fun z => hl4 (decide_eq_true (by omega)))] at q
        exact q _ S
    -- number
    refine ⟨_, rfl, Pl, _, _, _, rfl, rfl, SqL.of eP, atI_nat (j := 0) rfl, rfl, _, rfl, ?_⟩
    refine ite2 (fun hk => ?_) (fun hk2 => ?_)
    · have hk := of_decide_eq_true hk
      injection hk with hk
      subst hk
      refine ⟨_, rfl, Pl, _, rfl, .inl (SqL.of eP), rfl, _, rfl, ?_⟩
      refine ite2 (fun hl4 => ?_) (fun hl4 => ?_)
      · rw [show decide (V.int ((V.str "number" :: r.map V.str).length : Nat) = V.int 3) = decide (r.length + 1 = 3) from lenq 3] at hl4
        obtain ⟨l, m, rfl⟩ := len2 (of_decide_eq_true hl4)
        rw [plB_number] at q
        exact ⟨_, rfl, 1, rfl, Pl, _, rfl, SqL.of eP, fun p2 J3 hp2 S3 e3 => ⟨p2, l, m, rfl, e3, line l (by simp), line m (by simp), q J3 (S.trans S3)⟩⟩
      · rw [show decide (V.int ((V.str "number" :: r.map V.str).length : Nat) = V.int 3) = decide (r.length + 1 = 3) from lenq 3] at hl4
        rw [plB_numberN (fun z => hl4 (decide_eq_true (by omega)))] at q
        exact q _ S
    -- fixed
    refine ⟨_, rfl, Pl, _, _, _, rfl, rfl, SqL.of eP, atI_nat (j := 0) rfl, rfl, _, rfl, ?_⟩
    refine ite2 (fun hk => ?_) (fun hk3 => ?_)
    · have hk := of_decide_eq_true hk
      injection hk with hk
      subst hk
      refine ⟨_, rfl, Pl, _, rfl, .inl (SqL.of eP), rfl, _, rfl, ?_⟩
      refine ite2 (fun hl4 => ?_) (fun hl4 => ?_)
      · rw [show decide (V.int ((V.str "fixed" :: r.map V.str).length : Nat) = V.int 2) = decide (r.length + 1 = 2) from lenq 2] at hl4
        obtain ⟨x, rfl⟩ := len1 (of_decide_eq_true hl4)
        rw [plB_fixed] at q
        exact ⟨_, rfl, Pl, _, _, _, rfl, rfl, SqL.of eP, atI_nat (j := 1) rfl, x, rfl, line x (by simp), q J S⟩
      · rw [show decide (V.int ((V.str "fixed" :: r.map V.str).length : Nat) = V.int 2) = decide (r.length + 1 = 2) from lenq 2] at hl4
        rw [plB_fixedN (fun z => hl4 (decide_eq_true (by omega)))] at q
        exact q _ S
    -- ended
    refine ⟨_, rfl, Pl, _, _, _, rfl, rfl, SqL.of eP, atI_nat (j := 0) rfl, rfl, _, rfl, ?_⟩
    refine ite2 (fun hk => ?_) (fun hk4 => ?_)
    · have hk := of_decide_eq_true hk
      injection hk with hk
      subst hk
      refine ⟨_, rfl, Pl, _, rfl, .inl (SqL.of eP), rfl, _, rfl, ?_⟩
      refine ite2 (fun hl4 => ?_) (fun hl4 => ?_)
      · rw [show decide (V.int ((V.str "ended" :: r.map V.str).length : Nat) = V.int 5) = decide (r.length + 1 = 5) from lenq 5] at hl4
        obtain ⟨a, e, l, m, rfl⟩ := len4 (of_decide_eq_true hl4)
        rw [plB_ended] at q
        refine ⟨_, rfl, 1, rfl, 3, rfl, Pl, _, rfl, SqL.of eP, fun p1 J1 hp1 S1 e1 => ⟨p1, [a, e], rfl, e1, by show 2 ≤ 1000; decide, fun J2 S2 => ⟨_, rfl, ?_⟩⟩⟩
        have S12 := S1.trans S2
        rw [show ([a, e] : List Str).all freeB = (freeB a && freeB e) by show (freeB a && (freeB e && true)) = _; rw [Bool.and_true]]
        refine ite2 (fun h1 => ?_) (fun h1 => ?_)
        · rw [h1, Bool.true_and] at q
          exact ⟨_, rfl, 3, rfl, Pl, _, rfl, SqL.of (S12 _ _ eP), fun p2 J3 hp2 S3 e3 => ⟨p2, l, m, rfl, e3, line l (by simp), line m (by simp), q J3 ((S.trans S12).trans S3)⟩⟩
        · rw [Bool.eq_false_iff.mpr h1, Bool.false_and] at q
          exact q _ (S.trans S12)
      · rw [show decide (V.int ((V.str "ended" :: r.map V.str).length : Nat) = V.int 5) = decide (r.length + 1 = 5) from lenq 5] at hl4
        rw [plB_endedN (fun z => hl4 (decide_eq_true (by omega)))] at q
        exact q _ S
    -- listed
    refine ⟨_, rfl, Pl, _, _, _, rfl, rfl, SqL.of eP, atI_nat (j := 0) rfl, rfl, _, rfl, ?_⟩
    refine ite2 (fun hk => ?_) (fun hk5 => ?_)
    · have hk := of_decide_eq_true hk
      injection hk with hk
      subst hk
      refine ⟨_, rfl, Pl, _, rfl, .inl (SqL.of eP), rfl, ?_⟩
      rw [show decide (V.int ((V.str "listed" :: r.map V.str).length : Nat) = V.int 2) = decide (r.length + 1 = 2) from lenq 2]
      rw [plB_listed] at q
      exact q _ S
    · have ne : ∀ {k : Str}, ¬ decide (V.str p0 = V.str k) = true → p0 ≠ k := fun h z => h (decide_eq_true (by rw [z]))
      rw [plB_none (ne hk1) (ne hk2) (ne hk3) (ne hk4) (ne hk5)] at q
      exact q _ S

end
end L2.K79

set_option Elab.async false
set_option linter.all false
set_option maxRecDepth 100000
set_option maxHeartbeats 4000000
/-! zip of three sequences, lists or tuples. -/
namespace L2.Jk.Z3
open PySem
open PySem.Sem (wp)
/-- a list (true) or a tuple -/
def Sq : Bool → Heap → Addr → Array Value → Prop
  | true, h, a, xs => h.IsList a xs
  | false, h, a, xs => h.IsTuple a xs
def It : Bool → Heap → Addr → Addr → Nat → Prop
  | true, h, a, l, k => h.IsListIter a l k
  | false, h, a, l, k => h.IsTupleIter a l k
def itN : Bool → Str
  | true => "list_iterator"
  | false => "tuple_iterator"
theorem Sq.ext {b : Bool} {h h' : Heap} {a c : Addr} {xs : Array Value} (x : Sq b h a xs) (e : Heap.ExtBut c h h') (n : a ≠ c) : Sq b h' a xs := by
  cases b
  · exact Heap.IsTuple.extBut x e n
  · exact Heap.IsList.extBut x e n
theorem Sq.at {b : Bool} {h h' : Heap} {a : Addr} {xs : Array Value} (x : Sq b h a xs) (k : ∀ o, h.get? a = some o → h'.get? a = some o) : Sq b h' a xs := by
  cases b <;> (obtain ⟨o, ho, r⟩ := x; exact ⟨o, k o ho, r⟩)
theorem It.at {b : Bool} {h h' : Heap} {a l : Addr} {i : Nat} (x : It b h a l i) (k : ∀ o, h.get? a = some o → h'.get? a = some o) : It b h' a l i := by
  cases b <;> (obtain ⟨o, ho, r⟩ := x; exact ⟨o, k o ho, r⟩)
theorem It.ext {b : Bool} {h h' : Heap} {a c l : Addr} {i : Nat} (x : It b h a l i) (e : Heap.ExtBut c h h') (n : a ≠ c) : It b h' a l i := x.at fun o q => e a o n q
theorem It.obj {b : Bool} {h : Heap} {a l : Addr} {i : Nat} (x : It b h a l i) : ∃ o, h.get? a = some o ∧ ∀ v, o.data ≠ .cell v := by
  cases b <;> (obtain ⟨o, ho, _, d⟩ := x; exact ⟨o, ho, fun v q => by rw [d] at q; cases q⟩)
theorem It.lt {b : Bool} {h : Heap} {a l : Addr} {i : Nat} (x : It b h a l i) : a < h.objs.size := by
  obtain ⟨o, e, _⟩ := x.obj
  exact Heap.lt_size e
theorem Sq.lt {b : Bool} {h : Heap} {a : Addr} {xs : Array Value} (x : Sq b h a xs) : a < h.objs.size := by
  cases b <;> (obtain ⟨o, e, _⟩ := x; exact Heap.lt_size e)
abbrev IsTrip (h : Heap) (T : Addr) (a b c : Value) : Prop := h.get? T = some { cls := .type "tuple", data := .seq #[a, b, c] }
structure Ap (z TI TO i1 i2 i3 l1 l2 l3 : Addr) : Prop where
  ti : TI ≠ z ∧ TI ≠ TO ∧ TI ≠ i1 ∧ TI ≠ i2 ∧ TI ≠ i3
  to : TO ≠ z ∧ TO ≠ i1 ∧ TO ≠ i2 ∧ TO ≠ i3
  iz : i1 ≠ z ∧ i2 ≠ z ∧ i3 ≠ z
  ii : i1 ≠ i2 ∧ i1 ≠ i3 ∧ i2 ≠ i3
  a1 : l1 ≠ z ∧ l1 ≠ TO ∧ l1 ≠ i1 ∧ l1 ≠ i2 ∧ l1 ≠ i3
  a2 : l2 ≠ z ∧ l2 ≠ TO ∧ l2 ≠ i1 ∧ l2 ≠ i2 ∧ l2 ≠ i3
  a3 : l3 ≠ z ∧ l3 ≠ TO ∧ l3 ≠ i1 ∧ l3 ≠ i2 ∧ l3 ≠ i3
section
variable {prog : Program} {w : World} {A : Around} {E : Value → Shared → Prop} {s : Shared}
theorem next_item {b : Bool} {it l : Addr} {i : Nat} {xs : Array Value} {x : Value} {Q : Value → Shared → Prop} (hit : It b s.heap it l i) (hl : Sq b s.heap l xs) (hx : xs[i]? = some x)
    (hQ : ∀ h', It b h' it l (i + 1) → Heap.SameBut it s.heap h' → Q x { s with heap := h' }) : wpAny (model prog w) A (Builtin.SmallTypes.nextOf (.ref it)) Q E s := by
  cases b
  · exact RZ.nextOf_tuple_item hit hl hx hQ
  · exact wpAny_nextOf_list_item hit hl hx hQ
theorem next_end {b : Bool} {it l : Addr} {i : Nat} {xs : Array Value} {Q : Value → Shared → Prop} (hh : A.handled = none) (hit : It b s.heap it l i) (hl : Sq b s.heap l xs) (hx : xs[i]? = none)
    (hE : ∀ h' e, Heap.ExtBut it s.heap h' → (∃ o, h'.get? e = some o ∧ o.cls = .type "StopIteration") → E (.ref e) { s with heap := h' }) : wpAny (model prog w) A (Builtin.SmallTypes.nextOf (.ref it)) Q E s := by
  cases b
  · exact RZ.nextOf_tuple_end hh hit hl hx hE
  · exact wpAny_nextOf_list_end hh hit hl hx hE
theorem updateSeq_trip {T : Addr} {a b c x : Value} {k : Nat} {Q : Unit → Shared → Prop} (hT : IsTrip s.heap T a b c)
    (h : ∀ h', h'.get? T = some { cls := .type "tuple", data := .seq ((#[a, b, c] : Array Value).setIfInBounds k x) } → Heap.SameBut T s.heap h' → Q () { s with heap := h' }) :
    wpAny (model prog w) A (updateSeq T (·.setIfInBounds k x)) Q E s := by
  refine wpAny_updateSeq hT rfl (h _ ?_ (Heap.SameBut.update ..))
  rw [Heap.get?_update_self _ hT rfl]
  simp [Obj.mapSeq]
variable {z TI TO i1 i2 i3 l1 l2 l3 : Addr} {k : Nat} {b1 b2 b3 : Bool} {xs ys zs : Array Value} {a b c : Value}
/-- what stands still -/
def Kp (z TO i1 i2 i3 : Addr) (h h' : Heap) : Prop := ∀ c o, c ≠ z → c ≠ TO → c ≠ i1 → c ≠ i2 → c ≠ i3 → h.get? c = some o → h'.get? c = some o
theorem zip_item {x y u : Value} {Q : Value → Shared → Prop} (D : Ap z TI TO i1 i2 i3 l1 l2 l3)
    (hz : IsZip s.heap z TI TO .none) (hTI : IsTrip s.heap TI (.ref i1) (.ref i2) (.ref i3)) (hTO : IsTrip s.heap TO a b c)
    (h1 : It b1 s.heap i1 l1 k) (h2 : It b2 s.heap i2 l2 k) (h3 : It b3 s.heap i3 l3 k) (q1 : Sq b1 s.heap l1 xs) (q2 : Sq b2 s.heap l2 ys) (q3 : Sq b3 s.heap l3 zs)
    (hx : xs[k]? = some x) (hy : ys[k]? = some y) (hu : zs[k]? = some u)
    (hQ : ∀ h', IsZip h' z TI TO (rawInt s.heap.objs.size) → IsTrip h' TO x y u → It b1 h' i1 l1 (k + 1) → It b2 h' i2 l2 (k + 1) → It b3 h' i3 l3 (k + 1) → IsTrip h' s.heap.objs.size x y u → h'.objs.size = s.heap.objs.size + 1 →
      Kp z TO i1 i2 i3 s.heap h' → Q (.ref s.heap.objs.size) { s with heap := h' }) :
    wpAny (model prog w) A (Builtin.«zip.__next__» ⟨[.ref z], []⟩) (fun fin s' => ∃ v, fin = .done (.ret v) ∧ Q v s') E s := by
  obtain ⟨⟨ti1, ti2, ti3, ti4, ti5⟩, ⟨to1, to2, to3, to4⟩, ⟨iz1, iz2, iz3⟩, ⟨ii1, ii2, ii3⟩, ⟨x1, x2, x3, x4, x5⟩, ⟨y1, y2, y3, y4, y5⟩, ⟨w1, w2, w3, w4, w5⟩⟩ := D
  show wpAny _ _ (field (.ref z) 2 >>= _) _ _ _
  refine wpAny_bind (wpAny_field hz rfl (x := .bool false) rfl ?_)
  show wpAny _ _ (field (.ref z) 3 >>= _) _ _ _
  refine wpAny_bind (wpAny_field hz rfl (x := .ref TI) rfl ?_)
  refine wpAny_bind (wpAny_seqItems hTI rfl ?_)
  show wpAny _ _ (Builtin.SmallTypes.ownedTupleIsFree (.ref z) >>= _) _ _ _
  refine wpAny_bind ?_
  unfold Builtin.SmallTypes.ownedTupleIsFree
  refine wpAny_bind (wpAny_field hz rfl (x := .none) rfl (wpAny_pure ?_))
  simp only [if_true]
  refine wpAny_bind (wpAny_rule ?_)
  refine wpAny_bind (wpAny_field hz rfl (x := .ref TO) rfl ?_)
  refine wpAny_bind (wpAny_setField_rec hz (by simp) fun h₁ hz₁ hs₁ => ?_)
  replace hz₁ : IsZip h₁ z TI TO .ellipsis := hz₁
  refine wpAny_bind ?_
  simp only [List.zipIdx_cons, List.zipIdx_nil, List.forIn_cons, List.forIn_nil]
  have e1 := hs₁.extBut
  have hTO₁ : IsTrip h₁ TO a b c := e1 _ _ to1 hTO

  refine wpAny_bind (wpAny_bind (wpAny_onRaise ?_))
  show wpAny _ _ (Builtin.SmallTypes.nextOf (.ref i1) >>= _) _ _ _
  refine wpAny_bind (next_item (h1.ext e1 iz1) (q1.ext e1 x1) hx fun h₂ n1 hs₂ => wpAny_pure ?_)
  have e2 := hs₂.extBut
  have hTO₂ : IsTrip h₂ TO a b c := e2 _ _ to2 hTO₁
  refine wpAny_bind (wpAny_seqItems hTO₂ rfl ?_)
  refine wpAny_bind (updateSeq_trip hTO₂ fun h₃ hTO₃ hs₃ => ?_)
  have e3 := hs₃.extBut
  replace hTO₃ : IsTrip h₃ TO x b c := hTO₃
  refine wpAny_bind (wpAny_letGo (wpAny_pure ?_))

  refine wpAny_bind (wpAny_bind (wpAny_onRaise ?_))
  show wpAny _ _ (Builtin.SmallTypes.nextOf (.ref i2) >>= _) _ _ _
  refine wpAny_bind (next_item (((h2.ext e1 iz2).ext e2 ii1.symm).ext e3 to3.symm) (((q2.ext e1 y1).ext e2 y3).ext e3 y2) hy fun h₄ n2 hs₄ => wpAny_pure ?_)
  have e4 := hs₄.extBut
  have hTO₄ : IsTrip h₄ TO x b c := e4 _ _ to3 hTO₃
  refine wpAny_bind (wpAny_seqItems hTO₄ rfl ?_)
  refine wpAny_bind (updateSeq_trip hTO₄ fun h₅ hTO₅ hs₅ => ?_)
  have e5 := hs₅.extBut
  replace hTO₅ : IsTrip h₅ TO x y c := hTO₅
  refine wpAny_bind (wpAny_letGo (wpAny_pure ?_))

  refine wpAny_bind (wpAny_bind (wpAny_onRaise ?_))
  show wpAny _ _ (Builtin.SmallTypes.nextOf (.ref i3) >>= _) _ _ _
  refine wpAny_bind (next_item (((((h3.ext e1 iz3).ext e2 ii2.symm).ext e3 to4.symm).ext e4 ii3.symm).ext e5 to4.symm) (((((q3.ext e1 w1).ext e2 w3).ext e3 w2).ext e4 w4).ext e5 w2) hu fun h₆ n3 hs₆ => wpAny_pure ?_)
  have e6 := hs₆.extBut
  have hTO₆ : IsTrip h₆ TO x y c := e6 _ _ to4 hTO₅
  refine wpAny_bind (wpAny_seqItems hTO₆ rfl ?_)
  refine wpAny_bind (updateSeq_trip hTO₆ fun h₇ hTO₇ hs₇ => ?_)
  have e7 := hs₇.extBut
  replace hTO₇ : IsTrip h₇ TO x y u := hTO₇
  refine wpAny_bind (wpAny_letGo (wpAny_pure (wpAny_pure ?_)))

  refine wpAny_bind (wpAny_seqItems hTO₇ rfl ?_)
  refine wpAny_bind (wpAny_newTuple ?_)
  have hsz : h₇.objs.size = s.heap.objs.size := by rw [hs₇.1, hs₆.1, hs₅.1, hs₄.1, hs₃.1, hs₂.1, hs₁.1]
  have hz₇ : IsZip h₇ z TI TO .ellipsis := e7 _ _ to1.symm (e6 _ _ iz3.symm (e5 _ _ to1.symm (e4 _ _ iz2.symm (e3 _ _ to1.symm (e2 _ _ iz1.symm hz₁)))))
  have hk₇ : Kp z TO i1 i2 i3 s.heap h₇ := fun c o c1 c2 c3 c4 c5 e =>
    e7 _ _ c2 (e6 _ _ c5 (e5 _ _ c2 (e4 _ _ c4 (e3 _ _ c2 (e2 _ _ c3 (e1 _ _ c1 e))))))
  have m1 : It b1 h₇ i1 l1 (k + 1) := ((((n1.ext e3 to2.symm).ext e4 ii1).ext e5 to2.symm).ext e6 ii2).ext e7 to2.symm
  have m2 : It b2 h₇ i2 l2 (k + 1) := ((n2.ext e5 to3.symm).ext e6 ii3).ext e7 to3.symm
  have m3 : It b3 h₇ i3 l3 (k + 1) := n3.ext e7 to4.symm
  have hzlt : z < h₇.objs.size := Heap.lt_size hz₇
  show wpAny _ _ (Builtin.SmallTypes.ownedTupleHandOut (.ref z) (.ref h₇.objs.size) >>= _) _ _ _
  refine wpAny_bind ?_
  unfold Builtin.SmallTypes.ownedTupleHandOut
  have hz₈ : IsZip (h₇.push { cls := .type "tuple", data := .seq #[x, y, u] }) z TI TO .ellipsis := Heap.get?_push_of_some _ hz₇
  refine wpAny_bind (wpAny_setField_rec hz₈ (by simp) fun h₉ hz₉ hs₉ => ?_)
  replace hz₉ : IsZip h₉ z TI TO (rawInt h₇.objs.size) := hz₉
  refine wpAny_setField_rec hz₉ (by simp) fun ha hza hsa => ?_
  replace hza : IsZip ha z TI TO (rawInt h₇.objs.size) := hza
  have up : ∀ c o, c ≠ z → h₇.get? c = some o → ha.get? c = some o := fun c o c1 e => hsa.extBut _ _ c1 (hs₉.extBut _ _ c1 (Heap.get?_push_of_some _ e))
  have hTa : IsTrip ha h₇.objs.size x y u := hsa.extBut _ _ (Nat.ne_of_gt hzlt) (hs₉.extBut _ _ (Nat.ne_of_gt hzlt) (Heap.get?_push_size _ rfl))
  have hza8 : ha.objs.size = h₇.objs.size + 1 := by rw [hsa.1, hs₉.1, Heap.size_push]
  rw [hsz] at hza hTa hza8
  refine wpAny_pure ⟨_, rfl, ?_⟩
  show Q (.ref h₇.objs.size) _
  rw [hsz]
  exact hQ ha hza (up _ _ to1 hTO₇) (m1.at fun o e => up _ o iz1 e) (m2.at fun o e => up _ o iz2 e) (m3.at fun o e => up _ o iz3 e) hTa hza8 fun c o c1 c2 c3 c4 c5 e => up c o c1 (hk₇ c o c1 c2 c3 c4 c5 e)

/-- where one of the three is at its end -/
theorem zip_end {Q : Fin → Shared → Prop} (hh : A.handled = none) (D : Ap z TI TO i1 i2 i3 l1 l2 l3)
    (hz : IsZip s.heap z TI TO .none) (hTI : IsTrip s.heap TI (.ref i1) (.ref i2) (.ref i3)) (hTO : IsTrip s.heap TO a b c)
    (h1 : It b1 s.heap i1 l1 k) (h2 : It b2 s.heap i2 l2 k) (h3 : It b3 s.heap i3 l3 k) (q1 : Sq b1 s.heap l1 xs) (q2 : Sq b2 s.heap l2 ys) (q3 : Sq b3 s.heap l3 zs)
    (hend : xs[k]? = none ∨ ys[k]? = none ∨ zs[k]? = none)
    (hE : ∀ h' e, Kp z TO i1 i2 i3 s.heap h' → (∃ o, h'.get? e = some o ∧ o.cls = .type "StopIteration") → E (.ref e) { s with heap := h' }) :
    wpAny (model prog w) A (Builtin.«zip.__next__» ⟨[.ref z], []⟩) Q E s := by
  obtain ⟨⟨ti1, ti2, ti3, ti4, ti5⟩, ⟨to1, to2, to3, to4⟩, ⟨iz1, iz2, iz3⟩, ⟨ii1, ii2, ii3⟩, ⟨x1, x2, x3, x4, x5⟩, ⟨y1, y2, y3, y4, y5⟩, ⟨w1, w2, w3, w4, w5⟩⟩ := D
  show wpAny _ _ (field (.ref z) 2 >>= _) _ _ _
  refine wpAny_bind (wpAny_field hz rfl (x := .bool false) rfl ?_)
  show wpAny _ _ (field (.ref z) 3 >>= _) _ _ _
  refine wpAny_bind (wpAny_field hz rfl (x := .ref TI) rfl ?_)
  refine wpAny_bind (wpAny_seqItems hTI rfl ?_)
  show wpAny _ _ (Builtin.SmallTypes.ownedTupleIsFree (.ref z) >>= _) _ _ _
  refine wpAny_bind ?_
  unfold Builtin.SmallTypes.ownedTupleIsFree
  refine wpAny_bind (wpAny_field hz rfl (x := .none) rfl (wpAny_pure ?_))
  simp only [if_true]
  refine wpAny_bind (wpAny_rule ?_)
  refine wpAny_bind (wpAny_field hz rfl (x := .ref TO) rfl ?_)
  refine wpAny_bind (wpAny_setField_rec hz (by simp) fun h₁ hz₁ hs₁ => ?_)
  replace hz₁ : IsZip h₁ z TI TO .ellipsis := hz₁
  refine wpAny_bind ?_
  simp only [List.zipIdx_cons, List.zipIdx_nil, List.forIn_cons, List.forIn_nil]
  have e1 := hs₁.extBut
  have hTO₁ : IsTrip h₁ TO a b c := e1 _ _ to1 hTO
  refine wpAny_bind (wpAny_bind (wpAny_onRaise ?_))
  show wpAny _ _ (Builtin.SmallTypes.nextOf (.ref i1) >>= _) _ _ _
  cases hx : xs[k]? with
  | none =>
    refine wpAny_bind (next_end hh (h1.ext e1 iz1) (q1.ext e1 x1) hx fun h₂ e e2 he => ?_)
    obtain ⟨oe, hoe, hce⟩ := he
    have hz₂ : IsZip h₂ z TI TO .ellipsis := e2 _ _ iz1.symm hz₁
    have hez : e ≠ z := fun x => by subst x; rw [hz₂] at hoe; cases hoe; simp at hce
    refine wpAny_setField_rec hz₂ (by simp) fun h₃ _ hs₃ => hE h₃ e (fun c o c1 _ c3 _ _ x => hs₃.extBut _ _ c1 (e2 _ _ c3 (e1 _ _ c1 x))) ⟨oe, hs₃.extBut _ _ hez hoe, hce⟩
  | some x =>
    refine wpAny_bind (next_item (h1.ext e1 iz1) (q1.ext e1 x1) hx fun h₂ n1 hs₂ => wpAny_pure ?_)
    have e2 := hs₂.extBut
    have hTO₂ : IsTrip h₂ TO a b c := e2 _ _ to2 hTO₁
    refine wpAny_bind (wpAny_seqItems hTO₂ rfl ?_)
    refine wpAny_bind (updateSeq_trip hTO₂ fun h₃ hTO₃ hs₃ => ?_)
    have e3 := hs₃.extBut
    replace hTO₃ : IsTrip h₃ TO x b c := hTO₃
    refine wpAny_bind (wpAny_letGo (wpAny_pure ?_))
    refine wpAny_bind (wpAny_bind (wpAny_onRaise ?_))
    show wpAny _ _ (Builtin.SmallTypes.nextOf (.ref i2) >>= _) _ _ _
    have hz₃ : IsZip h₃ z TI TO .ellipsis := e3 _ _ to1.symm (e2 _ _ iz1.symm hz₁)
    have g2 := ((h2.ext e1 iz2).ext e2 ii1.symm).ext e3 to3.symm
    have r2 := ((q2.ext e1 y1).ext e2 y3).ext e3 y2
    cases hy : ys[k]? with
    | none =>
      refine wpAny_bind (next_end hh g2 r2 hy fun h₄ e e4 he => ?_)
      obtain ⟨oe, hoe, hce⟩ := he
      have hz₄ : IsZip h₄ z TI TO .ellipsis := e4 _ _ iz2.symm hz₃
      have hez : e ≠ z := fun x => by subst x; rw [hz₄] at hoe; cases hoe; simp at hce
      refine wpAny_setField_rec hz₄ (by simp) fun h₅ _ hs₅ => hE h₅ e (fun c o c1 c2 c3 c4 _ x => hs₅.extBut _ _ c1 (e4 _ _ c4 (e3 _ _ c2 (e2 _ _ c3 (e1 _ _ c1 x))))) ⟨oe, hs₅.extBut _ _ hez hoe, hce⟩
    | some y =>
      have hu : zs[k]? = none := by
        rcases hend with h | h | h
        · rw [hx] at h; cases h
        · rw [hy] at h; cases h
        · exact h
      refine wpAny_bind (next_item g2 r2 hy fun h₄ n2 hs₄ => wpAny_pure ?_)
      have e4 := hs₄.extBut
      have hTO₄ : IsTrip h₄ TO x b c := e4 _ _ to3 hTO₃
      refine wpAny_bind (wpAny_seqItems hTO₄ rfl ?_)
      refine wpAny_bind (updateSeq_trip hTO₄ fun h₅ hTO₅ hs₅ => ?_)
      have e5 := hs₅.extBut
      replace hTO₅ : IsTrip h₅ TO x y c := hTO₅
      refine wpAny_bind (wpAny_letGo (wpAny_pure ?_))
      refine wpAny_bind (wpAny_bind (wpAny_onRaise ?_))
      show wpAny _ _ (Builtin.SmallTypes.nextOf (.ref i3) >>= _) _ _ _
      refine wpAny_bind (next_end hh (((((h3.ext e1 iz3).ext e2 ii2.symm).ext e3 to4.symm).ext e4 ii3.symm).ext e5 to4.symm) (((((q3.ext e1 w1).ext e2 w3).ext e3 w2).ext e4 w4).ext e5 w2) hu fun h₆ e e6 he => ?_)
      obtain ⟨oe, hoe, hce⟩ := he
      have hz₆ : IsZip h₆ z TI TO .ellipsis := e6 _ _ iz3.symm (e5 _ _ to1.symm (e4 _ _ iz2.symm hz₃))
      have hez : e ≠ z := fun x => by subst x; rw [hz₆] at hoe; cases hoe; simp at hce
      refine wpAny_setField_rec hz₆ (by simp) fun h₇ _ hs₇ => hE h₇ e (fun c o c1 c2 c3 c4 c5 x => hs₇.extBut _ _ c1 (e6 _ _ c5 (e5 _ _ c2 (e4 _ _ c4 (e3 _ _ c2 (e2 _ _ c3 (e1 _ _ c1 x))))))) ⟨oe, hs₇.extBut _ _ hez hoe, hce⟩

theorem pyNext_item {x y u : Value} {Q : Option Value → Shared → Prop} (D : Ap z TI TO i1 i2 i3 l1 l2 l3)
    (hz : IsZip s.heap z TI TO .none) (hTI : IsTrip s.heap TI (.ref i1) (.ref i2) (.ref i3)) (hTO : IsTrip s.heap TO a b c)
    (h1 : It b1 s.heap i1 l1 k) (h2 : It b2 s.heap i2 l2 k) (h3 : It b3 s.heap i3 l3 k) (q1 : Sq b1 s.heap l1 xs) (q2 : Sq b2 s.heap l2 ys) (q3 : Sq b3 s.heap l3 zs)
    (hx : xs[k]? = some x) (hy : ys[k]? = some y) (hu : zs[k]? = some u)
    (hQ : ∀ h', IsZip h' z TI TO (rawInt s.heap.objs.size) → IsTrip h' TO x y u → It b1 h' i1 l1 (k + 1) → It b2 h' i2 l2 (k + 1) → It b3 h' i3 l3 (k + 1) → IsTrip h' s.heap.objs.size x y u → h'.objs.size = s.heap.objs.size + 1 →
      Kp z TO i1 i2 i3 s.heap h' → Q (some (.ref s.heap.objs.size)) { s with heap := h' }) :
    wpAny (model prog w) A (pyNext (.ref z)) Q E s := by
  have hT : s.TypeIs (.ref z) "zip" := ⟨_, hz, rfl⟩
  unfold pyNext
  exact wpAny_bind (wpAny_attempt (wpAny_callSpecial?_slot (name := Str.ofString "__next__") hT F.slot_zip_next
    (wpAny_call_entry F.slot_zip_next hT F.entry_zip_next
      (zip_item D hz hTI hTO h1 h2 h3 q1 q2 q3 hx hy hu fun h' a1 a2 a3 a4 a5 a6 a7 a8 => wpAny_pure (hQ h' a1 a2 a3 a4 a5 a6 a7 a8)) (F.args_zip_next_1 _))))
theorem pyNext_end {Q : Option Value → Shared → Prop} (hh : A.handled = none) (D : Ap z TI TO i1 i2 i3 l1 l2 l3)
    (hz : IsZip s.heap z TI TO .none) (hTI : IsTrip s.heap TI (.ref i1) (.ref i2) (.ref i3)) (hTO : IsTrip s.heap TO a b c)
    (h1 : It b1 s.heap i1 l1 k) (h2 : It b2 s.heap i2 l2 k) (h3 : It b3 s.heap i3 l3 k) (q1 : Sq b1 s.heap l1 xs) (q2 : Sq b2 s.heap l2 ys) (q3 : Sq b3 s.heap l3 zs)
    (hend : xs[k]? = none ∨ ys[k]? = none ∨ zs[k]? = none)
    (hQ : ∀ h', Kp z TO i1 i2 i3 s.heap h' → Q none { s with heap := h' }) : wpAny (model prog w) A (pyNext (.ref z)) Q E s := by
  have hT : s.TypeIs (.ref z) "zip" := ⟨_, hz, rfl⟩
  unfold pyNext
  refine wpAny_bind (wpAny_attempt (wpAny_callSpecial?_slot (name := Str.ofString "__next__") hT F.slot_zip_next
    (wpAny_call_entry F.slot_zip_next hT F.entry_zip_next (zip_end hh D hz hTI hTO h1 h2 h3 q1 q2 q3 hend fun h' e hk he => ?_) (F.args_zip_next_1 _))))
  obtain ⟨o, ho, hc⟩ := he
  refine wpAny_bind (wpAny_isInstance (T := "StopIteration") (b := true) ⟨o, ho, hc⟩ isSubtype_stop ?_)
  exact wpAny_pure (hQ _ hk)
end
end L2.Jk.Z3

set_option Elab.async false
set_option linter.all false
set_option maxRecDepth 100000
set_option maxHeartbeats 4000000
/-! zip(a, b, c): made, walked. -/
namespace L2.Jk.Z3
open PySem PySem.W PySem.Spec PySem.Calls PyProof.Rows L2 L2.Jk
theorem typeCall_zip_3 (a b c : Value) : checkTypeCall "zip" ⟨[a, b, c], []⟩ = pure () := by kernel_rfl
theorem newCall_zip_3 (a b c : Value) : checkBuiltinCall "zip.__new__" ⟨[.type "zip", a, b, c], []⟩ = pure () := by kernel_rfl
theorem args_object_init_4 (a b c d : Value) : argsOk "object.__init__" ⟨[a, b, c, d], []⟩ := by
  unfold argsOk; rw [signature?_of (id := "object.__init__") (n := ['_', '_', 't', 'i', 'n', 'i', '_', '_']) (o := ['t', 'c', 'e', 'j', 'b', 'o']) (by kernel_rfl) PySem.F.owner_object]; kernel_rfl
def itO (b : Bool) (l : Addr) : Obj := match b with
  | true => { cls := .type "list_iterator", data := .fields #[.ref l, .int 0 0] }
  | false => { cls := .type "tuple_iterator", data := .fields #[.ref l, .int 0 0] }
theorem it_new {b : Bool} {h : Heap} {a l : Addr} (e : h.get? a = some (itO b l)) : It b h a l 0 := by
  cases b <;> exact ⟨_, e, rfl, rfl⟩
section
variable {prog : Program} {w : World} {A : Around} {E : Value → Shared → Prop} {s : Shared}
theorem pyIter_sq {b : Bool} {l : Addr} {xs : Array Value} {Q : Value → Shared → Prop} (hl : Sq b s.heap l xs) (hQ : Q (.ref s.heap.objs.size) { s with heap := s.heap.push (itO b l) }) : wpAny (model prog w) A (pyIter (.ref l)) Q E s := by
  cases b
  · exact wpAny_pyIter_tuple hl hQ
  · exact wpAny_pyIter_list hl hQ
abbrev g1 (h : Heap) (b1 : Bool) (l1 : Addr) : Heap := h.push (itO b1 l1)
abbrev g2 (h : Heap) (b1 b2 : Bool) (l1 l2 : Addr) : Heap := (g1 h b1 l1).push (itO b2 l2)
abbrev g3 (h : Heap) (b1 b2 b3 : Bool) (l1 l2 l3 : Addr) : Heap := (g2 h b1 b2 l1 l2).push (itO b3 l3)
abbrev g4 (h : Heap) (b1 b2 b3 : Bool) (l1 l2 l3 : Addr) : Heap := (g3 h b1 b2 b3 l1 l2 l3).push { cls := .type "tuple", data := .seq #[.ref h.objs.size, .ref (g1 h b1 l1).objs.size, .ref (g2 h b1 b2 l1 l2).objs.size] }
abbrev g5 (h : Heap) (b1 b2 b3 : Bool) (l1 l2 l3 : Addr) : Heap := (g4 h b1 b2 b3 l1 l2 l3).push { cls := .type "tuple", data := .seq #[.none, .none, .none] }
abbrev g6 (h : Heap) (b1 b2 b3 : Bool) (l1 l2 l3 : Addr) : Heap := (g5 h b1 b2 b3 l1 l2 l3).push { cls := .type "zip", data := .fields #[.none, .bool false, .bool false, .ref (g3 h b1 b2 b3 l1 l2 l3).objs.size, .ref (g4 h b1 b2 b3 l1 l2 l3).objs.size] }
theorem Sq.push {b : Bool} {h : Heap} {a : Addr} {xs : Array Value} (x : Sq b h a xs) (o : Obj) : Sq b (h.push o) a xs := x.at fun _ e => Heap.get?_push_of_some _ e
theorem meets_zip3_new (b1 b2 b3 : Bool) (l1 l2 l3 : Addr) (xs ys zs : Array Value) :
    Meets (Builtin.«zip.__new__» ⟨[.type "zip", .ref l1, .ref l2, .ref l3], []⟩) (fun _ R s => Sq b1 s.heap l1 xs ∧ Sq b2 s.heap l2 ys ∧ Sq b3 s.heap l3 zs ∧
      R (.ok (.ret (.ref (g5 s.heap b1 b2 b3 l1 l2 l3).objs.size))) { s with heap := g6 s.heap b1 b2 b3 l1 l2 l3 }) :=
  .of_wp fun prog w A R s h => by
    obtain ⟨hp, g, d, tk, os⟩ := s; obtain ⟨hl1, hl2, hl3, h⟩ := h
    have hsub := sub_zip
    have hL1 : Sq b1 (Shared.heap ⟨hp, g, d, tk, os⟩) l1 xs := hl1
    have hL2 : Sq b2 (Shared.heap ⟨hp.push (itO b1 l1), g, d, tk, os⟩) l2 ys := Sq.push hl2 _
    have hL3 : Sq b3 (Shared.heap ⟨(hp.push (itO b1 l1)).push (itO b2 l2), g, d, tk, os⟩) l3 zs := Sq.push (Sq.push hl3 _) _
    wp_walk using pyIter_sq hL1, pyIter_sq hL2, pyIter_sq hL3
    exact ⟨_, rfl, h⟩
theorem call_zip3 {b1 b2 b3 : Bool} {l1 l2 l3 : Addr} {xs ys zs : Array Value} {Q : Value → Shared → Prop} (hl1 : Sq b1 s.heap l1 xs) (hl2 : Sq b2 s.heap l2 ys) (hl3 : Sq b3 s.heap l3 zs)
    (h : ∀ h', IsZip h' (s.heap.objs.size + 5) (s.heap.objs.size + 3) (s.heap.objs.size + 4) .none → IsTrip h' (s.heap.objs.size + 3) (.ref s.heap.objs.size) (.ref (s.heap.objs.size + 1)) (.ref (s.heap.objs.size + 2)) →
      IsTrip h' (s.heap.objs.size + 4) .none .none .none → It b1 h' s.heap.objs.size l1 0 → It b2 h' (s.heap.objs.size + 1) l2 0 → It b3 h' (s.heap.objs.size + 2) l3 0 → h'.objs.size = s.heap.objs.size + 6 →
      (∀ c o, s.heap.get? c = some o → h'.get? c = some o) → Q (.ref (s.heap.objs.size + 5)) { s with heap := h' }) :
    wpAny (model prog w) A (call (.type "zip") [.ref l1, .ref l2, .ref l3]) Q E s := by
  refine callType_new PySem.F.called_zip (by decide) (typeCall_zip_3 _ _ _) (newCall_zip_3 _ _ _) (fun obj => args_object_init_4 obj _ _ _) PySem.F.entry_zip_new
    (meets_zip3_new b1 b2 b3 l1 l2 l3 xs ys zs) ⟨hl1, hl2, hl3, ?_⟩
  have z1 : (g1 s.heap b1 l1).objs.size = s.heap.objs.size + 1 := Heap.size_push ..
  have z2 : (g2 s.heap b1 b2 l1 l2).objs.size = s.heap.objs.size + 2 := by rw [Heap.size_push, z1]
  have z3 : (g3 s.heap b1 b2 b3 l1 l2 l3).objs.size = s.heap.objs.size + 3 := by rw [Heap.size_push, z2]
  have z4 : (g4 s.heap b1 b2 b3 l1 l2 l3).objs.size = s.heap.objs.size + 4 := by rw [Heap.size_push, z3]
  have z5 : (g5 s.heap b1 b2 b3 l1 l2 l3).objs.size = s.heap.objs.size + 5 := by rw [Heap.size_push, z4]
  have z6 : (g6 s.heap b1 b2 b3 l1 l2 l3).objs.size = s.heap.objs.size + 6 := by rw [Heap.size_push, z5]
  have p {h : Heap} {a : Addr} {o : Obj} (q : Obj) : h.get? a = some o → (h.push q).get? a = some o := Heap.get?_push_of_some _
  have e6 : (g6 s.heap b1 b2 b3 l1 l2 l3).get? (g5 s.heap b1 b2 b3 l1 l2 l3).objs.size = some _ := Heap.get?_push_size _ rfl
  have e5 : (g6 s.heap b1 b2 b3 l1 l2 l3).get? (g4 s.heap b1 b2 b3 l1 l2 l3).objs.size = some _ := p _ (Heap.get?_push_size _ rfl)
  have e4 : (g6 s.heap b1 b2 b3 l1 l2 l3).get? (g3 s.heap b1 b2 b3 l1 l2 l3).objs.size = some _ := p _ (p _ (Heap.get?_push_size _ rfl))
  have nf : ∀ b l, (itO b l).isFreed = false := fun b l => by cases b <;> rfl
  have e3 : (g6 s.heap b1 b2 b3 l1 l2 l3).get? (g2 s.heap b1 b2 l1 l2).objs.size = some (itO b3 l3) := p _ (p _ (p _ (Heap.get?_push_size _ (nf _ _))))
  have e2 : (g6 s.heap b1 b2 b3 l1 l2 l3).get? (g1 s.heap b1 l1).objs.size = some (itO b2 l2) := p _ (p _ (p _ (p _ (Heap.get?_push_size _ (nf _ _)))))
  have e1 : (g6 s.heap b1 b2 b3 l1 l2 l3).get? s.heap.objs.size = some (itO b1 l1) := p _ (p _ (p _ (p _ (p _ (Heap.get?_push_size _ (nf _ _))))))
  show _ ∧ _
  rw [z3, z4, z5] at e6
  rw [z1, z2, z3] at e4
  rw [z4] at e5
  rw [z2] at e3
  rw [z1] at e2
  rw [z5]
  exact ⟨⟨_, e6, rfl⟩, h _ e6 e4 e5 (it_new e1) (it_new e2) (it_new e3) z6 fun c o x => p _ (p _ (p _ (p _ (p _ (p _ x)))))⟩
end
theorem ap_new (I l1 l2 l3 : Nat) (h1 : l1 < I) (h2 : l2 < I) (h3 : l3 < I) : Ap (I + 5) (I + 3) (I + 4) I (I + 1) (I + 2) l1 l2 l3 := by
  have ne : ∀ {a b : Nat}, (a < b ∨ b < a) → a ≠ b := fun h e => by omega
  exact ⟨⟨ne (by omega), ne (by omega), ne (by omega), ne (by omega), ne (by omega)⟩, ⟨ne (by omega), ne (by omega), ne (by omega), ne (by omega)⟩, ⟨ne (by omega), ne (by omega), ne (by omega)⟩, ⟨ne (by omega), ne (by omega), ne (by omega)⟩,
    ⟨ne (by omega), ne (by omega), ne (by omega), ne (by omega), ne (by omega)⟩, ⟨ne (by omega), ne (by omega), ne (by omega), ne (by omega), ne (by omega)⟩, ⟨ne (by omega), ne (by omega), ne (by omega), ne (by omega), ne (by omega)⟩⟩

/-! ### over the hand layer's heap -/
def SqB : Bool → Frag → Hp → Addr → List V → Prop
  | true, K, H, a, xs => SqL K H a xs
  | false, K, H, a, xs => SqT K H a xs
theorem seqT_same {K : Frag} {H H' : Hp} {a : Addr} {xs : List V} (S : Same H H') (h : SqT K H a xs) : SqT K H' a xs := by
  rcases h with (h | ⟨o, h⟩) | h
  · exact .inl (.inl (S _ _ h))
  · exact .inl (.inr ⟨o, S _ _ h⟩)
  · exact .inr h
theorem SqB.same {b : Bool} {K : Frag} {H H' : Hp} {a : Addr} {xs : List V} (S : Same H H') (h : SqB b K H a xs) : SqB b K H' a xs := by
  cases b
  · exact seqT_same S h
  · exact Same.seq S h
section
variable {X : Cx} {pins : List (Addr × Obj)} {σ : St} {H : Hp} {s : Shared}
theorem inv_seq {b : Bool} {a : Addr} {xs : List V} (I : Inv X pins σ H s) (h : SqB b X.K H a xs) : ∃ its : List Value, Vals xs its ∧ Sq b s.heap a its.toArray := by
  cases b
  · obtain ⟨its, rv, p, _⟩ := I.tuple h
    exact ⟨its, rv, p⟩
  · obtain ⟨its, rv, p, _⟩ := I.list h
    exact ⟨its, rv, p.isList⟩
theorem inv_inj {b : Bool} {a : Addr} {xs ys : List V} (I : Inv X pins σ H s) (h : SqB b X.K H a xs) (h2 : SqB b X.K H a ys) : xs = ys := by
  cases b
  · exact I.tuple_inj h h2
  · exact I.list_inj h h2
end
def Itz3 (K : Frag) (b1 b2 b3 : Bool) (a1 a2 a3 : Addr) : L2.It :=
  ⟨fun i H => ∃ (xs ys zs : List V) (x y u : V), SqB b1 K H a1 xs ∧ SqB b2 K H a2 ys ∧ SqB b3 K H a3 zs ∧ xs[i]? = some x ∧ ys[i]? = some y ∧ zs[i]? = some u,
    fun i H v H' => ∃ T x y u, v = .ref T ∧ H T = none ∧ H' = upd H T (.tup [x, y, u]) ∧ (∀ xs, SqB b1 K H a1 xs → xs[i]? = some x) ∧ (∀ ys, SqB b2 K H a2 ys → ys[i]? = some y) ∧ ∀ zs, SqB b3 K H a3 zs → zs[i]? = some u,
    fun i H => ∃ xs ys zs : List V, SqB b1 K H a1 xs ∧ SqB b2 K H a2 ys ∧ SqB b3 K H a3 zs ∧ (xs.length ≤ i ∨ ys.length ≤ i ∨ zs.length ≤ i)⟩
theorem turn_zip3 {P : Program} {w : World} {K : Frag} {elts : List Expr} {kk : Nat} {tpos : Pos} {b1 b2 b3 : Bool} {a1 a2 a3 z TI TO i1 i2 i3 : Addr} (D : Ap z TI TO i1 i2 i3 a1 a2 a3) :
    Turn P w K (.Tuple elts kk tpos) (Itz3 K b1 b2 b3 a1 a2 a3) [z, TI, TO, i1, i2, i3] z (fun i h => IsZip h z TI TO .none ∧ IsTrip h TI (.ref i1) (.ref i2) (.ref i3) ∧ (∃ x y u, IsTrip h TO x y u) ∧ It b1 h i1 a1 i ∧ It b2 h i2 a2 i ∧ It b3 h i3 a3 i) where
  mem := by simp
  obj := fun i h st c hc => by
    obtain ⟨hz, hTI, ⟨x, y, u, hTO⟩, h1, h2, h3⟩ := st
    have e' : c = z ∨ c = TI ∨ c = TO ∨ c = i1 ∨ c = i2 ∨ c = i3 := by simpa using hc
    rcases e' with q | q | q | q | q | q
    · rw [q]; exact ⟨_, hz, fun v q => nomatch q⟩
    · rw [q]; exact ⟨_, hTI, fun v q => nomatch q⟩
    · rw [q]; exact ⟨_, hTO, fun v q => nomatch q⟩
    · rw [q]; exact h1.obj
    · rw [q]; exact h2.obj
    · rw [q]; exact h3.obj
  keep := fun i h h' st k => by
    obtain ⟨hz, hTI, ⟨x, y, u, hTO⟩, h1, h2, h3⟩ := st
    exact ⟨k z (by simp) _ hz, k TI (by simp) _ hTI, ⟨x, y, u, k TO (by simp) _ hTO⟩, h1.at fun o q => k i1 (by simp) o q, h2.at fun o q => k i2 (by simp) o q, h3.at fun o q => k i3 (by simp) o q⟩
  item := by
    intro X hP hw hK hc i pins s σ H E I hf st hg
    subst hP hw hK
    obtain ⟨hz, hTI, ⟨x0, y0, u0, hTO⟩, h1, h2, h3⟩ := st
    obtain ⟨xs, ys, zs, x, y, u, hqx, hqy, hqz, hx, hy, hu⟩ := hg
    obtain ⟨its, rv, p⟩ := inv_seq I hqx
    obtain ⟨its2, rv2, p2⟩ := inv_seq I hqy
    obtain ⟨its3, rv3, p3⟩ := inv_seq I hqz
    obtain ⟨v1, hv1, r1⟩ := rv.get hx
    obtain ⟨v2, hv2, r2⟩ := rv2.get hy
    obtain ⟨v3, hv3, r3⟩ := rv3.get hu
    have hzl : z < s.heap.objs.size := Heap.lt_size hz
    refine pyNext_item D hz hTI hTO h1 h2 h3 p p2 p3 (x := v1) (y := v2) (u := v3) (by simpa using hv1) (by simpa using hv2) (by simpa using hv3) fun h' z' TO' h1' h2' h3' hT hsz hk => ?_
    refine ⟨_, rfl, wpAny_letOwnedTupleGo_zip (s := { s with heap := h' }) z' fun h'' z'' sb => ?_⟩
    have hT2 : h''.get? s.heap.objs.size = some { cls := .type "tuple", data := .seq #[v1, v2, v3] } := (sb.2 _ (Nat.ne_of_gt hzl)).trans hT
    have new : ObjOk X.prog X.w (upd H s.heap.objs.size (.tup [x, y, u])) h'' s.heap.objs.size (.tup [x, y, u]) :=
      ⟨by show 3 ≤ sizeLine; decide, [v1, v2, v3], .cons r1 (.cons r2 (.cons r3 .nil)), ⟨_, hT2, rfl, _, rfl⟩⟩
    have I1 : Inv X pins σ (upd H s.heap.objs.size (.tup [x, y, u])) { s with heap := h'' } :=
      I.turnedNew (t' := s.toks) (ch := [z, TI, TO, i1, i2, i3]) (fun c o hb q => (sb.2 c (fun q' => hb (by simp [q']))).trans (hk c o (fun q' => hb (by simp [q'])) (fun q' => hb (by simp [q'])) (fun q' => hb (by simp [q'])) (fun q' => hb (by simp [q'])) (fun q' => hb (by simp [q'])) q)) hf (Nat.le_refl _) new
    obtain ⟨⟨ti1, ti2, ti3, ti4, ti5⟩, ⟨to1, to2, to3, to4⟩, ⟨iz1, iz2, iz3⟩, _⟩ := D
    refine ⟨.ref s.heap.objs.size, _, I1, rfl, ⟨_, x, y, u, rfl, I.hok.fresh (Nat.le_refl _), rfl, fun l hl => by rw [inv_inj I hl hqx]; exact hx, fun l hl => by rw [inv_inj I hl hqy]; exact hy, fun l hl => by rw [inv_inj I hl hqz]; exact hu⟩, ⟨z'', ?_, ⟨v1, v2, v3, ?_⟩, ?_, ?_, ?_⟩, fun c hcm => ?_⟩
    · exact (sb.2 _ ti1).trans (hk _ _ ti1 ti2 ti3 ti4 ti5 hTI)
    · exact (sb.2 _ to1).trans TO'
    · exact h1'.at fun o q => (sb.2 _ iz1).trans q
    · exact h2'.at fun o q => (sb.2 _ iz2).trans q
    · exact h3'.at fun o q => (sb.2 _ iz3).trans q
    · have hlt : c < s.heap.objs.size := by
        have e' : c = z ∨ c = TI ∨ c = TO ∨ c = i1 ∨ c = i2 ∨ c = i3 := by simpa using hcm
        rcases e' with q | q | q | q | q | q
        · rw [q]; exact hzl
        · rw [q]; exact Heap.lt_size hTI
        · rw [q]; exact Heap.lt_size hTO
        · rw [q]; exact h1.lt
        · rw [q]; exact h2.lt
        · rw [q]; exact h3.lt
      rw [upd_ne (Nat.ne_of_lt hlt)]
      exact (hf c hcm).1
  done := by
    intro X hP hw hK hc i pins s σ H E I hf st hg
    subst hP hw hK
    obtain ⟨hz, hTI, ⟨x0, y0, u0, hTO⟩, h1, h2, h3⟩ := st
    obtain ⟨xs, ys, zs, hqx, hqy, hqz, hend⟩ := hg
    obtain ⟨its, rv, p⟩ := inv_seq I hqx
    obtain ⟨its2, rv2, p2⟩ := inv_seq I hqy
    obtain ⟨its3, rv3, p3⟩ := inv_seq I hqz
    have l1 := rv.length
    have l2 := rv2.length
    have l3 := rv3.length
    have he : its.toArray[i]? = none ∨ its2.toArray[i]? = none ∨ its3.toArray[i]? = none := by
      rcases hend with q | q | q
      · exact .inl (by simp; omega)
      · exact .inr (.inl (by simp; omega))
      · exact .inr (.inr (by simp; omega))
    exact pyNext_end (I.ok.hd hc) D hz hTI hTO h1 h2 h3 p p2 p3 he fun h' hk => ⟨rfl, I.turnedL (t' := s.toks) (ch := [z, TI, TO, i1, i2, i3]) (fun c o hb q =>
      hk c o (fun q' => hb (by simp [q'])) (fun q' => hb (by simp [q'])) (fun q' => hb (by simp [q'])) (fun q' => hb (by simp [q'])) (fun q' => hb (by simp [q'])) q) hf⟩
  self := fun A i s Q E st h => wpAny_pyIter_zip st.1 h
def iZip3 (K : Frag) (ta : TA) : TI := fun σ H R => ta σ H fun vs H1 => ∃ a1 a2 a3 b1 b2 b3 xs ys zs, vs = [.ref a1, .ref a2, .ref a3] ∧ SqB b1 K H1 a1 xs ∧ SqB b2 K H1 a2 ys ∧ SqB b3 K H1 a3 zs ∧ R (Itz3 K b1 b2 b3 a1 a2 a3) H1
theorem pi_zip3 {X : Cx} {e e2 e3 : Expr} {ta : TA} {p pos tpos : Pos} {elts : List Expr} {kk : Nat} (hg : Gl X "zip") (hm : X.mg "zip" = none) (ha : PA X [e, e2, e3] ta)
    (hs : starEach [e, e2, e3] X.env = (false, eval e X.env) :: starEach [e2, e3] X.env := by rfl) (hpl : (backTo pos (starEach [e2, e3] X.env)).any (·.1) = false := by rfl) :
    PI X (.Tuple elts kk tpos) (.Call (.Name "zip" p) [e, e2, e3] [] pos) (iZip3 X.K ta) := by
  refine ⟨fun pins s σ H R I h => ?_⟩
  refine Call_ (ld_blt I hg hm PyProof.Rows.boot_zip (PyProof.Rows.callWith_type1 (thn (ha.run pos pins s σ H _ I h) fun us s1 ⟨vs, H1, I1, r1, q1⟩ => ?_) hs hpl))
  obtain ⟨a1, a2, a3, b1, b2, b3, xs, ys, zs, ex, hqx, hqy, hqz, q⟩ := q1
  subst ex
  cases r1 with
  | cons r rr =>
    cases rr with
    | cons r' rr =>
      cases rr with
      | cons r'' rr =>
        cases rr
        cases r
        cases r'
        cases r''
        have fresh6 : ∀ c, c ∈ [s1.heap.objs.size + 5, s1.heap.objs.size + 3, s1.heap.objs.size + 4, s1.heap.objs.size, s1.heap.objs.size + 1, s1.heap.objs.size + 2] → FpOk X pins H1 c := fun c hcm => by
          have e' : c = s1.heap.objs.size + 5 ∨ c = s1.heap.objs.size + 3 ∨ c = s1.heap.objs.size + 4 ∨ c = s1.heap.objs.size ∨ c = s1.heap.objs.size + 1 ∨ c = s1.heap.objs.size + 2 := by simpa using hcm
          have hle : s1.heap.objs.size ≤ c := by
            rcases e' with z | z | z | z | z | z
            · rw [z]; exact Nat.le_add_right _ _
            · rw [z]; exact Nat.le_add_right _ _
            · rw [z]; exact Nat.le_add_right _ _
            · rw [z]; exact Nat.le_refl _
            · rw [z]; exact Nat.le_add_right _ _
            · rw [z]; exact Nat.le_add_right _ _
          exact I1.fpOk hle (I1.hok.fresh hle)
        obtain ⟨its, rv, p1⟩ := inv_seq I1 hqx
        obtain ⟨its2, rv2, p2⟩ := inv_seq I1 hqy
        obtain ⟨its3, rv3, p3⟩ := inv_seq I1 hqz
        refine call_zip3 p1 p2 p3 fun h' hz hTI hTO h1 h2 h3 hsz hk => wpAny_pyIter_zip hz ?_
        have I2 : Inv X pins σ H1 { s1 with heap := h' } := I1.kept (t' := s1.toks) hk
        exact ⟨s1.heap.objs.size + 5, [s1.heap.objs.size + 5, s1.heap.objs.size + 3, s1.heap.objs.size + 4, s1.heap.objs.size, s1.heap.objs.size + 1, s1.heap.objs.size + 2], _, _, H1, rfl, I2,
          turn_zip3 (ap_new s1.heap.objs.size a1 a2 a3 p1.lt p2.lt p3.lt), ⟨hz, hTI, ⟨_, _, _, hTO⟩, h1, h2, h3⟩, fresh6, q⟩
/-- a comprehension over it -/
theorem lc_zip3 {K : Frag} {b1 b2 b3 : Bool} {a1 a2 a3 : Addr} {xs ys zs : List V} {g : TG} {tt : TT} {te : TE} {vs : List Nat} {σ : St} {H1 : Hp} {D : Addr} {Qd : Hp → Prop} (hl : xs.length = ys.length) (hl2 : xs.length = zs.length) (Pv : Nat → Hp → Prop)
    (h0 : Pv 0 (upd H1 D (.lst []))) (hq : ∀ i H, Pv i H → SqB b1 K H a1 xs ∧ SqB b2 K H a2 ys ∧ SqB b3 K H a3 zs)
    (hs : ∀ (i : Nat) (x y u : V) (T : Addr) (H : Hp), xs[i]? = some x → ys[i]? = some y → zs[i]? = some u → Pv i H → H T = none → g (.ref T) (wipe σ vs) (upd H T (.tup [x, y, u])) fun σ2 H2 => wipe σ2 vs = wipe σ vs ∧ tt σ2 H2 fun b H3 =>
      if b = true then te σ2 H3 fun y H4 => ∃ acc, H4 D = some (.lst acc) ∧ acc.length < sizeLine ∧ Pv (i + 1) (upd H4 D (.lst (acc ++ [y]))) else Pv (i + 1) H3) (hd : ∀ H, Pv xs.length H → Qd H) :
    ∃ W : Nat → Nat → Hp → Prop, (∃ m, W 0 m (upd H1 D (.lst []))) ∧ ∀ i m H, W i m H →
      ((Itz3 K b1 b2 b3 a1 a2 a3).stop i H ∧ Qd H) ∨ ((Itz3 K b1 b2 b3 a1 a2 a3).go i H ∧ ∃ Nx : Hp → Prop, (∀ H', Nx H' → ∃ m', m' < m ∧ W (i + 1) m' H') ∧ ∀ y H', (Itz3 K b1 b2 b3 a1 a2 a3).yld i H y H' → g y (wipe σ vs) H' fun σ2 H2 => wipe σ2 vs = wipe σ vs ∧ tt σ2 H2 fun b H3 =>
        if b = true then te σ2 H3 fun y H4 => ∃ acc, H4 D = some (.lst acc) ∧ acc.length < sizeLine ∧ Nx (upd H4 D (.lst (acc ++ [y]))) else Nx H3) := by
  refine ⟨fun i m H => m = xs.length - i ∧ i ≤ xs.length ∧ Pv i H, ⟨xs.length, by simp, Nat.zero_le _, h0⟩, ?_⟩
  rintro i m H ⟨rfl, hi, p⟩
  obtain ⟨s1, s2, s3⟩ := hq i H p
  by_cases hlt : i < xs.length
  · have g1 := List.getElem?_eq_getElem hlt
    have g2 := List.getElem?_eq_getElem (show i < ys.length by omega)
    have g3 := List.getElem?_eq_getElem (show i < zs.length by omega)
    refine .inr ⟨⟨xs, ys, zs, _, _, _, s1, s2, s3, g1, g2, g3⟩, Pv (i + 1), fun H' p' => ⟨xs.length - (i + 1), by omega, rfl, hlt, p'⟩, fun y H' z => ?_⟩
    obtain ⟨T, x, y, u, ev, hT, eH, k1, k2, k3⟩ := z
    subst ev eH
    exact hs i x y u T H (k1 _ s1) (k2 _ s2) (k3 _ s3) p hT
  · have e : i = xs.length := by omega
    subst e
    exact .inl ⟨⟨xs, ys, zs, s1, s2, s3, .inl (Nat.le_refl _)⟩, hd H p⟩
end L2.Jk.Z3

set_option Elab.async false
set_option linter.all false
set_option maxRecDepth 100000
set_option maxHeartbeats 4000000
/-! enumerate(t), t a tuple. -/
namespace L2.Jk
open PySem PySem.W PySem.Spec PySem.Calls PyProof.Rows L2
theorem meets_enumerate_newT (l : Addr) (items : Array Value) :
    Meets (Builtin.«enumerate.__new__» ⟨[.type "enumerate", .ref l], []⟩) (fun _ R s => s.heap.IsTuple l items ∧
      R (.ok (.ret (.ref (s.heap.push { cls := .type "tuple_iterator", data := .fields #[.ref l, .int 0 0] }).objs.size)))
        { s with heap := (s.heap.push { cls := .type "tuple_iterator", data := .fields #[.ref l, .int 0 0] }).push { cls := .type "enumerate", data := .fields #[.none, .bool false, .ref s.heap.objs.size, rawInt 0, .none, .none] } }) :=
  .of_wp fun prog w A R s h => by
    obtain ⟨hp, g, d, tk, os⟩ := s; obtain ⟨hl, h⟩ := h
    have hsub := sub_enumerate
    have hL : Heap.IsTuple (Shared.heap ⟨hp, g, d, tk, os⟩) l items := hl
    wp_walk using wpAny_pyIter_tuple hL
    refine wpAny_stack_any fun st => wpAny_pure ?_
    split
    · rename_i c _ _ _ _ _
      cases (c == Value.type "enumerate")
      · wp_walk using wpAny_pyIter_tuple hL
        exact ⟨_, rfl, h⟩
      · wp_walk using wpAny_pyIter_tuple hL
        exact ⟨_, rfl, h⟩
    · wp_walk using wpAny_pyIter_tuple hL
      exact ⟨_, rfl, h⟩
section
variable {prog : Program} {w : World} {A : Around} {E : Value → Shared → Prop} {s : Shared}
theorem call_enumerate_tuple {l : Addr} {items : Array Value} {Q : Value → Shared → Prop} (hL : s.heap.IsTuple l items)
    (h : ∀ h', IsEnum h' (s.heap.objs.size + 1) s.heap.objs.size 0 .none → h'.IsTupleIter s.heap.objs.size l 0 → h'.objs.size = s.heap.objs.size + 2 →
      (∀ b o, s.heap.get? b = some o → h'.get? b = some o) → Q (.ref (s.heap.objs.size + 1)) { s with heap := h' }) :
    wpAny (model prog w) A (call (.type "enumerate") [.ref l]) Q E s := by
  refine callType_new PySem.F.called_enumerate (by decide) (PySem.F.typeCall_enumerate_1 _) (PySem.F.newCall_enumerate_1 _) (fun obj => PySem.F.args_object_init_2 obj _) PySem.F.entry_enumerate_new
    (meets_enumerate_newT l items) ⟨hL, ?_⟩
  have hz : (s.heap.push { cls := .type "tuple_iterator", data := .fields #[.ref l, .int 0 0] }).objs.size = s.heap.objs.size + 1 := Heap.size_push ..
  show _ ∧ _
  rw [hz]
  have he : IsEnum ((s.heap.push { cls := .type "tuple_iterator", data := .fields #[.ref l, .int 0 0] }).push
      { cls := .type "enumerate", data := .fields #[.none, .bool false, .ref s.heap.objs.size, rawInt 0, .none, .none] }) (s.heap.objs.size + 1) s.heap.objs.size 0 .none := by
    have := Heap.get?_push_size (s.heap.push { cls := .type "tuple_iterator", data := .fields #[.ref l, .int 0 0] })
      (o := { cls := .type "enumerate", data := .fields #[.none, .bool false, .ref s.heap.objs.size, rawInt 0, .none, .none] }) rfl
    rw [hz] at this; exact this
  refine ⟨⟨_, he, rfl⟩, h _ he ⟨_, Heap.get?_push_of_some _ (Heap.get?_push_size _ rfl), rfl, rfl⟩ (by rw [Heap.size_push, hz]) fun b o x => Heap.get?_push_of_some _ (Heap.get?_push_of_some _ x)⟩
end
/-- the tuple at a, each item in a new pair -/
def IteT (K : Frag) (a : Addr) : L2.It :=
  ⟨fun i H => ∃ (xs : List V) (x : V), SqT K H a xs ∧ xs[i]? = some x, fun i H v H' => ∃ T x, v = .ref T ∧ H T = none ∧ H' = upd H T (.tup [.int (i : Nat), x]) ∧ ∀ xs, SqT K H a xs → xs[i]? = some x, fun i H => ∃ xs : List V, SqT K H a xs ∧ xs.length = i⟩
theorem turn_enumT {P : Program} {w : World} {K : Frag} {elts : List Expr} {kk : Nat} {tpos : Pos} (a e it : Addr) (hai : a ≠ it) (hae : e ≠ a) :
    Turn P w K (.Tuple elts kk tpos) (IteT K a) [e, it] e (fun i h => (∃ old, IsEnum h e it ((i : Nat) : Int) old) ∧ h.IsTupleIter it a i ∧ e ≠ it) where
  mem := by simp
  obj := fun i h st b hb => by
    obtain ⟨⟨old, he⟩, ⟨o, ho, hc, hd⟩, _⟩ := st
    have e' : b = e ∨ b = it := by simpa using hb
    rcases e' with z | z
    · rw [z]; exact ⟨_, he, fun v q => nomatch q⟩
    · rw [z]; exact ⟨o, ho, fun v q => by rw [hd] at q; cases q⟩
  keep := fun i h h' st k => let ⟨⟨old, he⟩, hi, hne⟩ := st; ⟨⟨old, k e (by simp) _ he⟩, by
    obtain ⟨o, ho, r⟩ := hi
    exact ⟨o, k it (by simp) o ho, r⟩, hne⟩
  item := by
    intro X hP hw hK hc i pins s σ H E I hf st hg
    subst hP hw hK
    obtain ⟨⟨old, he⟩, hit, hne⟩ := st
    obtain ⟨xs, x, hq, hx⟩ := hg
    obtain ⟨its, rv, p, hz⟩ := I.tuple hq
    obtain ⟨u, hu, ru⟩ := rv.get hx
    have hel : e < s.heap.objs.size := Heap.lt_size he
    have hil : it < s.heap.objs.size := by obtain ⟨_, q, _⟩ := hit; exact Heap.lt_size q
    have D := Draws.tuple (prog := X.prog) (w := X.w) (A := X.A.in1) (I.ok.hd hc) it a hai its.toArray
    have hlen := (List.getElem?_eq_some_iff.mp hu).1
    have nea : ∀ {b : Addr}, b ≠ e → b ≠ it → b ∉ [e, it] := fun h1 h2 z => by
      rcases List.mem_cons.mp z with z | z
      · exact h1 z
      · exact h2 (List.mem_singleton.mp z)
    refine wpAny_pyNext_enum_itemC (i := i) D he ⟨hit, p⟩ (by simpa using hlen) hne (fun z => ?_) fun x2 h' tk hP ho hs' hT hsz hk => ?_
    · rcases List.mem_cons.mp z with z | z
      · exact hne z
      · exact hae (List.mem_singleton.mp z)
    have ex2 : x2 = u := by
      have z : its[i]? = some x2 := by simpa using hP
      rw [hu] at z
      exact (Option.some.inj z).symm
    subst ex2
    refine ⟨_, rfl, wpAny_letOwnedTupleGo_enum (s := { s with heap := h', toks := tk + 1 }) ho fun h'' he' sb => ?_⟩
    have hT2 : h''.get? s.heap.objs.size = some { cls := .type "tuple", data := .seq #[.int i tk, x2] } := (sb.2 _ (Nat.ne_of_gt hel)).trans hT
    have new : ObjOk X.prog X.w (upd H s.heap.objs.size (.tup [.int (i : Nat), x])) h'' s.heap.objs.size (.tup [.int (i : Nat), x]) :=
      ⟨by show 2 ≤ sizeLine; decide, [.int i tk, x2], .cons ⟨_, rfl⟩ (.cons ru .nil), ⟨_, hT2, rfl, _, rfl⟩⟩
    have I1 : Inv X pins σ (upd H s.heap.objs.size (.tup [.int (i : Nat), x])) { s with heap := h'', toks := tk + 1 } :=
      I.turnedNew (ch := [e, it]) (fun b ob hb q => (sb.2 b (fun z => hb (by simp [z]))).trans (hk b ob (fun z => hb (by simp [z])) (fun z => hb (by simp [z])) q)) hf (Nat.le_refl _) new
    refine ⟨.ref s.heap.objs.size, _, I1, rfl, ⟨_, x, rfl, I.hok.fresh (Nat.le_refl _), rfl, fun ys hy => by rw [I.tuple_inj hy hq]; exact hx⟩, ⟨⟨x2, ?_⟩, ?_, hne⟩, fun b hb => ?_⟩
    · have e1 : ((i + 1 : Nat) : Int) = (i : Int) + 1 := by omega
      rw [e1]; exact he'
    · obtain ⟨o, ho2, r⟩ := hs'.1
      exact ⟨o, (sb.2 it (Ne.symm hne)).trans ho2, r⟩
    · have hb' : b < s.heap.objs.size := by
        have e' : b = e ∨ b = it := by simpa using hb
        rcases e' with z | z
        · rw [z]; exact hel
        · rw [z]; exact hil
      rw [upd_ne (Nat.ne_of_lt hb')]
      exact (hf b hb).1
  done := by
    intro X hP hw hK hc i pins s σ H E I hf st hg
    subst hP hw hK
    obtain ⟨⟨old, he⟩, hit, hne⟩ := st
    obtain ⟨xs, hq, hx⟩ := hg
    obtain ⟨its, rv, p, hz⟩ := I.tuple hq
    obtain ⟨f0, f1, f2, f3, f4, f5⟩ := hf it (by simp)
    have hl := rv.length
    have D := Draws.tuple (prog := X.prog) (w := X.w) (A := X.A.in1) (I.ok.hd hc) it a hai its.toArray
    refine wpAny_pyNext_enum_endD D he ⟨?_, p⟩ fun h' eb => ⟨rfl, I.turned (t' := s.toks) (fun b o hb q => eb b o hb q) f0 f1 f3 f4 f5⟩
    have e1 : its.toArray.size = i := by simp; omega
    rw [e1]
    exact hit
  self := fun A i s Q E st h => let ⟨⟨_, he⟩, _⟩ := st; wpAny_pyIter_enum he h
def iEnumT (K : Frag) (ta : TA) : TI := fun σ H R => ta σ H fun vs H1 => ∃ a xs, vs = [.ref a] ∧ SqT K H1 a xs ∧ R (IteT K a) H1
theorem pi_enumT {X : Cx} {e : Expr} {ta : TA} {p pos tpos : Pos} {elts : List Expr} {kk : Nat} (hg : Gl X "enumerate") (hm : X.mg "enumerate" = none) (ha : PA X [e] ta) (hs : starEach [e] X.env = [(false, eval e X.env)] := by rfl) :
    PI X (.Tuple elts kk tpos) (.Call (.Name "enumerate" p) [e] [] pos) (iEnumT X.K ta) := by
  refine ⟨fun pins s σ H R I h => ?_⟩
  refine Call_ (ld_blt I hg hm boot_enumerate (PyProof.Rows.callWith_type1 (thn (ha.run pos pins s σ H _ I h) fun us s1 ⟨vs, H1, I1, r1, q1⟩ => ?_) hs rfl))
  obtain ⟨a, xs, ex, hq, q⟩ := q1
  subst ex
  cases r1 with
  | cons r rr =>
    cases rr
    cases r
    obtain ⟨its, rv, p', hz⟩ := I1.tuple hq
    have hal : a < s1.heap.objs.size := Z3.Sq.lt (b := false) p'
    refine call_enumerate_tuple p' fun h' he hit hsz hk => wpAny_pyIter_enum he ?_
    have I2 : Inv X pins σ H1 { s1 with heap := h' } := I1.kept (t' := s1.toks) hk
    refine ⟨s1.heap.objs.size + 1, [s1.heap.objs.size + 1, s1.heap.objs.size], _, _, H1, rfl, I2, turn_enumT a (s1.heap.objs.size + 1) s1.heap.objs.size (Nat.ne_of_lt hal) (Nat.ne_of_gt (Nat.lt_succ_of_lt hal)), ⟨⟨.none, he⟩, hit, Nat.succ_ne_self _⟩, fun b hb => ?_, q⟩
    have e' : b = s1.heap.objs.size + 1 ∨ b = s1.heap.objs.size := by simpa using hb
    have hle : s1.heap.objs.size ≤ b := by
      rcases e' with z | z
      · rw [z]; exact Nat.le_add_right _ _
      · rw [z]; exact Nat.le_refl _
    exact I1.fpOk hle (I1.hok.fresh hle)
theorem walk_enumT {K : Frag} {a : Addr} {xs : List V} : Walk (IteT K a) xs.length (fun H => SqT K H a xs) (YPair (fun i => some (.int (i : Nat))) (fun i => xs[i]?)) := by
  refine ⟨fun i _ hi q => ⟨xs, xs[i], q, by simp [hi]⟩, fun _ q => ⟨xs, q, rfl⟩, fun i H v H' _ q y => ?_⟩
  obtain ⟨T, x, h1, h2, h3, h4⟩ := y
  exact ⟨T, .int (i : Nat), x, h1, h2, h3, rfl, h4 xs q⟩
end L2.Jk

set_option Elab.async false
set_option linter.all false
set_option maxRecDepth 100000
set_option maxHeartbeats 4000000
/-! Fields with a word, or what they are refused for. -/
namespace L2.K79
open PySem PySem.W PySem.Spec PySem.Calls PyProof.Rows L2.Jk
/-! ### words as data -/
inductive WfP : PD → Prop
  | word {z : Str} {l : Nat} {m : V} : PtOk z → 44 ∉ z.cps.toList → l < 1000000000 → MOk m → WfP (.word (.str z) (.int (l : Nat)) m)
  | number {l : Nat} {m : V} : l < 1000000000 → MOk m → WfP (.number (.int (l : Nat)) m)
  | fixed {w : Nat} : w < 1000000000 → WfP (.fixed (.int (w : Nat)))
  | listed {ts : List Str} : ts ≠ [] → (∀ t ∈ ts, 44 ∉ t.cps.toList) → PtOk (Txt.join "," ts) → WfP (.listed (.lst (ts.map V.str)))
  | ended {z e : Str} {l : Nat} {m : V} : PtOk z → 44 ∉ z.cps.toList → PtOk e → 44 ∉ e.cps.toList → l < 1000000000 → MOk m → WfP (.ended (.str z) (.str e) (.int (l : Nat)) m)
def PD.parts : PD → List Str
  | .word s l m => ["word", strV s, dg (intV l), mostT m]
  | .number l m => ["number", dg (intV l), mostT m]
  | .fixed w => ["fixed", dg (intV w)]
  | .listed x => ["listed", Txt.join "," (x.els.map strV)]
  | .ended s e l m => ["ended", strV s, strV e, dg (intV l), mostT m]
theorem els_str (ts : List Str) : ((LX.lst (ts.map V.str)).els.map strV) = ts := by
  show (ts.map V.str).map strV = ts
  rw [List.map_map]
  exact List.map_id' ts
theorem free_is {t : Str} (h : freeB t = true) : 44 ∉ t.cps.toList := by
  intro z
  have h : (!decide (44 ∈ t.cps.toList)) = true := h
  rw [decide_eq_true z] at h
  cases h
theorem free_of {t : Str} (h : 44 ∉ t.cps.toList) : freeB t = true := by
  show (!decide (44 ∈ t.cps.toList)) = true
  rw [decide_eq_false h]
  rfl
theorem pl_is {ps : List Str} (h : plB ps = true) (ok : ∀ p ∈ ps, PtOk p) : ∃ d : PD, WfP d ∧ ps = d.parts := by
  match ps, h, ok with
  | [k, x], h, ok =>
    rcases Bool.or_eq_true_iff.mp (show (decide (k = "fixed") && shortB x || decide (k = "listed")) = true from h) with h | h
    · obtain ⟨h1, h2⟩ := Bool.and_eq_true_iff.mp h
      obtain ⟨n, rfl, hn⟩ := short_is h2
      rw [of_decide_eq_true h1]
      exact ⟨.fixed (.int (n : Nat)), .fixed hn, rfl⟩
    · rw [of_decide_eq_true h]
      obtain ⟨ts, h0, h1, h2, _⟩ := cut_text 44 x
      refine ⟨.listed (.lst (ts.map V.str)), .listed h0 h1 ?_, ?_⟩
      · show PtOk (Txt.join ⟨#[44]⟩ ts)
        rw [h2]
        exact ok x (by simp)
      · show _ = (["listed", Txt.join ⟨#[44]⟩ ((LX.lst (ts.map V.str)).els.map strV)] : List Str)
        rw [els_str, h2]
  | [k, l, m], h, ok =>
    obtain ⟨h1, h2⟩ := Bool.and_eq_true_iff.mp (show (decide (k = "number") && spansB l m) = true from h)
    obtain ⟨n, v, rfl, hn, rfl, hv⟩ := spans_is h2
    rw [of_decide_eq_true h1]
    exact ⟨.number (.int (n : Nat)) v, .number hn hv, rfl⟩
  | [k, a, l, m], h, ok =>
    obtain ⟨h1, h2⟩ := Bool.and_eq_true_iff.mp (show (decide (k = "word") && (freeB a && spansB l m)) = true from h)
    obtain ⟨h5, h3⟩ := Bool.and_eq_true_iff.mp h2
    obtain ⟨n, v, rfl, hn, rfl, hv⟩ := spans_is h3
    rw [of_decide_eq_true h1]
    exact ⟨.word (.str a) (.int (n : Nat)) v, .word (ok a (by simp)) (free_is h5) hn hv, rfl⟩
  | [k, a, e, l, m], h, ok =>
    obtain ⟨h1, h2⟩ := Bool.and_eq_true_iff.mp (show (decide (k = "ended") && (freeB a && freeB e && spansB l m)) = true from h)
    obtain ⟨h6, h3⟩ := Bool.and_eq_true_iff.mp h2
    obtain ⟨h5, h4⟩ := Bool.and_eq_true_iff.mp h6
    obtain ⟨n, v, rfl, hn, rfl, hv⟩ := spans_is h3
    rw [of_decide_eq_true h1]
    exact ⟨.ended (.str a) (.str e) (.int (n : Nat)) v, .ended (ok a (by simp)) (free_is h5) (ok e (by simp)) (free_is h4) hn hv, rfl⟩
/-- within the bounds of the package -/
def leB (m : V) : Prop := m = .non ∨ ∃ k : Nat, m = .int (k : Nat) ∧ k ≤ 12
def BdP : PD → Prop
  | .word _ l m => (∃ k : Nat, l = .int (k : Nat) ∧ k ≤ 12) ∧ leB m
  | .number _ _ => True
  | .fixed w => ∃ k : Nat, w = .int (k : Nat) ∧ k ≤ 20
  | .listed x => x.els.length ≤ 12 ∧ ∀ v ∈ x.els, lenOf v ≤ 12
  | .ended _ _ l m => (∃ k : Nat, l = .int (k : Nat) ∧ k ≤ 12) ∧ leB m
theorem strOk_of {t : Str} (h : ∀ c ∈ t.cps.toList, c < 200) : (PyData.str t).canLay0 = true := by
  show PySem.PyData.canLay0 (.str t) = true
  unfold PyData.canLay0
  show (t.cps.all (· < 0x110000)) = true
  rw [Array.all_eq_true]
  intro i hi
  have z := h t.cps[i] (by simp)
  exact decide_eq_true (by omega)
theorem lay_strs : ∀ ts : List Str, (∀ t ∈ ts, (PyData.str t).canLay0 = true) → PyData.canLayAll0 ((ts.map V.str).map dV) = true ∧ PyData.depthAll ((ts.map V.str).map dV) ≤ 1
  | [], _ => ⟨rfl, by decide⟩
  | t :: ts, h => by
    obtain ⟨h1, h2⟩ := lay_strs ts fun x hx => h x (List.mem_cons_of_mem _ hx)
    refine ⟨Bool.and_eq_true_iff.mpr ⟨h t (List.mem_cons_self ..), h1⟩, ?_⟩
    show max (PyData.str t).depth _ ≤ 1
    exact Nat.max_le.mpr ⟨by show 0 ≤ 1; decide, h2⟩
theorem nM_nat {n : Nat} (h : n < 1000000000) : V.int (n : Nat) ∈ nM := ⟨rfl, fun i e => by injection e with e; omega⟩
theorem MOk.nM {m : V} (h : MOk m) : m ∈ nM := by
  rcases h with rfl | ⟨k, rfl, b⟩
  · exact ⟨rfl, fun i e => by cases e⟩
  · exact nM_nat b
theorem in_of {d : PD} (h : WfP d) (hb : BdP d) : d.In := by
  cases h with
  | word a b c e => exact ⟨⟨rfl, a.len⟩, nM_nat c, e.nM⟩
  | number c e => exact ⟨nM_nat c, e.nM⟩
  | @fixed w c =>
    obtain ⟨k, e, hk⟩ := hb
    injection e with e
    exact ⟨_, rfl, by omega, by omega⟩
  | @listed ts c1 c2 c3 =>
    have hb : (ts.map V.str).length ≤ 12 ∧ ∀ v ∈ ts.map V.str, lenOf v ≤ 12 := hb
    obtain ⟨l1, l2⟩ := lay_strs ts fun t ht => strOk_of fun c hc => c3.asc c (join_in hc ts ht)
    refine ⟨.inl rfl, by show (ts.map V.str).length ≤ 20; omega, ?_, ?_⟩
    · intro v hv
      have z := hb.2 v hv
      obtain ⟨t, ht, rfl⟩ := List.mem_map.mp hv
      exact ⟨rfl, Nat.le_trans z (by decide)⟩
    · refine Bool.and_eq_true_iff.mpr ⟨l1, decide_eq_true ?_⟩
      show PyData.depthAll ((ts.map V.str).map dV) + 1 ≤ 64
      omega
  | ended a b a2 b2 c e => exact ⟨⟨rfl, a.len⟩, ⟨rfl, a2.len⟩, nM_nat c, e.nM⟩
/-- marks around a field -/
def odM : List (Str × Str) → PD → OD
  | [], d => .pl d
  | p :: ms, d => .mk (.str p.1) (.str p.2) (odM ms d)
/-- what it is refused for, an inner one ahead -/
def dueM : List (Str × Str) → PD → Option Str
  | [], d => d.due
  | p :: ms, d => match dueM ms d with
    | some x => some x
    | none => OD.due (.mk (.str p.1) (.str p.2) (odM ms d))
def fdM : List (Str × Str) → PD → FD
  | [p], d => .mk (.str p.1) (.str p.2) d
  | _, d => .pl d
theorem dueM_up {d : PD} {x : Str} (ms : List (Str × Str)) : ∀ pre : List (Str × Str), dueM ms d = some x → dueM (pre ++ ms) d = some x
  | [], h => h
  | p :: pre, h => by
    show (match dueM (pre ++ ms) d with | some x => some x | none => OD.due (.mk (.str p.1) (.str p.2) (odM (pre ++ ms) d))) = some x
    rw [dueM_up ms pre h]
theorem mk_due {n m : V} {i : OD} (h : OD.due (.mk n m i) = none) : isSignB n = true ∧ isSignB m = true := by
  have h : (if (!isSignB n) = true then (some "none" : Option Str) else if (!isSignB m || decide (m = n)) = true then some "mark" else iDue n m i) = none := h
  cases k : isSignB n with
  | false => rw [k] at h; cases h
  | true =>
    rw [k] at h
    cases k2 : isSignB m with
    | false => rw [k2] at h; cases h
    | true => exact ⟨rfl, rfl⟩
theorem mk_mk {n m a b : V} {i : OD} (z : isSignB n = true ∧ isSignB m = true) : OD.due (.mk n m (.mk a b i)) ≠ none := by
  show (if (!isSignB n) = true then (some "none" : Option Str) else if (!isSignB m || decide (m = n)) = true then some "mark" else some "field") ≠ none
  rw [z.1, z.2]
  cases decide (m = n) <;> exact fun h => by cases h
theorem dueM_short {ms : List (Str × Str)} {d : PD} (h : dueM ms d = none) : ms.length ≤ 1 := by
  match ms, h with
  | [], _ => exact Nat.zero_le _
  | [_], _ => exact Nat.le_refl _
  | p :: q :: ms, h =>
    have h : (match dueM (q :: ms) d with | some x => some x | none => OD.due (.mk (.str p.1) (.str p.2) (.mk (.str q.1) (.str q.2) (odM ms d)))) = none := h
    cases k : dueM (q :: ms) d with
    | some x => rw [k] at h; cases h
    | none =>
      rw [k] at h
      exact absurd h (mk_mk (mk_due h))
/-- at r: the field in its marks, none or one -/
def OdAt (K : Frag) (H : Hp) (r : Addr) (ms : List (Str × Str)) (d : PD) : Prop := match ms with
  | [] => FieldAt K H r d ∧ d.In ∧ d.due = none
  | [p] => MkAt K H r (.str p.1) (.str p.2) d ∧ d.In ∧ d.due = none ∧ (∃ c, V.str p.1 = .str ⟨#[c]⟩) ∧ ∃ c, V.str p.2 = .str ⟨#[c]⟩
  | _ => False
theorem OdAt.iv {K : Frag} {H : Hp} {r : Addr} {ms : List (Str × Str)} {d : PD} (h : OdAt K H r ms d) : IVAt K H (.ref r) (odM ms d) := by
  match ms, h with
  | [], h => exact ⟨r, rfl, h⟩
  | [p], ⟨⟨dx, y, e, _⟩, _⟩ => exact ⟨r, dx, _, rfl, e⟩
theorem OdAt.same {K : Frag} {H H' : Hp} {r : Addr} {ms : List (Str × Str)} {d : PD} (S : Same H H') (h : OdAt K H r ms d) : OdAt K H' r ms d := by
  match ms, h with
  | [], h => exact ⟨h.1.same S, h.2⟩
  | [p], ⟨⟨dx, y, e, f⟩, i⟩ => exact ⟨⟨dx, y, S _ _ e, f.same S⟩, i⟩
theorem OdAt.fd {K : Frag} {H : Hp} {r : Addr} {ms : List (Str × Str)} {d : PD} (h : OdAt K H r ms d) : FdAt K H r (fdM ms d) := by
  match ms, h with
  | [], h => exact h
  | [p], h => exact h
end L2.K79
namespace L2.Jk
open PySem PySem.W PySem.Spec PySem.Calls PyProof.Rows
theorem RaiseE.up {C : Addr} {f : Str} {v : V} {H H' : Hp} {Q : XK} (h : RaiseE C f v H Q) (S : Same H H') : RaiseE C f v H' Q := fun d H2 hd S2 e => h d H2 (by
  cases q : H d with
  | none => rfl
  | some o => rw [S d o q] at hd; cases hd) (S.trans S2) e
end L2.Jk
namespace L2.K79
open PySem PySem.W PySem.Spec PySem.Calls PyProof.Rows L2.Jk
structure N6 (P : Program) (w : World) (K : Frag) (mg : Str → Option Value) (base : Heap) : Prop extends N4 P w K mg base where
  is_field_word : FnAt P w K mg base CX0 5 "is_field_word" ["word"] (spIfw K)
  kLay : ClsAt P w K mg base (L2.CX P w) 4 "Layout" (LA K) ["self", "fields", "joints"] (spLay K)
  kWord : ClsAt P w K mg base (L2.CX P w) 4 "Word" (ca K 0) ["self", "signs", "least", "most"] (spWord K)
  kNumber : ClsAt P w K mg base (L2.CX P w) 4 "Number" (ca K 1) ["self", "least", "most"] (spNumber K)
  kFixed : ClsAt P w K mg base (L2.CX P w) 4 "Fixed" (ca K 2) ["self", "width"] (spFixed K)
  kListed : ClsAt P w K mg base (L2.CX P w) 4 "Listed" (ca K 3) ["self", "texts"] (spListed K)
  kEnded : ClsAt P w K mg base (L2.CX P w) 4 "Ended" (ca K 4) ["self", "signs", "sign", "least", "most"] (spEnded K)
  kMarked : ClsAt P w K mg base (L2.CX P w) 4 "Marked" (ca K 5) ["self", "none", "mark", "field"] (spMarked K)
  bt : ErrAt P w K mg base "BadText" (BT K) ["place"] "refused badtext"

def spPf (K : Frag) : Sp := fun vs H Q E => ∃ (p : Addr) (d : PD), vs = [.ref p] ∧ H p = some (.lst (d.parts.map V.str)) ∧ WfP d ∧ BdP d ∧ (d.due = none → ∀ r H', Same H H' → FdAt K H' r (.pl d) → Q (.ref r) H') ∧ ∀ x, d.due = some x → RaiseE (BF K) "what" (.str x) H E
def spFi (K : Frag) : Sp := fun vs H Q E => ∃ (t : Str) (n : Nat) (ms : List (Str × Str)) (d : PD), vs = [.str t] ∧ Wee n t ∧ n ≤ 200 ∧ mkL (pcs t) = (ms, d.parts) ∧ WfP d ∧ BdP d ∧ (∀ p ∈ ms, PtOk p.1 ∧ PtOk p.2) ∧
  (dueM ms d = none → ∀ r H', Same H H' → FdAt K H' r (fdM ms d) → Q (.ref r) H') ∧ ∀ x, dueM ms d = some x → RaiseE (BF K) "what" (.str x) H E
section
variable {P : Program} {w : World} {K : Frag} {mg : Str → Option Value} {base : Heap} {f : Addr} {fd : FuncData}
abbrev s_plain_field : Stmt := top 42
theorem sc_plain_field : FnScope ["parts"] ["parts"] (defScope s_plain_field) := ⟨rfl, rfl, rfl, by decide +kernel, rfl, by decide +kernel, by decide +kernel⟩

theorem ok_plain_field (F : FunD K "plain_field" "plain_field" (defArgs s_plain_field) (defBody s_plain_field) (defScope s_plain_field) [] [] f fd) (G : N6 P w K mg base) : FnOk P w K mg base (L2.CX P w) 6 f fd ["parts"] (spPf K) := by
  refine F.ok (CX := (L2.CX P w)) sc_plain_field (fun vs H Q E h => ?_) (fun cdv A outer s H vs Q E hr h => ?_)
  · obtain ⟨_, _, rfl, _⟩ := h
    rfl
  · refine ⟨_, (pss_cons (ps_if (pt_cmpR op_eq (pe_ix ix_list (pv 0) pe_int (fun _ _ => rfl)) pe_str (nomark _))
      (pss_one (ps_ret (pe_newS G.kWord (hr.mono (by decide)) (fun σ => passAt (takes_of rfl rfl rfl rfl) σ) (by rfl) (pa_cons (pe_ix ix_list (pv 0) pe_int (fun _ _ => rfl)) (pa_cons (pe_fn G.number_of (hr.mono (by decide)) pass0 (by rfl) (pa_cons (pe_ix ix_list (pv 0) pe_int (fun _ _ => rfl)) pa_nil)) (pa_cons (pe_fn G.most_in (hr.mono (by decide)) pass0 (by rfl) (pa_cons (pe_ix ix_list (pv 0) pe_int (fun _ _ => rfl)) pa_nil)) pa_nil))))))
      pss_nil)
    (pss_cons (ps_if (pt_cmpR op_eq (pe_ix ix_list (pv 0) pe_int (fun _ _ => rfl)) pe_str (nomark _))
      (pss_one (ps_ret (pe_newS G.kNumber (hr.mono (by decide)) (fun σ => passAt (takes_of rfl rfl rfl rfl) σ) (by rfl) (pa_cons (pe_fn G.number_of (hr.mono (by decide)) pass0 (by rfl) (pa_cons (pe_ix ix_list (pv 0) pe_int (fun _ _ => rfl)) pa_nil)) (pa_cons (pe_fn G.most_in (hr.mono (by decide)) pass0 (by rfl) (pa_cons (pe_ix ix_list (pv 0) pe_int (fun _ _ => rfl)) pa_nil)) pa_nil)))))
      pss_nil)
    (pss_cons (ps_if (pt_cmpR op_eq (pe_ix ix_list (pv 0) pe_int (fun _ _ => rfl)) pe_str (nomark _))
      (pss_one (ps_ret (pe_newS G.kFixed (hr.mono (by decide)) (fun σ => passAt (takes_of rfl rfl rfl rfl) σ) (by rfl) (pa_cons (pe_fn G.number_of (hr.mono (by decide)) pass0 (by rfl) (pa_cons (pe_ix ix_list (pv 0) pe_int (fun _ _ => rfl)) pa_nil)) pa_nil))))
      pss_nil)
    (pss_cons (ps_if (pt_cmpR op_eq (pe_ix ix_list (pv 0) pe_int (fun _ _ => rfl)) pe_str (nomark _))
      (pss_one (ps_ret (pe_newS G.kEnded (hr.mono (by decide)) (fun σ => passAt (takes_of rfl rfl rfl rfl) σ) (by rfl) (pa_cons (pe_ix ix_list (pv 0) pe_int (fun _ _ => rfl)) (pa_cons (pe_ix ix_list (pv 0) pe_int (fun _ _ => rfl)) (pa_cons (pe_fn G.number_of (hr.mono (by decide)) pass0 (by rfl) (pa_cons (pe_ix ix_list (pv 0) pe_int (fun _ _ => rfl)) pa_nil)) (pa_cons (pe_fn G.most_in (hr.mono (by decide)) pass0 (by rfl) (pa_cons (pe_ix ix_list (pv 0) pe_int (fun _ _ => rfl)) pa_nil)) pa_nil)))))))
      pss_nil)
    (pss_one (ps_ret (pe_newS G.kListed (hr.mono (by decide)) (fun σ => passAt (takes_of rfl rfl rfl rfl) σ) (by rfl) (pa_cons (pe_split (pe_ix ix_list (pv 0) pe_int (fun _ _ => rfl)) pe_str) pa_nil)))))))), ?_⟩
    obtain ⟨p, d, rfl, hP, hW, hB, q1, q2⟩ := h
    have hin := in_of hW hB
    have hin0 := hin
    cases hW with
    | @word z l m a b c e =>
      have eP : H p = some (.lst [.str "word", .str z, .str (T l), .str (mostT m)]) := hP
      obtain ⟨hs, hl, hm⟩ := hin
      refine ⟨_, rfl, p, _, _, _, rfl, rfl, SqL.of eP, atI_nat (j := 0) rfl, rfl, _, rfl, itY ?_⟩
      refine ⟨_, rfl, p, _, _, _, rfl, rfl, SqL.of eP, atI_nat (j := 1) rfl, ?_⟩
      refine ⟨_, rfl, p, _, _, _, rfl, rfl, SqL.of eP, atI_nat (j := 2) rfl, T l, rfl, numOk_T (by have := T9 c; omega), ?_⟩
      rw [numOf_T (by have := T9 c; omega)]
      refine ⟨_, rfl, p, _, _, _, rfl, rfl, SqL.of eP, atI_nat (j := 3) rfl, m, rfl, e, fun a dx ha hx ne => ?_⟩
      exact ⟨a, dx, _, _, _, rfl, upd_same, hs, hl, hm, fun e => ⟨rfl, q1 e _ _ (same_put (same_new ha hx) ha) ⟨⟨dx, upd_same⟩, hin0, e⟩⟩, fun z e => (q2 z e).up (same_new ha hx)⟩
    | @number l m c e =>
      have eP : H p = some (.lst [.str "number", .str (T l), .str (mostT m)]) := hP
      obtain ⟨hl, hm⟩ := hin
      refine ⟨_, rfl, p, _, _, _, rfl, rfl, SqL.of eP, atI_nat (j := 0) rfl, rfl, _, rfl, itN (by decide +kernel) ?_⟩
      refine ⟨_, rfl, p, _, _, _, rfl, rfl, SqL.of eP, atI_nat (j := 0) rfl, rfl, _, rfl, itY ?_⟩
      refine ⟨_, rfl, p, _, _, _, rfl, rfl, SqL.of eP, atI_nat (j := 1) rfl, T l, rfl, numOk_T (by have := T9 c; omega), ?_⟩
      rw [numOf_T (by have := T9 c; omega)]
      refine ⟨_, rfl, p, _, _, _, rfl, rfl, SqL.of eP, atI_nat (j := 2) rfl, m, rfl, e, fun a dx ha hx ne => ?_⟩
      exact ⟨a, dx, _, _, rfl, upd_same, hl, hm, fun e => ⟨rfl, q1 e _ _ (same_put (same_new ha hx) ha) ⟨⟨dx, upd_same⟩, hin0, e⟩⟩, fun z e => (q2 z e).up (same_new ha hx)⟩
    | @fixed l c =>
      have eP : H p = some (.lst [.str "fixed", .str (T l)]) := hP
      refine ⟨_, rfl, p, _, _, _, rfl, rfl, SqL.of eP, atI_nat (j := 0) rfl, rfl, _, rfl, itN (by decide +kernel) ?_⟩
      refine ⟨_, rfl, p, _, _, _, rfl, rfl, SqL.of eP, atI_nat (j := 0) rfl, rfl, _, rfl, itN (by decide +kernel) ?_⟩
      refine ⟨_, rfl, p, _, _, _, rfl, rfl, SqL.of eP, atI_nat (j := 0) rfl, rfl, _, rfl, itY ?_⟩
      refine ⟨_, rfl, p, _, _, _, rfl, rfl, SqL.of eP, atI_nat (j := 1) rfl, T l, rfl, numOk_T (by have := T9 c; omega), ?_⟩
      rw [numOf_T (by have := T9 c; omega)]
      refine fun a dx ha hx ne => ?_
      exact ⟨a, dx, _, rfl, upd_same, hin, fun e => ⟨rfl, q1 e _ _ (same_put (same_new ha hx) ha) ⟨⟨dx, upd_same⟩, hin0, e⟩⟩, fun z e => (q2 z e).up (same_new ha hx)⟩
    | @listed ts c1 c2 c3 =>
      have eP : H p = some (.lst [.str "listed", .str (Txt.join "," ts)]) := by rw [hP]; show some (HO.lst [.str "listed", .str (Txt.join "," ((LX.lst (ts.map V.str)).els.map strV))]) = _; rw [els_str]
      have hj := c3.len
      refine ⟨_, rfl, p, _, _, _, rfl, rfl, SqL.of eP, atI_nat (j := 0) rfl, rfl, _, rfl, itN (by decide +kernel) ?_⟩
      refine ⟨_, rfl, p, _, _, _, rfl, rfl, SqL.of eP, atI_nat (j := 0) rfl, rfl, _, rfl, itN (by decide +kernel) ?_⟩
      refine ⟨_, rfl, p, _, _, _, rfl, rfl, SqL.of eP, atI_nat (j := 0) rfl, rfl, _, rfl, itN (by decide +kernel) ?_⟩
      refine ⟨_, rfl, p, _, _, _, rfl, rfl, SqL.of eP, atI_nat (j := 0) rfl, rfl, _, rfl, itN (by decide +kernel) ?_⟩
      refine ⟨_, rfl, p, _, _, _, rfl, rfl, SqL.of eP, atI_nat (j := 1) rfl, ⟨_, rfl⟩, Txt.join "," ts, ",", rfl, rfl, rfl, by rw [sizeLine_eq]; omega, fun pl hpl => ?_⟩
      have es : Txt.split (Txt.join "," ts) "," = ts := split_join (c := 44) c1 c2
      rw [es]
      have S1 : Same H (upd H pl (.lst (ts.map V.str))) := same_upd hpl
      have e1 : upd H pl (.lst (ts.map V.str)) pl = some (.lst (ts.map V.str)) := upd_same
      generalize upd H pl (.lst (ts.map V.str)) = H1 at S1 e1 ⊢
      refine fun a dx ha hx ne => ?_
      refine ⟨a, dx, .ref pl, .lst (ts.map V.str), rfl, upd_same, hin, ⟨pl, rfl, same_new ha hx _ _ e1⟩, fun e t H2 S2 e2 => ⟨rfl, ?_⟩, fun z e => (q2 z e).up (S1.trans (same_new ha hx))⟩
      have SH : Same H1 H2 := (same_new ha hx).trans S2
      obtain ⟨ob, c1, c2, c3⟩ := e2
      have nt : t ≠ a := ne_of c3 (S2 _ _ upd_same) (fun z => by cases z)
      exact q1 e _ _ (S1.trans (same_put SH ha)) ⟨⟨dx, t, upd_same, ob, c1, c2, by rw [upd_ne nt]; exact c3⟩, hin, e⟩
    | @ended z e l m a b a2 b2 c em =>
      have eP : H p = some (.lst [.str "ended", .str z, .str e, .str (T l), .str (mostT m)]) := hP
      obtain ⟨hs, he, hl, hm⟩ := hin
      refine ⟨_, rfl, p, _, _, _, rfl, rfl, SqL.of eP, atI_nat (j := 0) rfl, rfl, _, rfl, itN (by decide +kernel) ?_⟩
      refine ⟨_, rfl, p, _, _, _, rfl, rfl, SqL.of eP, atI_nat (j := 0) rfl, rfl, _, rfl, itN (by decide +kernel) ?_⟩
      refine ⟨_, rfl, p, _, _, _, rfl, rfl, SqL.of eP, atI_nat (j := 0) rfl, rfl, _, rfl, itN (by decide +kernel) ?_⟩
      refine ⟨_, rfl, p, _, _, _, rfl, rfl, SqL.of eP, atI_nat (j := 0) rfl, rfl, _, rfl, itY ?_⟩
      refine ⟨_, rfl, p, _, _, _, rfl, rfl, SqL.of eP, atI_nat (j := 1) rfl, _, rfl, p, _, _, _, rfl, rfl, SqL.of eP, atI_nat (j := 2) rfl, ?_⟩
      refine ⟨_, rfl, p, _, _, _, rfl, rfl, SqL.of eP, atI_nat (j := 3) rfl, T l, rfl, numOk_T (by have := T9 c; omega), ?_⟩
      rw [numOf_T (by have := T9 c; omega)]
      refine ⟨_, rfl, p, _, _, _, rfl, rfl, SqL.of eP, atI_nat (j := 4) rfl, m, rfl, em, fun a dx ha hx ne => ?_⟩
      exact ⟨a, dx, _, _, _, _, rfl, upd_same, hs, he, hl, hm, fun e => ⟨rfl, q1 e _ _ (same_put (same_new ha hx) ha) ⟨⟨dx, upd_same⟩, hin0, e⟩⟩, fun z e => (q2 z e).up (same_new ha hx)⟩


structure N7 (P : Program) (w : World) (K : Frag) (mg : Str → Option Value) (base : Heap) : Prop extends N6 P w K mg base where
  plain_field : FnAt P w K mg base (L2.CX P w) 6 "plain_field" ["parts"] (spPf K)

abbrev s_field_in : Stmt := top 41
theorem sc_field_in : FnScope ["word", "marks", "parts", "field", "none", "mark"] ["word"] (defScope s_field_in) := ⟨rfl, rfl, rfl, by decide +kernel, rfl, by decide +kernel, by decide +kernel⟩

theorem ok_field_in (F : FunD K "field_in" "field_in" (defArgs s_field_in) (defBody s_field_in) (defScope s_field_in) [] [] f fd) (G : N7 P w K mg base) : FnOk P w K mg base (L2.CX P w) 7 f fd ["word"] (spFi K) := by
  refine F.ok (CX := (L2.CX P w)) sc_field_in (fun vs H Q E h => ?_) (fun cdv A outer s H vs Q E hr h => ?_)
  · obtain ⟨_, _, _, _, rfl, _⟩ := h
    rfl
  · have hr6 : Room 6 _ := hr
    have hr4 : Room 5 _ := hr.mono (by decide)
    refine ⟨_, (C8.pss_cut (ps_asg (pe_fn G.parts_of (hr.mono (by decide)) pass0 (by rfl) (pa_cons (pv 0) pa_nil)) (pg_tup rfl (pgs_cons (pg_name (i := 1) sc_field_in.nd rfl (Or.inl rfl)) (pgs_cons (pg_name (i := 2) sc_field_in.nd rfl (Or.inl rfl)) pgs_nil))))
    (C8.pss_cut (ps_set (i := 3) sc_field_in.nd rfl (Or.inl rfl) (pe_fnS G.plain_field hr6 (fun σ => passAt (takes_of rfl rfl rfl rfl) σ) (by rfl) (pa_cons (pv 2) pa_nil)))
    (pss_cons (ps_for (passes_of rfl) rfl (pi_reversed (by rfl) G.reversed (pa_cons (pv 1) pa_nil)) (pg_tup rfl (pgs_cons (pg_name (i := 4) sc_field_in.nd rfl (Or.inl rfl)) (pgs_cons (pg_name (i := 5) sc_field_in.nd rfl (Or.inl rfl)) pgs_nil)))
      (pss_one (ps_set (i := 3) sc_field_in.nd rfl (Or.inl rfl) (pe_newS G.kMarked hr4 (fun σ => passAt (takes_of rfl rfl rfl rfl) σ) (by rfl) (pa_cons (pv 4) (pa_cons (pv 5) (pa_cons (pv 3) pa_nil)))))))
    (pss_one (ps_ret (pv 3)))))), ?_⟩
    obtain ⟨t, n, ms, d, rfl, hWe, hn, hmk, hW, hB, hms, q1, q2⟩ := h
    have hml : ms.length ≤ 200 := by
      have h1 := mkL_len (pcs t)
      rw [hmk] at h1
      have h1 : ms.length ≤ (pcs t).length := h1
      have := hWe.few
      omega
    refine ⟨fun σ J => ∃ M Pl v3 v4 v5, σ = [some (.str t), some (.ref M), some (.ref Pl), v3, v4, v5] ∧ Same H J ∧ MksAt J M ms ∧ J Pl = some (.lst (d.parts.map V.str)), ?_, ?_⟩
    · refine ⟨_, rfl, t, n, rfl, hWe, hn, fun tp M Pl H1 ht S1 e1 eM eP => ?_⟩
      rw [hmk] at eM eP
      exact ⟨tp, _, rfl, SqT.of e1, rfl, _, _, rfl, _, _, rfl, rfl, M, Pl, _, _, _, rfl, S1, eM, eP⟩
    rintro σ J ⟨M, Pl, v3, v4, v5, rfl, S, ⟨vs, eM, hvl, hvs⟩, eP⟩
    refine ⟨fun σ J2 => ∃ r v4 v5, σ = [some (.str t), some (.ref M), some (.ref Pl), some (.ref r), v4, v5] ∧ Same J J2 ∧ FieldAt K J2 r d ∧ d.In ∧ d.due = none, ?_, ?_⟩
    · refine ⟨_, rfl, Pl, d, rfl, eP, hW, hB, fun e r H1 S1 hr => ⟨r, _, _, rfl, S1, hr.1, hr.2⟩, fun z e => (q2 z ?_).up S⟩
      have z2 := dueM_up (d := d) [] ms e
      rwa [List.append_nil] at z2
    rintro σ J2 ⟨r, v4, v5, rfl, S2, hF, hin, hdd⟩
    refine ⟨_, rfl, M, vs, rfl, SqL.of (S2 _ _ eM), for_it (walk_rev (xs := vs)) (fun i σ J3 => ∃ r v4 v5, σ = [some (.str t), some (.ref M), some (.ref Pl), some (.ref r), v4, v5] ∧ Same J J3 ∧ dueM (ms.drop (ms.length - i)) d = none ∧ OdAt K J3 r (ms.drop (ms.length - i)) d) ⟨r, _, _, rfl, S2, ?_, ?_⟩ (fun i σ J3 _ ⟨_, _, _, _, S3, _⟩ => SqL.of (S3 _ _ eM)) ?_ ?_⟩
    · rw [Nat.sub_zero, List.drop_length]
      exact hdd
    · rw [Nat.sub_zero, List.drop_length]
      exact ⟨hF, hin, hdd⟩
    · rintro i x σ J3 J4 hi ⟨r, v4, v5, rfl, S3, hdr, hR⟩ ⟨rfl, hx⟩
      have hx : vs[vs.length - 1 - i]? = some x := hx
      obtain ⟨p, hp⟩ : ∃ p, ms[ms.length - 1 - i]? = some p := ⟨_, List.getElem?_eq_getElem (by omega)⟩
      rw [hvl] at hx
      obtain ⟨tm, rfl, k2⟩ := hvs _ _ p hx hp
      have hpm := hms p (List.mem_of_getElem? hp)
      have hdrop : ms.drop (ms.length - (i + 1)) = p :: ms.drop (ms.length - i) := by
        have e1 : ms.length - (i + 1) = ms.length - 1 - i := by omega
        have e2 : ms.length - i = ms.length - 1 - i + 1 := by omega
        have h2 := List.getElem?_eq_some_iff.mp hp
        rw [e1, e2, List.drop_eq_getElem_cons h2.1, h2.2]
      refine ⟨tm, _, rfl, SqT.of (S3 _ _ k2), rfl, _, _, rfl, _, _, rfl, rfl, ?_⟩
      refine ⟨_, rfl, _, rfl, _, rfl, fun a dx ha hx2 ne => ?_⟩
      have IV := hR.iv
      refine ⟨a, dx, .str p.1, .str p.2, .ref r, odM (ms.drop (ms.length - i)) d, rfl, upd_same, ⟨rfl, hpm.1.len⟩, ⟨rfl, hpm.2.len⟩, (hR.same (same_new ha hx2)).iv, fun e H2 SS => ⟨rfl, ?_⟩, fun z e => (q2 z ?_).up (S.trans (S3.trans (same_new ha hx2)))⟩
      · have SH : Same J4 H2 := (same_new ha hx2).trans SS
        refine ⟨a, _, _, rfl, S3.trans (same_put SH ha), ?_, ?_⟩
        · rw [hdrop]
          show (match dueM (ms.drop (ms.length - i)) d with | some x => some x | none => OD.due (.mk (.str p.1) (.str p.2) (odM (ms.drop (ms.length - i)) d))) = none
          rw [hdr]
          exact e
        · rw [hdrop]
          have z := mk_due e
          cases hl : ms.drop (ms.length - i) with
          | cons y ys =>
            rw [hl] at e
            have e : OD.due (.mk (.str p.1) (.str p.2) (.mk (.str y.1) (.str y.2) (odM ys d))) = none := e
            exact absurd e (mk_mk z)
          | nil =>
            rw [hl] at hR
            obtain ⟨f1, f2, f3⟩ := hR
            exact ⟨⟨dx, r, upd_same, f1.same (same_put SH ha)⟩, f2, f3, ⟨_, (sign_one z.1).1⟩, _, (sign_one z.2).1⟩
      · have h2 : dueM (p :: ms.drop (ms.length - i)) d = some z := by
          show (match dueM (ms.drop (ms.length - i)) d with | some x => some x | none => OD.due (.mk (.str p.1) (.str p.2) (odM (ms.drop (ms.length - i)) d))) = some z
          rw [hdr]
          exact e
        rw [← hdrop] at h2
        have h3 := dueM_up (ms.drop (ms.length - (i + 1))) (ms.take (ms.length - (i + 1))) h2
        rwa [List.take_append_drop] at h3
    · rintro σ J3 ⟨r, v4, v5, rfl, S3, hdr, hR⟩
      rw [hvl, Nat.sub_self, List.drop_zero] at hdr hR
      exact ⟨_, rfl, q1 hdr r J3 (S.trans S3) hR.fd⟩

end
end L2.K79

set_option Elab.async false
set_option linter.all false
set_option maxRecDepth 100000
set_option maxHeartbeats 4000000
/-! Layouts made. -/
namespace L2.K79
open PySem PySem.W PySem.Spec PySem.Calls PyProof.Rows L2.Jk
def AllF (K : Frag) (H : Hp) (ys : List V) : Prop := ∀ y ∈ ys, Itm K H y true
theorem AllF.same {K : Frag} {H H' : Hp} {ys : List V} (S : Same H H') (h : AllF K H ys) : AllF K H' ys := fun y hy => (h y hy).same S
theorem allF_itms {K : Frag} {H : Hp} {ys : List V} (h : AllF K H ys) : Itms K H ys (List.replicate ys.length true) := ⟨by rw [List.length_replicate], fun i y g a b => by
  rw [List.eq_of_mem_replicate (List.mem_of_getElem? b)]
  exact h y (List.mem_of_getElem? a)⟩
theorem seqIs_lt {K : Frag} {H : Hp} {p : Addr} {xs : List V} (h : H p = some (.lst xs) ∨ H p = some (.tup xs)) : SeqIs K H (.ref p) (some xs) := h.elim .lst .tup
theorem fsIn_all {K : Frag} {H : Hp} {p : Addr} {ys : List V} (e : H p = some (.lst ys) ∨ H p = some (.tup ys)) (hz : ys.length ≤ 1000) (h : AllF K H ys) : FsIn K H (.ref p) (some ys) (List.replicate ys.length true) :=
  ⟨seqIs_lt e, fun xs ee => by cases ee; exact ⟨hz, allF_itms h⟩⟩
theorem fsGood_all {ys : List V} (h : ys ≠ []) : fsGood (some ys) (List.replicate ys.length true) = true := by
  show (!decide (ys.length = 0) && (List.replicate ys.length true).all id) = true
  rw [decide_eq_false (fun z => h (List.length_eq_zero_iff.mp z))]
  exact List.all_eq_true.mpr fun x hx => List.eq_of_mem_replicate hx
theorem lay_new {K : Frag} {J : Hp} {v u : V} {ys : List V} {js : List Str} {gs : List Bool} {Q : VK} {E : XK} {L dx : Addr} (hL : J L = none) (hdx : J dx = none) (hF : FsIn K J v (some ys) gs) (gF : fsGood (some ys) gs = true) (hJ : JsIn K J u (some (js.map V.str))) (gJ : jsGood ys.length (some (js.map V.str)) = true)
    (k : ∀ J', Same J J' → LyX K J' L ys js → Q .non J') : spLay K [.ref L, v, u] (upd (upd J dx (.own L)) L (.ins (LA K) dx [])) Q E := by
  have SN := same_new (C := LA K) (fs := []) hL hdx
  have eL : upd (upd J dx (.own L)) L (.ins (LA K) dx []) L = some (.ins (LA K) dx []) := upd_same
  generalize upd (upd J dx (.own L)) L (.ins (LA K) dx []) = J2 at SN eL ⊢
  refine ⟨L, dx, v, u, some ys, some (js.map V.str), gs, rfl, eL, hF.same SN, hJ.same SN, (fun g => by rw [gF] at g; cases g), (fun _ g => by rw [show jsGood (oLen (some ys)) (some (js.map V.str)) = true from gJ] at g; cases g), fun _ _ ys' xs' e1 e2 J8 t1 t2 S8 w1 w2 => ?_⟩
  obtain rfl := Option.some.inj e1
  obtain rfl := Option.some.inj e2
  have eL8 := S8 _ _ eL
  have nt : ∀ {t : Addr} {xs : List V}, SqT K J8 t xs → SqT K (upd J8 L (.ins (LA K) dx (fLayout (.ref t1) (.ref t2)))) t xs := fun {t xs} h => by
    rcases h with (h | ⟨u, h⟩) | h
    · exact .inl (.inl (by rw [upd_ne (ne_of h eL8 (fun z => by cases z))]; exact h))
    · exact .inl (.inr ⟨u, by rw [upd_ne (ne_of h eL8 (fun z => by cases z))]; exact h⟩)
    · exact .inr h
  exact k _ (same_put (SN.trans S8) hL) ⟨dx, t1, t2, upd_same, nt w1, nt w2⟩
theorem jn_good {js : List Str} (h : ∀ j ∈ js, j ∈ JN) : (js.map V.str).all jnB = true := List.all_eq_true.mpr fun x hx => by
  obtain ⟨j, hj, rfl⟩ := List.mem_map.mp hx
  have : ∀ j ∈ JN, jnB (.str j) = true := by decide +kernel
  exact this j (h j hj)
theorem js_good {js : List Str} {n : Nat} (h : ∀ j ∈ js, j ∈ JN) (e : js.length + 1 = n) : jsGood n (some (js.map V.str)) = true := by
  show (decide ((js.map V.str).length + 1 = n) && _) = true
  rw [List.length_map, decide_eq_true e, jn_good h]
  rfl
theorem jsIn_lt {K : Frag} {H : Hp} {p : Addr} {xs : List V} (e : H p = some (.lst xs) ∨ H p = some (.tup xs)) (hz : xs.length ≤ 1000) (h : ∀ x ∈ xs, Thg H x) : JsIn K H (.ref p) (some xs) := ⟨seqIs_lt e, fun ys ee => by cases ee; exact ⟨hz, h⟩⟩
theorem thg_str {H : Hp} {js : List Str} : ∀ x ∈ js.map V.str, Thg H x := fun x hx => by
  obtain ⟨j, _, rfl⟩ := List.mem_map.mp hx
  exact .inl rfl
theorem jsIn_str {K : Frag} {H : Hp} {p : Addr} {js : List Str} (e : H p = some (.lst (js.map V.str)) ∨ H p = some (.tup (js.map V.str))) (hz : js.length ≤ 1000) : JsIn K H (.ref p) (some (js.map V.str)) := jsIn_lt e (by rw [List.length_map]; exact hz) thg_str
theorem StAt.same {H H' : Hp} {a : Addr} (h : StAt H a) (s : Same H H') : StAt H' a := by
  obtain ⟨x, y, z, e, r⟩ := h
  exact ⟨x, y, z, s _ _ e, r⟩
theorem StAt.ne {H : Hp} {a b : Addr} (h : StAt H a) (n : H b = none) : b ≠ a := by
  obtain ⟨x, y, z, e, r⟩ := h
  exact ne_new e n
theorem pick {α : Type} {xs : List α} {i : Nat} (h : i < xs.length) : ∃ v, xs[i]? = some v ∧ v ∈ xs := ⟨xs[i], List.getElem?_eq_getElem h, List.getElem_mem h⟩
theorem map_eraseIdx' {α β : Type} (g : α → β) : ∀ (xs : List α) (k : Nat), (xs.map g).eraseIdx k = (xs.eraseIdx k).map g
  | [], _ => rfl
  | _ :: _, 0 => rfl
  | x :: xs, k + 1 => by
    show g x :: (xs.map g).eraseIdx k = g x :: (xs.eraseIdx k).map g
    rw [map_eraseIdx' g xs k]
theorem newS_all {ks : Nat → Str} : ∀ {n : Nat}, (∀ i j, i < n → j < n → ks i = ks j → i = j) → newS ks n = n
  | 0, _ => rfl
  | n + 1, h => by
    have ih := newS_all (n := n) fun i j hi hj e => h i j (by omega) (by omega) e
    unfold newS
    have no : (List.range n).any (fun j => ks j == ks n) = false := by
      refine Bool.eq_false_iff.mpr fun q => ?_
      obtain ⟨j, hj, e⟩ := List.any_eq_true.mp q
      have lt := List.mem_range.mp hj
      have := h j n (by omega) (by omega) (by simpa using e)
      omega
    rw [no, if_neg Bool.false_ne_true, ih]
theorem map_strV (ts : List Str) : (ts.map V.str).map strV = ts := by
  rw [List.map_map]
  exact List.map_id' ts
theorem erase_perm {α : Type} : ∀ (L : List α) (k : Nat) (h : k < L.length), (L[k] :: L.eraseIdx k).Perm L
  | [], _, h => absurd h (Nat.not_lt_zero _)
  | _ :: _, 0, _ => List.Perm.refl _
  | x :: xs, k + 1, h => (List.Perm.swap x (xs[k]'(Nat.lt_of_succ_lt_succ h)) _).trans ((erase_perm xs k (Nat.lt_of_succ_lt_succ h)).cons x)
theorem StAt.at {H : Hp} {s : Addr} (h : StAt H s) : ∃ xs, H s = some (.lst xs) := by
  obtain ⟨x, y, z, e, _⟩ := h
  exact ⟨_, e⟩
theorem FieldAt.but {K : Frag} {s : Addr} {H H' : Hp} {y : Addr} {xs : List V} (hs : H s = some (.lst xs)) (B : But s H H') : ∀ {d : PD}, FieldAt K H y d → FieldAt K H' y d
  | .word .., ⟨dx, h⟩ => ⟨dx, B _ _ (ne_of h hs (fun z => by cases z)) h⟩
  | .number .., ⟨dx, h⟩ => ⟨dx, B _ _ (ne_of h hs (fun z => by cases z)) h⟩
  | .fixed _, ⟨dx, h⟩ => ⟨dx, B _ _ (ne_of h hs (fun z => by cases z)) h⟩
  | .listed _, ⟨dx, t, h, ⟨o, c, d, g⟩⟩ => ⟨dx, t, B _ _ (ne_of h hs (fun z => by cases z)) h, o, c, d, B _ _ (ne_of g hs (fun z => by cases z)) g⟩
  | .ended .., ⟨dx, h⟩ => ⟨dx, B _ _ (ne_of h hs (fun z => by cases z)) h⟩
theorem FdAt.but {K : Frag} {s : Addr} {H H' : Hp} {y : Addr} (st : StAt H s) (B : But s H H') : ∀ {d : FD}, FdAt K H y d → FdAt K H' y d
  | .pl _, ⟨h, i⟩ => by
    obtain ⟨xs, hs⟩ := st.at
    exact ⟨h.but hs B, i⟩
  | .mk _ _ _, ⟨⟨dx, z, h, k⟩, i⟩ => by
    obtain ⟨xs, hs⟩ := st.at
    exact ⟨⟨dx, z, B _ _ (ne_of h hs (fun z => by cases z)) h, k.but hs B⟩, i⟩
theorem seqT_but {K : Frag} {s t : Addr} {H H' : Hp} {xs zs : List V} (hs : H s = some (.lst zs)) (B : But s H H') (h : SqT K H t xs) : SqT K H' t xs := by
  rcases h with (h | ⟨o, h⟩) | h
  · exact .inl (.inl (B _ _ (ne_of h hs (fun z => by cases z)) h))
  · exact .inl (.inr ⟨o, B _ _ (ne_of h hs (fun z => by cases z)) h⟩)
  · exact .inr h
theorem LayAt.but {K : Frag} {s : Addr} {H H' : Hp} {L : Addr} {ds : List FD} {js : List Str} (st : StAt H s) (B : But s H H') (h : LayAt K H L ds js) : LayAt K H' L ds js := by
  obtain ⟨xs, hs⟩ := st.at
  obtain ⟨⟨dx, t1, t2, ys, a, b, c, d⟩, o⟩ := h
  refine ⟨⟨dx, t1, t2, ys, B _ _ (ne_of a hs (fun z => by cases z)) a, seqT_but hs B b, ⟨c.1, fun i v d a b => ?_⟩, seqT_but hs B d⟩, o⟩
  obtain ⟨y, e, k⟩ := c.2 i v d a b
  exact ⟨y, e, k.but st B⟩
/-! ### what is drawn -/
theorem fdAt_itm {K : Frag} {H : Hp} {y : Addr} {d : FD} (h : FdAt K H y d) : Itm K H (.ref y) true := by
  obtain ⟨dx, fs, e⟩ := h.ins
  exact ⟨y, dx, fs, _, rfl, e, d.ci_lt⟩
theorem fsAt_all {K : Frag} {H : Hp} {ys : List V} {ds : List FD} (h : FsAt K H ys ds) : AllF K H ys := fun v hv => by
  obtain ⟨i, hi⟩ := List.mem_iff_getElem?.mp hv
  obtain ⟨y, d, rfl, _, k⟩ := h.get hi
  exact fdAt_itm k
/-- a good layout is made, of good fields -/
theorem lay_at {K : Frag} {J : Hp} {p p2 : Addr} {ys : List V} {ds : List FD} {js : List Str} {Q : VK} {E : XK} {L dx : Addr} (hL : J L = none) (hdx : J dx = none) (e1 : J p = some (.lst ys)) (hF : FsAt K J ys ds) (hn : ds.length ≤ 30) (h0 : ds ≠ [])
    (e2 : J p2 = some (.lst (js.map V.str))) (hj : ∀ j ∈ js, j ∈ JN) (hl : js.length + 1 = ds.length) (k : ∀ J', Same J J' → LayAt K J' L ds js → Q .non J') : spLay K [.ref L, .ref p, .ref p2] (upd (upd J dx (.own L)) L (.ins (LA K) dx [])) Q E := by
  have hyl := hF.1
  refine lay_new hL hdx (fsIn_all (.inl e1) (by omega) (fsAt_all hF)) (fsGood_all fun z => h0 (List.length_eq_zero_iff.mp (by rw [← hyl, z]; rfl))) (jsIn_str (.inl e2) (by omega)) (js_good hj (by omega)) fun J' S h => ?_
  obtain ⟨dx, t1, t2, a, b, c⟩ := h
  exact k J' S ⟨⟨dx, t1, t2, ys, a, b, hF.same S, c⟩, hn, h0, hl, hj⟩
end L2.K79

set_option Elab.async false
set_option linter.all false
set_option maxRecDepth 100000
set_option maxHeartbeats 4000000
/-! [e for x in ..] in a def, where a call in e may raise, and the exception leaves the def. -/
namespace L2.Jk
open PySem PySem.W PySem.Spec PySem.Calls PyProof.Rows L2
/-- a call's exception, within the block of names Y -/
def lcE (Y : Cx) (E : XK) : Value → Shared → Prop := fun u s' => ∃ (pins : List (Addr × Obj)) (σ : St) (H : Hp) (s : Shared),
  Inv Y pins σ H s ∧ L2.CX Y.prog Y.w Y.stack H s E u s'
abbrev blx (X : Cx) (E : XK) (s : Shared) (H : Hp) (scope : Scope) (cenv : Env) (fp : List Addr) : Cx :=
  (X.blk s H scope cenv fp).tr [] (lcE (X.blk s H scope cenv fp) E)
section
variable {X : Cx} {E : XK} {s0 : Shared} {H0 : Hp} {scope : Scope} {ce : Env} {fp : List Addr}
theorem inv_in {pins : List (Addr × Obj)} {σ : St} {H : Hp} {s : Shared} (I : Inv (X.blk s0 H0 scope ce fp) pins σ H s) : Inv (blx X E s0 H0 scope ce fp) pins σ H s :=
  ⟨I.ok.toTry _ _, I.os, I.bare, I.base, I.loc, I.cell, I.free, I.freeC, fun p hp => I.pin p hp, I.hok, I.len⟩
theorem inv_out {pins : List (Addr × Obj)} {σ : St} {H : Hp} {s : Shared} (I : Inv (blx X E s0 H0 scope ce fp) pins σ H s) : Inv (X.blk s0 H0 scope ce fp) pins σ H s :=
  ⟨I.ok.ofTry, I.os, I.bare, I.base, I.loc, I.cell, I.free, I.freeC, fun p hp => I.pin p hp, I.hok, I.len⟩
/-- the calls' premise, in the element -/
theorem pass_lc (σ : St) : PassesAt (L2.CX (blx X E s0 H0 scope ce fp).prog (blx X E s0 H0 scope ce fp).w) (blx X E s0 H0 scope ce fp) σ E := fun pins H s e s' I c => ⟨pins, σ, H, s, inv_out I, c⟩
/-- a call's exception flies -/
theorem fly_of {Y : Cx} {W : WX} {H : Hp} {s s' : Shared} {u : Value} (x : XE Y W u s') (c : L2.CX Y.prog Y.w Y.stack H s E u s') :
    ∃ (a : Addr) (B : Heap) (sI : Shared) (pins : List (Addr × Obj)) (σ : St) (H' : Hp) (cls : Value) (d : Option Addr), u = .ref a ∧ Inv Y pins σ H' sI ∧ (∀ b o, sI.heap.get? b = some o → b ∉ frs Y.stack → B.get? b = some o) ∧ sI.heap.UpToSlots s'.heap ∧
      HandSPX.FlyingZ B Y.stack a (Zc cls d) s'.heap ∧ H' a = none ∧ s'.os = sI.os ∧ AllBare s'.gens ∧ W cls d σ H' := by
  obtain ⟨a, B, sI, pins, σ, H', cls, d, rfl, I, nb, up, sky, na, os, ag, w⟩ := x
  obtain ⟨a2, B2, H2, cls2, d2, e2, fl, _⟩ := c
  cases e2
  obtain ⟨_, _, _, oe, vs, T, oT, ts, he, _, hd, h1, _, _, hT, hdT, h3⟩ := fl
  refine ⟨a, B, sI, pins, σ, H', cls, d, rfl, I, nb, up, ?_, na, os, ag, w⟩
  rcases sky with ⟨_, _, _, oe2, vs2, k1, _, k2, k3⟩ | fl | hh
  · rw [he] at k1
    cases k1
    rw [hd] at k2
    cases k2
    rw [h1] at k3
    cases k3
  · exact fl
  · obtain ⟨_, _, _, oe2, vs2, T2, oT2, ts2, k1, _, k2, k3, _, _, k4, k5, k6⟩ := hh
    rw [he] at k1
    cases k1
    rw [hd] at k2
    cases k2
    rw [h1] at k3
    cases k3
    rw [hT] at k4
    cases k4
    rw [hdT] at k5
    cases k5
    rw [h3] at k6
    cases k6
theorem frames_at {B B2 h h2 : Heap} : ∀ {l : List Env}, h.FunFrames B l → (∀ L ∈ frs l, h2.get? L = h.get? L) → (∀ L, B.get? L = none → B2.get? L = none) → h2.FunFrames B2 l
  | [], _, _, _ => trivial
  | env :: l, ⟨hk, ⟨L, o, hf, hb, ho, hd⟩, hr⟩, k, n => ⟨hk, ⟨L, o, hf, n L hb, (k L (List.mem_filterMap.mpr ⟨env, List.mem_cons_self, hf⟩)).trans ho, hd⟩,
      frames_at hr (fun b hb => k b (by obtain ⟨e, he, q⟩ := List.mem_filterMap.mp hb; exact List.mem_filterMap.mpr ⟨e, List.mem_cons_of_mem _ he, q⟩)) n⟩
/-- the exception goes through the block of names to the def's frame -/
theorem lc_raise {pins : List (Addr × Obj)} {σ : St} {Hb : Hp} {s3 : Shared} {use : Option (Value → Sem Unit)} {Qf : Value → Shared → Prop} {acc : Value} (hst : X.stack = X.env :: X.outer) (hfr : X.env.frame = some X.env.locals)
    (tk : Takes X fun c d _ H => E c d H) (I3 : Inv X pins σ Hb s3) (hce : ce.frame = X.env.frame) (hC : s3.heap.objs.size ≤ ce.locals) (hnC : s3.heap.objs.size = ce.locals)
    (f3 : ∀ b ∈ fp, ∃ Hx, FpOk X pins Hx b) {u : Value} {s' : Shared} (x : lcE (X.blk s3 Hb scope ce fp) E u s') :
    notedBy (model X.prog X.w) X.A ce (fun e s'' => compEnds (model X.prog X.w) X.A X.xe use Qf acc ce (.error e) s'') u s' := by
  obtain ⟨pins1, σ1, H1, s1, I1, c⟩ := x
  obtain ⟨a, B, sI, pins2, σ2, H2, cls, d, rfl, I, nb, up, fl, na, os, ag, w⟩ := fly_of (XE.of_call (W := fun c d _ H => E c d H) I1 (fun _ _ _ h => h) c) c
  have hfrm : X.A.frames = some (X.env :: X.outer) := by rw [I3.ok.frames, hst]
  have fl : HandSPX.FlyingZ B (X.env :: X.outer) a (Zc cls d) s'.heap := by
    rw [← hst]
    exact fl
  have nb : ∀ b o, sI.heap.get? b = some o → b ∉ frs X.stack → B.get? b = some o := nb
  have I7 : Inv X pins σ H2 sI := I3.call' (ch := fp) I.os I.base I.hok I.bare fun b hb => by
    obtain ⟨Hx, q⟩ := f3 b hb
    exact ⟨q.2.2.2.1, q.2.1, q.2.2.2.2.1, q.2.2.2.2.2⟩
  have nC : H2 ce.locals = none := I.free
  have fC := I3.fpOk hC nC
  have nfC : ce.locals ∉ frs X.stack := fun h => by
    rw [hst] at h
    have h : ce.locals ∈ (X.env :: X.outer).filterMap (·.frame) := h
    rw [List.filterMap_cons_some hfr] at h
    rcases List.mem_cons.mp h with e | e
    · exact fC.2.1 e
    · exact fC.2.2.1 e
  obtain ⟨mC, hnsC, _⟩ := I.loc
  have hnsC : sI.heap.Ns ce.locals mC := hnsC
  -- noted
  show wpAny (model X.prog X.w) X.A (noteFrame (.ref a) ce) _ _ s'
  have en : noteFrame (.ref a) ce = noteFrame (.ref a) X.env := by
    unfold noteFrame PySem.frameOf
    rw [hce]
  rw [en]
  refine HandSPX.looks_onZ Zc.steady hfrm hfr fl fun h1 hh up1 => ?_
  obtain ⟨g1, g2, g3, g4⟩ := hh
  obtain ⟨oC, es, ep, hoC, hdC, hk1, hk2⟩ := hnsC
  have bC := nb _ _ hoC nfC
  refine (fun z => by cases use <;> exact z : CompFails (model X.prog X.w) X.A X.xe ce (.ref a) { s' with heap := h1 } → _) ⟨mC, ⟨oC, es, ep, g1 _ _ bC, hdC, hk1, hk2⟩, fun h' m' _ sb => ?_⟩
  have sb : Heap.SameBut ce.locals h1 h' := sb
  generalize hCC : ce.locals = C at *
  have hB2 : ∀ b o, (PySem.W.hideAll B [C]).get? b = some o → b ≠ C ∧ B.get? b = some o := fun b o e => by
    refine ⟨fun q => ?_, PySem.W.of_hideAll _ e⟩
    rw [PySem.W.hideAll_none [C] (by rw [q]; exact List.mem_cons_self)] at e
    cases e
  have nB2 : ∀ b, B.get? b = none → (PySem.W.hideAll B [C]).get? b = none := fun b e => by
    cases q : (PySem.W.hideAll B [C]).get? b with
    | none => rfl
    | some o =>
      have z := (hB2 b o q).2
      rw [e] at z
      cases z
  have neC : ∀ b, B.get? b = none → b ≠ C := fun b e q => by
    rw [q, bC] at e
    cases e
  have st2 : (PySem.W.hideAll B [C]).StaysIn h' := fun b o e => by
    obtain ⟨n, e2⟩ := hB2 b o e
    exact (sb.2 b n).trans (g1 b o e2)
  have held : HandSPX.HeldZ (PySem.W.hideAll B [C]) (X.env :: X.outer) a (Zc cls d) X.env.locals h' := by
    refine ⟨st2, nB2 _ g2, frames_at g3 (fun L hL => sb.2 L fun q => nfC (by rw [hst, ← q]; exact hL)) nB2, ?_⟩
    obtain ⟨oe, vs, T, oT, ts, k1, k2, k3, k4, k5, k6, k7, k8, k9⟩ := g4
    exact ⟨oe, vs, T, oT, ts, (sb.2 a (neC a g2)).trans k1, k2, k3, k4, nB2 _ k5, k6, (sb.2 T (neC T k5)).trans k7, k8, k9⟩
  have hfc : ce.frame = some X.env.locals := hce.trans hfr
  unfold PySem.passOn
  obtain ⟨oe, vs, T, oT, ts, k1, _, k3, k4, _⟩ := held.2.2.2
  refine wpAny_bind (wpAny_field k1 k3 k4 ?_)
  rw [if_neg (show ¬ ((Value.ref T == Value.none) = true) from by simp)]
  rw [hfc]
  refine wpAny_bind (HandSPX.setFlight_onZ held fun h2 held2 up2 => wpAny_throw (tk _ _ ?_))
  refine ⟨a, PySem.W.hideAll B [C], { sI with heap := PySem.W.hideAll sI.heap [C] }, pins, σ, H2, cls, d, rfl, ?_, ?_, ?_, .inr (.inr (by rw [hst]; exact held2)), na, os, ag, w⟩
  · refine I7.turned (it := C) (t' := sI.toks) (fun b o n e => PySem.W.hideAll_get _ e fun hm => n (by simpa using hm)) fC.1 fC.2.1 fC.2.2.2.1 fC.2.2.2.2.1 fC.2.2.2.2.2
  · intro b o e hb
    have e1 := PySem.W.of_hideAll [C] e
    refine PySem.W.hideAll_get _ (nb b o e1 hb) fun hm => ?_
    rw [PySem.W.hideAll_none [C] hm] at e
    cases e
  · intro b o e hd
    have e1 := PySem.W.of_hideAll [C] e
    have n : b ≠ C := fun q => by
      rw [PySem.W.hideAll_none [C] (by rw [q]; exact List.mem_cons_self)] at e
      cases e
    obtain ⟨sl1, q1⟩ := up b o e1 hd
    obtain ⟨sl2, q2⟩ := up1 b _ q1 hd
    have q3 : h'.get? b = some { o with slots := sl2 } := (sb.2 b n).trans q2
    obtain ⟨sl3, q4⟩ := up2 b { o with slots := sl2 } q3 hd
    exact ⟨sl3, q4⟩
/-- a comprehension whose element may raise by a call; the exception leaves the def -/
theorem pe_lcX {elt tg iter : Expr} {ifs : List Expr} {own : List (Str × Nat)} {pos : Pos} {wi : TI} {g : TG} {tt : TT} {te : TE} (hc : X.calm = true) (hst : X.stack = X.env :: X.outer) (hfr : X.env.frame = some X.env.locals)
    (tk : Takes X fun c d _ H => E c d H) (hN : X.N.Nodup) (hi : PI X tg iter wi) (ok : BlkOk X.N X.env.scope scope own)
    (hg : ∀ (s : Shared) (H : Hp) (C : Addr) (cl : List (Str × Addr)) (fp : List Addr), PG (X.blk s H scope (compEnvC scope cl C X.env) fp) tg g)
    (ht : ∀ (s : Shared) (H : Hp) (C : Addr) (cl : List (Str × Addr)) (fp : List Addr), PTs (X.blk s H scope (compEnvC scope cl C X.env) fp) ifs tt)
    (he : ∀ (s : Shared) (H : Hp) (C : Addr) (cl : List (Str × Addr)) (fp : List Addr), PE (blx X E s H scope (compEnvC scope cl C X.env) fp) elt te)
    (hs : ∀ x, foldedSetIterable iter X.env x = pure x := by intro _; rfl) :
    PE X (.ListComp elt [{ target := tg, iter := iter, ifs := ifs, is_async := 0 }] scope pos) (tLc wi g tt te (own.map (·.2))) := by
  refine ⟨fun pins s σ H Q I h => ?_⟩
  rw [eval_ListComp]
  have hfree : ∀ y ∈ scope.names, y.2 = .free → ∃ c, X.env.cells.lookup y.1 = some c := fun y hy e => (ok.free y hy e).elim (fun k => I.ok.has _ (.inl k)) fun k => I.ok.has _ (.inr k)
  refine comprehension_at (use := none) rfl hs (closure_ok hfree) ok.kind (fun y hy e => by rw [ok.uniq y hy, e]) (thn (hi.run pins s σ H _ I h) fun xv sa hx => thn hx fun itv z2 h2 => ?_)
  obtain ⟨it, fp, tn, J, H2, rfl, Y2, T, at2, f2, q⟩ := h2
  refine wpAny_newObj_type (newEnv_comp ?_) (by show 0 ≤ sizeLine; decide)
  generalize hN1 : z2.heap.objs.size = N
  obtain ⟨W, ⟨m0, w0⟩, each⟩ := q N (Y2.hok.fresh (Nat.le_of_eq hN1))
  generalize ez3 : (⟨z2.heap.push { cls := .type "list", data := .seq ([] : List Value).toArray }, z2.gens, z2.drawn, z2.toks, z2.os⟩ : Shared) = z3
  have eh3 : z3.heap = z2.heap.push { cls := .type "list", data := .seq ([] : List Value).toArray } := by rw [← ez3]
  have Y3 : Inv X pins σ (upd H2 N (.lst [])) z3 := by
    rw [← ez3]
    refine Y2.laid (t' := z2.toks) (fun b o e => Heap.get?_push_of_some _ e) (Nat.le_of_eq hN1) ?_
    refine ⟨Nat.zero_le _, [], 0, .nil, ?_⟩
    rw [← hN1]
    exact Heap.get?_push_size _ rfl
  have fA : ∀ b ∈ fp, FpOk X pins (upd H2 N (.lst [])) b ∧ b < z3.heap.objs.size := fun b hb => by
    obtain ⟨o, e, _⟩ := T.obj _ _ at2 b hb
    have hlt := Heap.lt_size e
    refine ⟨⟨?_, (f2 b hb).2⟩, ?_⟩
    · rw [upd_ne (by rw [← hN1]; exact Nat.ne_of_lt hlt)]
      exact (f2 b hb).1
    · rw [eh3, Heap.size_push]
      exact Nat.lt_succ_of_lt hlt
  have at3 : tn 0 z3.heap := T.keep _ _ _ at2 fun b _ o e => by rw [eh3]; exact Heap.get?_push_of_some _ e
  have Y4 := block_start Y3 ok hN fA
  have gA := hg z3 (upd H2 N (.lst [])) z3.heap.objs.size (cellsFrom (z3.heap.objs.size + 1) scope.names (cloFrom X.env.cells scope.names [])) fp
  have tA := ht z3 (upd H2 N (.lst [])) z3.heap.objs.size (cellsFrom (z3.heap.objs.size + 1) scope.names (cloFrom X.env.cells scope.names [])) fp
  have eA := he z3 (upd H2 N (.lst [])) z3.heap.objs.size (cellsFrom (z3.heap.objs.size + 1) scope.names (cloFrom X.env.cells scope.names [])) fp
  show codeAny _ _ (.compStart (.ListComp elt [⟨tg, iter, ifs, 0⟩] scope pos) 0 (.ref it) (.ref N) (compEnvC scope (cellsFrom (z3.heap.objs.size + 1) scope.names (cloFrom X.env.cells scope.names [])) z3.heap.objs.size X.env))
    (compEnds (model X.prog X.w) X.A X.xe none (EP X pins σ Q) (.ref N) (compEnvC scope (cellsFrom (z3.heap.objs.size + 1) scope.names (cloFrom X.env.cells scope.names [])) z3.heap.objs.size X.env)) { z3 with heap := pushCells (z3.heap.push { cls := .type "dict", data := .dict #[] }) scope.names }
  generalize ece : compEnvC scope (cellsFrom (z3.heap.objs.size + 1) scope.names (cloFrom X.env.cells scope.names [])) z3.heap.objs.size X.env = ce at Y4 gA tA eA ⊢
  have cL : ce.locals = z3.heap.objs.size := by rw [← ece]; rfl
  have cF : ce.frame = X.env.frame := by rw [← ece]; rfl
  generalize hH3 : upd H2 N (.lst []) = H3 at Y3 Y4 gA tA eA w0 fA
  generalize ez4 : ({ z3 with heap := pushCells (z3.heap.push { cls := .type "dict", data := .dict #[] }) scope.names } : Shared) = z4 at Y4 ⊢
  have at4 : tn 0 z4.heap := T.keep _ _ _ at3 fun b _ o e => by rw [← ez4]; exact pushCells_keeps _ _ _ _ (Heap.get?_push_of_some _ e)
  have stat : ∀ {σ' : St} {H' : Hp} {s' : Shared}, Inv (X.blk z3 H3 scope ce fp) [] σ' H' s' → (∀ b ∈ fp, H' b = none) → ∀ b ∈ fp, FpOk (X.blk z3 H3 scope ce fp) [] H' b := fun {σ' H' s'} I' hn b hb => by
    refine ⟨hn b hb, (I'.ok.exf b hb).1, I'.ok.exfs b hb, .inl hb, (I'.ok.exf b hb).2, fun p hp => ?_⟩
    cases hp
  have raise : ∀ (u : Value) (s' : Shared), lcE (X.blk z3 H3 scope ce fp) E u s' → notedBy (model X.prog X.w) X.A ce (fun e s'' => compEnds (model X.prog X.w) X.A X.xe none (EP X pins σ Q) (.ref N) ce (.error e) s'') u s' := fun u s' x =>
    lc_raise hst hfr tk Y3 cF (Nat.le_of_eq cL.symm) cL.symm (fun b hb => ⟨_, (fA b hb).1⟩) x
  have loop : codeAny (model X.prog X.w) X.A (.compLoop (.ListComp elt [⟨tg, iter, ifs, 0⟩] scope pos) 0 (.ref it) (.ref N) ce) (compEnds (model X.prog X.w) X.A X.xe none (EP X pins σ Q) (.ref N) ce) z4 := by
    refine compLoop_any (fun n s' => ∃ i H', Inv (X.blk z3 H3 scope ce fp) [] (wipe σ (own.map (·.2))) H' s' ∧ tn i s'.heap ∧ (∀ b ∈ fp, H' b = none) ∧ W i n H') ?_ m0 ⟨0, H3, Y4, at4, fun b hb => (fA b hb).1.1, w0⟩
    rintro n z5 ⟨i, H5, Y5, at5, n5, w5⟩
    rcases each i n H5 w5 with ⟨stop, fi⟩ | ⟨go, Nx, hNx, step⟩
    · refine thnF (T.done (X.blk z3 H3 scope ce fp) rfl rfl rfl hc i [] z5 _ H5 (fun _ _ => False) Y5 (stat Y5 n5) at5 stop) fun r z6 ⟨hr, Y6⟩ => ?_
      subst hr
      have Y7 : Inv X pins σ H5 z6 := Y3.call' (ch := fp) Y6.os Y6.base Y6.hok Y6.bare fun b hb => by
        have z := (fA b hb).1
        exact ⟨z.2.2.2.1, z.2.1, z.2.2.2.2.1, z.2.2.2.2.2⟩
      have nC : H5 z3.heap.objs.size = none := by rw [← cL]; exact Y6.free
      have fC := Y3.fpOk (Nat.le_refl _) nC
      obtain ⟨m, hn, _⟩ := Y6.loc
      refine ⟨m, hn, fun h'' sb => ⟨.ref N, H5, ?_, rfl, fi⟩⟩
      have sb2 : Heap.SameBut ce.locals z6.heap h'' := sb
      rw [cL] at sb2
      exact Y7.turned (t' := z6.toks) (fun b o hb e => (sb2.2 b hb).trans e) fC.1 fC.2.1 fC.2.2.2.1 fC.2.2.2.2.1 fC.2.2.2.2.2
    · refine thnF (T.item (X.blk z3 H3 scope ce fp) rfl rfl rfl hc i [] z5 _ H5 (fun _ _ => False) Y5 (stat Y5 n5) at5 go) fun r z6 ⟨u, hr, h6⟩ => ?_
      subst hr
      refine thnF h6 fun _ z7 ⟨x, H7, Y7, r7, y7, at7, n7⟩ => ?_
      have Y7' := Y7.pinned (stat Y7 n7) (T.obj _ _ at7)
      refine thnF (gA.run _ z7 _ H7 x u _ Y7' r7 (step x H7 y7)) fun _ z8 ⟨σ8, H8, Y8, hw8, p8⟩ => ?_
      refine thnF (tA.run _ z8 σ8 H8 _ Y8 p8) fun b z9 ⟨H9, Y9, p9⟩ => ?_
      have fin : ∀ {s' : Shared} {H' : Hp}, Inv (X.blk z3 H3 scope ce fp) ([] ++ pinsAt fp z7.heap) σ8 H' s' → Nx H' →
          ∃ m, m < n ∧ ∃ i H', Inv (X.blk z3 H3 scope ce fp) [] (wipe σ (own.map (·.2))) H' s' ∧ tn i s'.heap ∧ (∀ b ∈ fp, H' b = none) ∧ W i m H' := fun {s' H'} I' nx => by
        obtain ⟨m', hm, w'⟩ := hNx H' nx
        have pin' : ∀ b ∈ fp, ∀ o, z7.heap.get? b = some o → s'.heap.get? b = some o ∧ H' b = none := fun b hb o e => by
          have z := I'.pin (b, o) (List.mem_append_right _ (List.mem_append_right _ (mem_pinsAt hb e)))
          exact ⟨z.1, z.2.1⟩
        refine ⟨m', hm, i + 1, H', (I'.unpinned (pins := [])).weak (by rw [← hw8, wipe_length]) (fun j v e => ?_), ?_, fun b hb => ?_, w'⟩
        · rw [← hw8] at e
          exact (wipe_some e).1
        · exact T.keep _ _ _ at7 fun b hb o e => (pin' b hb o e).1
        · obtain ⟨o, e, _⟩ := T.obj _ _ at7 b hb
          exact (pin' b hb o e).2
      cases b with
      | false =>
        simp only [Bool.false_eq_true, if_false] at p9 ⊢
        exact fin Y9 p9
      | true =>
        simp only [if_true] at p9 ⊢
        refine wpAny_mono (eA.run _ z9 σ8 H9 _ (inv_in Y9) p9) (fun z z10 ⟨yv, H10, I10, r10, acc, hD10, hz10, nx⟩ => ?_) raise
        exact app_ok (X := X.blk z3 H3 scope ce fp) (inv_out I10) hD10 hz10 r10 fun z11 I11 => fin I11 nx
  exact codeAny_compStart_list loop (T.self X.A 0 _ _ _ at4 loop)
end
end L2.Jk

set_option Elab.async false
set_option linter.all false
set_option maxRecDepth 100000
set_option maxHeartbeats 4000000
/-! The layout with a text, or what the text is refused for. -/
namespace L2.K79
open PySem PySem.W PySem.Spec PySem.Calls PyProof.Rows L2.Jk
structure N8 (P : Program) (w : World) (K : Frag) (mg : Str → Option Value) (base : Heap) : Prop extends N7 P w K mg base where
  field_in : FnAt P w K mg base (L2.CX P w) 7 "field_in" ["word"] (spFi K)
  enumerate : mg "enumerate" = none
def sepB (t : Str) : Bool := inV (.str t) [V.str "!", V.str "~"]
theorem sepB_is {t : Str} : sepB t = decide (t = "!" ∨ t = "~") := by
  unfold sepB inV
  simp only [List.any_cons, List.any_nil, eqV, Bool.or_false]
  by_cases h1 : t = "!"
  · subst h1; simp
  · by_cases h2 : t = "~"
    · subst h2; simp
    · have a : ((("!" : Str) == t) : Bool) = false := beq_eq_false_iff_ne.mpr (Ne.symm h1)
      have b : ((("~" : Str) == t) : Bool) = false := beq_eq_false_iff_ne.mpr (Ne.symm h2)
      simp [h1, h2, a, b]
theorem FdAt.putl {K : Frag} {H : Hp} {D r : Addr} {xs : List V} {o : HO} (hD : H D = some (.lst xs)) {d : FD} (h : FdAt K H r d) : FdAt K (upd H D o) r d := by
  have B : But D H (upd H D o) := but_upd _ _ _
  cases d with
  | pl d => exact ⟨h.1.but hD B, h.2⟩
  | mk n m d =>
    obtain ⟨⟨dx, z, a, b⟩, i⟩ := h
    exact ⟨⟨dx, z, B _ _ (ne_of a hD (fun z => by cases z)) a, b.but hD B⟩, i⟩
theorem FsAt.snoc {K : Frag} {H : Hp} {D r : Addr} {ys : List V} {ds : List FD} {d : FD} {xs : List V} {o : HO} (hD : H D = some (.lst xs)) (h : FsAt K H ys ds) (hr : FdAt K H r d) : FsAt K (upd H D o) (ys ++ [.ref r]) (ds ++ [d]) := by
  refine ⟨by rw [List.length_append, List.length_append, h.1]; rfl, fun i v e a b => ?_⟩
  by_cases hi : i < ys.length
  · rw [List.getElem?_append_left hi] at a
    rw [List.getElem?_append_left (by rw [← h.1]; exact hi)] at b
    obtain ⟨y, ev, k⟩ := h.2 i v e a b
    exact ⟨y, ev, k.putl hD⟩
  · rw [List.getElem?_append_right (by omega)] at a
    rw [List.getElem?_append_right (by rw [← h.1]; omega)] at b
    have hz : i - ys.length = 0 := by
      have := (List.getElem?_eq_some_iff.mp a).1
      simp only [List.length_cons, List.length_nil] at this
      omega
    rw [hz] at a
    rw [← h.1, hz] at b
    obtain rfl := Option.some.inj a
    obtain rfl := Option.some.inj b
    exact ⟨r, rfl, hr.putl hD⟩

/-- the words of a text -/
def blk (t : Str) : List Str := Txt.split t " "
theorem blk_ne (t : Str) : blk t ≠ [] := by
  obtain ⟨ps, h0, _, _, h⟩ := cut_text 32 t
  show Txt.split t " " ≠ []
  rw [blank_is, h]
  exact h0
theorem blk_join (t : Str) : Txt.join " " (blk t) = t := by
  obtain ⟨ps, _, _, h2, h⟩ := cut_text 32 t
  show Txt.join " " (Txt.split t " ") = t
  rw [blank_is, h]
  exact h2
theorem blk_of {ps : List Str} (h0 : ps ≠ []) (h : ∀ p ∈ ps, 32 ∉ p.cps.toList) : blk (Txt.join " " ps) = ps := split_join h0 h
/-- the sign ahead of each field, or none -/
def sg : Str → List Str → List Str
  | _, [] => []
  | p, w :: ws => if sepB w = true then sg w ws else (if sepB p = true then p else "") :: sg w ws
def fws (ws : List Str) : List Str := ws.filter fun w => !sepB w
def pvW (W : List Str) (i : Nat) : Str := (W.take i).getLastD ""
def badW (W : List Str) (i : Nat) : Bool := if sepB (W.getD i "") = true then (decide (i = 0) || (decide (i + 1 = W.length) || sepB (pvW W i))) else !wB (W.getD i "")
def rdBad (W : List Str) : Option Nat := (List.range W.length).find? (badW W)
def jP (W : List Str) (i : Nat) : List Str := (sg "" (W.take i)).tail ++ (if sepB (pvW W i) = true then [pvW W i] else [])
theorem sep_emp : sepB "" = false := by decide +kernel
theorem sg_snoc : ∀ (l : List Str) (p w : Str), sg p (l ++ [w]) = sg p l ++ (if sepB w = true then [] else [if sepB (l.getLastD p) = true then l.getLastD p else ""])
  | [], p, w => by
    show (if sepB w = true then [] else _ :: []) = _
    by_cases h : sepB w = true
    · rw [if_pos h, if_pos h]; rfl
    · rw [if_neg h, if_neg h]; rfl
  | x :: l, p, w => by
    have e : (x :: l).getLastD p = l.getLastD x := by cases l <;> rfl
    show (if sepB x = true then sg x (l ++ [w]) else _ :: sg x (l ++ [w])) = (if sepB x = true then sg x l else _ :: sg x l) ++ _
    rw [e, sg_snoc l x w]
    by_cases h : sepB x = true
    · rw [if_pos h, if_pos h]
    · rw [if_neg h, if_neg h]; rfl
theorem sg_len : ∀ (l : List Str) (p : Str), (sg p l).length = (fws l).length
  | [], _ => rfl
  | x :: l, p => by
    show (if sepB x = true then sg x l else _ :: sg x l).length = (List.filter _ (x :: l)).length
    by_cases h : sepB x = true
    · rw [if_pos h, List.filter_cons_of_neg (by rw [h]; exact Bool.false_ne_true), sg_len l x]; rfl
    · rw [if_neg h, List.filter_cons_of_pos (by rw [Bool.eq_false_iff.mpr h]; rfl), List.length_cons, List.length_cons, sg_len l x]; rfl
theorem fws_len (l : List Str) : (fws l).length ≤ l.length := List.length_filter_le _ _
theorem sep_JN {w : Str} (h : sepB w = true) : w ∈ JN := by
  rw [sepB_is] at h
  rcases of_decide_eq_true h with rfl | rfl <;> decide
theorem jn_sg : ∀ (l : List Str) (p : Str), ∀ j ∈ sg p l, j ∈ JN
  | [], _, j, h => by cases h
  | x :: l, p, j, h => by
    have h : j ∈ (if sepB x = true then sg x l else (if sepB p = true then p else "") :: sg x l) := h
    by_cases hx : sepB x = true
    · rw [if_pos hx] at h
      exact jn_sg l x j h
    · rw [if_neg hx] at h
      rcases List.mem_cons.mp h with rfl | h
      · by_cases hp : sepB p = true
        · rw [if_pos hp]; exact sep_JN hp
        · rw [if_neg hp]; decide
      · exact jn_sg l x j h
theorem jn_tail (l : List Str) (p : Str) (_ : p = "" ∨ True) : ∀ j ∈ (sg p l).tail, j ∈ JN := fun j h => jn_sg l p j (List.mem_of_mem_tail h)
theorem take_snoc {W : List Str} {i : Nat} {u : Str} (h : W[i]? = some u) : W.take (i + 1) = W.take i ++ [u] := by
  rw [List.take_add_one, h]
  rfl
theorem pv_next {W : List Str} {i : Nat} {u : Str} (h : W[i]? = some u) : pvW W (i + 1) = u := by
  unfold pvW
  rw [take_snoc h]
  simp
theorem fws_take {W : List Str} {i : Nat} {u : Str} (h : W[i]? = some u) : fws (W.take (i + 1)) = fws (W.take i) ++ (if sepB u = true then [] else [u]) := by
  unfold fws
  rw [take_snoc h, List.filter_append]
  by_cases hs : sepB u = true
  · rw [if_pos hs, List.filter_cons_of_neg (by rw [hs]; exact Bool.false_ne_true)]; rfl
  · rw [if_neg hs, List.filter_cons_of_pos (by rw [Bool.eq_false_iff.mpr hs]; rfl)]; rfl
theorem getD_of {W : List Str} {i : Nat} {u : Str} (h : W[i]? = some u) : W.getD i "" = u := by
  rw [List.getD_eq_getElem?_getD, h]
  rfl
theorem badW_sep {W : List Str} {i : Nat} {u : Str} (h : W[i]? = some u) (hs : sepB u = true) : badW W i = (decide (i = 0) || (decide (i + 1 = W.length) || sepB (pvW W i))) := by
  unfold badW
  rw [getD_of h, if_pos hs]
theorem badW_word {W : List Str} {i : Nat} {u : Str} (h : W[i]? = some u) (hs : sepB u = false) : badW W i = !wB u := by
  unfold badW
  rw [getD_of h, if_neg (by rw [hs]; exact Bool.false_ne_true)]
theorem jP_sep {W : List Str} {i : Nat} {u : Str} (h : W[i]? = some u) (hs : sepB u = true) (hp : sepB (pvW W i) = false) : jP W (i + 1) = jP W i ++ [u] := by
  unfold jP
  rw [pv_next h, take_snoc h, sg_snoc, if_pos hs, if_pos hs, List.append_nil, if_neg (by rw [hp]; exact Bool.false_ne_true), List.append_nil]
theorem sg_nz {W : List Str} {i : Nat} {u : Str} (h : W[i]? = some u) (hi : i ≠ 0) (h0 : badW W 0 = false) : sg "" (W.take i) ≠ [] := by
  cases W with
  | nil => cases h
  | cons x W =>
    have hx : sepB x = false := by
      cases z : sepB x with
      | false => rfl
      | true =>
        rw [badW_sep (u := x) rfl z] at h0
        cases h0
    cases i with
    | zero => exact absurd rfl hi
    | succ i =>
      show (if sepB x = true then _ else _ :: _) ≠ []
      rw [if_neg (by rw [hx]; exact Bool.false_ne_true)]
      exact List.cons_ne_nil _ _
theorem tail_snoc {l : List Str} {x : Str} (h : l ≠ []) : (l ++ [x]).tail = l.tail ++ [x] := by
  cases l with
  | nil => exact absurd rfl h
  | cons y l => rfl
theorem jP_free {W : List Str} {i : Nat} {u : Str} (h : W[i]? = some u) (hs : sepB u = false) (hi : i ≠ 0) (h0 : badW W 0 = false) (hp : sepB (pvW W i) = false) : jP W (i + 1) = jP W i ++ ([""] : List Str) := by
  have hp' : ¬ sepB (pvW W i) = true := by rw [hp]; exact Bool.false_ne_true
  have hs' : ¬ sepB u = true := by rw [hs]; exact Bool.false_ne_true
  unfold jP
  rw [pv_next h, take_snoc h, sg_snoc, if_neg hs', if_neg hs', List.append_nil, tail_snoc (sg_nz h hi h0), if_neg hp', List.append_nil]
  show _ ++ [if sepB (pvW W i) = true then _ else _] = _
  rw [if_neg hp']
theorem jP_behind {W : List Str} {i : Nat} {u : Str} (h : W[i]? = some u) (hs : sepB u = false) (hi : i ≠ 0) (h0 : badW W 0 = false) (hp : sepB (pvW W i) = true) : jP W (i + 1) = jP W i := by
  have hs' : ¬ sepB u = true := by rw [hs]; exact Bool.false_ne_true
  unfold jP
  rw [pv_next h, take_snoc h, sg_snoc, if_neg hs', if_neg hs', List.append_nil, tail_snoc (sg_nz h hi h0), if_pos hp]
  show _ ++ [if sepB (pvW W i) = true then _ else _] = _
  rw [if_pos hp]
  rfl
theorem jP_first {W : List Str} {u : Str} (h : W[0]? = some u) (hs : sepB u = false) : jP W (0 + 1) = jP W 0 := by
  have hs' : ¬ sepB u = true := by rw [hs]; exact Bool.false_ne_true
  unfold jP
  rw [pv_next h, take_snoc h, sg_snoc, if_neg hs', if_neg hs']
  show [] ++ [] = [] ++ (if sepB "" = true then _ else _)
  rw [if_neg (by rw [sep_emp]; exact Bool.false_ne_true)]
theorem jP_len (W : List Str) (i : Nat) : (jP W i).length ≤ W.length + 1 := by
  unfold jP
  have h1 := sg_len (W.take i) ""
  have h2 := fws_len (W.take i)
  rw [List.length_take] at h2
  rw [List.length_append, List.length_tail]
  split
  · simp only [List.length_cons, List.length_nil]; omega
  · simp only [List.length_nil]; omega
theorem getLastD_at : ∀ (l : List Str) (d : Str), l ≠ [] → l[l.length - 1]? = some (l.getLastD d)
  | [], _, h => absurd rfl h
  | [x], _, _ => rfl
  | x :: y :: l, d, _ => by
    have := getLastD_at (y :: l) x (List.cons_ne_nil _ _)
    have e : (x :: y :: l).getLastD d = (y :: l).getLastD x := rfl
    rw [e, ← this]
    rfl
theorem prevW {W : List Str} {i : Nat} (hi : i ≠ 0) (hl : i ≤ W.length) : atI (W.map V.str) (((i : Nat) : Int) - 1) = some (.str (pvW W i)) := by
  rw [show (((i : Nat) : Int) - 1) = ((i - 1 : Nat) : Int) by omega]
  refine atI_nat ?_
  have hne : W.take i ≠ [] := fun z => by
    have := congrArg List.length z
    rw [List.length_take] at this
    simp only [List.length_nil] at this
    omega
  have h := getLastD_at (W.take i) "" hne
  rw [List.length_take, Nat.min_eq_left hl, List.getElem?_take, if_pos (by omega)] at h
  rw [List.getElem?_map, h]
  rfl
theorem find_first {W : List Str} {i : Nat} (hi : i < W.length) (h : badW W i = true) (hb : ∀ j, j < i → badW W j = false) : rdBad W = some i := by
  unfold rdBad
  rw [List.find?_range_eq_some]
  exact ⟨h, List.mem_range.mpr hi, fun j hj => by rw [hb j hj]; rfl⟩
theorem find_none {W : List Str} (hb : ∀ j, j < W.length → badW W j = false) : rdBad W = none := by
  unfold rdBad
  rw [List.find?_eq_none]
  exact fun j hj => by rw [hb j (List.mem_range.mp hj)]; exact Bool.false_ne_true
theorem none_bad {W : List Str} (h : rdBad W = none) {j : Nat} (hj : j < W.length) : badW W j = false := by
  unfold rdBad at h
  rw [List.find?_eq_none] at h
  exact Bool.eq_false_iff.mpr (h j (List.mem_range.mpr hj))
theorem last_word {W : List Str} (h : rdBad W = none) (h0 : W ≠ []) : sepB (pvW W W.length) = false := by
  have hp : 0 < W.length := List.length_pos_iff.mpr h0
  obtain ⟨u, hu⟩ : ∃ u, W[W.length - 1]? = some u := ⟨_, List.getElem?_eq_getElem (by omega)⟩
  have hn := pv_next hu
  rw [Nat.sub_add_cancel hp] at hn
  rw [hn]
  cases z : sepB u with
  | false => rfl
  | true =>
    have hb := none_bad h (j := W.length - 1) (by omega)
    rw [badW_sep hu z, show decide (W.length - 1 + 1 = W.length) = true from decide_eq_true (by omega)] at hb
    rw [Bool.true_or, Bool.or_true] at hb
    cases hb
theorem jP_end {W : List Str} (h : rdBad W = none) (h0 : W ≠ []) : jP W W.length = (sg "" W).tail := by
  unfold jP
  rw [List.take_length, if_neg (by rw [last_word h h0]; exact Bool.false_ne_true), List.append_nil]
theorem fws_ne {W : List Str} (h : rdBad W = none) (h0 : W ≠ []) : fws W ≠ [] := by
  have hp : 0 < W.length := List.length_pos_iff.mpr h0
  obtain ⟨u, hu⟩ : ∃ u, W[W.length - 1]? = some u := ⟨_, List.getElem?_eq_getElem (by omega)⟩
  have hn := pv_next hu
  rw [Nat.sub_add_cancel hp] at hn
  have hs := last_word h h0
  rw [hn] at hs
  exact List.ne_nil_of_mem (List.mem_filter.mpr ⟨List.mem_of_getElem? hu, by rw [hs]; rfl⟩)
/-- the fields of the words -/
structure FwOk (w : Str) (f : List (Str × Str) × PD) : Prop where
  mkE : mkL (pcs w) = (f.1, f.2.parts)
  wf : WfP f.2
  ms : ∀ p ∈ f.1, PtOk p.1 ∧ PtOk p.2
def FwsOk (W : List Str) (fs : List (List (Str × Str) × PD)) : Prop := fs.length = (fws W).length ∧ ∀ (i : Nat) (w : Str) (f : List (Str × Str) × PD), (fws W)[i]? = some w → fs[i]? = some f → FwOk w f
def firstDue (fs : List (List (Str × Str) × PD)) : Option Str := fs.findSome? fun f => dueM f.1 f.2
theorem first_none {fs : List (List (Str × Str) × PD)} (h : ∀ f ∈ fs, dueM f.1 f.2 = none) : firstDue fs = none := List.findSome?_eq_none_iff.mpr h
theorem first_at : ∀ {fs : List (List (Str × Str) × PD)} {i : Nat} {f : List (Str × Str) × PD} {z : Str}, fs[i]? = some f → dueM f.1 f.2 = some z → (∀ g ∈ fs.take i, dueM g.1 g.2 = none) → firstDue fs = some z
  | [], _, _, _, h, _, _ => by cases h
  | x :: fs, 0, f, z, h, hz, _ => by
    obtain rfl := Option.some.inj h
    show List.findSome? _ (x :: fs) = _
    rw [List.findSome?_cons, hz]
  | x :: fs, i + 1, f, z, h, hz, hn => by
    have hx := hn x (by simp)
    show List.findSome? _ (x :: fs) = _
    rw [List.findSome?_cons, hx]
    exact first_at (i := i) h hz fun g hg => hn g (by rw [List.take_succ_cons]; exact List.mem_cons_of_mem _ hg)
theorem fw_is {n : Nat} {w : Str} (h : Wee n w) (hw : wB w = true) : ∃ f, FwOk w f := by
  obtain ⟨h1, h2⟩ := Bool.and_eq_true_iff.mp (show ((mkL (pcs w)).1.all (fun p => freeB p.1 && freeB p.2) && plB (mkL (pcs w)).2) = true from hw)
  obtain ⟨_, m2, m3⟩ := mkL_ok h
  obtain ⟨d, hd, e⟩ := pl_is h2 m2
  exact ⟨((mkL (pcs w)).1, d), by rw [← e], hd, m3⟩
def spRl (K : Frag) : Sp := fun vs H Q E => ∃ v : V, vs = [v] ∧
  ((∃ T : String, TyE K H v (.type T) ∧ kitOne K (.type T) (.type "str") = some false ∧ RaiseE (BT K) "place" (.int 0) H E) ∨
   ∃ (t : Str) (n : Nat), v = .str t ∧ (∀ w ∈ blk t, Wee n w) ∧ n ≤ 200 ∧ (blk t).length ≤ 30 ∧ (∀ i : Nat, rdBad (blk t) = some i → RaiseE (BT K) "place" (.int (i : Nat)) H E) ∧
     (rdBad (blk t) = none → ∃ fs, FwsOk (blk t) fs ∧ (∀ f ∈ fs, BdP f.2) ∧ (∀ x, firstDue fs = some x → RaiseE (BF K) "what" (.str x) H E) ∧
       (firstDue fs = none → ∀ L H', Same H H' → LayAt K H' L (fs.map fun f => fdM f.1 f.2) (sg "" (blk t)).tail → Q (.ref L) H')))
section
variable {P : Program} {w : World} {K : Frag} {mg : Str → Option Value} {base : Heap} {f : Addr} {fd : FuncData}
abbrev s_read_layout : Stmt := top 35
theorem sc_read_layout : FnScope ["text", "words", "joints", "told", "place", "word"] ["text"] (defScope s_read_layout) := ⟨rfl, rfl, rfl, by decide +kernel, rfl, by decide +kernel, by decide +kernel⟩

theorem ok_read_layout (F : FunD K "read_layout" "read_layout" (defArgs s_read_layout) (defBody s_read_layout) (defScope s_read_layout) [] [] f fd) (G : N8 P w K mg base) : FnOk P w K mg base (L2.CX P w) 8 f fd ["text"] (spRl K) := by
  refine F.ok (CX := (L2.CX P w)) sc_read_layout (fun vs H Q E h => ?_) (fun cdv A outer s H vs Q E hr h => ?_)
  · obtain ⟨_, rfl, _⟩ := h
    rfl
  · have hr2 : Room 2 _ := hr.mono (by decide)
    have hr7 : Room 7 _ := hr
    refine ⟨_, (pss_cons (ps_if (pt_not (pt_val (pe_callB (call_ieK (K := K) rfl) (by rfl) G.isinstance (by decide +kernel) (pa_cons (pv 0) (pa_cons (pe_bty (n := "str") (by rfl) G.str (by decide +kernel)) pa_nil)))))
      (pss_one (ps_raise rfl (takes_of rfl rfl rfl rfl) (pmk_1 G.bt hr2 (by rfl) (pa_cons pe_int pa_nil))))
      pss_nil)
    (C8.pss_cut (ps_set (i := 1) sc_read_layout.nd rfl (Or.inl rfl) (pe_split (pv 0) pe_str))
    (C8.pss_cut (ps_set (i := 2) sc_read_layout.nd rfl (Or.inl rfl) (pe_lstS pa_nil))
    (C8.pss_cut (ps_set (i := 3) sc_read_layout.nd rfl (Or.inl rfl) (pe_lstS pa_nil))
    (C8.pss_cut (ps_for (passes_of rfl) rfl (pi_enum (by rfl) G.enumerate (pa_cons (pv 1) pa_nil)) (pg_tup rfl (pgs_cons (pg_name (i := 4) sc_read_layout.nd rfl (Or.inl rfl)) (pgs_cons (pg_name (i := 5) sc_read_layout.nd rfl (Or.inl rfl)) pgs_nil)))
      (pss_one (ps_if (pt_cmpR op_in_seq (pv 5) (pe_tupS (pa_cons (pe_sg G.low) (pa_cons (pe_sg G.high) pa_nil))) (by rfl))
        (pss_cons (ps_if (PW.pt (pw_or (pt_cmpR op_eq (pv 4) pe_int (nomark _)) (pw_or (pt_cmpR op_eq (pv 4) (pe_op op_sub (pe_callB call_len_seq (by rfl) G.len (by decide +kernel) (pa_cons (pv 1) pa_nil)) pe_int) (nomark _)) (pw_or1 (pt_cmpR op_in_seq (pe_ix ix_list (pv 1) (pe_op op_sub (pv 4) pe_int) (fun _ _ => rfl)) (pe_tupS (pa_cons (pe_sg G.low) (pa_cons (pe_sg G.high) pa_nil))) (by rfl))))))
          (pss_one (ps_raise rfl (takes_of rfl rfl rfl rfl) (pmk_1 G.bt hr2 (by rfl) (pa_cons (pv 4) pa_nil))))
          pss_nil)
        (pss_one (ps_expr (pe_bm PySem.F.plainAttrs_list PySem.F.slot_list_append PySem.F.type_list_append mt_append (pv 2) (pa_cons (pv 5) pa_nil)))))
        (pss_one (ps_if (pt_not (pt_val (pe_fn G.is_field_word (hr.mono (by decide)) pass0 (by rfl) (pa_cons (pv 5) pa_nil))))
          (pss_one (ps_raise rfl (takes_of rfl rfl rfl rfl) (pmk_1 G.bt hr2 (by rfl) (pa_cons (pv 4) pa_nil))))
          (pss_cons (ps_if (PW.pt (pw_and (pt_cmpR op_gt (pv 4) pe_int (nomark _)) (pw_and1 (pt_cmpR op_notIn_seq (pe_ix ix_list (pv 1) (pe_op op_sub (pv 4) pe_int) (fun _ _ => rfl)) (pe_tupS (pa_cons (pe_sg G.low) (pa_cons (pe_sg G.high) pa_nil))) (by rfl)))))
            (pss_one (ps_expr (pe_bm PySem.F.plainAttrs_list PySem.F.slot_list_append PySem.F.type_list_append mt_append (pv 2) (pa_cons pe_str pa_nil))))
            pss_nil)
          (pss_one (ps_expr (pe_bm PySem.F.plainAttrs_list PySem.F.slot_list_append PySem.F.type_list_append mt_append (pv 3) (pa_cons (pv 5) pa_nil))))))))))
    (pss_one (ps_ret (pe_newS G.kLay (hr.mono (j := 5) (by decide)) (fun σ => passAt (takes_of rfl rfl rfl rfl) σ) (by rfl) (pa_cons (pe_lcX (own := [("word", 5)]) (g := gName 5) (tt := tYes) rfl rfl rfl (takes_of rfl rfl rfl rfl) sc_read_layout.nd (pi_list (pv 3)) (blkOk_by (N := ["text", "words", "joints", "told", "place", "word"]) (sc := defScope s_read_layout) (by decide +kernel)) (fun _ _ _ _ _ => pg_name (i := 5) sc_read_layout.nd rfl (Or.inl rfl)) (fun _ _ _ _ _ => pts_nil) (fun _ _ _ _ _ => (pe_fnS G.field_in hr7 (fun σ => pass_lc σ) (by rfl) (pa_cons (pv 5) pa_nil)))) (pa_cons (pv 2) pa_nil)))))))))), ?_⟩
    obtain ⟨v, rfl, ⟨T0, hT, hk, q⟩ | ⟨t, n, rfl, hWe, hn, hl, q1, q2⟩⟩ := h
    · exact ⟨_, rfl, _, _, _, _, _, rfl, .ty _, hT, hk, _, rfl, iteT (mkO_1 q)⟩
    have hlen : t.length ≤ 30 * 16201 := by
      have h1 := join_le (s := " ") (B := 16200) (by decide) (blk t) fun w hw => by
        have := (hWe w hw).len
        omega
      rw [blk_join] at h1
      exact Nat.le_trans h1 (Nat.mul_le_mul_right _ hl)
    refine ⟨_, rfl, _, _, _, _, _, rfl, .ty _, flat_ty rfl, (show kitOne K (.type "str") (.type "str") = some true from kit_ty (by decide +kernel)), _, rfl, iteF ?_⟩
    refine ⟨fun σ J => ∃ wl v2 v3 v4 v5, σ = [some (.str t), some (.ref wl), v2, v3, v4, v5] ∧ Same H J ∧ J wl = some (.lst ((blk t).map V.str)), ?_, ?_⟩
    · refine ⟨_, rfl, ⟨_, rfl⟩, t, " ", rfl, rfl, rfl, by rw [sizeLine_eq]; omega, fun pl hpl => ?_⟩
      exact ⟨pl, _, _, _, _, rfl, same_upd hpl, upd_same⟩
    rintro σ J ⟨wl, v2, v3, v4, v5, rfl, S, eW⟩
    have hW0 := blk_ne t
    generalize blk t = W at *
    refine ⟨fun σ J => ∃ jl v3 v4 v5, σ = [some (.str t), some (.ref wl), some (.ref jl), v3, v4, v5] ∧ Same H J ∧ J wl = some (.lst (W.map V.str)) ∧ J jl = some (.lst []) ∧ H jl = none ∧ wl ≠ jl, ?_, ?_⟩
    · refine ⟨by show 0 ≤ 1000; decide, fun jl J1 hjl S1 e1 => ⟨jl, _, _, _, rfl, S.trans S1, S1 _ _ eW, e1, none_of S hjl, ne_of_none eW hjl⟩⟩
    rintro σ J ⟨jl, v3, v4, v5, rfl, S, eW, eJ, hj0, n1⟩
    refine ⟨fun σ J => ∃ tl v4 v5, σ = [some (.str t), some (.ref wl), some (.ref jl), some (.ref tl), v4, v5] ∧ Same H J ∧ J wl = some (.lst (W.map V.str)) ∧ J jl = some (.lst []) ∧ J tl = some (.lst []) ∧ H tl = none ∧ wl ≠ tl ∧ jl ≠ tl, ?_, ?_⟩
    · refine ⟨by show 0 ≤ 1000; decide, fun tl J1 htl S1 e1 => ⟨tl, _, _, rfl, S.trans S1, S1 _ _ eW, S1 _ _ eJ, e1, none_of S htl, ne_of_none eW htl, ne_of_none eJ htl⟩⟩
    rintro σ J ⟨tl, v4, v5, rfl, S, eW, eJ, eT, ht0, n2, n3⟩
    refine ⟨fun σ J => rdBad W = none ∧ ∃ v4 v5, σ = [some (.str t), some (.ref wl), some (.ref jl), some (.ref tl), v4, v5] ∧ Same H J ∧ J jl = some (.lst ((jP W W.length).map V.str)) ∧ J tl = some (.lst ((fws W).map V.str)), ?_, ?_⟩
    · refine ⟨_, rfl, wl, _, rfl, SqL.of eW, for_it (walk_enum (xs := W.map V.str)) (fun i σ J => ∃ v4 v5, σ = [some (.str t), some (.ref wl), some (.ref jl), some (.ref tl), v4, v5] ∧ Same H J ∧ J wl = some (.lst (W.map V.str)) ∧ (∀ j, j < i → badW W j = false) ∧ J jl = some (.lst ((jP W i).map V.str)) ∧ J tl = some (.lst ((fws (W.take i)).map V.str)))
        ⟨_, _, rfl, S, eW, fun j hj => absurd hj (Nat.not_lt_zero _), eJ, eT⟩ (fun i σ J _ ⟨_, _, _, _, e, _⟩ => SqL.of e) ?_ ?_⟩
      · rintro i z σ J J2 hi ⟨v4, v5, rfl, S, eW, hb, eJ, eT⟩ ⟨T0, p, x, rfl, hT, rfl, ep, ex⟩
        obtain rfl := Option.some.inj ep
        replace ex : (W.map V.str)[i]? = some x := ex
        rw [List.getElem?_map] at ex
        obtain ⟨u, hu, rfl⟩ := Option.map_eq_some_iff.mp ex
        have hiW : i < W.length := (List.getElem?_eq_some_iff.mp hu).1
        have hum := hWe u (List.mem_of_getElem? hu)
        have hfl := fws_len (W.take i)
        rw [List.length_take] at hfl
        have hjl2 := jP_len W i
        have S3 : Same J (upd J T0 (.tup [.int (i : Nat), .str u])) := same_upd hT
        have e3 : upd J T0 (.tup [.int (i : Nat), .str u]) T0 = some (.tup [.int (i : Nat), .str u]) := upd_same
        generalize upd J T0 (.tup [.int (i : Nat), .str u]) = J3 at S3 e3 ⊢
        have hline : ∀ k : Nat, k ≤ 80 → k < sizeLine := fun k hk => by rw [sizeLine_eq]; omega
        have bad : badW W i = true → ∀ J5, Same H J5 → RaiseE (BT K) "place" (.int (i : Nat)) J5 E := fun h J5 S5 => raise_mono S5 (q1 i (find_first hiW h hb))
        refine ⟨T0, _, rfl, SqT.of e3, rfl, _, _, rfl, _, _, rfl, rfl, ?_⟩
        refine ⟨_, rfl, by show 2 ≤ 1000; decide, fun p1 J4 hp1 S4 e4 => ⟨p1, _, rfl, .inr (SqT.of e4), rfl, rfl, _, rfl, ?_⟩⟩
        have S34 := S3.trans S4
        have HS := S.trans S34
        show if sepB u = true then _ else _
        have hbi : badW W i = false → ∀ j, j < i + 1 → badW W j = false := fun h j hj => by
          rcases Nat.lt_succ_iff_lt_or_eq.mp hj with h1 | h1
          · exact hb j h1
          · rw [h1]; exact h
        have hft := fws_take hu
        refine ite2 (fun hsp => ?_) (fun hsp => ?_)
        · -- a separator
          rw [if_pos hsp, List.append_nil] at hft
          have e0 : badW W i = (decide (i = 0) || (decide (i + 1 = W.length) || sepB (pvW W i))) := badW_sep hu hsp
          refine ⟨_, rfl, rfl, _, rfl, ?_⟩
          refine ite2 (fun h0 => iteT ⟨_, rfl, mkO_1 (bad (by rw [e0, show decide (i = 0) = true from decide_eq_true (by have := of_decide_eq_true h0; injection this with z; omega)]; rfl) J4 HS)⟩) (fun h0 => ?_)
          have hi0 : i ≠ 0 := fun z => h0 (decide_eq_true (by rw [z]; rfl))
          refine ⟨_, rfl, _, rfl, wl, _, rfl, .inl (SqL.of (S34 _ _ eW)), _, _, rfl, rfl, rfl, _, rfl, ?_⟩
          refine ite2 (fun h1 => iteT ⟨_, rfl, mkO_1 (bad (by
            rw [e0, show decide (i + 1 = W.length) = true from decide_eq_true (by have := of_decide_eq_true h1; injection this with z; rw [List.length_map] at z; omega)]
            simp) J4 HS)⟩) (fun h1 => ?_)
          have hi1 : i + 1 ≠ W.length := fun z => h1 (decide_eq_true (by rw [List.length_map, ← z]; congr 1; omega))
          refine ⟨_, rfl, _, rfl, _, _, rfl, rfl, wl, _, _, _, rfl, rfl, SqL.of (S34 _ _ eW), prevW hi0 (Nat.le_of_lt hiW), by show 2 ≤ 1000; decide, fun p2 J6 hp2 S6 e6 => ⟨p2, _, rfl, .inr (SqT.of e6), rfl, rfl, _, rfl, ?_⟩⟩
          show if sepB (pvW W i) = true then _ else _
          have S36 := S34.trans S6
          refine ite2 (fun h2 => ⟨_, rfl, mkO_1 (bad (by rw [e0, h2]; simp) J6 (S.trans S36))⟩) (fun h2 => ?_)
          have hbad : badW W i = false := by rw [e0, decide_eq_false hi0, decide_eq_false hi1, Bool.eq_false_iff.mpr h2]; rfl
          have hj := jP_sep hu hsp (Bool.eq_false_iff.mpr h2)
          refine ⟨_, rfl, .inl ⟨rfl, _, SqL.of (S36 _ _ eJ)⟩, _, rfl, jl, _, _, rfl, rfl, S36 _ _ eJ, hline _ (by rw [List.length_map]; omega), ?_⟩
          exact ⟨_, _, rfl, same_put (S.trans S36) hj0, by rw [upd_ne n1]; exact S36 _ _ eW, hbi hbad, by rw [upd_same, hj, List.map_append]; rfl, by rw [upd_ne (Ne.symm n3), hft]; exact S36 _ _ eT⟩
        · rw [if_neg hsp] at hft
          have hsf := Bool.eq_false_iff.mpr hsp
          have e0 : badW W i = !wB u := badW_word hu hsf
          refine ⟨_, rfl, u, n, rfl, hum, hn, fun J5 S5 => ⟨_, rfl, ?_⟩⟩
          have SJ := S34.trans S5
          refine ite2 (fun hw => ⟨_, rfl, mkO_1 (bad (by rw [e0]; exact hw) J5 (S.trans SJ))⟩) (fun hw => ?_)
          have hbad : badW W i = false := by rw [e0]; exact Bool.eq_false_iff.mpr hw
          have app : ∀ J7, Same H J7 → J7 jl = some (.lst ((jP W (i + 1)).map V.str)) → J7 tl = some (.lst ((fws (W.take i)).map V.str)) → J7 wl = some (.lst (W.map V.str)) →
              ∃ v4 v5, [some (V.str t), some (.ref wl), some (.ref jl), some (.ref tl), some (.int (i : Nat)), some (.str u)] = [some (V.str t), some (.ref wl), some (.ref jl), some (.ref tl), v4, v5] ∧ Same H (upd J7 tl (.lst ((fws (W.take i)).map V.str ++ [.str u]))) ∧ upd J7 tl (.lst ((fws (W.take i)).map V.str ++ [.str u])) wl = some (.lst (W.map V.str)) ∧
                (∀ j, j < i + 1 → badW W j = false) ∧ upd J7 tl (.lst ((fws (W.take i)).map V.str ++ [.str u])) jl = some (.lst ((jP W (i + 1)).map V.str)) ∧ upd J7 tl (.lst ((fws (W.take i)).map V.str ++ [.str u])) tl = some (.lst ((fws (W.take (i + 1))).map V.str)) := fun J7 S7 a b c =>
            ⟨_, _, rfl, same_put S7 ht0, by rw [upd_ne n2]; exact c, hbi hbad, by rw [upd_ne n3]; exact a, by rw [upd_same, hft, List.map_append]; rfl⟩
          refine ⟨_, rfl, _, _, rfl, rfl, _, rfl, ?_⟩
          refine ite2 (fun h0 => ?_) (fun h0 => ?_)
          · have hi0 : i ≠ 0 := fun z => by
              have := of_decide_eq_true h0
              have : (0 : Int) < ((i : Nat) : Int) := this
              omega
            refine ⟨_, rfl, _, rfl, _, _, rfl, rfl, wl, _, _, _, rfl, rfl, SqL.of (SJ _ _ eW), prevW hi0 (Nat.le_of_lt hiW), by show 2 ≤ 1000; decide, fun p2 J6 hp2 S6 e6 => ⟨p2, _, rfl, .inr (SqT.of e6), rfl, rfl, _, rfl, ?_⟩⟩
            show if (!sepB (pvW W i)) = true then _ else _
            have S36 := SJ.trans S6
            refine ite2 (fun h2 => ?_) (fun h2 => ?_)
            · have h2 : sepB (pvW W i) = false := by rw [Bool.not_eq_true'] at h2; exact h2
              have hj := jP_free hu hsf hi0 (hb 0 (by omega)) h2
              refine ⟨_, rfl, .inl ⟨rfl, _, SqL.of (S36 _ _ eJ)⟩, jl, _, _, rfl, rfl, S36 _ _ eJ, hline _ (by rw [List.length_map]; omega), ?_⟩
              have SK : Same H (upd J6 jl (.lst ((jP W i).map V.str ++ [.str ""]))) := same_put (S.trans S36) hj0
              have k1 : upd J6 jl (.lst ((jP W i).map V.str ++ [.str ""])) jl = some (.lst ((jP W (i + 1)).map V.str)) := by rw [upd_same, hj, List.map_append]; rfl
              have k2 : upd J6 jl (.lst ((jP W i).map V.str ++ [.str ""])) tl = some (.lst ((fws (W.take i)).map V.str)) := by rw [upd_ne (Ne.symm n3)]; exact S36 _ _ eT
              have k3 : upd J6 jl (.lst ((jP W i).map V.str ++ [.str ""])) wl = some (.lst (W.map V.str)) := by rw [upd_ne n1]; exact S36 _ _ eW
              generalize upd J6 jl (.lst ((jP W i).map V.str ++ [.str ""])) = J7 at SK k1 k2 k3 ⊢
              exact ⟨_, rfl, .inl ⟨rfl, _, SqL.of k2⟩, _, rfl, tl, _, _, rfl, rfl, k2, hline _ (by rw [List.length_map]; omega), app J7 SK k1 k2 k3⟩
            · have h2 : sepB (pvW W i) = true := by
                cases z : sepB (pvW W i) with
                | true => rfl
                | false => rw [z] at h2; exact absurd rfl h2
              have hj := jP_behind hu hsf hi0 (hb 0 (by omega)) h2
              exact ⟨_, rfl, .inl ⟨rfl, _, SqL.of (S36 _ _ eT)⟩, _, rfl, tl, _, _, rfl, rfl, S36 _ _ eT, hline _ (by rw [List.length_map]; omega), app J6 (S.trans S36) (by rw [hj]; exact S36 _ _ eJ) (S36 _ _ eT) (S36 _ _ eW)⟩
          · have hi0 : i = 0 := by
              rcases Nat.eq_zero_or_pos i with z | z
              · exact z
              · exact absurd (decide_eq_true (show (0 : Int) < ((i : Nat) : Int) by omega)) h0
            subst hi0
            exact ⟨_, rfl, .inl ⟨rfl, _, SqL.of (SJ _ _ eT)⟩, _, rfl, tl, _, _, rfl, rfl, SJ _ _ eT, hline _ (by rw [List.length_map]; omega), app J5 (S.trans SJ) (by rw [jP_first hu hsf]; exact SJ _ _ eJ) (SJ _ _ eT) (SJ _ _ eW)⟩
      · rintro σ J ⟨v4, v5, rfl, S, eW, hb, eJ, eT⟩
        rw [List.length_map] at hb eJ eT
        rw [List.take_length] at eT
        exact ⟨find_none hb, _, _, rfl, S, eJ, eT⟩
    rintro σ J ⟨hno, v4, v5, rfl, S, eJ, eT⟩
    obtain ⟨fs, ⟨hfl, hfs⟩, hbd, q3, q4⟩ := q2 hno
    have hjp : jP W W.length = (sg "" W).tail := jP_end hno hW0
    rw [hjp] at eJ
    have hfW := fws_len W
    refine ⟨_, rfl, tl, rfl, ⟨_, SqL.of eT⟩, fun D hD => ?_⟩
    refine lc_list (K := K) (a := tl) (xs := (fws W).map V.str) (fun n J2 => ∃ ys, Same J J2 ∧ J2 D = some (.lst ys) ∧ FsAt K J2 ys ((fs.take n).map fun f => fdM f.1 f.2) ∧ ∀ f ∈ fs.take n, dueM f.1 f.2 = none) ⟨[], same_upd hD, upd_same, ⟨rfl, fun i v d a => by cases a⟩, fun f hf => by cases hf⟩ (fun i J2 hi ⟨_, S2, _⟩ => S2.seq (SqL.of eT)) ?_ ?_
    · rintro i v J2 hv ⟨ys, S2, eD, hF, hdn⟩
      rw [List.getElem?_map] at hv
      obtain ⟨x, hx, rfl⟩ := Option.map_eq_some_iff.mp hv
      have hi := (List.getElem?_eq_some_iff.mp hx).1
      obtain ⟨f, hf⟩ : ∃ f, fs[i]? = some f := ⟨_, List.getElem?_eq_getElem (by omega)⟩
      have hfo := hfs i x f hx hf
      have hfm := List.mem_of_getElem? hf
      have hxm : x ∈ W := (List.mem_filter.mp (List.mem_of_getElem? hx)).1
      have hyl := hF.1
      rw [List.length_map, List.length_take] at hyl
      have hdn1 : dueM f.1 f.2 = none → ∀ g ∈ fs.take (i + 1), dueM g.1 g.2 = none := fun h g hg => by
        rw [List.take_add_one, hf] at hg
        rcases List.mem_append.mp hg with hg | hg
        · exact hdn g hg
        · rw [List.mem_singleton.mp hg]; exact h
      refine ⟨rfl, _, rfl, x, n, f.1, f.2, rfl, hWe x hxm, hn, hfo.mkE, hfo.wf, hbd f hfm, hfo.ms, fun hd r J3 S3 hr => ⟨ys, S3 _ _ eD, by rw [sizeLine_eq]; omega, ys ++ [.ref r], same_put (S2.trans S3) hD, upd_same, ?_, hdn1 hd⟩, fun z hz => raise_mono (S.trans S2) (q3 z (first_at hf hz hdn))⟩
      rw [List.take_add_one, hf, List.map_append]
      exact (hF.same S3).snoc (S3 _ _ eD) hr
    · rintro J2 ⟨ys, S2, eD, hF, hdn⟩
      rw [List.length_map, ← hfl, List.take_length] at hF hdn
      refine ⟨_, rfl, fun L dx hL hdx ne => ?_⟩
      have hfe : fs ≠ [] := fun z => fws_ne hno hW0 (List.length_eq_zero_iff.mp (by rw [← hfl, z]; rfl))
      have hsl := sg_len W ""
      exact lay_at hL hdx eD hF (by rw [List.length_map]; omega) (fun z => hfe (List.map_eq_nil_iff.mp z)) (S2 _ _ eJ) (jn_tail W "" (.inl rfl)) (by rw [List.length_tail, hsl, List.length_map, hfl]; have : 0 < (fws W).length := List.length_pos_iff.mpr (fws_ne hno hW0); omega) fun J' S3 h => ⟨rfl, q4 (first_none hdn) L J' ((S.trans S2).trans S3) h⟩

end
end L2.K79

set_option Elab.async false
set_option linter.all false
set_option maxRecDepth 100000
set_option maxHeartbeats 4000000
/-! The words of fields. -/
namespace L2.K79
open PySem PySem.W PySem.Spec PySem.Calls PyProof.Rows L2.Jk
def SgT (z : Str) : Prop := ∀ c ∈ z.cps.toList, c ∈ SG.cps.toList
inductive WkP : PD → Prop
  | word {z : Str} {l : Nat} {m : V} : SgT z → z.length ≤ 20 → l < 1000000000 → MOk m → WkP (.word (.str z) (.int (l : Nat)) m)
  | number {l : Nat} {m : V} : l < 1000000000 → MOk m → WkP (.number (.int (l : Nat)) m)
  | fixed {w : Nat} : w < 60 → WkP (.fixed (.int (w : Nat)))
  | listed {ts : List Str} : ts ≠ [] → ts.length ≤ 20 → (∀ t ∈ ts, SgT t ∧ t.length ≤ 20) → WkP (.listed (.lst (ts.map V.str)))
  | ended {z e : Str} {l : Nat} {m : V} : SgT z → z.length ≤ 20 → SgT e → e.length ≤ 20 → l < 1000000000 → MOk m → WkP (.ended (.str z) (.str e) (.int (l : Nat)) m)
inductive WkF : FD → Prop
  | pl {d : PD} : WkP d → WkF (.pl d)
  | mk {n m : Str} {d : PD} : SgT n → n.length = 1 → SgT m → m.length = 1 → WkP d → WkF (.mk (.str n) (.str m) d)
def PD.wd (d : PD) : Str := Txt.join ":" d.parts
def FD.wd : FD → Str
  | .pl d => d.wd
  | .mk n m d => Txt.join ":" ["marked", strV n, strV m, d.wd]
theorem sg_no : (32 ∉ SG.cps.toList ∧ 33 ∉ SG.cps.toList ∧ 44 ∉ SG.cps.toList ∧ 58 ∉ SG.cps.toList ∧ 126 ∉ SG.cps.toList) ∧ ∀ c ∈ SG.cps.toList, 45 ≤ c ∧ c ≤ 122 ∧ c ≠ 58 := by decide +kernel
theorem SgT.no {z : Str} (h : SgT z) : 32 ∉ z.cps.toList ∧ 33 ∉ z.cps.toList ∧ 44 ∉ z.cps.toList ∧ 58 ∉ z.cps.toList ∧ 126 ∉ z.cps.toList := by
  obtain ⟨⟨a, b, c, d, e⟩, _⟩ := sg_no
  exact ⟨fun k => a (h _ k), fun k => b (h _ k), fun k => c (h _ k), fun k => d (h _ k), fun k => e (h _ k)⟩
theorem T_no (n : Nat) : 32 ∉ (T n).cps.toList ∧ 44 ∉ (T n).cps.toList ∧ 58 ∉ (T n).cps.toList := by
  refine ⟨fun k => ?_, fun k => ?_, fun k => ?_⟩ <;> (have := T_dg n _ k; omega)
theorem mostT_no {m : V} (h : MOk m) : 32 ∉ (mostT m).cps.toList ∧ 44 ∉ (mostT m).cps.toList ∧ 58 ∉ (mostT m).cps.toList := by
  rcases h with rfl | ⟨n, rfl, _⟩
  · decide +kernel
  · exact T_no n
/-- no colon in any part -/
theorem join_no2 {s : Str} {c : Nat} (hs : c ∉ s.cps.toList) : ∀ ps : List Str, (∀ p ∈ ps, c ∉ p.cps.toList) → c ∉ (Txt.join s ps).cps.toList
  | [], _ => by rw [Jk.join_nil]; intro k; cases k
  | [x], h => by rw [Jk.join_one]; exact h x (List.mem_cons_self ..)
  | x :: y :: r, h => by
    rw [join_cons, cat_list, cat_list]
    intro k
    rcases List.mem_append.mp k with k | k
    · rcases List.mem_append.mp k with k | k
      · exact h x (List.mem_cons_self ..) k
      · exact hs k
    · exact join_no2 hs (y :: r) (fun p hp => h p (List.mem_cons_of_mem _ hp)) k
theorem lits : (58 ∉ ("word" : Str).cps.toList ∧ 58 ∉ ("number" : Str).cps.toList ∧ 58 ∉ ("fixed" : Str).cps.toList ∧ 58 ∉ ("listed" : Str).cps.toList ∧ 58 ∉ ("ended" : Str).cps.toList ∧ 58 ∉ ("marked" : Str).cps.toList) ∧
  (32 ∉ ("word" : Str).cps.toList ∧ 32 ∉ ("number" : Str).cps.toList ∧ 32 ∉ ("fixed" : Str).cps.toList ∧ 32 ∉ ("listed" : Str).cps.toList ∧ 32 ∉ ("ended" : Str).cps.toList ∧ 32 ∉ ("marked" : Str).cps.toList ∧ 32 ∉ (":" : Str).cps.toList ∧ 32 ∉ ("," : Str).cps.toList ∧ 58 ∉ ("," : Str).cps.toList) := by decide +kernel
theorem WkP.free {d : PD} (h : WkP d) : ∀ p ∈ d.parts, 58 ∉ p.cps.toList ∧ 32 ∉ p.cps.toList := by
  obtain ⟨⟨l1, l2, l3, l4, l5, l6⟩, k1, k2, k3, k4, k5, k6, k7, k8, k9⟩ := lits
  cases h with
  | @word z l m a b c e =>
    intro p hp
    simp only [PD.parts, List.mem_cons, List.not_mem_nil, or_false] at hp
    rcases hp with rfl | rfl | rfl | rfl
    · exact ⟨l1, k1⟩
    · exact ⟨a.no.2.2.2.1, a.no.1⟩
    · exact ⟨(T_no l).2.2, (T_no l).1⟩
    · exact ⟨(mostT_no e).2.2, (mostT_no e).1⟩
  | @number l m a e =>
    intro p hp
    simp only [PD.parts, List.mem_cons, List.not_mem_nil, or_false] at hp
    rcases hp with rfl | rfl | rfl
    · exact ⟨l2, k2⟩
    · exact ⟨(T_no l).2.2, (T_no l).1⟩
    · exact ⟨(mostT_no e).2.2, (mostT_no e).1⟩
  | @fixed w a =>
    intro p hp
    simp only [PD.parts, List.mem_cons, List.not_mem_nil, or_false] at hp
    rcases hp with rfl | rfl
    · exact ⟨l3, k3⟩
    · exact ⟨(T_no w).2.2, (T_no w).1⟩
  | @listed ts a b c =>
    intro p hp
    simp only [PD.parts, List.mem_cons, List.not_mem_nil, or_false, els_str] at hp
    rcases hp with rfl | rfl
    · exact ⟨l4, k4⟩
    · exact ⟨join_no2 k9 ts fun t ht => (c t ht).1.no.2.2.2.1, join_no2 k8 ts fun t ht => (c t ht).1.no.1⟩
  | @ended z e l m a b c d f g =>
    intro p hp
    simp only [PD.parts, List.mem_cons, List.not_mem_nil, or_false] at hp
    rcases hp with rfl | rfl | rfl | rfl | rfl
    · exact ⟨l5, k5⟩
    · exact ⟨a.no.2.2.2.1, a.no.1⟩
    · exact ⟨c.no.2.2.2.1, c.no.1⟩
    · exact ⟨(T_no l).2.2, (T_no l).1⟩
    · exact ⟨(mostT_no g).2.2, (mostT_no g).1⟩
theorem PD.parts_ne (d : PD) : d.parts ≠ [] := by cases d <;> exact List.cons_ne_nil _ _
theorem WkP.split {d : PD} (h : WkP d) : Txt.split d.wd ":" = d.parts := split_join (c := 58) (PD.parts_ne d) fun p hp => (h.free p hp).1
theorem WkP.blank {d : PD} (h : WkP d) : 32 ∉ d.wd.cps.toList := join_no2 lits.2.2.2.2.2.2.2.1 _ fun p hp => (h.free p hp).2
theorem WkF.blank {d : FD} (h : WkF d) : 32 ∉ d.wd.cps.toList := by
  obtain ⟨⟨l1, l2, l3, l4, l5, l6⟩, k1, k2, k3, k4, k5, k6, k7, k8, k9⟩ := lits
  cases h with
  | pl h => exact h.blank
  | @mk n m d a b c e h =>
    refine join_no2 k7 _ fun p hp => ?_
    simp only [List.mem_cons, List.not_mem_nil, or_false] at hp
    rcases hp with rfl | rfl | rfl | rfl
    · exact k6
    · exact a.no.1
    · exact c.no.1
    · exact h.blank
/-! ### lengths -/
theorem join_le2 {s : Str} {B : Nat} (hs : s.length ≤ 1) : ∀ ps : List Str, (∀ p ∈ ps, p.length ≤ B) → (Txt.join s ps).length ≤ ps.length * (B + 1)
  | [], _ => by rw [Jk.join_nil]; exact Nat.zero_le _
  | [x], h => by
    rw [Jk.join_one]
    have := h x (List.mem_cons_self ..)
    simp only [List.length_cons, List.length_nil]
    omega
  | x :: y :: r, h => by
    have ih := join_le2 hs (y :: r) (fun p hp => h p (List.mem_cons_of_mem _ hp))
    have := h x (List.mem_cons_self ..)
    rw [join_cons, app_len, app_len]
    simp only [List.length_cons] at ih ⊢
    rw [Nat.succ_mul]
    omega
theorem WkP.len {d : PD} (h : WkP d) : (∀ p ∈ d.parts, p.length ≤ 420) ∧ d.parts.length ≤ 5 := by
  have b6 : ("word" : Str).length ≤ 420 ∧ ("number" : Str).length ≤ 420 ∧ ("fixed" : Str).length ≤ 420 ∧ ("listed" : Str).length ≤ 420 ∧ ("ended" : Str).length ≤ 420 := by decide
  cases h with
  | @word z l m a b c e =>
    refine ⟨fun p hp => ?_, by show 4 ≤ 5; decide⟩
    simp only [PD.parts, List.mem_cons, List.not_mem_nil, or_false] at hp
    rcases hp with rfl | rfl | rfl | rfl
    · exact b6.1
    · exact Nat.le_trans b (by decide)
    · exact Nat.le_trans (T9 c) (by decide)
    · exact Nat.le_trans (mostT_len e) (by decide)
  | @number l m a e =>
    refine ⟨fun p hp => ?_, by show 3 ≤ 5; decide⟩
    simp only [PD.parts, List.mem_cons, List.not_mem_nil, or_false] at hp
    rcases hp with rfl | rfl | rfl
    · exact b6.2.1
    · exact Nat.le_trans (T9 a) (by decide)
    · exact Nat.le_trans (mostT_len e) (by decide)
  | @fixed w a =>
    refine ⟨fun p hp => ?_, by show 2 ≤ 5; decide⟩
    simp only [PD.parts, List.mem_cons, List.not_mem_nil, or_false] at hp
    rcases hp with rfl | rfl
    · exact b6.2.2.1
    · exact Nat.le_trans (T9 (n := w) (by omega)) (by decide)
  | @listed ts a b c =>
    refine ⟨fun p hp => ?_, by show 2 ≤ 5; decide⟩
    simp only [PD.parts, List.mem_cons, List.not_mem_nil, or_false, els_str] at hp
    rcases hp with rfl | rfl
    · exact b6.2.2.2.1
    · have := join_le2 (s := ",") (B := 20) (by decide) ts fun t ht => (c t ht).2
      omega
  | @ended z e l m a b c d f g =>
    refine ⟨fun p hp => ?_, by show 5 ≤ 5; decide⟩
    simp only [PD.parts, List.mem_cons, List.not_mem_nil, or_false] at hp
    rcases hp with rfl | rfl | rfl | rfl | rfl
    · exact b6.2.2.2.2
    · exact Nat.le_trans b (by decide)
    · exact Nat.le_trans d (by decide)
    · exact Nat.le_trans (T9 f) (by decide)
    · exact Nat.le_trans (mostT_len g) (by decide)
theorem WkP.wlen {d : PD} (h : WkP d) : d.wd.length ≤ 2200 := by
  obtain ⟨a, b⟩ := h.len
  have := join_le2 (s := ":") (by decide) d.parts a
  show (Txt.join ":" d.parts).length ≤ 2200
  omega
theorem WkF.wlen {d : FD} (h : WkF d) : d.wd.length ≤ 2300 := by
  cases h with
  | pl h => exact Nat.le_trans h.wlen (by decide)
  | @mk n m d a b c e h =>
    have := h.wlen
    show (Txt.join ":" ["marked", n, m, d.wd]).length ≤ 2300
    rw [join_cons, join_cons, join_cons, Jk.join_one]
    simp only [app_len]
    have k1 : ("marked" : Str).length = 6 := rfl
    have k2 : (":" : Str).length = 1 := rfl
    omega
/-! ### the words, sign by sign -/
theorem catA (a b c : Str) : a ++ b ++ c = a ++ (b ++ c) := str_ext (by rw [cat_list, cat_list, cat_list, cat_list, List.append_assoc])
theorem emp_cat (a : Str) : Str.empty ++ a = a := str_ext (by rw [cat_list]; rfl)
theorem lit_w : ("word:" : Str) = "word" ++ ":" ∧ ("number:" : Str) = "number" ++ ":" ∧ ("fixed:" : Str) = "fixed" ++ ":" ∧ ("listed:" : Str) = "listed" ++ ":" ∧ ("ended:" : Str) = "ended" ++ ":" ∧ ("marked:" : Str) = "marked" ++ ":" := by decide +kernel
def FD.dep : FD → Nat
  | .pl _ => 0
  | .mk .. => 1
theorem FD.dep_lt : ∀ d : FD, d.dep < 2
  | .pl _ => by show 0 < 2; decide
  | .mk .. => by show 1 < 2; decide
end L2.K79

set_option Elab.async false
set_option linter.all false
set_option maxRecDepth 100000
set_option maxHeartbeats 4000000
/-! What the law draws: fields. -/
namespace L2.K79
open PySem PySem.W PySem.Spec PySem.Calls PyProof.Rows L2.Jk
def FD.good : FD → Prop
  | .pl d => d.In ∧ d.due = none
  | .mk n m d => d.In ∧ d.due = none ∧ n ∈ mQ ∧ m ∈ mQ ∧ OD.due (.mk n m (.pl d)) = none
def farW : List Str := ["a", "ab", "b0", "0", "01"]
def farL : List Str := ["", "a", "b", "ab", "aba", "0", "00", "a0", "abc", "10", "010", "bb"]
def anyW : List Str := ["-./09AZ_az", "zyx", "Q", "0-"]
def anyL : List Str := ["-", "a/b", "A_z", "0.1", "xxxxxxxxxxxx", "", "listed", "word"]
def endZ : List Str := ["a", "ab", "01"]
def endE : List Str := ["c", "2"]
def marks : List Str := ["N", "z"]
def MB (l : Nat) (m : V) : Prop := m = .non ∨ ∃ k : Nat, m = .int (k : Nat) ∧ l ≤ k ∧ k ≤ 999999999
inductive DrP (wz lz : List Str) : PD → Prop
  | word {z : Str} {l : Nat} {m : V} : z ∈ wz → l ≤ 12 → MB l m → DrP wz lz (.word (.str z) (.int (l : Nat)) m)
  | number {l : Nat} {m : V} : l ≤ 999999999 → MB l m → DrP wz lz (.number (.int (l : Nat)) m)
  | fixed {w : Nat} : 1 ≤ w → w ≤ 4 → DrP wz lz (.fixed (.int (w : Nat)))
  | listed {ts : List Str} : ts.Nodup → (∀ t ∈ ts, t ∈ lz) → ts ≠ [] → ts.length ≤ 12 → DrP wz lz (.listed (.lst (ts.map V.str)))
  | ended {z e : Str} {l : Nat} {m : V} : z ∈ endZ → e ∈ endE → l ≤ 12 → MB l m → DrP wz lz (.ended (.str z) (.str e) (.int (l : Nat)) m)
theorem DrP.mono {w1 w2 l1 l2 : List Str} (hw : ∀ x ∈ w1, x ∈ w2) (hl : ∀ x ∈ l1, x ∈ l2) {d : PD} : DrP w1 l1 d → DrP w2 l2 d
  | .word a b c => .word (hw _ a) b c
  | .number a b => .number a b
  | .fixed a b => .fixed a b
  | .listed a b c e => .listed a (fun t ht => hl t (b t ht)) c e
  | .ended a b c e => .ended a b c e
def allW : List Str := anyW ++ farW
def allL : List Str := anyL ++ farL
inductive DrF : FD → Prop
  | pl {d : PD} : DrP allW allL d → DrF (.pl d)
  | mk {n : Str} {d : PD} : n ∈ marks → DrP farW farL d → DrF (.mk (.str n) (.str "M") d)
theorem DrP.all {d : PD} (h : DrP farW farL d) : DrP allW allL d := h.mono (fun _ h => List.mem_append_right _ h) (fun _ h => List.mem_append_right _ h)
theorem MB.ok {l : Nat} {m : V} (h : MB l m) : MOk m := h.imp id fun ⟨k, e, _, b⟩ => ⟨k, e, by omega⟩
theorem MB.nM {l : Nat} {m : V} (h : MB l m) : m ∈ nM := by
  rcases h with rfl | ⟨k, rfl, _, b⟩
  · exact ⟨rfl, fun i e => by cases e⟩
  · exact ⟨rfl, fun i e => by injection e with e; omega⟩
theorem nM_nat2 {n : Nat} (h : n ≤ 999999999) : V.int (n : Nat) ∈ nM := ⟨rfl, fun i e => by injection e with e; omega⟩
theorem bd_due {l : Nat} {m : V} (h : MB l m) : bDue (.int (l : Nat)) m = none := by
  have h1 : decide ((l : Int) < 0) = false := decide_eq_false (by omega)
  rcases h with rfl | ⟨k, rfl, h, _⟩
  · show (if (!true || decide ((l : Int) < 0)) = true then _ else if (!decide (V.non = V.non) && _) = true then _ else _) = _
    rw [h1]
    rfl
  · have h2 : decide ((k : Int) < (l : Int)) = false := decide_eq_false (by omega)
    show (if (!true || decide ((l : Int) < 0)) = true then _ else if (!decide (V.int (k : Nat) = V.non) && (!true || decide ((k : Int) < (l : Int)))) = true then _ else _) = _
    rw [h1, h2]
    rfl
theorem word_good : ∀ z ∈ allW, sBad (.str z) = false ∧ z.length ≤ 20 ∧ ∀ c ∈ z.cps.toList, c ∈ SG.cps.toList := by decide +kernel
theorem end_good : ∀ z ∈ endZ, sBad (.str z) = false ∧ z.length ≤ 20 ∧ (∀ c ∈ z.cps.toList, c ∈ SG.cps.toList) ∧ ∀ e ∈ endE, isSignB (.str e) = true ∧ inB e z = false ∧ e.length ≤ 20 ∧ ∀ c ∈ e.cps.toList, c ∈ SG.cps.toList := by decide +kernel
theorem menu_are : ∀ t ∈ allL, areB (.str t) = true ∧ t.length ≤ 20 ∧ (PyData.str t).canLay0 = true ∧ ∀ c ∈ t.cps.toList, c ∈ SG.cps.toList := by decide +kernel
theorem lst_good {ts : List Str} (hn : ts.Nodup) (hs : ∀ t ∈ ts, t ∈ allL) (h0 : ts ≠ []) (hl : ts.length ≤ 12) : PD.In (.listed (.lst (ts.map V.str))) ∧ PD.due (.listed (.lst (ts.map V.str))) = none := by
  obtain ⟨l1, l2⟩ := lay_strs ts fun t ht => (menu_are t (hs t ht)).2.2.1
  have all : (ts.map V.str).all areB = true := by
    rw [List.all_map]
    exact List.all_eq_true.mpr fun t ht => (menu_are t (hs t ht)).1
  refine ⟨⟨.inl rfl, by show (ts.map V.str).length ≤ 20; rw [List.length_map]; omega, ?_, ?_⟩, ?_⟩
  · intro v hv
    obtain ⟨t, ht, rfl⟩ := List.mem_map.mp hv
    exact ⟨rfl, Nat.le_trans (menu_are t (hs t ht)).2.1 (by decide)⟩
  · refine Bool.and_eq_true_iff.mpr ⟨l1, decide_eq_true ?_⟩
    show PyData.depthAll ((ts.map V.str).map dV) + 1 ≤ 64
    omega
  · show (if (decide ((ts.map V.str).length = 0) || xsBad (ts.map V.str)) = true then _ else _) = _
    have e1 : decide ((ts.map V.str).length = 0) = false := decide_eq_false (by rw [List.length_map]; exact fun e => h0 (List.length_eq_zero_iff.mp e))
    have e2 : xsBad (ts.map V.str) = false := by
      unfold xsBad
      rw [all, map_strV, newS_all ?_, List.length_map]
      · show (false || decide (ts.length < ts.length)) = false
        rw [decide_eq_false (Nat.lt_irrefl _)]
        rfl
      · intro i j hi hj e
        rw [List.getD_eq_getElem?_getD, List.getD_eq_getElem?_getD, List.getElem?_eq_getElem hi, List.getElem?_eq_getElem hj] at e
        exact (List.getElem_inj hn).mp e
    rw [e1, e2]
    rfl
theorem DrP.good : ∀ {d : PD}, DrP allW allL d → WkP d ∧ d.In ∧ d.due = none
  | _, .word (z := z) (l := l) (m := m) a b c => by
    obtain ⟨g1, g2, g3⟩ := word_good z a
    refine ⟨.word g3 g2 (by omega) c.ok, ⟨⟨rfl, Nat.le_trans g2 (by decide)⟩, nM_nat2 (by omega), c.nM⟩, ?_⟩
    show oDue _ _ _ = none
    unfold oDue
    rw [g1, if_neg Bool.false_ne_true]
    exact bd_due c
  | _, .number (l := l) (m := m) a b => ⟨.number (by omega) b.ok, ⟨nM_nat2 (by omega), b.nM⟩, bd_due b⟩
  | _, .fixed (w := w) a b => by
    refine ⟨.fixed (by omega), ⟨_, rfl, by omega, by omega⟩, ?_⟩
    have : ∀ w ∈ List.range 5, 1 ≤ w → wDue (.int (w : Nat)) = none := by decide +kernel
    exact this w (List.mem_range.mpr (by omega)) a
  | _, .listed (ts := ts) a b c e => by
    obtain ⟨g1, g2⟩ := lst_good a b c e
    exact ⟨.listed c (by omega) fun t ht => ⟨(menu_are t (b t ht)).2.2.2, (menu_are t (b t ht)).2.1⟩, g1, g2⟩
  | _, .ended (z := z) (e := e) (l := l) (m := m) a b c f => by
    obtain ⟨g1, g2, g3, g4⟩ := end_good z a
    obtain ⟨g5, g6, g7, g8⟩ := g4 e b
    refine ⟨.ended g3 g2 g8 g7 (by omega) f.ok, ⟨⟨rfl, Nat.le_trans g2 (by decide)⟩, ⟨rfl, Nat.le_trans g7 (by decide)⟩, nM_nat2 (by omega), f.nM⟩, ?_⟩
    show eDue _ _ _ _ = none
    unfold eDue
    rw [g1, g5, if_neg Bool.false_ne_true]
    show (if (!true || inB e z) = true then _ else _) = _
    rw [g6]
    exact bd_due f
def marks3 : List Str := ["N", "z", "M"]
theorem m3 : ∀ c ∈ marks3, (∀ z ∈ farW, inB c z = false) ∧ (∀ z ∈ endZ, inB c z = false) ∧ inB c DG = false ∧ (57 < c.cps.getD 0 0) ∧ (∀ z ∈ farL, inB c z = false) ∧ ∀ e ∈ endE, c ≠ e := by decide +kernel
theorem dg_has {c : Str} (h : 57 < c.cps.getD 0 0) (n : Nat) : inB c (dg (n : Nat)) = false := decide_eq_false fun z => by
  have := T_dg n _ z
  omega
theorem DrP.has {c : Str} (hc : c ∈ marks3) : ∀ {d : PD}, DrP farW farL d → d.has c = false := by
  obtain ⟨k1, k2, k3, k4, k5, k6⟩ := m3 c hc
  intro d h
  cases h with
  | @word z l m a b e =>
    show (inB c z && _) = false
    rw [k1 _ a]
    rfl
  | @number l m a b =>
    show (if _ then _ else _) = _
    split
    · exact k3
    · refine Bool.eq_false_iff.mpr fun q => ?_
      obtain ⟨i, hi, e⟩ := List.any_eq_true.mp q
      have e2 : (intV (.int (l : Nat)) + (i : Int)) = ((l + i : Nat) : Int) := by show (l : Int) + (i : Int) = _; omega
      rw [e2, dg_has k4] at e
      cases e
  | fixed => exact k3
  | listed a b e f =>
    refine Bool.eq_false_iff.mpr fun q => ?_
    obtain ⟨v, hv, e2⟩ := List.any_eq_true.mp q
    obtain ⟨t, ht, rfl⟩ := List.mem_map.mp hv
    rw [show strV (.str t) = t from rfl, k5 t (b t ht)] at e2
    cases e2
  | @ended z e l m a b _ _ =>
    show (decide (V.str c = .str e) || (inB c z && _)) = false
    rw [k2 z a, decide_eq_false (fun q => k6 e b (by injection q))]
    rfl
theorem marks_facts : ∀ n ∈ marks, isSignB (.str n) = true ∧ n ≠ "M" ∧ n.length = 1 ∧ n ∈ marks3 ∧ ∀ c ∈ n.cps.toList, c ∈ SG.cps.toList := by decide +kernel
theorem M_facts : isSignB (.str "M") = true ∧ ("M" : Str) ∈ marks3 ∧ ("M" : Str).length = 1 ∧ ∀ c ∈ ("M" : Str).cps.toList, c ∈ SG.cps.toList := by decide +kernel
theorem mk_due0 : ∀ {n : Str} {d : PD}, n ∈ marks → DrP farW farL d → OD.due (.mk (.str n) (.str "M") (.pl d)) = none := fun {n d} hn h => by
  obtain ⟨f1, f2, f3, f4, _⟩ := marks_facts n hn
  show (if (!isSignB (.str n)) = true then _ else if (!isSignB (.str "M") || decide (V.str "M" = .str n)) = true then _ else _) = _
  rw [f1, M_facts.1, decide_eq_false (fun q => f2 (by injection q with q; exact q.symm))]
  show (if (d.has n || d.has "M") = true then _ else _) = _
  rw [h.has f4, h.has M_facts.2.1]
  rfl
theorem DrF.good : ∀ {d : FD}, DrF d → WkF d ∧ d.good
  | _, .pl h => ⟨.pl h.good.1, h.good.2⟩
  | _, .mk (n := n) (d := d) hn h => by
    obtain ⟨g0, g1, g2⟩ := h.all.good
    obtain ⟨f1, f2, f3, f4, f5⟩ := marks_facts _ hn
    exact ⟨.mk f5 f3 M_facts.2.2.2 M_facts.2.2.1 g0, g1, g2, ⟨rfl, by show n.length ≤ 80; omega⟩, ⟨rfl, by decide⟩, mk_due0 hn h⟩
end L2.K79

set_option Elab.async false
set_option linter.all false
set_option maxRecDepth 100000
set_option maxHeartbeats 4000000
namespace L2.K79
open PySem PySem.W PySem.Spec PySem.Calls PyProof.Rows L2.Jk
theorem itB {b : Bool} {A B : Prop} (h : b = true) (k : A) : if b = true then A else B := by
  rw [h]
  exact iteT k
theorem itC {b : Bool} {A B : Prop} (h : b = false) (k : B) : if b = true then A else B := by
  rw [h]
  exact iteF k
theorem PSs.imp {X : Cx} {st : List Stmt} {t t' : TS} (h : PSs X st t) (k : ∀ D σ H, t' D σ H → t D σ H) : PSs X st t' := ⟨fun pins s σ H D I hw => h.run pins s σ H D I (k D σ H hw)⟩
theorem op_mulStrZ {X : Cx} : OpR X (binaryOp .Mult) (fun x y H Q => ∃ (z : Str) (i : Int), x = .str z ∧ y = .int i ∧ (i = 0 ∨ repOk z i = true) ∧ Q (.str (repS z i)) H) := by
  intro pins s σ H x y v u Q I rx ry h
  obtain ⟨z, i, rfl, rfl, ok, q⟩ := h
  rcases ok with rfl | ok
  · obtain ⟨t, rfl⟩ := rx
    obtain ⟨t', rfl⟩ := ry
    exact P.mul_str_none (by decide) (by decide) ⟨.str _, H, I.tok _, ⟨_, rfl⟩, q⟩
  · exact op_mulStr pins s σ H _ _ v u Q I rx ry ⟨z, i, rfl, rfl, ok, q⟩
section
variable {X : Cx} {o e : Expr} {es : List Expr} {to : TE} {t : TA} {name : Str} {apos cpos : Pos} {T id : String} {r : V → List V → Hp → VK → Prop}
theorem pe_bmK {K : Frag} (hK : X.K = K) (pa : PlainAttrs T) (slot : Slot T name id) (hty : typeOf (.builtin id) = pure (.type "method_descriptor")) (hm : MtR X id r) (ho : PE X o to) (ha : PA X (e :: es) t)
    (hbase : attributeBase o name X.env (eval o X.env) = eval o X.env := by rfl)
    (hfew : ((backTo cpos (starEach (e :: es) X.env)).all (fun x => !x.1) && (backToKw cpos (keywordEach [] X.env)).all (fun x => x.1.isSome)
      && decide ((e :: es).length + ([] : List Keyword).length + (if ([] : List Keyword).isEmpty then 0 else 1) < 30)) = true := by rfl)
    (hline : (apos.endLine == cpos.line) = true := by rfl) (hs : starEach (e :: es) X.env = (false, eval e X.env) :: starEach es X.env := by rfl) (hplain : (backTo cpos (starEach es X.env)).any (·.1) = false := by rfl) :
    PE X (.Call (.Attribute o name apos) (e :: es) [] cpos) (tBM K T r to t) := by
  subst hK
  exact pe_bm pa slot hty hm ho ha hbase hfew hline hs hplain
def rLenK (K : Frag) : List V → Hp → VK → Prop := fun xs H Q => ∃ p ys, xs = [.ref p] ∧ (SqL K H p ys ∨ SqT K H p ys) ∧ Q (.int ys.length) H
theorem call_lenK {K : Frag} (hK : X.K = K) : CallR X (.builtin "len") (rLenK K) := by
  subst hK
  exact call_len_seq
end
end L2.K79

set_option Elab.async false
set_option linter.all false
set_option maxRecDepth 100000
set_option maxHeartbeats 4000000
/-! The law: pick, made, written. -/
namespace L2.K79
open PySem PySem.W PySem.Spec PySem.Calls PyProof.Rows L2.Jk

def PDAt (s : Addr) (H : Hp) (v : V) : PD → Prop
  | .word x l m => ∃ b, v = .ref b ∧ b ≠ s ∧ H b = some (.tup [.str "word", x, l, m])
  | .number l m => ∃ b, v = .ref b ∧ b ≠ s ∧ H b = some (.tup [.str "number", l, m])
  | .fixed u => ∃ b, v = .ref b ∧ b ≠ s ∧ H b = some (.tup [.str "fixed", u])
  | .listed x => ∃ b u, v = .ref b ∧ b ≠ s ∧ H b = some (.tup [.str "listed", u]) ∧ LXAt H u x ∧ ∀ c, u = .ref c → c ≠ s
  | .ended x e l m => ∃ b, v = .ref b ∧ b ≠ s ∧ H b = some (.tup [.str "ended", x, e, l, m])
def FIn (s : Addr) (H : Hp) (v : V) : FD → Prop
  | .pl d => PDAt s H v d
  | .mk n m d => ∃ b u, v = .ref b ∧ b ≠ s ∧ H b = some (.tup [.str "marked", n, m, u]) ∧ PDAt s H u d
theorem PDAt.same {s : Addr} {H H' : Hp} {v : V} (S : Same H H') : ∀ {d : PD}, PDAt s H v d → PDAt s H' v d
  | .word .., ⟨b, e, n, h⟩ => ⟨b, e, n, S _ _ h⟩
  | .number .., ⟨b, e, n, h⟩ => ⟨b, e, n, S _ _ h⟩
  | .fixed _, ⟨b, e, n, h⟩ => ⟨b, e, n, S _ _ h⟩
  | .listed _, ⟨b, u, e, n, h, l, k⟩ => ⟨b, u, e, n, S _ _ h, l.same S, k⟩
  | .ended .., ⟨b, e, n, h⟩ => ⟨b, e, n, S _ _ h⟩
theorem LXAt.but {s : Addr} {H H' : Hp} {v : V} (B : But s H H') (k : ∀ c, v = .ref c → c ≠ s) : ∀ {x : LX}, LXAt H v x → LXAt H' v x
  | .lst _, ⟨b, e, h⟩ => ⟨b, e, B _ _ (k _ e) h⟩
  | .tup _, ⟨b, e, h⟩ => ⟨b, e, by
      obtain ⟨o, c, d, g⟩ := h
      exact ⟨o, c, d, B _ _ (k _ e) g⟩⟩
  | .val _, e => e
theorem PDAt.but {s : Addr} {H H' : Hp} {v : V} (B : But s H H') : ∀ {d : PD}, PDAt s H v d → PDAt s H' v d
  | .word .., ⟨b, e, n, h⟩ => ⟨b, e, n, B _ _ n h⟩
  | .number .., ⟨b, e, n, h⟩ => ⟨b, e, n, B _ _ n h⟩
  | .fixed _, ⟨b, e, n, h⟩ => ⟨b, e, n, B _ _ n h⟩
  | .listed _, ⟨b, u, e, n, h, l, k⟩ => ⟨b, u, e, n, B _ _ n h, l.but B k, k⟩
  | .ended .., ⟨b, e, n, h⟩ => ⟨b, e, n, B _ _ n h⟩
theorem FIn.same {s : Addr} {H H' : Hp} {v : V} (S : Same H H') : ∀ {d : FD}, FIn s H v d → FIn s H' v d
  | .pl _, h => PDAt.same S h
  | .mk .., ⟨b, u, e, n, h, k⟩ => ⟨b, u, e, n, S _ _ h, k.same S⟩
theorem FIn.but {s : Addr} {H H' : Hp} {v : V} (B : But s H H') : ∀ {d : FD}, FIn s H v d → FIn s H' v d
  | .pl _, h => PDAt.but B h
  | .mk .., ⟨b, u, e, n, h, k⟩ => ⟨b, u, e, n, B _ _ n h, k.but B⟩
theorem call_str_both {X : Cx} : CallR X (.type "str") (fun xs H Q => (∃ i, xs = [.int i] ∧ i.natAbs.log2 < 1920 ∧ Q (.str (toString i)) H) ∨ ∃ a, xs = [.str a] ∧ Q (.str a) H) := by
  intro pins s σ H xs us Q I r h
  rcases h with h | h
  · exact call_str_int pins s σ H xs us Q I r h
  · exact SkE.call_str_str pins s σ H xs us Q I r h
def spPick : Sp := fun vs H Q _ => ∃ (a p : Addr) (xs : List V), vs = [.ref a, .ref p] ∧ StAt H a ∧ p ≠ a ∧ H p = some (.lst xs) ∧ xs ≠ [] ∧ xs.length ≤ 1000 ∧ ∀ v H', v ∈ xs → But a H H' → StAt H' a → Q v H'
structure GR0 (P : Program) (w : World) (K : Frag) (mg : Str → Option Value) (base : Heap) : Prop extends N8 P w K mg base where
  law_draw : FnAt P w K mg base CX0 1 "_law_draw" ["_law_source_here", "_law_many"] spDraw

structure G6 (P : Program) (w : World) (K : Frag) (mg : Str → Option Value) (base : Heap) : Prop extends GR0 P w K mg base where
  law_pick : FnAt P w K mg base CX0 2 "_law_pick" ["_law_source_here", "_law_items"] spPick
def spMd (K : Frag) (n : Nat) : Sp := fun vs H Q _ => ∃ (s0 : Addr) (v : V) (d : FD), vs = [v] ∧ FIn s0 H v d ∧ d.good ∧ d.dep < n ∧ ∀ r H', Same H H' → FdAt K H' r d → Q (.ref r) H'
section
variable {P : Program} {w : World} {K : Frag} {mg : Str → Option Value} {base : Heap} {f : Addr} {fd : FuncData}

abbrev s_law_pick : Stmt := top 47
theorem sc_law_pick : FnScope ["_law_source_here", "_law_items"] ["_law_source_here", "_law_items"] (defScope s_law_pick) := ⟨rfl, rfl, rfl, by decide +kernel, rfl, by decide +kernel, by decide +kernel⟩

theorem ok_law_pick (F : FunD K "_law_pick" "_law_pick" (defArgs s_law_pick) (defBody s_law_pick) (defScope s_law_pick) [] [] f fd) (G : GR0 P w K mg base) : FnOk P w K mg base CX0 2 f fd ["_law_source_here", "_law_items"] spPick := by
  refine F.ok (CX := CX0) sc_law_pick (fun vs H Q E h => ?_) (fun cdv A outer s H vs Q E hr h => ?_)
  · obtain ⟨a, p, xs, rfl, _⟩ := h
    rfl
  · refine ⟨_, PSs.nox (pss_one (ps_ret (pe_ix ix_list (pv 1) (pe_fn G.law_draw hr pass0 (by rfl) (pa_cons (pv 0) (pa_cons (pe_callB call_len_seq (by rfl) G.len (by decide +kernel) (pa_cons (pv 1) pa_nil)) pa_nil))) (fun _ _ => rfl)))), ?_⟩
    obtain ⟨a, p, xs, rfl, st, hne, hp, hx, hl, q⟩ := h
    have hx0 : 0 < xs.length := List.length_pos_iff.mpr hx
    refine ⟨_, rfl, _, rfl, _, rfl, p, xs, rfl, .inl (SqL.of hp), a, (xs.length : Nat), rfl, st, by omega, by omega, fun d1 H1 h0 h1 B1 st1 => ?_⟩
    obtain ⟨i, rfl⟩ : ∃ i : Nat, d1 = (i : Int) := ⟨d1.toNat, by omega⟩
    obtain ⟨v, hv, hm⟩ := pick (xs := xs) (i := i) (by omega)
    exact ⟨p, xs, _, v, rfl, rfl, SqL.of (B1 _ _ hne hp), atI_nat (j := i) hv, q v H1 hm B1 st1⟩

abbrev s_law_made : Stmt := top 48
theorem sc_law_made : FnScope ["_law_spec"] ["_law_spec"] (defScope s_law_made) := ⟨rfl, rfl, rfl, by decide +kernel, rfl, by decide +kernel, by decide +kernel⟩

theorem ok_law_made (F : FunD K "_law_made" "_law_made" (defArgs s_law_made) (defBody s_law_made) (defScope s_law_made) [] [] f fd) (G : G6 P w K mg base) {n : Nat} (AM : FnAt P w K mg base CX0 (n + 5) "_law_made" ["_law_spec"] (spMd K n)) : FnOk P w K mg base CX0 (n + 5 + 1) f fd ["_law_spec"] (spMd K (n + 1)) := by
  refine F.ok (CX := CX0) sc_law_made (fun vs H Q E h => ?_) (fun cdv A outer s H vs Q E hr h => ?_)
  · obtain ⟨s0, v, d, rfl, _⟩ := h
    rfl
  · have hr5 : Room 5 _ := hr.mono (by omega)
    refine ⟨_, PSs.nox (pss_cons (ps_if (pt_cmpR op_eq (pe_ix ix_tup (pv 0) pe_int (fun _ _ => rfl)) pe_str (nomark _))
      (pss_one (ps_ret (pe_newS G.kWord hr5 (fun σ => passAt takes0 σ) (by rfl) (pa_cons (pe_ix ix_tup (pv 0) pe_int (fun _ _ => rfl)) (pa_cons (pe_ix ix_tup (pv 0) pe_int (fun _ _ => rfl)) (pa_cons (pe_ix ix_tup (pv 0) pe_int (fun _ _ => rfl)) pa_nil))))))
      pss_nil)
    (pss_cons (ps_if (pt_cmpR op_eq (pe_ix ix_tup (pv 0) pe_int (fun _ _ => rfl)) pe_str (nomark _))
      (pss_one (ps_ret (pe_newS G.kNumber hr5 (fun σ => passAt takes0 σ) (by rfl) (pa_cons (pe_ix ix_tup (pv 0) pe_int (fun _ _ => rfl)) (pa_cons (pe_ix ix_tup (pv 0) pe_int (fun _ _ => rfl)) pa_nil)))))
      pss_nil)
    (pss_cons (ps_if (pt_cmpR op_eq (pe_ix ix_tup (pv 0) pe_int (fun _ _ => rfl)) pe_str (nomark _))
      (pss_one (ps_ret (pe_newS G.kFixed hr5 (fun σ => passAt takes0 σ) (by rfl) (pa_cons (pe_ix ix_tup (pv 0) pe_int (fun _ _ => rfl)) pa_nil))))
      pss_nil)
    (pss_cons (ps_if (pt_cmpR op_eq (pe_ix ix_tup (pv 0) pe_int (fun _ _ => rfl)) pe_str (nomark _))
      (pss_one (ps_ret (pe_newS G.kListed hr5 (fun σ => passAt takes0 σ) (by rfl) (pa_cons (pe_ix ix_tup (pv 0) pe_int (fun _ _ => rfl)) pa_nil))))
      pss_nil)
    (pss_cons (ps_if (pt_cmpR op_eq (pe_ix ix_tup (pv 0) pe_int (fun _ _ => rfl)) pe_str (nomark _))
      (pss_one (ps_ret (pe_newS G.kEnded hr5 (fun σ => passAt takes0 σ) (by rfl) (pa_cons (pe_ix ix_tup (pv 0) pe_int (fun _ _ => rfl)) (pa_cons (pe_ix ix_tup (pv 0) pe_int (fun _ _ => rfl)) (pa_cons (pe_ix ix_tup (pv 0) pe_int (fun _ _ => rfl)) (pa_cons (pe_ix ix_tup (pv 0) pe_int (fun _ _ => rfl)) pa_nil)))))))
      pss_nil)
    (pss_one (ps_ret (pe_newS G.kMarked hr5 (fun σ => passAt takes0 σ) (by rfl) (pa_cons (pe_ix ix_tup (pv 0) pe_int (fun _ _ => rfl)) (pa_cons (pe_ix ix_tup (pv 0) pe_int (fun _ _ => rfl)) (pa_cons (pe_fn AM hr pass0 (by rfl) (pa_cons (pe_ix ix_tup (pv 0) pe_int (fun _ _ => rfl)) pa_nil)) pa_nil))))))))))), ?_⟩
    obtain ⟨s0, v, d, rfl, hP, hg, hdep, q⟩ := h
    cases d with
    | mk n m d =>
      obtain ⟨b, u, rfl, hne, hb, hI⟩ := hP
      obtain ⟨hin, hd, hn, hm, hod⟩ := hg
      obtain ⟨sn, sm⟩ := mk_due hod
      refine ⟨_, rfl, b, _, _, _, rfl, rfl, SqT.of hb, atI_nat (j := 0) rfl, rfl, _, rfl, itN (by decide +kernel) ?_⟩
      refine ⟨_, rfl, b, _, _, _, rfl, rfl, SqT.of hb, atI_nat (j := 0) rfl, rfl, _, rfl, itN (by decide +kernel) ?_⟩
      refine ⟨_, rfl, b, _, _, _, rfl, rfl, SqT.of hb, atI_nat (j := 0) rfl, rfl, _, rfl, itN (by decide +kernel) ?_⟩
      refine ⟨_, rfl, b, _, _, _, rfl, rfl, SqT.of hb, atI_nat (j := 0) rfl, rfl, _, rfl, itN (by decide +kernel) ?_⟩
      refine ⟨_, rfl, b, _, _, _, rfl, rfl, SqT.of hb, atI_nat (j := 0) rfl, rfl, _, rfl, itN (by decide +kernel) ?_⟩
      refine ⟨_, rfl, b, _, _, _, rfl, rfl, SqT.of hb, atI_nat (j := 1) rfl, _, rfl, b, _, _, _, rfl, rfl, SqT.of hb, atI_nat (j := 2) rfl, _, rfl, b, _, _, _, rfl, rfl, SqT.of hb, atI_nat (j := 3) rfl, s0, u, .pl d, rfl, hI, ⟨hin, hd⟩, Nat.lt_of_succ_lt_succ hdep, fun r H1 S1 hR => ?_⟩
      intro a dx ha hx ne
      refine ⟨a, dx, n, m, .ref r, .pl d, rfl, upd_same, hn, hm, ⟨r, rfl, hR.1.same (same_new ha hx), hin, hd⟩, fun e H2 S2 => ⟨rfl, ?_⟩, fun z e => (by have e3 := hod.symm.trans e; cases e3)⟩
      have SH : Same H1 H2 := (same_new ha hx).trans S2
      exact q _ _ (S1.trans (same_put SH ha)) ⟨⟨dx, r, upd_same, hR.1.same (same_put SH ha)⟩, hin, hd, ⟨_, (sign_one sn).1⟩, _, (sign_one sm).1⟩
    | pl d =>
    obtain ⟨hin, hd⟩ := hg
    cases d with
    | word s l m =>
      obtain ⟨b, rfl, hn, hb⟩ := hP
      have hin0 := hin
      obtain ⟨hs, hl, hm⟩ := hin
      refine ⟨_, rfl, b, _, _, _, rfl, rfl, SqT.of hb, atI_nat (j := 0) rfl, rfl, _, rfl, itY ?_⟩
      refine ⟨_, rfl, b, _, _, _, rfl, rfl, SqT.of hb, atI_nat (j := 1) rfl, _, rfl, b, _, _, _, rfl, rfl, SqT.of hb, atI_nat (j := 2) rfl, _, rfl, b, _, _, _, rfl, rfl, SqT.of hb, atI_nat (j := 3) rfl, fun a dx ha hx ne => ?_⟩
      exact ⟨a, dx, s, l, m, rfl, upd_same, hs, hl, hm, fun e => ⟨rfl, q _ _ (same_put (same_new ha hx) ha) ⟨⟨dx, upd_same⟩, hin0, hd⟩⟩, fun z e => (by have e3 := hd.symm.trans e; cases e3)⟩
    | number l m =>
      obtain ⟨b, rfl, hn, hb⟩ := hP
      have hin0 := hin
      obtain ⟨hl, hm⟩ := hin
      refine ⟨_, rfl, b, _, _, _, rfl, rfl, SqT.of hb, atI_nat (j := 0) rfl, rfl, _, rfl, itN (by decide +kernel) ?_⟩
      refine ⟨_, rfl, b, _, _, _, rfl, rfl, SqT.of hb, atI_nat (j := 0) rfl, rfl, _, rfl, itY ?_⟩
      refine ⟨_, rfl, b, _, _, _, rfl, rfl, SqT.of hb, atI_nat (j := 1) rfl, _, rfl, b, _, _, _, rfl, rfl, SqT.of hb, atI_nat (j := 2) rfl, fun a dx ha hx ne => ?_⟩
      exact ⟨a, dx, l, m, rfl, upd_same, hl, hm, fun e => ⟨rfl, q _ _ (same_put (same_new ha hx) ha) ⟨⟨dx, upd_same⟩, hin0, hd⟩⟩, fun z e => (by have e3 := hd.symm.trans e; cases e3)⟩
    | fixed w =>
      obtain ⟨b, rfl, hn, hb⟩ := hP
      have hin0 := hin
      refine ⟨_, rfl, b, _, _, _, rfl, rfl, SqT.of hb, atI_nat (j := 0) rfl, rfl, _, rfl, itN (by decide +kernel) ?_⟩
      refine ⟨_, rfl, b, _, _, _, rfl, rfl, SqT.of hb, atI_nat (j := 0) rfl, rfl, _, rfl, itN (by decide +kernel) ?_⟩
      refine ⟨_, rfl, b, _, _, _, rfl, rfl, SqT.of hb, atI_nat (j := 0) rfl, rfl, _, rfl, itY ?_⟩
      refine ⟨_, rfl, b, _, _, _, rfl, rfl, SqT.of hb, atI_nat (j := 1) rfl, fun a dx ha hx ne => ?_⟩
      exact ⟨a, dx, w, rfl, upd_same, hin, fun e => ⟨rfl, q _ _ (same_put (same_new ha hx) ha) ⟨⟨dx, upd_same⟩, hin0, hd⟩⟩, fun z e => (by have e3 := hd.symm.trans e; cases e3)⟩
    | ended s e l m =>
      obtain ⟨b, rfl, hn, hb⟩ := hP
      have hin0 := hin
      obtain ⟨hs, he, hl, hm⟩ := hin
      refine ⟨_, rfl, b, _, _, _, rfl, rfl, SqT.of hb, atI_nat (j := 0) rfl, rfl, _, rfl, itN (by decide +kernel) ?_⟩
      refine ⟨_, rfl, b, _, _, _, rfl, rfl, SqT.of hb, atI_nat (j := 0) rfl, rfl, _, rfl, itN (by decide +kernel) ?_⟩
      refine ⟨_, rfl, b, _, _, _, rfl, rfl, SqT.of hb, atI_nat (j := 0) rfl, rfl, _, rfl, itN (by decide +kernel) ?_⟩
      refine ⟨_, rfl, b, _, _, _, rfl, rfl, SqT.of hb, atI_nat (j := 0) rfl, rfl, _, rfl, itN (by decide +kernel) ?_⟩
      refine ⟨_, rfl, b, _, _, _, rfl, rfl, SqT.of hb, atI_nat (j := 0) rfl, rfl, _, rfl, itY ?_⟩
      refine ⟨_, rfl, b, _, _, _, rfl, rfl, SqT.of hb, atI_nat (j := 1) rfl, _, rfl, b, _, _, _, rfl, rfl, SqT.of hb, atI_nat (j := 2) rfl, _, rfl, b, _, _, _, rfl, rfl, SqT.of hb, atI_nat (j := 3) rfl, _, rfl, b, _, _, _, rfl, rfl, SqT.of hb, atI_nat (j := 4) rfl, fun a dx ha hx ne => ?_⟩
      exact ⟨a, dx, s, e, l, m, rfl, upd_same, hs, he, hl, hm, fun e => ⟨rfl, q _ _ (same_put (same_new ha hx) ha) ⟨⟨dx, upd_same⟩, hin0, hd⟩⟩, fun z e => (by have e3 := hd.symm.trans e; cases e3)⟩
    | listed x =>
      obtain ⟨b, u, rfl, hn, hb, hL, _⟩ := hP
      refine ⟨_, rfl, b, _, _, _, rfl, rfl, SqT.of hb, atI_nat (j := 0) rfl, rfl, _, rfl, itN (by decide +kernel) ?_⟩
      refine ⟨_, rfl, b, _, _, _, rfl, rfl, SqT.of hb, atI_nat (j := 0) rfl, rfl, _, rfl, itN (by decide +kernel) ?_⟩
      refine ⟨_, rfl, b, _, _, _, rfl, rfl, SqT.of hb, atI_nat (j := 0) rfl, rfl, _, rfl, itN (by decide +kernel) ?_⟩
      refine ⟨_, rfl, b, _, _, _, rfl, rfl, SqT.of hb, atI_nat (j := 0) rfl, rfl, _, rfl, itY ?_⟩
      refine ⟨_, rfl, b, _, _, _, rfl, rfl, SqT.of hb, atI_nat (j := 1) rfl, fun a dx ha hx ne => ?_⟩
      refine ⟨a, dx, u, x, rfl, upd_same, hin, hL.same (same_new ha hx), fun e t H2 S2 e2 => ⟨rfl, ?_⟩, fun z e => (by have e3 := hd.symm.trans e; cases e3)⟩
      have SH : Same H H2 := (same_new ha hx).trans S2
      obtain ⟨ob, c1, c2, c3⟩ := e2
      have nt : t ≠ a := ne_of c3 (S2 _ _ upd_same) (fun z => by cases z)
      exact q _ _ (same_put SH ha) ⟨⟨dx, t, upd_same, ob, c1, c2, by rw [upd_ne nt]; exact c3⟩, hin, hd⟩


end
end L2.K79

set_option Elab.async false
set_option linter.all false
set_option maxRecDepth 100000
set_option maxHeartbeats 4000000
/-! The law: shuffled, small. -/
namespace L2.K79
open PySem PySem.W PySem.Spec PySem.Calls PyProof.Rows L2.Jk
def spShuf : Sp := fun vs H Q _ => ∃ (a p : Addr) (ts : List Str), vs = [.ref a, .ref p] ∧ StAt H a ∧ p ≠ a ∧ H p = some (.lst (ts.map V.str)) ∧ (∀ t ∈ ts, t ∈ allL) ∧ ts.length ≤ 12 ∧
  ∀ r (ys : List Str) H', H r = none → ys.Perm ts → But a H H' → StAt H' a → H' r = some (.lst (ys.map V.str)) → Q (.ref r) H'
theorem dp_strs {K : Frag} {H : Hp} {p : Addr} {ts : List Str} (h : H p = some (.lst (ts.map V.str))) : Dp K H (.ref p) (.list ((ts.map V.str).map dV)) := .lst (SqL.of h) (dpAll_flat (by rw [List.all_map]; exact List.all_eq_true.mpr fun _ _ => rfl))
theorem sh_strs {ts : List Str} (h : ∀ t ∈ ts, t ∈ allL) : SeqAt.shaped (.list ((ts.map V.str).map dV)) = true := by
  obtain ⟨l1, l2⟩ := lay_strs ts fun t ht => (menu_are t (h t ht)).2.2.1
  refine Bool.and_eq_true_iff.mpr ⟨l1, decide_eq_true ?_⟩
  show PyData.depthAll ((ts.map V.str).map dV) + 1 ≤ 64
  omega
theorem eqv_nil : ∀ ts : List Str, PyData.eqv (.list ((ts.map V.str).map dV)) (.list []) = decide (ts = [])
  | [] => rfl
  | _ :: _ => rfl
theorem StAt.put {H : Hp} {a p : Addr} {o : HO} (st : StAt H a) (n : p ≠ a) : StAt (upd H p o) a := by
  obtain ⟨x, y, z, e, r⟩ := st
  exact ⟨x, y, z, by rw [upd_ne (Ne.symm n)]; exact e, r⟩
theorem but_put {H H1 : Hp} {a p : Addr} {o : HO} (B : But a H H1) (n : H p = none) : But a H (upd H1 p o) := fun b u h e => by
  rw [upd_ne (ne_of_none e n)]
  exact B b u h e
section
variable {P : Program} {w : World} {K : Frag} {mg : Str → Option Value} {base : Heap} {f : Addr} {fd : FuncData}

abbrev s_law_shuffled : Stmt := top 49
theorem sc_law_shuffled : FnScope ["_law_source_here", "_law_items", "_law_left", "_law_found"] ["_law_source_here", "_law_items"] (defScope s_law_shuffled) := ⟨rfl, rfl, rfl, by decide +kernel, rfl, by decide +kernel, by decide +kernel⟩

theorem ok_law_shuffled (F : FunD K "_law_shuffled" "_law_shuffled" (defArgs s_law_shuffled) (defBody s_law_shuffled) (defScope s_law_shuffled) [] [] f fd) (G : G6 P w K mg base) : FnOk P w K mg base CX0 2 f fd ["_law_source_here", "_law_items"] spShuf := by
  refine F.ok (CX := CX0) sc_law_shuffled (fun vs H Q E h => ?_) (fun cdv A outer s H vs Q E hr h => ?_)
  · obtain ⟨a, p, ts, rfl, _⟩ := h
    rfl
  · refine ⟨_, PSs.nox (pss_cons (ps_par (i := 2) (j := 3) (by rfl) sc_law_shuffled.nd rfl rfl (by decide) rfl rfl (pa_cons (pe_callTy call_list_of (by rfl) G.list (by decide +kernel) (pa_cons (pv 1) pa_nil)) (pa_cons (pe_lstS pa_nil) pa_nil)) (by rfl))
    (pss_cons (ps_while PassesOwn.never (pt_cmpR (op_neD hr.units) (pv 2) (pe_lstS pa_nil) (nomark _))
      (pss_one (ps_expr (pe_bm PySem.F.plainAttrs_list PySem.F.slot_list_append PySem.F.type_list_append mt_append (pv 3) (pa_cons (pe_bm PySem.F.plainAttrs_list PySem.F.slot_list_pop PySem.F.type_list_pop mt_popAt (pv 2) (pa_cons (pe_fn G.law_draw hr pass0 (by rfl) (pa_cons (pv 0) (pa_cons (pe_callB call_len_seq (by rfl) G.len (by decide +kernel) (pa_cons (pv 2) pa_nil)) pa_nil))) pa_nil)) pa_nil)))))
    (pss_one (ps_ret (pv 3))))), ?_⟩
    obtain ⟨a, p, ts, rfl, st, hpa, hp, hn, hl, q⟩ := h
    refine ⟨_, rfl, p, _, rfl, .inl (SqL.of hp), fun pl hpl => ?_⟩
    refine ⟨by show 0 ≤ 1000; decide, fun pf H2 hpf S2 e2 => ⟨_, _, rfl, ?_⟩⟩
    have S1 : Same H (upd H pl (.lst (ts.map V.str))) := same_upd hpl
    have npl : pl ≠ a := st.ne hpl
    have st2 : StAt H2 a := (st.same S1).same S2
    have hpf0 : H pf = none := none_of S1 hpf
    have npf : pf ≠ a := st.ne hpf0
    have nlf : pf ≠ pl := fun e => by rw [e, upd_same] at hpf; cases hpf
    refine ⟨fun m σ' H' => ∃ left found : List Str, left.length = m ∧ σ' = [some (.ref a), some (.ref p), some (.ref pl), some (.ref pf)] ∧ H' pl = some (.lst (left.map V.str)) ∧ H' pf = some (.lst (found.map V.str)) ∧ (found ++ left).Perm ts ∧ But a H H' ∧ StAt H' a,
      ⟨ts.length, ts, [], rfl, rfl, S2 _ _ upd_same, e2, List.Perm.refl _, But.of_same (S1.trans S2), st2⟩, ?_⟩
    rintro m σ' H' ⟨left, found, hm, rfl, el, ef, perm, B, st'⟩
    have hsub : ∀ t ∈ left, t ∈ allL := fun t ht => hn t (perm.mem_iff.mp (List.mem_append_right _ ht))
    have hlen := perm.length_eq
    rw [List.length_append] at hlen
    refine ⟨_, rfl, by show 0 ≤ 1000; decide, fun pe H3 hpe S3 e3 => ⟨_, _, dp_strs (S3 _ _ el), .lst (SqL.of e3) .nil, sh_strs hsub, by decide +kernel, _, rfl, ?_⟩⟩
    rw [eqv_nil]
    refine ite2 (fun c => ?_) (fun c => ?_)
    · have hne : left ≠ [] := fun e => by rw [decide_eq_true e] at c; cases c
      have hpos := List.length_pos_iff.mpr hne
      have st3 := st'.same S3
      refine ⟨fun σ2 H2 => ∃ left found : List Str, left.length < m ∧ σ2 = [some (.ref a), some (.ref p), some (.ref pl), some (.ref pf)] ∧ H2 pl = some (.lst (left.map V.str)) ∧ H2 pf = some (.lst (found.map V.str)) ∧ (found ++ left).Perm ts ∧ But a H H2 ∧ StAt H2 a,
        fun σ2 H2 ⟨l2, f2, h⟩ => ⟨l2.length, h.1, l2, f2, rfl, h.2⟩, ?_⟩
      refine ⟨_, rfl, .inl ⟨rfl, _, SqL.of (S3 _ _ ef)⟩, _, rfl, .inl ⟨rfl, _, SqL.of (S3 _ _ el)⟩, _, rfl, _, rfl, pl, _, rfl, .inl (SqL.of (S3 _ _ el)), a, _, rfl, st3, ?_, ?_, fun d H4 h0 h1 B4 st4 => ?_⟩
      · rw [List.length_map]
        omega
      · rw [List.length_map]
        omega
      obtain ⟨k, rfl⟩ : ∃ k : Nat, d = (k : Int) := ⟨d.toNat, by omega⟩
      rw [List.length_map] at h1
      have hk : k < left.length := by omega
      obtain ⟨y, hy, my⟩ := pick hk
      have el4 := B4 _ _ npl (S3 _ _ el)
      have ef4 := B4 _ _ npf (S3 _ _ ef)
      refine ⟨pl, _, _, k, .str y, rfl, rfl, el4, by omega, by omega, ?_, by rw [List.getElem?_map, hy]; rfl, pf, _, _, rfl, rfl, by rw [upd_ne nlf]; exact ef4, by rw [List.length_map, sizeLine_eq]; omega, left.eraseIdx k, found ++ [y], ?_, rfl, ?_, ?_, ?_, ?_, ?_⟩
      · refine (ixN_seq ?_).1
        unfold ixN
        rw [List.length_map, if_pos (by omega), if_pos (by omega)]
        simp
      · rw [List.length_eraseIdx_of_lt hk]
        omega
      · rw [upd_ne (Ne.symm nlf), upd_same, map_eraseIdx']
      · rw [upd_same, List.map_append]
        rfl
      · have e1 := erase_perm left k hk
        have e2 : left[k] = y := by
          have z := List.getElem?_eq_getElem hk
          rw [hy] at z
          exact (Option.some.inj z).symm
        rw [e2] at e1
        rw [List.append_assoc]
        exact (List.Perm.append_left found e1).trans perm
      · exact but_put (but_put ((B.trans (But.of_same S3)).trans B4) hpl) hpf0
      · exact (st4.put npl).put npf
    · have he : left = [] := by
        cases left with
        | nil => rfl
        | cons x xs => exact absurd rfl c
      subst he
      rw [List.append_nil] at perm
      exact ⟨_, rfl, q pf found H3 hpf0 perm (B.trans (But.of_same S3)) (st'.same S3) (S3 _ _ ef)⟩

end
end L2.K79

set_option Elab.async false
set_option linter.all false
set_option maxRecDepth 100000
set_option maxHeartbeats 4000000
/-! The law: a drawn field. -/
namespace L2.K79
open PySem PySem.W PySem.Spec PySem.Calls PyProof.Rows L2.Jk
inductive FrF : FD → Prop
  | pl {d : PD} : DrP farW farL d → FrF (.pl d)
  | mk {n : Str} {d : PD} : n ∈ marks → DrP farW farL d → FrF (.mk (.str n) (.str "M") d)
theorem FrF.dr : ∀ {d : FD}, FrF d → DrF d
  | _, .pl h => .pl h.all
  | _, .mk a h => .mk a h
def spFar (n : Nat) : Sp := fun vs H Q _ => ∃ (a : Addr) (b : Bool), vs = [.ref a, .bl b] ∧ StAt H a ∧ (if b = true then 1 else 2) ≤ n ∧
  ∀ v d H', FrF d → (b = true → ∃ d', d = .pl d' ∧ DrP farW farL d') → FIn a H' v d → But a H H' → StAt H' a → Q v H'
structure GM (P : Program) (w : World) (K : Frag) (mg : Str → Option Value) (base : Heap) : Prop extends G6 P w K mg base where
  law_shuffled : FnAt P w K mg base CX0 2 "_law_shuffled" ["_law_source_here", "_law_items"] spShuf
theorem cut_take {ys : List Str} {j : Nat} (h : 1 ≤ ys.length) : ∃ zs : List Str, cutV (ys.map V.str) none (some (1 + (j : Int))) = zs.map V.str ∧ zs.Sublist ys ∧ zs ≠ [] := by
  refine ⟨ys.take (HT.sIx ys.length ys.length (some (1 + (j : Int)))), ?_, List.take_sublist _ _, fun e => ?_⟩
  · unfold cutV
    rw [List.length_map, List.map_take]
    show ((ys.map V.str).drop 0).take (_ - 0) = _
    rw [List.drop_zero, Nat.sub_zero]
  · have z := congrArg List.length e
    rw [List.length_take] at z
    have k : 1 ≤ HT.sIx ys.length ys.length (some (1 + (j : Int))) := by
      rw [show 1 + (j : Int) = ((1 + j : Nat) : Int) by omega, HT.sIx_nat]
      omega
    have z : min (HT.sIx ys.length ys.length (some (1 + (j : Int)))) ys.length = 0 := z
    omega
theorem ne_lit {d : Int} {k : Nat} (h : ¬ decide (V.int d = V.int (k : Nat)) = true) : d ≠ (k : Int) := fun e => h (decide_eq_true (by rw [e]))
theorem eq_lit {d : Int} {k : Nat} (h : decide (V.int d = V.int (k : Nat)) = true) : d = (k : Int) := by
  have z := of_decide_eq_true h
  injection z
/-- a listed field of some of the texts, in a drawn order -/
theorem lst_dr {wz lz ts ys zs : List Str} (hn : ts.Nodup) (hs : ∀ t ∈ ts, t ∈ lz) (hl : ts.length ≤ 12) (hp : ys.Perm ts) (hz : zs.Sublist ys) (h0 : zs ≠ []) : DrP wz lz (.listed (.lst (zs.map V.str))) :=
  .listed (hz.nodup (hp.symm.nodup hn)) (fun t ht => hs t (hp.mem_iff.mp (hz.mem ht))) h0 (Nat.le_trans hz.length_le (by rw [hp.length_eq]; exact hl))
section
variable {P : Program} {w : World} {K : Frag} {mg : Str → Option Value} {base : Heap} {f : Addr} {fd : FuncData}

abbrev s_law_far : Stmt := top 50
theorem sc_law_far : FnScope ["_law_source_here", "_law_is_inner", "_law_way", "_law_least", "_law_most", "_law_some"] ["_law_source_here", "_law_is_inner"] (defScope s_law_far) := ⟨rfl, rfl, rfl, by decide +kernel, rfl, by decide +kernel, by decide +kernel⟩

theorem ok_law_far (F : FunD K "_law_far" "_law_far" (defArgs s_law_far) (defBody s_law_far) (defScope s_law_far) [] [] f fd) {n : Nat} (G : GM P w K mg base) (AM : FnAt P w K mg base CX0 (n + 2) "_law_far" ["_law_source_here", "_law_is_inner"] (spFar n)) : FnOk P w K mg base CX0 (n + 2 + 1) f fd ["_law_source_here", "_law_is_inner"] (spFar (n + 1)) := by
  refine F.ok (CX := CX0) sc_law_far (fun vs H Q E h => ?_) (fun cdv A outer s H vs Q E hr h => ?_)
  · obtain ⟨_, _, rfl, _⟩ := h
    rfl
  · refine ⟨_, PSs.nox (C8.pss_cut (ps_par (i := 2) (j := 3) (by rfl) sc_law_far.nd rfl rfl (by decide) rfl rfl (pa_cons (pe_fn G.law_draw (hr.mono (by omega)) pass0 (by rfl) (pa_cons (pv 0) (pa_cons (pe_ifExp (pt_val (pv 1)) pe_int pe_int) pa_nil))) (pa_cons (pe_fn G.law_draw (hr.mono (by omega)) pass0 (by rfl) (pa_cons (pv 0) (pa_cons pe_int pa_nil))) pa_nil)) (by rfl))
    (C8.pss_cut (ps_set (i := 4) sc_law_far.nd rfl (Or.inl rfl) (pe_fn G.law_pick (hr.mono (by omega)) pass0 (by rfl) (pa_cons (pv 0) (pa_cons (pe_lstS (pa_cons pe_non (pa_cons pe_non (pa_cons (pv 3) (pa_cons (pe_op op_add (pv 3) pe_int) (pa_cons pe_int pa_nil)))))) pa_nil))))
    (pss_cons (ps_if (pt_cmpR op_eq (pv 2) pe_int (nomark _))
      (pss_one (ps_ret (pe_tupS (pa_cons pe_str (pa_cons (pe_fn G.law_pick (hr.mono (by omega)) pass0 (by rfl) (pa_cons (pv 0) (pa_cons (pe_lstS (pa_cons pe_str (pa_cons pe_str (pa_cons pe_str (pa_cons pe_str (pa_cons pe_str pa_nil)))))) pa_nil))) (pa_cons (pv 3) (pa_cons (pv 4) pa_nil)))))))
      pss_nil)
    (pss_cons (ps_if (pt_cmpR op_eq (pv 2) pe_int (nomark _))
      (pss_cons (ps_set (i := 3) sc_law_far.nd rfl (Or.inl rfl) (pe_fn G.law_pick (hr.mono (by omega)) pass0 (by rfl) (pa_cons (pv 0) (pa_cons (pe_lstS (pa_cons pe_int (pa_cons pe_int (pa_cons pe_int (pa_cons pe_int (pa_cons pe_int (pa_cons pe_int pa_nil))))))) pa_nil))))
      (pss_one (ps_ret (pe_tupS (pa_cons pe_str (pa_cons (pv 3) (pa_cons (pe_fn G.law_pick (hr.mono (by omega)) pass0 (by rfl) (pa_cons (pv 0) (pa_cons (pe_lstS (pa_cons pe_non (pa_cons pe_non (pa_cons (pv 3) (pa_cons (pe_op op_add (pv 3) pe_int) (pa_cons pe_int (pa_cons (pe_op op_pow pe_int pe_int) pa_nil))))))) pa_nil))) pa_nil)))))))
      pss_nil)
    (pss_cons (ps_if (pt_cmpR op_eq (pv 2) pe_int (nomark _))
      (pss_one (ps_ret (pe_tupS (pa_cons pe_str (pa_cons (pe_op op_add pe_int (pe_fn G.law_draw (hr.mono (by omega)) pass0 (by rfl) (pa_cons (pv 0) (pa_cons pe_int pa_nil)))) pa_nil)))))
      pss_nil)
    (pss_cons (ps_if (pt_cmpR op_eq (pv 2) pe_int (nomark _))
      (pss_cons (ps_set (i := 5) sc_law_far.nd rfl (Or.inl rfl) (pe_fn G.law_shuffled (hr.mono (by omega)) pass0 (by rfl) (pa_cons (pv 0) (pa_cons (pe_lstS (pa_cons pe_str (pa_cons pe_str (pa_cons pe_str (pa_cons pe_str (pa_cons pe_str (pa_cons pe_str (pa_cons pe_str (pa_cons pe_str (pa_cons pe_str (pa_cons pe_str (pa_cons pe_str (pa_cons pe_str pa_nil))))))))))))) pa_nil))))
      (pss_one (ps_ret (pe_tupS (pa_cons pe_str (pa_cons (pe_slice sl_listS (pv 5) po_none (po_some (pe_op op_add pe_int (pe_fn G.law_draw (hr.mono (by omega)) pass0 (by rfl) (pa_cons (pv 0) (pa_cons pe_int pa_nil)))))) pa_nil))))))
      pss_nil)
    (pss_cons (ps_if (pt_cmpR op_eq (pv 2) pe_int (nomark _))
      (pss_one (ps_ret (pe_tupS (pa_cons pe_str (pa_cons (pe_fn G.law_pick (hr.mono (by omega)) pass0 (by rfl) (pa_cons (pv 0) (pa_cons (pe_lstS (pa_cons pe_str (pa_cons pe_str (pa_cons pe_str pa_nil)))) pa_nil))) (pa_cons (pe_fn G.law_pick (hr.mono (by omega)) pass0 (by rfl) (pa_cons (pv 0) (pa_cons (pe_lstS (pa_cons pe_str (pa_cons pe_str pa_nil))) pa_nil))) (pa_cons (pv 3) (pa_cons (pv 4) pa_nil))))))))
      pss_nil)
    (pss_one (ps_ret (pe_tupS (pa_cons pe_str (pa_cons (pe_fn G.law_pick (hr.mono (by omega)) pass0 (by rfl) (pa_cons (pv 0) (pa_cons (pe_lstS (pa_cons pe_str (pa_cons pe_str pa_nil))) pa_nil))) (pa_cons pe_str (pa_cons (pe_fn AM hr pass0 (by rfl) (pa_cons (pv 0) (pa_cons pe_bl pa_nil))) pa_nil)))))))))))))), ?_⟩
    obtain ⟨a, b, rfl, st, hn, q⟩ := h
    refine ⟨fun σ J => ∃ (d0 : Int) (l : Nat) (v4 v5 : Option V), σ = [some (.ref a), some (.bl b), some (.int d0), some (.int (l : Nat)), v4, v5] ∧ 0 ≤ d0 ∧ d0 < 6 ∧ (b = true → d0 < 5) ∧ l < 3 ∧ But a H J ∧ StAt J a, ?_, ?_⟩
    · refine ⟨_, rfl, _, rfl, _, rfl, ?_⟩
      cases b with
      | true => exact iteT ⟨a, 5, rfl, st, by decide, by decide, fun d0 H0 h00 h10 B0 st0 => ⟨_, rfl, a, 3, rfl, st0, by decide, by decide, fun d1 H1 h01 h11 B1 st1 => ⟨_, _, rfl, d0, d1.toNat, _, _, by rw [Int.toNat_of_nonneg h01]; rfl, h00, by omega, fun _ => h10, by omega, B0.trans B1, st1⟩⟩⟩
      | false => exact iteF ⟨a, 6, rfl, st, by decide, by decide, fun d0 H0 h00 h10 B0 st0 => ⟨_, rfl, a, 3, rfl, st0, by decide, by decide, fun d1 H1 h01 h11 B1 st1 => ⟨_, _, rfl, d0, d1.toNat, _, _, by rw [Int.toNat_of_nonneg h01]; rfl, h00, by omega, (fun z => by cases z), by omega, B0.trans B1, st1⟩⟩⟩
    rintro σ J ⟨d0, l, v4, v5, rfl, h00, h10, hb5, hl, B, stJ⟩
    refine ⟨fun σ J => ∃ (m : V) (v5 : Option V), σ = [some (.ref a), some (.bl b), some (.int d0), some (.int (l : Nat)), some m, v5] ∧ MB l m ∧ But a H J ∧ StAt J a, ?_, ?_⟩
    · refine ⟨_, rfl, _, rfl, _, rfl, _, _, rfl, rfl, by show 5 ≤ 1000; decide, fun p2 H2 hp2 S2 e2 => ⟨a, p2, _, rfl, stJ.same S2, stJ.ne hp2, e2, by simp, by show 5 ≤ 1000; decide, fun v2 G2 hv2 B2 st2 => ⟨v2, _, rfl, ?_, (B.trans (But.of_same S2)).trans B2, st2⟩⟩⟩
      simp only [List.mem_cons, List.not_mem_nil, or_false] at hv2
      rcases hv2 with rfl | rfl | rfl | rfl | rfl
      · exact .inl rfl
      · exact .inl rfl
      · exact .inr ⟨l, rfl, Nat.le_refl _, by omega⟩
      · exact .inr ⟨l + 1, rfl, by omega, by omega⟩
      · exact .inr ⟨12, rfl, by omega, by decide⟩
    rintro σ J1 ⟨m, v5, rfl, hm, B1, st1⟩
    refine ⟨_, rfl, rfl, _, rfl, ?_⟩
    refine ite2 (fun c0 => ?_) (fun c0 => ?_)
    · -- a word
      refine ⟨_, rfl, by show 5 ≤ 1000; decide, fun p2 H2 hp2 S2 e2 => ⟨a, p2, farW.map V.str, rfl, st1.same S2, st1.ne hp2, e2, by decide, by decide, fun v2 G2 hv2 B2 st2 => ?_⟩⟩
      obtain ⟨z, hz, rfl⟩ := List.mem_map.mp hv2
      refine ⟨_, rfl, _, rfl, by show 4 ≤ 1000; decide, fun t H5 ht S5 e5 => ?_⟩
      exact q _ (.pl (.word (.str z) (.int (l : Nat)) m)) _ (.pl (.word hz (by omega) hm)) (fun _ => ⟨_, rfl, .word hz (by omega) hm⟩) ⟨t, rfl, st2.ne ht, e5⟩ (((B1.trans (But.of_same S2)).trans B2).trans (But.of_same S5)) (st2.same S5)
    refine ⟨_, rfl, rfl, _, rfl, ?_⟩
    refine ite2 (fun c1 => ?_) (fun c1 => ?_)
    · -- a number
      refine ⟨_, rfl, by show 6 ≤ 1000; decide, fun p2 H2 hp2 S2 e2 => ⟨a, p2, (([0, 1, 7, 10, 99, 100] : List Nat).map fun l : Nat => V.int (l : Int)), rfl, st1.same S2, st1.ne hp2, e2, by decide, by decide, fun v2 G2 hv2 B2 st2 => ?_⟩⟩
      obtain ⟨l2, hl2, rfl⟩ := List.mem_map.mp hv2
      have hl2' : l2 ≤ 100 := by
        have : ∀ k ∈ ([0, 1, 7, 10, 99, 100] : List Nat), k ≤ 100 := by decide
        exact this l2 hl2
      refine ⟨_, rfl, _, rfl, _, rfl, _, rfl, _, _, rfl, rfl, _, _, rfl, rfl, ⟨by decide, by decide, by decide⟩, by show 6 ≤ 1000; decide, fun p4 H4 hp4 S4 e4 => ⟨a, p4, _, rfl, st2.same S4, st2.ne hp4, e4, by simp, by show 6 ≤ 1000; decide, fun v4 G4 hv4 B4 st4 => ?_⟩⟩
      have hm4 : MB l2 v4 := by
        simp only [List.mem_cons, List.not_mem_nil, or_false] at hv4
        rcases hv4 with rfl | rfl | rfl | rfl | rfl | rfl
        · exact .inl rfl
        · exact .inl rfl
        · exact .inr ⟨l2, rfl, Nat.le_refl _, by omega⟩
        · exact .inr ⟨l2 + 1, rfl, by omega, by omega⟩
        · exact .inr ⟨999, rfl, by omega, by decide⟩
        · exact .inr ⟨100000000, congrArg V.int (by decide +kernel), by omega, by decide⟩
      refine ⟨by show 3 ≤ 1000; decide, fun t H5 ht S5 e5 => ?_⟩
      exact q _ (.pl (.number (.int (l2 : Nat)) v4)) _ (.pl (.number (by omega) hm4)) (fun _ => ⟨_, rfl, .number (by omega) hm4⟩) ⟨t, rfl, st4.ne ht, e5⟩ (((((B1.trans (But.of_same S2)).trans B2).trans (But.of_same S4)).trans B4).trans (But.of_same S5)) (st4.same S5)
    refine ⟨_, rfl, rfl, _, rfl, ?_⟩
    refine ite2 (fun c2 => ?_) (fun c2 => ?_)
    · -- a fixed one
      refine ⟨_, rfl, a, 4, rfl, st1, by decide, by decide, fun d1 H2 h01 h11 B2 st2 => ?_⟩
      obtain ⟨k, rfl⟩ : ∃ k : Nat, d1 = (k : Int) := ⟨d1.toNat, by omega⟩
      refine ⟨1, (k : Int), rfl, rfl, by show 2 ≤ 1000; decide, fun t H5 ht S5 e5 => ?_⟩
      dsimp only at e5
      rw [show 1 + (k : Int) = ((1 + k : Nat) : Int) by omega] at e5
      exact q _ (.pl (.fixed (.int ((1 + k : Nat) : Int)))) _ (.pl (.fixed (by omega) (by omega))) (fun _ => ⟨_, rfl, .fixed (by omega) (by omega)⟩) ⟨t, rfl, st2.ne ht, e5⟩ ((B1.trans B2).trans (But.of_same S5)) (st2.same S5)
    refine ⟨_, rfl, rfl, _, rfl, ?_⟩
    refine ite2 (fun c3 => ?_) (fun c3 => ?_)
    · -- a listed one
      refine ⟨_, rfl, by show 12 ≤ 1000; decide, fun p2 H2 hp2 S2 e2 => ⟨a, p2, farL, rfl, st1.same S2, st1.ne hp2, e2, fun t ht => List.mem_append_right _ ht, by decide, fun r ys G2 hr0 perm B2 st2 er => ?_⟩⟩
      have nr : r ≠ a := st1.ne (none_of S2 hr0)
      have hyl : 1 ≤ ys.length := by rw [perm.length_eq]; decide
      refine ⟨_, rfl, _, rfl, a, 12, rfl, st2, by decide, by decide, fun d1 G3 h01 h11 B3 st3 => ?_⟩
      obtain ⟨k, rfl⟩ : ∃ k : Nat, d1 = (k : Int) := ⟨d1.toNat, by omega⟩
      obtain ⟨zs, ez, sub, hz0⟩ := cut_take (j := k) hyl
      refine ⟨_, _, rfl, rfl, 1 + (k : Int), rfl, r, _, rfl, SqL.of (B3 _ _ nr er), fun p5 G4 hp5 S4 e5 => ?_⟩
      rw [ez] at e5
      have np5 := st3.ne hp5
      refine ⟨by show 2 ≤ 1000; decide, fun t G5 ht S5 e6 => ?_⟩
      have hD : ∀ {wz : List Str}, DrP wz farL (.listed (.lst (zs.map V.str))) := lst_dr (by decide) (fun _ h => h) (by decide) perm sub hz0
      exact q _ (.pl (.listed (.lst (zs.map V.str)))) _ (.pl hD) (fun _ => ⟨_, rfl, hD⟩) ⟨t, .ref p5, rfl, (st3.same S4).ne ht, e6, ⟨p5, rfl, S5 _ _ e5⟩, fun c ec => by cases ec; exact np5⟩ (((((B1.trans (But.of_same S2)).trans B2).trans B3).trans (But.of_same S4)).trans (But.of_same S5)) ((st3.same S4).same S5)
    refine ⟨_, rfl, rfl, _, rfl, ?_⟩
    refine ite2 (fun c4 => ?_) (fun c4 => ?_)
    · -- an ended one
      refine ⟨_, rfl, by show 3 ≤ 1000; decide, fun p2 H2 hp2 S2 e2 => ⟨a, p2, endZ.map V.str, rfl, st1.same S2, st1.ne hp2, e2, by decide, by decide, fun v2 G2 hv2 B2 st2 => ?_⟩⟩
      obtain ⟨z, hz, rfl⟩ := List.mem_map.mp hv2
      refine ⟨_, rfl, by show 2 ≤ 1000; decide, fun p3 H3 hp3 S3 e3 => ⟨a, p3, endE.map V.str, rfl, st2.same S3, st2.ne hp3, e3, by decide, by decide, fun v3 G3 hv3 B3 st3 => ?_⟩⟩
      obtain ⟨e, he, rfl⟩ := List.mem_map.mp hv3
      refine ⟨_, rfl, _, rfl, by show 5 ≤ 1000; decide, fun t H5 ht S5 e5 => ?_⟩
      exact q _ (.pl (.ended (.str z) (.str e) (.int (l : Nat)) m)) _ (.pl (.ended hz he (by omega) hm)) (fun _ => ⟨_, rfl, .ended hz he (by omega) hm⟩) ⟨t, rfl, st3.ne ht, e5⟩ (((((B1.trans (But.of_same S2)).trans B2).trans (But.of_same S3)).trans B3).trans (But.of_same S5)) (st3.same S5)
    -- a marked one
    have hbf : b = false := by
      cases b with
      | false => rfl
      | true =>
        have hb := hb5 rfl
        have k0 : d0 ≠ 0 := ne_lit (k := 0) c0
        have k1 : d0 ≠ 1 := ne_lit (k := 1) c1
        have k2 : d0 ≠ 2 := ne_lit (k := 2) c2
        have k3 : d0 ≠ 3 := ne_lit (k := 3) c3
        have k4 : d0 ≠ 4 := ne_lit (k := 4) c4
        omega
    subst hbf
    refine ⟨_, rfl, by show 2 ≤ 1000; decide, fun p2 H2 hp2 S2 e2 => ⟨a, p2, marks.map V.str, rfl, st1.same S2, st1.ne hp2, e2, by decide, by decide, fun v2 G2 hv2 B2 st2 => ?_⟩⟩
    obtain ⟨nn, hnn, rfl⟩ := List.mem_map.mp hv2
    have hn2 : 1 ≤ n := by
      have z : (if (false : Bool) = true then 1 else 2) ≤ n + 1 := hn
      simp at z
      omega
    refine ⟨_, rfl, a, true, rfl, st2, hn2, fun v3 d3 G3 hd3 hb3 hF B3 st3 => ?_⟩
    obtain ⟨d', rfl, hD⟩ := hb3 rfl
    refine ⟨by show 4 ≤ 1000; decide, fun t H5 ht S5 e5 => ?_⟩
    exact q _ (.mk (.str nn) (.str "M") d') _ (.mk hnn hD) (fun z => by cases z) ⟨t, v3, rfl, st3.ne ht, e5, hF.same S5⟩ ((((B1.trans (But.of_same S2)).trans B2).trans B3).trans (But.of_same S5)) (st3.same S5)

end
end L2.K79

set_option Elab.async false
set_option linter.all false
set_option maxRecDepth 100000
set_option maxHeartbeats 4000000
/-! The law: drawn layouts, and values. -/
namespace L2.K79
open PySem PySem.W PySem.Spec PySem.Calls PyProof.Rows L2.Jk
def SpsAt (s0 : Addr) (H : Hp) (vs : List V) (ds : List FD) : Prop := vs.length = ds.length ∧ ∀ (i : Nat) (v : V) (d : FD), vs[i]? = some v → ds[i]? = some d → FIn s0 H v d
theorem SpsAt.same {s0 : Addr} {H H' : Hp} {vs : List V} {ds : List FD} (S : Same H H') (h : SpsAt s0 H vs ds) : SpsAt s0 H' vs ds := ⟨h.1, fun i v d a b => (h.2 i v d a b).same S⟩
theorem SpsAt.but {s0 : Addr} {H H' : Hp} {vs : List V} {ds : List FD} (B : But s0 H H') (h : SpsAt s0 H vs ds) : SpsAt s0 H' vs ds := ⟨h.1, fun i v d a b => (h.2 i v d a b).but B⟩
theorem SpsAt.get {s0 : Addr} {H : Hp} {vs : List V} {ds : List FD} (h : SpsAt s0 H vs ds) {i : Nat} {v : V} (e : vs[i]? = some v) : ∃ d, ds[i]? = some d ∧ FIn s0 H v d := by
  have hi := (List.getElem?_eq_some_iff.mp e).1
  have e2 := List.getElem?_eq_getElem (show i < ds.length by rw [← h.1]; exact hi)
  exact ⟨_, e2, h.2 i v _ e e2⟩

theorem FIn.ref {s : Addr} {H : Hp} {v : V} : ∀ {d : FD}, FIn s H v d → ∃ b, v = .ref b
  | .pl (.word ..), ⟨b, e, _⟩ => ⟨b, e⟩
  | .pl (.number ..), ⟨b, e, _⟩ => ⟨b, e⟩
  | .pl (.fixed _), ⟨b, e, _⟩ => ⟨b, e⟩
  | .pl (.listed _), ⟨b, _, e, _⟩ => ⟨b, e⟩
  | .pl (.ended ..), ⟨b, e, _⟩ => ⟨b, e⟩
  | .mk .., ⟨b, _, e, _⟩ => ⟨b, e⟩
theorem upd_but {H : Hp} {p c : Addr} {o u : HO} {vsp : List V} (hp : H p = some (.lst vsp)) (hc : H c = some u) (n : u ≠ .lst vsp) : upd H p o c = some u := by
  rw [upd_ne (fun e => ?_)]
  · exact hc
  · rw [e, hp] at hc
    exact n (Option.some.inj hc).symm
theorem PDAt.put {s p : Addr} {H : Hp} {o : HO} {vsp : List V} {v : V} (hp : H p = some (.lst vsp)) (hr : ∀ x ∈ vsp, ∃ b, x = .ref b) : ∀ {d : PD}, WkP d → PDAt s H v d → PDAt s (upd H p o) v d
  | _, .word .., ⟨b, e, n, h⟩ => ⟨b, e, n, upd_but hp h (by intro z; cases z)⟩
  | _, .number .., ⟨b, e, n, h⟩ => ⟨b, e, n, upd_but hp h (by intro z; cases z)⟩
  | _, .fixed _, ⟨b, e, n, h⟩ => ⟨b, e, n, upd_but hp h (by intro z; cases z)⟩
  | _, .listed (ts := ts) hne _ _, ⟨b, u, e, n, h, ⟨b2, e2, l⟩, k⟩ => ⟨b, u, e, n, upd_but hp h (by intro z; cases z), ⟨b2, e2, upd_but hp l (fun z => by
      injection z with z
      cases ts with
      | nil => exact hne rfl
      | cons t ts =>
        obtain ⟨c, hc⟩ := hr (.str t) (z ▸ List.mem_cons_self ..)
        cases hc)⟩, k⟩
  | _, .ended .., ⟨b, e, n, h⟩ => ⟨b, e, n, upd_but hp h (by intro z; cases z)⟩
theorem FIn.put2 {s p : Addr} {H H6 : Hp} {o : HO} {vsp : List V} {v : V} {d : FD} (h : FIn s H v d) (S : Same H H6) (hp : H6 p = some (.lst vsp)) (hr : ∀ x ∈ vsp, ∃ b, x = .ref b) (hd : WkF d) : FIn s (upd H6 p o) v d := by
  cases hd with
  | pl hd => exact PDAt.put hp hr hd (PDAt.same S h)
  | mk _ _ _ _ hd =>
    obtain ⟨b, u, e, n, h, k⟩ := h
    exact ⟨b, u, e, n, upd_but hp (S _ _ h) (by intro z; cases z), PDAt.put hp hr hd (PDAt.same S k)⟩
theorem SpsAt.put2 {s p : Addr} {H H6 : Hp} {o : HO} {vsp : List V} {vs : List V} {ds : List FD} (h : SpsAt s H vs ds) (S : Same H H6) (hp : H6 p = some (.lst vsp)) (hr : ∀ x ∈ vsp, ∃ b, x = .ref b) (hd : ∀ d ∈ ds, WkF d) : SpsAt s (upd H6 p o) vs ds :=
  ⟨h.1, fun i v d a b => (h.2 i v d a b).put2 S hp hr (hd d (List.mem_of_getElem? b))⟩
theorem SpsAt.snoc {s : Addr} {H : Hp} {vs : List V} {ds : List FD} {v : V} {d : FD} (h : SpsAt s H vs ds) (k : FIn s H v d) : SpsAt s H (vs ++ [v]) (ds ++ [d]) := by
  refine ⟨by rw [List.length_append, List.length_append, h.1]; rfl, fun i x y hx hy => ?_⟩
  have hl := h.1
  by_cases hi : i < vs.length
  · rw [List.getElem?_append_left hi] at hx
    rw [List.getElem?_append_left (by omega)] at hy
    exact h.2 i x y hx hy
  · rw [List.getElem?_append_right (by omega)] at hx
    rw [List.getElem?_append_right (by omega)] at hy
    have e : i - vs.length = 0 := by
      have := (List.getElem?_eq_some_iff.mp hx).1
      have : i - vs.length < 1 := this
      omega
    rw [← hl, e] at hy
    rw [e] at hx
    cases hx
    cases hy
    exact k
theorem cut_tail (vs : List V) : (cutV vs (some 1) none).length = vs.length - 1 := by
  unfold cutV
  have e : HT.sIx vs.length 0 (some 1) = min 1 vs.length := HT.sIx_nat vs.length 0 1
  rw [e, HT.sIx_none, List.length_take, List.length_drop]
  omega

theorem FrF.wk {d : FD} (h : FrF d) : WkF d ∧ d.good := h.dr.good
structure GN (P : Program) (w : World) (K : Frag) (mg : Str → Option Value) (base : Heap) : Prop extends GM P w K mg base where
  law_far : FnAt P w K mg base CX0 4 "_law_far" ["_law_source_here", "_law_is_inner"] (spFar 2)
/-- drawn fields and joints -/
structure FlAt (a : Addr) (H : Hp) (ps pj : Addr) (vsp : List V) (ds : List FD) (js : List Str) : Prop where
  eps : H ps = some (.lst vsp)
  sps : SpsAt a H vsp ds
  dr : ∀ d ∈ ds, FrF d
  few : ds.length ≤ 8
  ne : ds ≠ []
  nps : ps ≠ a
  epj : H pj = some (.lst (js.map V.str))
  len : js.length + 1 = ds.length
  jn : ∀ j ∈ js, j ∈ JN
  npj : pj ≠ a
theorem FlAt.same {a : Addr} {H H' : Hp} {ps pj : Addr} {vsp : List V} {ds : List FD} {js : List Str} (S : Same H H') (h : FlAt a H ps pj vsp ds js) : FlAt a H' ps pj vsp ds js := ⟨S _ _ h.eps, h.sps.same S, h.dr, h.few, h.ne, h.nps, S _ _ h.epj, h.len, h.jn, h.npj⟩
theorem FlAt.but {a : Addr} {H H' : Hp} {ps pj : Addr} {vsp : List V} {ds : List FD} {js : List Str} (B : But a H H') (h : FlAt a H ps pj vsp ds js) : FlAt a H' ps pj vsp ds js := ⟨B _ _ h.nps h.eps, h.sps.but B, h.dr, h.few, h.ne, h.nps, B _ _ h.npj h.epj, h.len, h.jn, h.npj⟩
def spFl : Sp := fun vs H Q _ => ∃ a : Addr, vs = [.ref a, .int 4] ∧ StAt H a ∧ ∀ T ps pj vsp ds js H', T ≠ a → H' T = some (.tup [.ref ps, .ref pj]) → FlAt a H' ps pj vsp ds js → But a H H' → StAt H' a → Q (.ref T) H'
section
variable {P : Program} {w : World} {K : Frag} {mg : Str → Option Value} {base : Heap} {f : Addr} {fd : FuncData}

abbrev s_law_far_layout : Stmt := top 51
theorem sc_law_far_layout : FnScope ["_law_source_here", "_law_most", "_law_specs", "_law_turn", "_law_spec"] ["_law_source_here", "_law_most"] (defScope s_law_far_layout) := ⟨rfl, rfl, rfl, by decide +kernel, rfl, by decide +kernel, by decide +kernel⟩

theorem ok_law_far_layout (F : FunD K "_law_far_layout" "_law_far_layout" (defArgs s_law_far_layout) (defBody s_law_far_layout) (defScope s_law_far_layout) [] [] f fd) (G : GN P w K mg base) : FnOk P w K mg base CX0 5 f fd ["_law_source_here", "_law_most"] spFl := by
  refine F.ok (CX := CX0) sc_law_far_layout (fun vs H Q E h => ?_) (fun cdv A outer s H vs Q E hr h => ?_)
  · obtain ⟨_, rfl, _⟩ := h
    rfl
  · refine ⟨_, PSs.nox (C8.pss_cut (ps_setLc (i := 2) (own := [("_law_turn", 3)]) (g := gName 3) (tt := tYes) (by rfl) sc_law_far_layout.nd rfl rfl (sw_true rfl rfl rfl (by decide +kernel)) (pi_range1 (by rfl) G.range (pa_cons (pe_op op_add pe_int (pe_fn G.law_draw (hr.mono (by decide)) pass0 (by rfl) (pa_cons (pv 0) (pa_cons (pv 1) pa_nil)))) pa_nil)) (blkOk_by (N := ["_law_source_here", "_law_most", "_law_specs", "_law_turn", "_law_spec"]) (sc := defScope s_law_far_layout) (by decide +kernel)) (fun _ _ _ _ _ => pg_name (i := 3) sc_law_far_layout.nd rfl (Or.inl rfl)) (fun _ _ _ _ _ => pts_nil) (fun _ _ _ _ _ => (pe_fn G.law_far (hr.mono (by decide)) pass0 (by rfl) (pa_cons (pv 0) (pa_cons pe_bl pa_nil)))))
    (pss_one (ps_ret (pe_tupS (pa_cons (pv 2) (pa_cons (pe_lc (own := [("_law_spec", 4)]) (g := gName 4) (tt := tYes) rfl sc_law_far_layout.nd (pi_list (pe_slice sl_listS (pv 2) (po_some pe_int) po_none)) (blkOk_by (N := ["_law_source_here", "_law_most", "_law_specs", "_law_turn", "_law_spec"]) (sc := defScope s_law_far_layout) (by decide +kernel)) (fun _ _ _ _ _ => pg_name (i := 4) sc_law_far_layout.nd rfl (Or.inl rfl)) (fun _ _ _ _ _ => pts_nil) (fun _ _ _ _ _ => (pe_fn G.law_pick (hr.mono (by decide)) pass0 (by rfl) (pa_cons (pv 0) (pa_cons (pe_lstS (pa_cons pe_str (pa_cons pe_str (pa_cons pe_str (pa_cons pe_str (pa_cons pe_str pa_nil)))))) pa_nil))))) pa_nil)))))), ?_⟩
    obtain ⟨sa, rfl, st, q⟩ := h
    refine ⟨fun σ J => ∃ (ps : Addr) (vsp : List V) (ds : List FD) (v3 v4 : Option V), σ = [some (.ref sa), some (.int 4), some (.ref ps), v3, v4] ∧ J ps = some (.lst vsp) ∧ SpsAt sa J vsp ds ∧ (∀ d ∈ ds, FrF d) ∧ ds.length ≤ 8 ∧ ds ≠ [] ∧ ps ≠ sa ∧ StAt J sa ∧ But sa H J, ?_, ?_⟩
    · refine ⟨_, rfl, _, rfl, sa, 4, rfl, st, by decide, by decide, fun d1 J1 h01 h11 B1 st1 => ?_⟩
      refine ⟨_, _, rfl, rfl, 1 + d1, rfl, by omega, by omega, fun D hD => ?_⟩
      have nD : D ≠ sa := st1.ne hD
      have hD0 : H D = none := by
        cases e : H D with
        | none => rfl
        | some o => rw [B1 D o nD e] at hD; cases hD
      refine lc_range (lo := 0) (n := (1 + d1).toNat) (fun n J2 => ∃ vsp ds, J2 D = some (.lst vsp) ∧ SpsAt sa J2 vsp ds ∧ ds.length = n ∧ (∀ d ∈ ds, FrF d) ∧ StAt J2 sa ∧ But sa H J2) ⟨[], [], upd_same, ⟨rfl, fun i v d a => by cases a⟩, rfl, (fun d h => by cases h), st1.put nD, but_put B1 hD0⟩ ?_ ?_
      · rintro m J2 hm ⟨vsp, ds, eD, hS2, hdl, hdr, st2, S2⟩
        refine ⟨rfl, _, rfl, sa, false, rfl, st2, by decide, fun v d J3 hd _ hF B3 st3 => ?_⟩
        have eD3 := B3 _ _ nD eD
        have hS3 := hS2.but B3
        have href : ∀ x ∈ vsp, ∃ b, x = .ref b := fun x hx => by
          obtain ⟨q, hq⟩ := List.mem_iff_getElem?.mp hx
          obtain ⟨e, _, hF2⟩ := hS2.get hq
          exact hF2.ref
        have hvl := hS2.1
        refine ⟨vsp, eD3, by rw [sizeLine_eq]; omega, vsp ++ [v], ds ++ [d], upd_same, ?_, by rw [List.length_append, hdl]; rfl, fun e he => ?_, st3.put nD, but_put (S2.trans B3) hD0⟩
        · exact (hS3.put2 (Same.refl _) eD3 href fun e he => (hdr e he).wk.1).snoc (hF.put2 (Same.refl _) eD3 href hd.wk.1)
        · rcases List.mem_append.mp he with he | he
          · exact hdr e he
          · rw [List.mem_singleton.mp he]; exact hd
      · rintro J2 ⟨vsp, ds, eD, hS2, hdl, hdr, st2, S2⟩
        exact ⟨D, vsp, ds, _, _, rfl, eD, hS2, hdr, by omega, fun z => by rw [z] at hdl; simp only [List.length_nil] at hdl; omega, nD, st2, S2⟩
    rintro σ J1 ⟨ps, vsp, ds, v3, v4, rfl, eps, hS, hdr, hn, h0, nps, stJ1, BJ1⟩
    have hvl := hS.1
    refine ⟨_, rfl, _, rfl, 1, rfl, ps, _, rfl, SqL.of eps, fun p2 J2 hp2 S2 e2 => ?_⟩
    have np2 := stJ1.ne hp2
    have st2 := stJ1.same S2
    refine ⟨p2, rfl, ⟨_, SqL.of e2⟩, fun D hD => ?_⟩
    have nD : D ≠ sa := st2.ne hD
    refine lc_list (K := K) (a := p2) (xs := cutV vsp (some 1) none) (fun n J3 => ∃ js : List Str, J3 D = some (.lst (js.map V.str)) ∧ js.length = n ∧ (∀ j ∈ js, j ∈ JN) ∧ But sa J2 J3 ∧ StAt J3 sa) ⟨[], upd_same, rfl, (fun j h => by cases h), but_put (But.refl _ _) hD, st2.put nD⟩ (fun m J3 hi ⟨_, _, _, _, B3, _⟩ => SqL.of (B3 _ _ np2 e2)) ?_ ?_
    · rintro m v J3 hv ⟨js, eD, hjl, hjn, B3, st3⟩
      have hm := (List.getElem?_eq_some_iff.mp hv).1
      rw [cut_tail] at hm
      refine ⟨rfl, _, rfl, by show 5 ≤ 1000; decide, fun p4 J5 hp4 S5 e5 => ⟨sa, p4, _, rfl, st3.same S5, st3.ne hp4, e5, by simp, by show 5 ≤ 1000; decide, fun v J6 hv B6 st6 => ?_⟩⟩
      obtain ⟨jj, rfl, hjj⟩ : ∃ jj : Str, v = .str jj ∧ jj ∈ JN := by
        simp only [List.mem_cons, List.not_mem_nil, or_false] at hv
        rcases hv with rfl | rfl | rfl | rfl | rfl
        · exact ⟨_, rfl, by decide⟩
        · exact ⟨_, rfl, by decide⟩
        · exact ⟨_, rfl, by decide⟩
        · exact ⟨_, rfl, by decide⟩
        · exact ⟨_, rfl, by decide⟩
      have eD6 := B6 _ _ nD (S5 _ _ eD)
      refine ⟨_, eD6, by rw [List.length_map, sizeLine_eq]; omega, js ++ [jj], by rw [upd_same, List.map_append]; rfl, by rw [List.length_append, hjl]; rfl, fun e he => ?_, but_put ((B3.trans (But.of_same S5)).trans B6) hD, st6.put nD⟩
      rcases List.mem_append.mp he with he | he
      · exact hjn e he
      · rw [List.mem_singleton.mp he]; exact hjj
    · rintro J3 ⟨js, eD, hjl, hjn, B3, st3⟩
      rw [cut_tail] at hjl
      have hpos := List.length_pos_iff.mpr h0
      refine ⟨by show 2 ≤ 1000; decide, fun T J4 hT S4 eT => ?_⟩
      have B13 : But sa J1 J3 := (But.of_same S2).trans B3
      exact q T ps D vsp ds js J4 (st3.ne hT) eT ⟨S4 _ _ (B13 _ _ nps eps), (hS.but B13).same S4, hdr, hn, h0, nps, S4 _ _ eD, by omega, hjn, nD⟩ ((BJ1.trans B13).trans (But.of_same S4)) (st3.same S4)

end
end L2.K79

set_option Elab.async false
set_option linter.all false
set_option maxRecDepth 100000
set_option maxHeartbeats 4000000
/-! The law: words and texts as it writes them. -/
namespace L2.K79
open PySem PySem.W PySem.Spec PySem.Calls PyProof.Rows L2.Jk
theorem sum_le {B : Nat} : ∀ us : List Str, (∀ t ∈ us, t.length ≤ B) → (us.map (·.length)).sum ≤ us.length * B
  | [], _ => by simp
  | u :: us, h => by
    have := sum_le us fun t ht => h t (List.mem_cons_of_mem _ ht)
    have := h u (List.mem_cons_self ..)
    rw [List.map_cons, List.sum_cons, List.length_cons, Nat.succ_mul]
    omega
def itT : V → Str
  | .non => "*"
  | .int i => dg i
  | .str z => z
  | _ => ""
def spLwd (n : Nat) : Sp := fun vs H Q _ => ∃ (s0 : Addr) (v : V) (d : FD), vs = [v] ∧ FIn s0 H v d ∧ WkF d ∧ d.dep < n ∧ ∀ H', Same H H' → Q (.str d.wd) H'
/-- what the parts of a spec are -/
def ItOk (x : V) : Prop := x = .non ∨ (∃ n : Nat, x = .int (n : Nat) ∧ n < 1000000000) ∨ ∃ z : Str, x = .str z ∧ z.length ≤ 20
theorem mok_it {m : V} (h : MOk m) : ItOk m ∧ itT m = mostT m := by
  rcases h with rfl | ⟨n, rfl, h⟩
  · exact ⟨.inl rfl, rfl⟩
  · exact ⟨.inr (.inl ⟨n, rfl, h⟩), rfl⟩
theorem it_len {x : V} (h : ItOk x) : (itT x).length ≤ 20 := by
  rcases h with rfl | ⟨n, rfl, h⟩ | ⟨z, rfl, h⟩
  · decide
  · exact Nat.le_trans (T9 h) (by decide)
  · exact h
theorem itSn {n : Str} {A B : Prop} (k : B) : if decide (V.str n = V.non) = true then A else B := by
  rw [decide_eq_false (fun z => by cases z)]
  exact iteF k
section
variable {P : Program} {w : World} {K : Frag} {mg : Str → Option Value} {base : Heap} {f : Addr} {fd : FuncData}

abbrev s_law_word : Stmt := top 52
theorem sc_law_word : FnScope ["_law_spec", "_law_part"] ["_law_spec"] (defScope s_law_word) := ⟨rfl, rfl, rfl, by decide +kernel, rfl, by decide +kernel, by decide +kernel⟩

theorem ok_law_word (F : FunD K "_law_word" "_law_word" (defArgs s_law_word) (defBody s_law_word) (defScope s_law_word) [] [] f fd) {n : Nat} (G : GN P w K mg base) (AM : FnAt P w K mg base CX0 n "_law_word" ["_law_spec"] (spLwd n)) : FnOk P w K mg base CX0 (n + 1) f fd ["_law_spec"] (spLwd (n + 1)) := by
  refine F.ok (CX := CX0) sc_law_word (fun vs H Q E h => ?_) (fun cdv A outer s H vs Q E hr h => ?_)
  · obtain ⟨_, _, _, rfl, _⟩ := h
    rfl
  · refine ⟨_, PSs.nox (C8.pss_cut (ps_if (pt_cmpR op_eq (pe_ix ix_tup (pv 0) pe_int (fun _ _ => rfl)) pe_str (nomark _))
      (pss_one (ps_ret (pe_op op_add_str pe_str (pe_join pe_str (pe_ix ix_tup (pv 0) pe_int (fun _ _ => rfl))))))
      pss_nil)
    (C8.pss_cut (ps_if (pt_cmpR op_eq (pe_ix ix_tup (pv 0) pe_int (fun _ _ => rfl)) pe_str (nomark _))
      (pss_one (ps_ret (pe_op op_add_str (pe_op op_add_str (pe_op op_add_str (pe_op op_add_str (pe_op op_add_str pe_str (pe_ix ix_tup (pv 0) pe_int (fun _ _ => rfl))) pe_str) (pe_ix ix_tup (pv 0) pe_int (fun _ _ => rfl))) pe_str) (pe_fn AM hr pass0 (by rfl) (pa_cons (pe_ix ix_tup (pv 0) pe_int (fun _ _ => rfl)) pa_nil)))))
      pss_nil)
    (pss_one (ps_ret (pe_join pe_str (pe_lc (own := [("_law_part", 1)]) (g := gName 1) (tt := tYes) rfl sc_law_word.nd (pi_tup (pv 0)) (blkOk_by (N := ["_law_spec", "_law_part"]) (sc := defScope s_law_word) (by decide +kernel)) (fun _ _ _ _ _ => pg_name (i := 1) sc_law_word.nd rfl (Or.inl rfl)) (fun _ _ _ _ _ => pts_nil) (fun _ _ _ _ _ => (pe_ifExp (pt_cmpR op_isN (pv 1) pe_non (nomark _)) pe_str (pe_callTy call_str_both (by rfl) G.str (by decide +kernel) (pa_cons (pv 1) pa_nil)))))))))), ?_⟩
    obtain ⟨s0, v, d, rfl, hI, hW, hdep, q⟩ := h
    have line : ∀ k : Nat, k ≤ 5000 → k ≤ sizeLine := fun k hk => by rw [sizeLine_eq]; omega
    have ec : (":" : Str).length = 1 := rfl
    -- what is left for a field that is neither listed nor marked
    let Pl := fun (J : Hp) => J = H ∧ ∃ (b : Addr) (xs : List V) (x0 : Str), v = .ref b ∧ H b = some (.tup xs) ∧ xs[0]? = some (.str x0) ∧ x0 ≠ "listed" ∧ x0 ≠ "marked" ∧ (∀ x ∈ xs, ItOk x) ∧ xs.length ≤ 10 ∧ Txt.join ":" (xs.map itT) = d.wd
    refine ⟨fun σ J => (∃ v1, σ = [some v, v1]) ∧ (Pl J ∨ (J = H ∧ d.dep = 1)), ?_, ?_⟩
    · cases hW with
      | @mk nn mm d hn1 hn2 hm1 hm2 hd =>
        obtain ⟨b, u, rfl, hne, hb, hI2⟩ := hI
        exact ⟨_, rfl, b, _, _, _, rfl, rfl, SqT.of hb, atI_nat (j := 0) rfl, rfl, _, rfl, itN (by decide +kernel) ⟨⟨_, rfl⟩, .inr ⟨rfl, rfl⟩⟩⟩
      | @pl d hd =>
      cases hd with
      | @listed ts c1 c2 c3 =>
        obtain ⟨b, u, rfl, hn, hb, ⟨c, rfl, hc⟩, _⟩ := hI
        refine ⟨_, rfl, b, _, _, _, rfl, rfl, SqT.of hb, atI_nat (j := 0) rfl, rfl, _, rfl, itY ?_⟩
        have hj := join_le (s := ",") (B := 20) (by decide) ts fun t ht => (c3 t ht).2
        have hsum := sum_le (B := 20) ts fun t ht => (c3 t ht).2
        have e1 : ("," : Str).length = 1 := rfl
        have e2 : ("listed:" : Str).length = 7 := rfl
        refine ⟨⟨_, rfl⟩, _, rfl, b, _, _, _, rfl, rfl, SqT.of hb, atI_nat (j := 1) rfl, ",", c, ts, rfl, rfl, .inl (SqL.of hc), by rw [e1]; omega, _, _, rfl, rfl, line _ (by omega), ?_⟩
        have z2 := q H (Same.refl _)
        have e : FD.wd (.pl (.listed (.lst (ts.map V.str)))) = "listed:" ++ Txt.join "," ts := by
          show Txt.join ":" ["listed", Txt.join "," ((LX.lst (ts.map V.str)).els.map strV)] = _
          rw [els_str, join_cons, Jk.join_one, lit_w.2.2.2.1]
        rw [e] at z2
        exact z2
      | @word z l m a b' c e =>
        obtain ⟨b, rfl, hn, hb⟩ := hI
        obtain ⟨m1, m2⟩ := mok_it e
        exact ⟨_, rfl, b, _, _, _, rfl, rfl, SqT.of hb, atI_nat (j := 0) rfl, rfl, _, rfl, itN (by decide +kernel) ⟨⟨_, rfl⟩, .inl ⟨rfl, b, _, "word", rfl, hb, rfl, by decide, by decide, fun x hx => by
          simp only [List.mem_cons, List.not_mem_nil, or_false] at hx
          rcases hx with rfl | rfl | rfl | rfl
          · exact .inr (.inr ⟨_, rfl, by decide⟩)
          · exact .inr (.inr ⟨_, rfl, b'⟩)
          · exact .inr (.inl ⟨l, rfl, c⟩)
          · exact m1, by show 4 ≤ 10; decide, by show Txt.join ":" ["word", z, T l, itT m] = _; rw [m2]; rfl⟩⟩⟩
      | @number l m c e =>
        obtain ⟨b, rfl, hn, hb⟩ := hI
        obtain ⟨m1, m2⟩ := mok_it e
        exact ⟨_, rfl, b, _, _, _, rfl, rfl, SqT.of hb, atI_nat (j := 0) rfl, rfl, _, rfl, itN (by decide +kernel) ⟨⟨_, rfl⟩, .inl ⟨rfl, b, _, "number", rfl, hb, rfl, by decide, by decide, fun x hx => by
          simp only [List.mem_cons, List.not_mem_nil, or_false] at hx
          rcases hx with rfl | rfl | rfl
          · exact .inr (.inr ⟨_, rfl, by decide⟩)
          · exact .inr (.inl ⟨l, rfl, c⟩)
          · exact m1, by show 3 ≤ 10; decide, by show Txt.join ":" ["number", T l, itT m] = _; rw [m2]; rfl⟩⟩⟩
      | @fixed l c =>
        obtain ⟨b, rfl, hn, hb⟩ := hI
        exact ⟨_, rfl, b, _, _, _, rfl, rfl, SqT.of hb, atI_nat (j := 0) rfl, rfl, _, rfl, itN (by decide +kernel) ⟨⟨_, rfl⟩, .inl ⟨rfl, b, _, "fixed", rfl, hb, rfl, by decide, by decide, fun x hx => by
          simp only [List.mem_cons, List.not_mem_nil, or_false] at hx
          rcases hx with rfl | rfl
          · exact .inr (.inr ⟨_, rfl, by decide⟩)
          · exact .inr (.inl ⟨l, rfl, by omega⟩), by show 2 ≤ 10; decide, rfl⟩⟩⟩
      | @ended z e l m a b' a2 b2 c em =>
        obtain ⟨b, rfl, hn, hb⟩ := hI
        obtain ⟨m1, m2⟩ := mok_it em
        exact ⟨_, rfl, b, _, _, _, rfl, rfl, SqT.of hb, atI_nat (j := 0) rfl, rfl, _, rfl, itN (by decide +kernel) ⟨⟨_, rfl⟩, .inl ⟨rfl, b, _, "ended", rfl, hb, rfl, by decide, by decide, fun x hx => by
          simp only [List.mem_cons, List.not_mem_nil, or_false] at hx
          rcases hx with rfl | rfl | rfl | rfl | rfl
          · exact .inr (.inr ⟨_, rfl, by decide⟩)
          · exact .inr (.inr ⟨_, rfl, b'⟩)
          · exact .inr (.inr ⟨_, rfl, b2⟩)
          · exact .inr (.inl ⟨l, rfl, c⟩)
          · exact m1, by show 5 ≤ 10; decide, by show Txt.join ":" ["ended", z, e, T l, itT m] = _; rw [m2]; rfl⟩⟩⟩
    rintro σ J ⟨⟨v1, rfl⟩, hJ⟩
    refine ⟨fun σ J => (∃ v1, σ = [some v, v1]) ∧ Pl J, ?_, ?_⟩
    · rcases hJ with hP | ⟨rfl, hdp⟩
      · obtain ⟨rfl, b, xs, x0, rfl, hb, h0, n1, n2, _⟩ := id hP
        exact ⟨_, rfl, b, _, _, _, rfl, rfl, SqT.of hb, atI_nat (j := 0) h0, rfl, _, rfl, itN (decide_eq_false fun z => n2 (by injection z)) ⟨⟨_, rfl⟩, hP⟩⟩
      · cases hW with
        | pl hd => cases hdp
        | @mk nn mm d hn1 hn2 hm1 hm2 hd =>
        obtain ⟨b, u, rfl, hne, hb, hI2⟩ := hI
        have hl := hd.wlen
        have em : ("marked:" : Str).length = 7 := rfl
        refine ⟨_, rfl, b, _, _, _, rfl, rfl, SqT.of hb, atI_nat (j := 0) rfl, rfl, _, rfl, itY ?_⟩
        refine ⟨_, rfl, b, _, _, _, rfl, rfl, SqT.of hb, atI_nat (j := 1) rfl, _, _, rfl, rfl, line _ (by omega), _, _, rfl, rfl, line _ (by rw [app_len]; omega), ?_⟩
        refine ⟨_, rfl, b, _, _, _, rfl, rfl, SqT.of hb, atI_nat (j := 2) rfl, _, _, rfl, rfl, line _ (by rw [app_len, app_len]; omega), _, _, rfl, rfl, line _ (by rw [app_len, app_len, app_len]; omega), ?_⟩
        refine ⟨_, rfl, b, _, _, _, rfl, rfl, SqT.of hb, atI_nat (j := 3) rfl, s0, u, .pl d, rfl, hI2, .pl hd, Nat.lt_of_succ_lt_succ hdep, fun H' S => ⟨_, _, rfl, rfl, line _ (by rw [app_len, app_len, app_len, app_len]; show _ + d.wd.length ≤ 5000; omega), ?_⟩⟩
        have z := q H' S
        have e : FD.wd (.mk (.str nn) (.str mm) d) = ((("marked:" ++ nn) ++ ":") ++ mm) ++ ":" ++ d.wd := by
          show Txt.join ":" ["marked", nn, mm, d.wd] = _
          rw [join_cons, join_cons, join_cons, Jk.join_one, lit_w.2.2.2.2.2]
          simp only [catA]
        rw [e] at z
        exact z
    rintro σ J ⟨⟨v1, rfl⟩, rfl, b, xs, x0, rfl, hb, h0, n1, n2, hit, hxl, hwd⟩
    refine ⟨⟨_, rfl⟩, _, rfl, b, rfl, ⟨_, SqT.of hb⟩, fun D hD => ?_⟩
    refine lc_tup (K := K) (a := b) (xs := xs) (LcP J D fun n => ((xs.take n).map itT).map V.str) (LcP.start hD rfl) (fun i J2 hi pJ => seqT_same pJ.1 (SqT.of hb)) ?_ ?_
    · intro i x J2 hx pJ
      have hi := (List.getElem?_eq_some_iff.mp hx).1
      have nx : ((xs.take (i + 1)).map itT).map V.str = ((xs.take i).map itT).map V.str ++ [V.str (itT x)] := by
        rw [List.take_add_one, hx, List.map_append, List.map_append]
        rfl
      refine ⟨rfl, _, rfl, rfl, _, rfl, ?_⟩
      rcases hit x (List.mem_of_getElem? hx) with rfl | ⟨n, rfl, h⟩ | ⟨z, rfl, h⟩
      · exact itY (pJ.put (Same.refl _) nx (by omega))
      · exact itNn ⟨_, rfl, .inl ⟨_, rfl, dg_log (by omega), pJ.put (Same.refl _) nx (by omega)⟩⟩
      · exact itSn ⟨_, rfl, .inr ⟨_, rfl, pJ.put (Same.refl _) nx (by omega)⟩⟩
    · rintro J2 ⟨S2, _, eJ, _⟩
      dsimp only at eJ
      rw [List.take_length] at eJ
      refine ⟨":", D, xs.map itT, rfl, rfl, .inl (SqL.of eJ), ?_, by rw [hwd]; exact q _ S2⟩
      have a := sum_le (B := 20) (xs.map itT) fun t ht => by
        obtain ⟨x, hx, rfl⟩ := List.mem_map.mp ht
        exact it_len (hit x hx)
      rw [List.length_map] at a
      rw [List.length_map, ec]
      omega

end
end L2.K79

set_option Elab.async false
set_option linter.all false
set_option maxRecDepth 100000
set_option maxHeartbeats 4000000
/-! zip of two sequences, each a list or a tuple. -/
namespace L2.Jk.Z2
open PySem
open PySem.Sem (wp)
open L2.Jk.Z3 (Sq)
abbrev IsTw (h : Heap) (T : Addr) (a b : Value) : Prop := h.get? T = some { cls := .type "tuple", data := .seq #[a, b] }
structure Ap (z TI TO i1 i2 l1 l2 : Addr) : Prop where
  ti : TI ≠ z ∧ TI ≠ TO ∧ TI ≠ i1 ∧ TI ≠ i2
  to : TO ≠ z ∧ TO ≠ i1 ∧ TO ≠ i2
  iz : i1 ≠ z ∧ i2 ≠ z
  ii : i1 ≠ i2
  a1 : l1 ≠ z ∧ l1 ≠ TO ∧ l1 ≠ i1 ∧ l1 ≠ i2
  a2 : l2 ≠ z ∧ l2 ≠ TO ∧ l2 ≠ i1 ∧ l2 ≠ i2
section
variable {prog : Program} {w : World} {A : Around} {E : Value → Shared → Prop} {s : Shared}
theorem updateSeq_tw {T : Addr} {a b x : Value} {k : Nat} {Q : Unit → Shared → Prop} (hT : IsTw s.heap T a b)
    (h : ∀ h', h'.get? T = some { cls := .type "tuple", data := .seq ((#[a, b] : Array Value).setIfInBounds k x) } → Heap.SameBut T s.heap h' → Q () { s with heap := h' }) :
    wpAny (model prog w) A (updateSeq T (·.setIfInBounds k x)) Q E s := by
  refine wpAny_updateSeq hT rfl (h _ ?_ (Heap.SameBut.update ..))
  rw [Heap.get?_update_self _ hT rfl]
  simp [Obj.mapSeq]
variable {z TI TO i1 i2 l1 l2 : Addr} {k : Nat} {b1 b2 : Bool} {xs ys : Array Value} {a b : Value}
def Kp (z TO i1 i2 : Addr) (h h' : Heap) : Prop := ∀ c o, c ≠ z → c ≠ TO → c ≠ i1 → c ≠ i2 → h.get? c = some o → h'.get? c = some o
theorem zip_item {x y : Value} {Q : Value → Shared → Prop} (D : Ap z TI TO i1 i2 l1 l2)
    (hz : IsZip s.heap z TI TO .none) (hTI : IsTw s.heap TI (.ref i1) (.ref i2)) (hTO : IsTw s.heap TO a b)
    (h1 : Z3.It b1 s.heap i1 l1 k) (h2 : Z3.It b2 s.heap i2 l2 k) (q1 : Sq b1 s.heap l1 xs) (q2 : Sq b2 s.heap l2 ys)
    (hx : xs[k]? = some x) (hy : ys[k]? = some y)
    (hQ : ∀ h', IsZip h' z TI TO (rawInt s.heap.objs.size) → IsTw h' TO x y → Z3.It b1 h' i1 l1 (k + 1) → Z3.It b2 h' i2 l2 (k + 1) → IsTw h' s.heap.objs.size x y → h'.objs.size = s.heap.objs.size + 1 →
      Kp z TO i1 i2 s.heap h' → Q (.ref s.heap.objs.size) { s with heap := h' }) :
    wpAny (model prog w) A (Builtin.«zip.__next__» ⟨[.ref z], []⟩) (fun fin s' => ∃ v, fin = .done (.ret v) ∧ Q v s') E s := by
  obtain ⟨⟨ti1, ti2, ti3, ti4⟩, ⟨to1, to2, to3⟩, ⟨iz1, iz2⟩, ii1, ⟨x1, x2, x3, x4⟩, ⟨y1, y2, y3, y4⟩⟩ := D
  show wpAny _ _ (field (.ref z) 2 >>= _) _ _ _
  refine wpAny_bind (wpAny_field hz rfl (x := .bool false) rfl ?_)
  show wpAny _ _ (field (.ref z) 3 >>= _) _ _ _
  refine wpAny_bind (wpAny_field hz rfl (x := .ref TI) rfl ?_)
  refine wpAny_bind (wpAny_seqItems hTI rfl ?_)
  show wpAny _ _ (Builtin.SmallTypes.ownedTupleIsFree (.ref z) >>= _) _ _ _
  refine wpAny_bind ?_
  unfold Builtin.SmallTypes.ownedTupleIsFree
  refine wpAny_bind (wpAny_field hz rfl (x := .none) rfl (wpAny_pure ?_))
  simp only [if_true]
  refine wpAny_bind (wpAny_rule ?_)
  refine wpAny_bind (wpAny_field hz rfl (x := .ref TO) rfl ?_)
  refine wpAny_bind (wpAny_setField_rec hz (by simp) fun h₁ hz₁ hs₁ => ?_)
  replace hz₁ : IsZip h₁ z TI TO .ellipsis := hz₁
  refine wpAny_bind ?_
  simp only [List.zipIdx_cons, List.zipIdx_nil, List.forIn_cons, List.forIn_nil]
  have e1 := hs₁.extBut
  have hTO₁ : IsTw h₁ TO a b := e1 _ _ to1 hTO
  refine wpAny_bind (wpAny_bind (wpAny_onRaise ?_))
  show wpAny _ _ (Builtin.SmallTypes.nextOf (.ref i1) >>= _) _ _ _
  refine wpAny_bind (Z3.next_item (h1.ext e1 iz1) (q1.ext e1 x1) hx fun h₂ n1 hs₂ => wpAny_pure ?_)
  have e2 := hs₂.extBut
  have hTO₂ : IsTw h₂ TO a b := e2 _ _ to2 hTO₁
  refine wpAny_bind (wpAny_seqItems hTO₂ rfl ?_)
  refine wpAny_bind (updateSeq_tw hTO₂ fun h₃ hTO₃ hs₃ => ?_)
  have e3 := hs₃.extBut
  replace hTO₃ : IsTw h₃ TO x b := hTO₃
  refine wpAny_bind (wpAny_letGo (wpAny_pure ?_))
  refine wpAny_bind (wpAny_bind (wpAny_onRaise ?_))
  show wpAny _ _ (Builtin.SmallTypes.nextOf (.ref i2) >>= _) _ _ _
  refine wpAny_bind (Z3.next_item (((h2.ext e1 iz2).ext e2 ii1.symm).ext e3 to3.symm) (((q2.ext e1 y1).ext e2 y3).ext e3 y2) hy fun h₄ n2 hs₄ => wpAny_pure ?_)
  have e4 := hs₄.extBut
  have hTO₄ : IsTw h₄ TO x b := e4 _ _ to3 hTO₃
  refine wpAny_bind (wpAny_seqItems hTO₄ rfl ?_)
  refine wpAny_bind (updateSeq_tw hTO₄ fun h₇ hTO₇ hs₇ => ?_)
  have e7 := hs₇.extBut
  replace hTO₇ : IsTw h₇ TO x y := hTO₇
  refine wpAny_bind (wpAny_letGo (wpAny_pure (wpAny_pure ?_)))
  refine wpAny_bind (wpAny_seqItems hTO₇ rfl ?_)
  refine wpAny_bind (wpAny_newTuple ?_)
  have hsz : h₇.objs.size = s.heap.objs.size := by rw [hs₇.1, hs₄.1, hs₃.1, hs₂.1, hs₁.1]
  have hz₇ : IsZip h₇ z TI TO .ellipsis := e7 _ _ to1.symm (e4 _ _ iz2.symm (e3 _ _ to1.symm (e2 _ _ iz1.symm hz₁)))
  have hk₇ : Kp z TO i1 i2 s.heap h₇ := fun c o c1 c2 c3 c4 e =>
    e7 _ _ c2 (e4 _ _ c4 (e3 _ _ c2 (e2 _ _ c3 (e1 _ _ c1 e))))
  have m1 : Z3.It b1 h₇ i1 l1 (k + 1) := ((n1.ext e3 to2.symm).ext e4 ii1).ext e7 to2.symm
  have m2 : Z3.It b2 h₇ i2 l2 (k + 1) := n2.ext e7 to3.symm
  have hzlt : z < h₇.objs.size := Heap.lt_size hz₇
  show wpAny _ _ (Builtin.SmallTypes.ownedTupleHandOut (.ref z) (.ref h₇.objs.size) >>= _) _ _ _
  refine wpAny_bind ?_
  unfold Builtin.SmallTypes.ownedTupleHandOut
  have hz₈ : IsZip (h₇.push { cls := .type "tuple", data := .seq #[x, y] }) z TI TO .ellipsis := Heap.get?_push_of_some _ hz₇
  refine wpAny_bind (wpAny_setField_rec hz₈ (by simp) fun h₉ hz₉ hs₉ => ?_)
  replace hz₉ : IsZip h₉ z TI TO (rawInt h₇.objs.size) := hz₉
  refine wpAny_setField_rec hz₉ (by simp) fun ha hza hsa => ?_
  replace hza : IsZip ha z TI TO (rawInt h₇.objs.size) := hza
  have up : ∀ c o, c ≠ z → h₇.get? c = some o → ha.get? c = some o := fun c o c1 e => hsa.extBut _ _ c1 (hs₉.extBut _ _ c1 (Heap.get?_push_of_some _ e))
  have hTa : IsTw ha h₇.objs.size x y := hsa.extBut _ _ (Nat.ne_of_gt hzlt) (hs₉.extBut _ _ (Nat.ne_of_gt hzlt) (Heap.get?_push_size _ rfl))
  have hza8 : ha.objs.size = h₇.objs.size + 1 := by rw [hsa.1, hs₉.1, Heap.size_push]
  rw [hsz] at hza hTa hza8
  refine wpAny_pure ⟨_, rfl, ?_⟩
  show Q (.ref h₇.objs.size) _
  rw [hsz]
  exact hQ ha hza (up _ _ to1 hTO₇) (m1.at fun o e => up _ o iz1 e) (m2.at fun o e => up _ o iz2 e) hTa hza8 fun c o c1 c2 c3 c4 e => up c o c1 (hk₇ c o c1 c2 c3 c4 e)
theorem zip_end {Q : Fin → Shared → Prop} (hh : A.handled = none) (D : Ap z TI TO i1 i2 l1 l2)
    (hz : IsZip s.heap z TI TO .none) (hTI : IsTw s.heap TI (.ref i1) (.ref i2)) (hTO : IsTw s.heap TO a b)
    (h1 : Z3.It b1 s.heap i1 l1 k) (h2 : Z3.It b2 s.heap i2 l2 k) (q1 : Sq b1 s.heap l1 xs) (q2 : Sq b2 s.heap l2 ys)
    (hend : xs[k]? = none ∨ ys[k]? = none)
    (hE : ∀ h' e, Kp z TO i1 i2 s.heap h' → (∃ o, h'.get? e = some o ∧ o.cls = .type "StopIteration") → E (.ref e) { s with heap := h' }) :
    wpAny (model prog w) A (Builtin.«zip.__next__» ⟨[.ref z], []⟩) Q E s := by
  obtain ⟨⟨ti1, ti2, ti3, ti4⟩, ⟨to1, to2, to3⟩, ⟨iz1, iz2⟩, ii1, ⟨x1, x2, x3, x4⟩, ⟨y1, y2, y3, y4⟩⟩ := D
  show wpAny _ _ (field (.ref z) 2 >>= _) _ _ _
  refine wpAny_bind (wpAny_field hz rfl (x := .bool false) rfl ?_)
  show wpAny _ _ (field (.ref z) 3 >>= _) _ _ _
  refine wpAny_bind (wpAny_field hz rfl (x := .ref TI) rfl ?_)
  refine wpAny_bind (wpAny_seqItems hTI rfl ?_)
  show wpAny _ _ (Builtin.SmallTypes.ownedTupleIsFree (.ref z) >>= _) _ _ _
  refine wpAny_bind ?_
  unfold Builtin.SmallTypes.ownedTupleIsFree
  refine wpAny_bind (wpAny_field hz rfl (x := .none) rfl (wpAny_pure ?_))
  simp only [if_true]
  refine wpAny_bind (wpAny_rule ?_)
  refine wpAny_bind (wpAny_field hz rfl (x := .ref TO) rfl ?_)
  refine wpAny_bind (wpAny_setField_rec hz (by simp) fun h₁ hz₁ hs₁ => ?_)
  replace hz₁ : IsZip h₁ z TI TO .ellipsis := hz₁
  refine wpAny_bind ?_
  simp only [List.zipIdx_cons, List.zipIdx_nil, List.forIn_cons, List.forIn_nil]
  have e1 := hs₁.extBut
  have hTO₁ : IsTw h₁ TO a b := e1 _ _ to1 hTO
  refine wpAny_bind (wpAny_bind (wpAny_onRaise ?_))
  show wpAny _ _ (Builtin.SmallTypes.nextOf (.ref i1) >>= _) _ _ _
  cases hx : xs[k]? with
  | none =>
    refine wpAny_bind (Z3.next_end hh (h1.ext e1 iz1) (q1.ext e1 x1) hx fun h₂ e e2 he => ?_)
    obtain ⟨oe, hoe, hce⟩ := he
    have hz₂ : IsZip h₂ z TI TO .ellipsis := e2 _ _ iz1.symm hz₁
    have hez : e ≠ z := fun x => by subst x; rw [hz₂] at hoe; cases hoe; simp at hce
    refine wpAny_setField_rec hz₂ (by simp) fun h₃ _ hs₃ => hE h₃ e (fun c o c1 _ c3 _ x => hs₃.extBut _ _ c1 (e2 _ _ c3 (e1 _ _ c1 x))) ⟨oe, hs₃.extBut _ _ hez hoe, hce⟩
  | some x =>
    have hy : ys[k]? = none := by
      rcases hend with h | h
      · rw [hx] at h; cases h
      · exact h
    refine wpAny_bind (Z3.next_item (h1.ext e1 iz1) (q1.ext e1 x1) hx fun h₂ n1 hs₂ => wpAny_pure ?_)
    have e2 := hs₂.extBut
    have hTO₂ : IsTw h₂ TO a b := e2 _ _ to2 hTO₁
    refine wpAny_bind (wpAny_seqItems hTO₂ rfl ?_)
    refine wpAny_bind (updateSeq_tw hTO₂ fun h₃ hTO₃ hs₃ => ?_)
    have e3 := hs₃.extBut
    replace hTO₃ : IsTw h₃ TO x b := hTO₃
    refine wpAny_bind (wpAny_letGo (wpAny_pure ?_))
    refine wpAny_bind (wpAny_bind (wpAny_onRaise ?_))
    show wpAny _ _ (Builtin.SmallTypes.nextOf (.ref i2) >>= _) _ _ _
    have hz₃ : IsZip h₃ z TI TO .ellipsis := e3 _ _ to1.symm (e2 _ _ iz1.symm hz₁)
    refine wpAny_bind (Z3.next_end hh (((h2.ext e1 iz2).ext e2 ii1.symm).ext e3 to3.symm) (((q2.ext e1 y1).ext e2 y3).ext e3 y2) hy fun h₄ e e4 he => ?_)
    obtain ⟨oe, hoe, hce⟩ := he
    have hz₄ : IsZip h₄ z TI TO .ellipsis := e4 _ _ iz2.symm hz₃
    have hez : e ≠ z := fun x => by subst x; rw [hz₄] at hoe; cases hoe; simp at hce
    refine wpAny_setField_rec hz₄ (by simp) fun h₅ _ hs₅ => hE h₅ e (fun c o c1 c2 c3 c4 x => hs₅.extBut _ _ c1 (e4 _ _ c4 (e3 _ _ c2 (e2 _ _ c3 (e1 _ _ c1 x))))) ⟨oe, hs₅.extBut _ _ hez hoe, hce⟩
theorem pyNext_item {x y : Value} {Q : Option Value → Shared → Prop} (D : Ap z TI TO i1 i2 l1 l2)
    (hz : IsZip s.heap z TI TO .none) (hTI : IsTw s.heap TI (.ref i1) (.ref i2)) (hTO : IsTw s.heap TO a b)
    (h1 : Z3.It b1 s.heap i1 l1 k) (h2 : Z3.It b2 s.heap i2 l2 k) (q1 : Sq b1 s.heap l1 xs) (q2 : Sq b2 s.heap l2 ys)
    (hx : xs[k]? = some x) (hy : ys[k]? = some y)
    (hQ : ∀ h', IsZip h' z TI TO (rawInt s.heap.objs.size) → IsTw h' TO x y → Z3.It b1 h' i1 l1 (k + 1) → Z3.It b2 h' i2 l2 (k + 1) → IsTw h' s.heap.objs.size x y → h'.objs.size = s.heap.objs.size + 1 →
      Kp z TO i1 i2 s.heap h' → Q (some (.ref s.heap.objs.size)) { s with heap := h' }) : wpAny (model prog w) A (pyNext (.ref z)) Q E s := by
  have hT : s.TypeIs (.ref z) "zip" := ⟨_, hz, rfl⟩
  unfold pyNext
  exact wpAny_bind (wpAny_attempt (wpAny_callSpecial?_slot (name := Str.ofString "__next__") hT F.slot_zip_next
    (wpAny_call_entry F.slot_zip_next hT F.entry_zip_next
      (zip_item D hz hTI hTO h1 h2 q1 q2 hx hy fun h' a1 a2 a3 a4 a6 a7 a8 => wpAny_pure (hQ h' a1 a2 a3 a4 a6 a7 a8)) (F.args_zip_next_1 _))))
theorem pyNext_end {Q : Option Value → Shared → Prop} (hh : A.handled = none) (D : Ap z TI TO i1 i2 l1 l2)
    (hz : IsZip s.heap z TI TO .none) (hTI : IsTw s.heap TI (.ref i1) (.ref i2)) (hTO : IsTw s.heap TO a b)
    (h1 : Z3.It b1 s.heap i1 l1 k) (h2 : Z3.It b2 s.heap i2 l2 k) (q1 : Sq b1 s.heap l1 xs) (q2 : Sq b2 s.heap l2 ys)
    (hend : xs[k]? = none ∨ ys[k]? = none)
    (hQ : ∀ h', Kp z TO i1 i2 s.heap h' → Q none { s with heap := h' }) : wpAny (model prog w) A (pyNext (.ref z)) Q E s := by
  have hT : s.TypeIs (.ref z) "zip" := ⟨_, hz, rfl⟩
  unfold pyNext
  refine wpAny_bind (wpAny_attempt (wpAny_callSpecial?_slot (name := Str.ofString "__next__") hT F.slot_zip_next
    (wpAny_call_entry F.slot_zip_next hT F.entry_zip_next (zip_end hh D hz hTI hTO h1 h2 q1 q2 hend fun h' e hk he => ?_) (F.args_zip_next_1 _))))
  obtain ⟨o, ho, hc⟩ := he
  refine wpAny_bind (wpAny_isInstance (T := "StopIteration") (b := true) ⟨o, ho, hc⟩ isSubtype_stop ?_)
  exact wpAny_pure (hQ _ hk)
end
end L2.Jk.Z2
namespace L2.Jk.Z2
open PySem PySem.W PySem.Spec PySem.Calls PyProof.Rows L2 L2.Jk
open L2.Jk.Z3 (Sq SqB itO it_new pyIter_sq inv_seq inv_inj seqT_same)
theorem typeCall_zip_2 (a b : Value) : checkTypeCall "zip" ⟨[a, b], []⟩ = pure () := by kernel_rfl
theorem newCall_zip_2 (a b : Value) : checkBuiltinCall "zip.__new__" ⟨[.type "zip", a, b], []⟩ = pure () := by kernel_rfl
theorem args_object_init_3' (a b c : Value) : argsOk "object.__init__" ⟨[a, b, c], []⟩ := by
  unfold argsOk; rw [signature?_of (id := "object.__init__") (n := ['_', '_', 't', 'i', 'n', 'i', '_', '_']) (o := ['t', 'c', 'e', 'j', 'b', 'o']) (by kernel_rfl) PySem.F.owner_object]; kernel_rfl
section
variable {prog : Program} {w : World} {A : Around} {E : Value → Shared → Prop} {s : Shared}
abbrev g1 (h : Heap) (b1 : Bool) (l1 : Addr) : Heap := h.push (itO b1 l1)
abbrev g2 (h : Heap) (b1 b2 : Bool) (l1 l2 : Addr) : Heap := (g1 h b1 l1).push (itO b2 l2)
abbrev g3 (h : Heap) (b1 b2 : Bool) (l1 l2 : Addr) : Heap := (g2 h b1 b2 l1 l2).push { cls := .type "tuple", data := .seq #[.ref h.objs.size, .ref (g1 h b1 l1).objs.size] }
abbrev g4 (h : Heap) (b1 b2 : Bool) (l1 l2 : Addr) : Heap := (g3 h b1 b2 l1 l2).push { cls := .type "tuple", data := .seq #[.none, .none] }
abbrev g5 (h : Heap) (b1 b2 : Bool) (l1 l2 : Addr) : Heap := (g4 h b1 b2 l1 l2).push { cls := .type "zip", data := .fields #[.none, .bool false, .bool false, .ref (g2 h b1 b2 l1 l2).objs.size, .ref (g3 h b1 b2 l1 l2).objs.size] }
theorem meets_zip2_new (b1 b2 : Bool) (l1 l2 : Addr) (xs ys : Array Value) :
    Meets (Builtin.«zip.__new__» ⟨[.type "zip", .ref l1, .ref l2], []⟩) (fun _ R s => Sq b1 s.heap l1 xs ∧ Sq b2 s.heap l2 ys ∧
      R (.ok (.ret (.ref (g4 s.heap b1 b2 l1 l2).objs.size))) { s with heap := g5 s.heap b1 b2 l1 l2 }) :=
  .of_wp fun prog w A R s h => by
    obtain ⟨hp, g, d, tk, os⟩ := s; obtain ⟨hl1, hl2, h⟩ := h
    have hsub := sub_zip
    have hL1 : Sq b1 (Shared.heap ⟨hp, g, d, tk, os⟩) l1 xs := hl1
    have hL2 : Sq b2 (Shared.heap ⟨hp.push (itO b1 l1), g, d, tk, os⟩) l2 ys := Z3.Sq.push hl2 _
    wp_walk using pyIter_sq hL1, pyIter_sq hL2
    exact ⟨_, rfl, h⟩
theorem call_zip2 {b1 b2 : Bool} {l1 l2 : Addr} {xs ys : Array Value} {Q : Value → Shared → Prop} (hl1 : Sq b1 s.heap l1 xs) (hl2 : Sq b2 s.heap l2 ys)
    (h : ∀ h', IsZip h' (s.heap.objs.size + 4) (s.heap.objs.size + 2) (s.heap.objs.size + 3) .none → IsTw h' (s.heap.objs.size + 2) (.ref s.heap.objs.size) (.ref (s.heap.objs.size + 1)) →
      IsTw h' (s.heap.objs.size + 3) .none .none → Z3.It b1 h' s.heap.objs.size l1 0 → Z3.It b2 h' (s.heap.objs.size + 1) l2 0 → h'.objs.size = s.heap.objs.size + 5 →
      (∀ c o, s.heap.get? c = some o → h'.get? c = some o) → Q (.ref (s.heap.objs.size + 4)) { s with heap := h' }) :
    wpAny (model prog w) A (call (.type "zip") [.ref l1, .ref l2]) Q E s := by
  refine callType_new PySem.F.called_zip (by decide) (typeCall_zip_2 _ _) (newCall_zip_2 _ _) (fun obj => args_object_init_3' obj _ _) PySem.F.entry_zip_new
    (meets_zip2_new b1 b2 l1 l2 xs ys) ⟨hl1, hl2, ?_⟩
  have z1 : (g1 s.heap b1 l1).objs.size = s.heap.objs.size + 1 := Heap.size_push ..
  have z2 : (g2 s.heap b1 b2 l1 l2).objs.size = s.heap.objs.size + 2 := by rw [Heap.size_push, z1]
  have z3 : (g3 s.heap b1 b2 l1 l2).objs.size = s.heap.objs.size + 3 := by rw [Heap.size_push, z2]
  have z4 : (g4 s.heap b1 b2 l1 l2).objs.size = s.heap.objs.size + 4 := by rw [Heap.size_push, z3]
  have z5 : (g5 s.heap b1 b2 l1 l2).objs.size = s.heap.objs.size + 5 := by rw [Heap.size_push, z4]
  have p {h : Heap} {a : Addr} {o : Obj} (q : Obj) : h.get? a = some o → (h.push q).get? a = some o := Heap.get?_push_of_some _
  have nf : ∀ b l, (itO b l).isFreed = false := fun b l => by cases b <;> rfl
  have e5 : (g5 s.heap b1 b2 l1 l2).get? (g4 s.heap b1 b2 l1 l2).objs.size = some _ := Heap.get?_push_size _ rfl
  have e4 : (g5 s.heap b1 b2 l1 l2).get? (g3 s.heap b1 b2 l1 l2).objs.size = some _ := p _ (Heap.get?_push_size _ rfl)
  have e3 : (g5 s.heap b1 b2 l1 l2).get? (g2 s.heap b1 b2 l1 l2).objs.size = some _ := p _ (p _ (Heap.get?_push_size _ rfl))
  have e2 : (g5 s.heap b1 b2 l1 l2).get? (g1 s.heap b1 l1).objs.size = some (itO b2 l2) := p _ (p _ (p _ (Heap.get?_push_size _ (nf _ _))))
  have e1 : (g5 s.heap b1 b2 l1 l2).get? s.heap.objs.size = some (itO b1 l1) := p _ (p _ (p _ (p _ (Heap.get?_push_size _ (nf _ _)))))
  show _ ∧ _
  rw [z2, z3, z4] at e5
  rw [z1, z2] at e3
  rw [z3] at e4
  rw [z1] at e2
  rw [z4]
  exact ⟨⟨_, e5, rfl⟩, h _ e5 e3 e4 (it_new e1) (it_new e2) z5 fun c o x => p _ (p _ (p _ (p _ (p _ x))))⟩
end
theorem ap_new (I l1 l2 : Nat) (h1 : l1 < I) (h2 : l2 < I) : Ap (I + 4) (I + 2) (I + 3) I (I + 1) l1 l2 := by
  have ne : ∀ {a b : Nat}, (a < b ∨ b < a) → a ≠ b := fun h e => by omega
  exact ⟨⟨ne (by omega), ne (by omega), ne (by omega), ne (by omega)⟩, ⟨ne (by omega), ne (by omega), ne (by omega)⟩, ⟨ne (by omega), ne (by omega)⟩, ne (by omega),
    ⟨ne (by omega), ne (by omega), ne (by omega), ne (by omega)⟩, ⟨ne (by omega), ne (by omega), ne (by omega), ne (by omega)⟩⟩
section
variable {X : Cx} {pins : List (Addr × Obj)} {σ : St} {H : Hp} {s : Shared}
end
def Itz2 (K : Frag) (b1 b2 : Bool) (a1 a2 : Addr) : L2.It :=
  ⟨fun i H => ∃ (xs ys : List V) (x y : V), SqB b1 K H a1 xs ∧ SqB b2 K H a2 ys ∧ xs[i]? = some x ∧ ys[i]? = some y,
    fun i H v H' => ∃ T x y, v = .ref T ∧ H T = none ∧ H' = upd H T (.tup [x, y]) ∧ (∀ xs, SqB b1 K H a1 xs → xs[i]? = some x) ∧ ∀ ys, SqB b2 K H a2 ys → ys[i]? = some y,
    fun i H => ∃ xs ys : List V, SqB b1 K H a1 xs ∧ SqB b2 K H a2 ys ∧ (xs.length ≤ i ∨ ys.length ≤ i)⟩
theorem turn_zip2 {P : Program} {w : World} {K : Frag} {elts : List Expr} {kk : Nat} {tpos : Pos} {b1 b2 : Bool} {a1 a2 z TI TO i1 i2 : Addr} (D : Ap z TI TO i1 i2 a1 a2) :
    Turn P w K (.Tuple elts kk tpos) (Itz2 K b1 b2 a1 a2) [z, TI, TO, i1, i2] z (fun i h => IsZip h z TI TO .none ∧ IsTw h TI (.ref i1) (.ref i2) ∧ (∃ x y, IsTw h TO x y) ∧ Z3.It b1 h i1 a1 i ∧ Z3.It b2 h i2 a2 i) where
  mem := by simp
  obj := fun i h st c hc => by
    obtain ⟨hz, hTI, ⟨x, y, hTO⟩, h1, h2⟩ := st
    have e' : c = z ∨ c = TI ∨ c = TO ∨ c = i1 ∨ c = i2 := by simpa using hc
    rcases e' with q | q | q | q | q
    · rw [q]; exact ⟨_, hz, fun v q => nomatch q⟩
    · rw [q]; exact ⟨_, hTI, fun v q => nomatch q⟩
    · rw [q]; exact ⟨_, hTO, fun v q => nomatch q⟩
    · rw [q]; exact h1.obj
    · rw [q]; exact h2.obj
  keep := fun i h h' st k => by
    obtain ⟨hz, hTI, ⟨x, y, hTO⟩, h1, h2⟩ := st
    exact ⟨k z (by simp) _ hz, k TI (by simp) _ hTI, ⟨x, y, k TO (by simp) _ hTO⟩, h1.at fun o q => k i1 (by simp) o q, h2.at fun o q => k i2 (by simp) o q⟩
  item := by
    intro X hP hw hK hc i pins s σ H E I hf st hg
    subst hP hw hK
    obtain ⟨hz, hTI, ⟨x0, y0, hTO⟩, h1, h2⟩ := st
    obtain ⟨xs, ys, x, y, hqx, hqy, hx, hy⟩ := hg
    obtain ⟨its, rv, p⟩ := inv_seq I hqx
    obtain ⟨its2, rv2, p2⟩ := inv_seq I hqy
    obtain ⟨v1, hv1, r1⟩ := rv.get hx
    obtain ⟨v2, hv2, r2⟩ := rv2.get hy
    have hzl : z < s.heap.objs.size := Heap.lt_size hz
    refine pyNext_item D hz hTI hTO h1 h2 p p2 (x := v1) (y := v2) (by simpa using hv1) (by simpa using hv2) fun h' z' TO' h1' h2' hT hsz hk => ?_
    refine ⟨_, rfl, wpAny_letOwnedTupleGo_zip (s := { s with heap := h' }) z' fun h'' z'' sb => ?_⟩
    have hT2 : h''.get? s.heap.objs.size = some { cls := .type "tuple", data := .seq #[v1, v2] } := (sb.2 _ (Nat.ne_of_gt hzl)).trans hT
    have new : ObjOk X.prog X.w (upd H s.heap.objs.size (.tup [x, y])) h'' s.heap.objs.size (.tup [x, y]) :=
      ⟨by show 2 ≤ sizeLine; decide, [v1, v2], .cons r1 (.cons r2 .nil), ⟨_, hT2, rfl, _, rfl⟩⟩
    have I1 : Inv X pins σ (upd H s.heap.objs.size (.tup [x, y])) { s with heap := h'' } :=
      I.turnedNew (t' := s.toks) (ch := [z, TI, TO, i1, i2]) (fun c o hb q => (sb.2 c (fun q' => hb (by simp [q']))).trans (hk c o (fun q' => hb (by simp [q'])) (fun q' => hb (by simp [q'])) (fun q' => hb (by simp [q'])) (fun q' => hb (by simp [q'])) q)) hf (Nat.le_refl _) new
    obtain ⟨⟨ti1, ti2, ti3, ti4⟩, ⟨to1, to2, to3⟩, ⟨iz1, iz2⟩, _⟩ := D
    refine ⟨.ref s.heap.objs.size, _, I1, rfl, ⟨_, x, y, rfl, I.hok.fresh (Nat.le_refl _), rfl, fun l hl => by rw [inv_inj I hl hqx]; exact hx, fun l hl => by rw [inv_inj I hl hqy]; exact hy⟩, ⟨z'', ?_, ⟨v1, v2, ?_⟩, ?_, ?_⟩, fun c hcm => ?_⟩
    · exact (sb.2 _ ti1).trans (hk _ _ ti1 ti2 ti3 ti4 hTI)
    · exact (sb.2 _ to1).trans TO'
    · exact h1'.at fun o q => (sb.2 _ iz1).trans q
    · exact h2'.at fun o q => (sb.2 _ iz2).trans q
    · have hlt : c < s.heap.objs.size := by
        have e' : c = z ∨ c = TI ∨ c = TO ∨ c = i1 ∨ c = i2 := by simpa using hcm
        rcases e' with q | q | q | q | q
        · rw [q]; exact hzl
        · rw [q]; exact Heap.lt_size hTI
        · rw [q]; exact Heap.lt_size hTO
        · rw [q]; exact h1.lt
        · rw [q]; exact h2.lt
      rw [upd_ne (Nat.ne_of_lt hlt)]
      exact (hf c hcm).1
  done := by
    intro X hP hw hK hc i pins s σ H E I hf st hg
    subst hP hw hK
    obtain ⟨hz, hTI, ⟨x0, y0, hTO⟩, h1, h2⟩ := st
    obtain ⟨xs, ys, hqx, hqy, hend⟩ := hg
    obtain ⟨its, rv, p⟩ := inv_seq I hqx
    obtain ⟨its2, rv2, p2⟩ := inv_seq I hqy
    have l1 := rv.length
    have l2 := rv2.length
    have he : its.toArray[i]? = none ∨ its2.toArray[i]? = none := by
      rcases hend with q | q
      · exact .inl (by simp; omega)
      · exact .inr (by simp; omega)
    exact pyNext_end (I.ok.hd hc) D hz hTI hTO h1 h2 p p2 he fun h' hk => ⟨rfl, I.turnedL (t' := s.toks) (ch := [z, TI, TO, i1, i2]) (fun c o hb q =>
      hk c o (fun q' => hb (by simp [q'])) (fun q' => hb (by simp [q'])) (fun q' => hb (by simp [q'])) (fun q' => hb (by simp [q'])) q) hf⟩
  self := fun A i s Q E st h => wpAny_pyIter_zip st.1 h
def iZip2 (K : Frag) (ta : TA) : TI := fun σ H R => ta σ H fun vs H1 => ∃ a1 a2 b1 b2 xs ys, vs = [.ref a1, .ref a2] ∧ SqB b1 K H1 a1 xs ∧ SqB b2 K H1 a2 ys ∧ R (Itz2 K b1 b2 a1 a2) H1
theorem pi_zip2 {X : Cx} {e e2 : Expr} {ta : TA} {p pos tpos : Pos} {elts : List Expr} {kk : Nat} (hg : Gl X "zip") (hm : X.mg "zip" = none) (ha : PA X [e, e2] ta)
    (hs : starEach [e, e2] X.env = (false, eval e X.env) :: starEach [e2] X.env := by rfl) (hpl : (backTo pos (starEach [e2] X.env)).any (·.1) = false := by rfl) :
    PI X (.Tuple elts kk tpos) (.Call (.Name "zip" p) [e, e2] [] pos) (iZip2 X.K ta) := by
  refine ⟨fun pins s σ H R I h => ?_⟩
  refine Call_ (ld_blt I hg hm PyProof.Rows.boot_zip (PyProof.Rows.callWith_type1 (thn (ha.run pos pins s σ H _ I h) fun us s1 ⟨vs, H1, I1, r1, q1⟩ => ?_) hs hpl))
  obtain ⟨a1, a2, b1, b2, xs, ys, ex, hqx, hqy, q⟩ := q1
  subst ex
  cases r1 with
  | cons r rr =>
    cases rr with
    | cons r' rr =>
      cases rr
      cases r
      cases r'
      have fresh5 : ∀ c, c ∈ [s1.heap.objs.size + 4, s1.heap.objs.size + 2, s1.heap.objs.size + 3, s1.heap.objs.size, s1.heap.objs.size + 1] → FpOk X pins H1 c := fun c hcm => by
        have e' : c = s1.heap.objs.size + 4 ∨ c = s1.heap.objs.size + 2 ∨ c = s1.heap.objs.size + 3 ∨ c = s1.heap.objs.size ∨ c = s1.heap.objs.size + 1 := by simpa using hcm
        have hle : s1.heap.objs.size ≤ c := by
          rcases e' with z | z | z | z | z
          · rw [z]; exact Nat.le_add_right _ _
          · rw [z]; exact Nat.le_add_right _ _
          · rw [z]; exact Nat.le_add_right _ _
          · rw [z]; exact Nat.le_refl _
          · rw [z]; exact Nat.le_add_right _ _
        exact I1.fpOk hle (I1.hok.fresh hle)
      obtain ⟨its, rv, p1⟩ := inv_seq I1 hqx
      obtain ⟨its2, rv2, p2⟩ := inv_seq I1 hqy
      refine call_zip2 p1 p2 fun h' hz hTI hTO h1 h2 hsz hk => wpAny_pyIter_zip hz ?_
      have I2 : Inv X pins σ H1 { s1 with heap := h' } := I1.kept (t' := s1.toks) hk
      exact ⟨s1.heap.objs.size + 4, [s1.heap.objs.size + 4, s1.heap.objs.size + 2, s1.heap.objs.size + 3, s1.heap.objs.size, s1.heap.objs.size + 1], _, _, H1, rfl, I2,
        turn_zip2 (ap_new s1.heap.objs.size a1 a2 p1.lt p2.lt), ⟨hz, hTI, ⟨_, _, hTO⟩, h1, h2⟩, fresh5, q⟩
theorem walk_zip2 {K : Frag} {b1 b2 : Bool} {a1 a2 : Addr} {xs ys : List V} (hl : xs.length = ys.length) : Walk (Itz2 K b1 b2 a1 a2) xs.length (fun H => SqB b1 K H a1 xs ∧ SqB b2 K H a2 ys) (YPair (fun i => xs[i]?) (fun i => ys[i]?)) := by
  refine ⟨fun i _ hi q => ?_, fun _ q => ⟨xs, ys, q.1, q.2, .inl (Nat.le_refl _)⟩, fun i H v H' _ q y => ?_⟩
  · exact ⟨xs, ys, _, _, q.1, q.2, List.getElem?_eq_getElem hi, List.getElem?_eq_getElem (by omega)⟩
  · obtain ⟨T, x, z, h1, h2, h3, h4, h5⟩ := y
    exact ⟨T, x, z, h1, h2, h3, h4 xs q.1, h5 ys q.2⟩
def YTrip (xs ys zs : Nat → Option V) : Nat → Hp → V → Hp → Prop := fun i H v H' => ∃ T x y u, v = .ref T ∧ H T = none ∧ H' = upd H T (.tup [x, y, u]) ∧ xs i = some x ∧ ys i = some y ∧ zs i = some u
theorem walk_zip3 {K : Frag} {b1 b2 b3 : Bool} {a1 a2 a3 : Addr} {xs ys zs : List V} (hl : xs.length = ys.length) (hl2 : xs.length = zs.length) :
    Walk (Z3.Itz3 K b1 b2 b3 a1 a2 a3) xs.length (fun H => SqB b1 K H a1 xs ∧ SqB b2 K H a2 ys ∧ SqB b3 K H a3 zs) (YTrip (fun i => xs[i]?) (fun i => ys[i]?) (fun i => zs[i]?)) := by
  refine ⟨fun i _ hi q => ?_, fun _ q => ⟨xs, ys, zs, q.1, q.2.1, q.2.2, .inl (Nat.le_refl _)⟩, fun i H v H' _ q y => ?_⟩
  · exact ⟨xs, ys, zs, _, _, _, q.1, q.2.1, q.2.2, List.getElem?_eq_getElem hi, List.getElem?_eq_getElem (by omega), List.getElem?_eq_getElem (by omega)⟩
  · obtain ⟨T, x, z, u, h1, h2, h3, h4, h5, h6⟩ := y
    exact ⟨T, x, z, u, h1, h2, h3, h4 xs q.1, h5 ys q.2.1, h6 zs q.2.2⟩
end L2.Jk.Z2

set_option Elab.async false
set_option linter.all false
set_option maxRecDepth 100000
set_option maxHeartbeats 4000000
/-! The law: the text of a layout as it writes it. -/
namespace L2.K79
open PySem PySem.W PySem.Spec PySem.Calls PyProof.Rows L2.Jk
def lw : List Str → List FD → List Str
  | j :: js, d :: ds => (if decide (j = "") = true then [] else [j]) ++ d.wd :: lw js ds
  | _, _ => []
def lwords : List FD → List Str → List Str
  | d :: ds, js => d.wd :: lw js ds
  | [], _ => []
def layT (ds : List FD) (js : List Str) : Str := Txt.join " " (lwords ds js)
theorem lw_snoc : ∀ (js : List Str) (ds : List FD) (j : Str) (d : FD), js.length = ds.length → lw (js ++ [j]) (ds ++ [d]) = lw js ds ++ ((if decide (j = "") = true then [] else [j]) ++ [d.wd])
  | [], [], j, d, _ => rfl
  | [], _ :: _, _, _, h => by cases h
  | _ :: _, [], _, _, h => by cases h
  | k :: js, e :: ds, j, d, h => by
    show (_ : List Str) ++ e.wd :: lw (js ++ [j]) (ds ++ [d]) = _
    rw [lw_snoc js ds j d (Nat.succ.inj h)]
    show _ = ((if decide (k = "") = true then [] else [k]) ++ e.wd :: lw js ds) ++ _
    rw [List.append_assoc]
    rfl
theorem lw_len : ∀ (js : List Str) (ds : List FD), (lw js ds).length ≤ 2 * ds.length
  | [], ds => Nat.zero_le _
  | _ :: _, [] => Nat.zero_le _
  | k :: js, e :: ds => by
    have ih := lw_len js ds
    show ((if decide (k = "") = true then [] else [k]) ++ e.wd :: lw js ds).length ≤ _
    rw [List.length_append, List.length_cons, List.length_cons]
    split
    · simp only [List.length_nil]; omega
    · simp only [List.length_cons, List.length_nil]; omega
theorem lw_mem {p : Str} : ∀ (js : List Str) (ds : List FD), p ∈ lw js ds → (p ∈ js ∧ p ≠ "") ∨ ∃ d ∈ ds, p = d.wd
  | [], ds, h => by cases h
  | _ :: _, [], h => by cases h
  | k :: js, e :: ds, h => by
    have h : p ∈ (if decide (k = "") = true then [] else [k]) ++ e.wd :: lw js ds := h
    rcases List.mem_append.mp h with h | h
    · split at h
      · cases h
      · rename_i c
        rw [List.mem_singleton.mp h]
        exact .inl ⟨List.mem_cons_self .., fun z => c (decide_eq_true z)⟩
    · rcases List.mem_cons.mp h with h | h
      · exact .inr ⟨e, List.mem_cons_self .., h⟩
      · rcases lw_mem js ds h with ⟨a, b⟩ | ⟨d, a, b⟩
        · exact .inl ⟨List.mem_cons_of_mem _ a, b⟩
        · exact .inr ⟨d, List.mem_cons_of_mem _ a, b⟩
def spLt (K : Frag) : Sp := fun vs H Q _ => ∃ (L : Addr) (ds : List FD) (js : List Str), vs = [.ref L] ∧ LayAt K H L ds js ∧ (∀ d ∈ ds, WkF d) ∧ ds.length ≤ 8 ∧ ∀ H', Same H H' → Q (.str (layT ds js)) H'
theorem cut1 (xs : List V) : cutV xs (some 1) none = xs.drop 1 := by
  unfold cutV
  rw [show (1 : Int) = ((1 : Nat) : Int) from rfl, HT.sIx_nat]
  show (xs.drop (min 1 xs.length)).take (xs.length - min 1 xs.length) = _
  cases xs with
  | nil => rfl
  | cons x xs =>
    rw [show min 1 (x :: xs).length = 1 by simp only [List.length_cons]; omega, List.take_of_length_le (by rw [List.length_drop]; exact Nat.le_refl _)]
theorem lwords_mem {p : Str} {ds : List FD} {js : List Str} (h : p ∈ lwords ds js) : (p ∈ js ∧ p ≠ "") ∨ ∃ d ∈ ds, p = d.wd := by
  cases ds with
  | nil => cases h
  | cons d ds =>
    rcases List.mem_cons.mp h with h | h
    · exact .inr ⟨d, List.mem_cons_self .., h⟩
    · rcases lw_mem js ds h with h | ⟨e, a, b⟩
      · exact .inl h
      · exact .inr ⟨e, List.mem_cons_of_mem _ a, b⟩
theorem lwords_len (ds : List FD) (js : List Str) : (lwords ds js).length ≤ 2 * ds.length := by
  cases ds with
  | nil => exact Nat.zero_le _
  | cons d ds =>
    have := lw_len js ds
    show (lw js ds).length + 1 ≤ _
    rw [List.length_cons]
    omega
theorem jn_len {j : Str} (h : j ∈ JN) : j.length ≤ 1 := by
  have : ∀ k ∈ JN, k.length ≤ 1 := by decide
  exact this j h
theorem lwords_small {ds : List FD} {js : List Str} (hW : ∀ d ∈ ds, WkF d) (hj : ∀ j ∈ js, j ∈ JN) (hn : ds.length ≤ 8) : (∀ p ∈ lwords ds js, p.length ≤ 2300) ∧ (lwords ds js).length ≤ 16 := by
  refine ⟨fun p hp => ?_, ?_⟩
  · rcases lwords_mem hp with ⟨a, _⟩ | ⟨d, a, rfl⟩
    · have := jn_len (hj p a); omega
    · exact (hW d a).wlen
  · have := lwords_len ds js; omega
structure GO (P : Program) (w : World) (K : Frag) (mg : Str → Option Value) (base : Heap) : Prop extends GN P w K mg base where
  zip : mg "zip" = none
  law_word : FnAt P w K mg base CX0 2 "_law_word" ["_law_spec"] (spLwd 2)
def sj (j : Str) : List Str := if decide (j = "") = true then [] else [j]
def lw2 : List FD → List Str → List Str
  | d :: ds, j :: js => d.wd :: (sj j ++ lw2 ds js)
  | _, _ => []
theorem lw2_snoc : ∀ (ds : List FD) (js : List Str) (d : FD) (j : Str), js.length = ds.length → lw2 (ds ++ [d]) (js ++ [j]) = (lw2 ds js ++ [d.wd]) ++ sj j
  | [], [], d, j, _ => by show d.wd :: (sj j ++ []) = [] ++ [d.wd] ++ sj j; rw [List.append_nil]; rfl
  | [], _ :: _, _, _, h => by cases h
  | _ :: _, [], _, _, h => by cases h
  | e :: ds, k :: js, d, j, h => by
    show e.wd :: (sj k ++ lw2 (ds ++ [d]) (js ++ [j])) = ((e.wd :: (sj k ++ lw2 ds js)) ++ [d.wd]) ++ sj j
    rw [lw2_snoc ds js d j (Nat.succ.inj h)]
    simp only [List.cons_append, List.append_assoc]
theorem lw2_is : ∀ (js : List Str) (d : FD) (ds : List FD), js.length = ds.length → lw2 (d :: ds) (js ++ ([""] : List Str)) = d.wd :: lw js ds
  | [], d, [], _ => rfl
  | [], _, _ :: _, h => by cases h
  | _ :: _, _, [], h => by cases h
  | j :: js, d, e :: ds, h => by
    show d.wd :: (sj j ++ lw2 (e :: ds) (js ++ ([""] : List Str))) = d.wd :: ((if decide (j = "") = true then [] else [j]) ++ e.wd :: lw js ds)
    rw [lw2_is js e ds (Nat.succ.inj h)]
    rfl
theorem lw2_len : ∀ (ds : List FD) (js : List Str), (lw2 ds js).length ≤ 2 * ds.length
  | [], _ => by cases ‹List Str› <;> exact Nat.zero_le _
  | _ :: _, [] => Nat.zero_le _
  | d :: ds, j :: js => by
    have ih := lw2_len ds js
    show (sj j ++ lw2 ds js).length + 1 ≤ _
    rw [List.length_append, List.length_cons]
    have : (sj j).length ≤ 1 := by unfold sj; split <;> simp
    omega
def spLtx : Sp := fun vs H Q _ => ∃ (s0 ps pj : Addr) (vsp : List V) (ds : List FD) (js : List Str), vs = [.ref ps, .ref pj] ∧ H ps = some (.lst vsp) ∧ SpsAt s0 H vsp ds ∧ H pj = some (.lst (js.map V.str)) ∧ js.length + 1 = ds.length ∧ (∀ d ∈ ds, WkF d) ∧ (∀ j ∈ js, j ∈ JN) ∧ ds.length ≤ 8 ∧ ∀ H', Same H H' → Q (.str (layT ds js)) H'
theorem rep_sj (j : Str) : (List.replicate (if (!decide (V.str j = V.str "")) = true then (1 : Int) else 0).toNat [V.str j]).flatten = (sj j).map V.str := by
  unfold sj
  by_cases h : j = ""
  · subst h
    rfl
  · rw [decide_eq_false (fun z => h (by injection z)), decide_eq_false h]
    rfl
section
variable {P : Program} {w : World} {K : Frag} {mg : Str → Option Value} {base : Heap} {f : Addr} {fd : FuncData}

abbrev s_law_layout_text : Stmt := top 53
theorem sc_law_layout_text : FnScope ["_law_specs", "_law_joints", "_law_words", "_law_spec", "_law_joint"] ["_law_specs", "_law_joints"] (defScope s_law_layout_text) := ⟨rfl, rfl, rfl, by decide +kernel, rfl, by decide +kernel, by decide +kernel⟩

theorem ok_law_layout_text (F : FunD K "_law_layout_text" "_law_layout_text" (defArgs s_law_layout_text) (defBody s_law_layout_text) (defScope s_law_layout_text) [] [] f fd) (G : GO P w K mg base) : FnOk P w K mg base CX0 3 f fd ["_law_specs", "_law_joints"] spLtx := by
  refine F.ok (CX := CX0) sc_law_layout_text (fun vs H Q E h => ?_) (fun cdv A outer s H vs Q E hr h => ?_)
  · obtain ⟨_, _, _, _, _, _, rfl, _⟩ := h
    rfl
  · refine ⟨_, PSs.nox (pss_cons (ps_set (i := 2) sc_law_layout_text.nd rfl (Or.inl rfl) (pe_lstS pa_nil))
    (pss_cons (ps_for PassesOwn.never rfl (Z2.pi_zip2 (by rfl) G.zip (pa_cons (pv 0) (pa_cons (pe_op op_catS (pe_callTy call_list_of (by rfl) G.list (by decide +kernel) (pa_cons (pv 1) pa_nil)) (pe_lstS (pa_cons pe_str pa_nil))) pa_nil))) (pg_tup rfl (pgs_cons (pg_name (i := 3) sc_law_layout_text.nd rfl (Or.inl rfl)) (pgs_cons (pg_name (i := 4) sc_law_layout_text.nd rfl (Or.inl rfl)) pgs_nil)))
      (pss_one (ps_set (i := 2) sc_law_layout_text.nd rfl (Or.inl rfl) (pe_op op_catS (pe_op op_catS (pv 2) (pe_lstS (pa_cons (pe_fn G.law_word hr pass0 (by rfl) (pa_cons (pv 3) pa_nil)) pa_nil))) (pe_op op_rep (pe_lstS (pa_cons (pv 4) pa_nil)) (pe_callTy call_int1 (by rfl) G.int (by decide +kernel) (pa_cons (pe_cmpR op_ne (pv 4) pe_str (nomark _)) pa_nil)))))))
    (pss_one (ps_ret (pe_join pe_str (pv 2)))))), ?_⟩
    obtain ⟨s0, ps, pj, vsp, ds, js, rfl, hps, hS, hpj, hl, hW, hj, hn, q⟩ := h
    have hvl := hS.1
    refine ⟨by show 0 ≤ 1000; decide, fun p0 H0 hp0 S0 e0 => ?_⟩
    refine ⟨_, rfl, _, rfl, pj, _, rfl, .inl (SqL.of (S0 _ _ hpj)), fun p1 hp1 => ?_⟩
    have S1 : Same H0 (upd H0 p1 (.lst (js.map V.str))) := same_upd hp1
    have e1 : upd H0 p1 (.lst (js.map V.str)) p1 = some (.lst (js.map V.str)) := upd_same
    generalize upd H0 p1 (.lst (js.map V.str)) = H1 at S1 e1 ⊢
    refine ⟨by show 1 ≤ 1000; decide, fun p2 H2 hp2 S2 e2 => ?_⟩
    refine ⟨p1, p2, _, _, rfl, rfl, SqL.of (S2 _ _ e1), SqL.of e2, by rw [List.length_map, sizeLine_eq]; show js.length + 1 ≤ 16777216; omega, fun p3 H3 hp3 S3 e3 => ?_⟩
    have S03 := ((S0.trans S1).trans S2).trans S3
    have e3' : H3 p3 = some (.lst ((js ++ ([""] : List Str)).map V.str)) := by rw [e3, List.map_append]; rfl
    refine ⟨ps, p3, true, true, vsp, (js ++ ([""] : List Str)).map V.str, rfl, SqL.of (S03 _ _ hps), SqL.of e3', ?_⟩
    have eq2 : vsp.length = ((js ++ ([""] : List Str)).map V.str).length := by rw [List.length_map, List.length_append]; show vsp.length = js.length + 1; omega
    refine for_it (Z2.walk_zip2 eq2) (fun i σ J => ∃ (pw : Addr) (v3 v4 : Option V), σ = [some (.ref ps), some (.ref pj), some (.ref pw), v3, v4] ∧ Same H J ∧ J p3 = some (.lst ((js ++ ([""] : List Str)).map V.str)) ∧ J pw = some (.lst ((lw2 (ds.take i) ((js ++ ([""] : List Str)).take i)).map V.str))) ⟨p0, _, _, rfl, S03, e3', by rw [((S1.trans S2).trans S3) _ _ e0]; rfl⟩ (fun i σ J _ ⟨_, _, _, _, S, e, _⟩ => ⟨SqL.of (S _ _ hps), SqL.of e⟩) ?_ ?_
    · rintro i z σ J J2 hi ⟨pw, v3, v4, rfl, S, e3J, eW⟩ ⟨T0, x, u, rfl, hT, rfl, ex, eu⟩
      replace ex : vsp[i]? = some x := ex
      replace eu : ((js ++ ([""] : List Str)).map V.str)[i]? = some u := eu
      rw [List.getElem?_map] at eu
      obtain ⟨j, ej, rfl⟩ := Option.map_eq_some_iff.mp eu
      obtain ⟨d, hd, hF⟩ := hS.get ex
      have S4 : Same J (upd J T0 (.tup [x, .str j])) := same_upd hT
      have eT : upd J T0 (.tup [x, .str j]) T0 = some (.tup [x, .str j]) := upd_same
      generalize upd J T0 (.tup [x, .str j]) = J4 at S4 eT ⊢
      have SJ := S.trans S4
      refine ⟨T0, _, rfl, SqT.of eT, rfl, _, _, rfl, _, _, rfl, rfl, ?_⟩
      refine ⟨_, rfl, _, rfl, s0, x, d, rfl, hF.same SJ, hW d (List.mem_of_getElem? hd), d.dep_lt, fun J5 S5 => ?_⟩
      have hlw := lw2_len (ds.take i) ((js ++ ([""] : List Str)).take i)
      rw [List.length_take] at hlw
      have SJ5 := SJ.trans S5
      refine ⟨by show 1 ≤ 1000; decide, fun p4 J6 hp4 S6 e6 => ?_⟩
      have eW6 := S6 _ _ (S5 _ _ (S4 _ _ eW))
      refine ⟨pw, p4, _, _, rfl, rfl, SqL.of eW6, SqL.of e6, by rw [List.length_map, sizeLine_eq]; show _ + 1 ≤ 16777216; omega, fun p5 J7 hp5 S7 e7 => ?_⟩
      refine ⟨_, rfl, by show 1 ≤ 1000; decide, fun p6 J8 hp6 S8 e8 => ?_⟩
      refine ⟨_, rfl, rfl, .inr ⟨_, rfl, ?_⟩⟩
      have b01 : ∀ b : Bool, 0 ≤ (if b = true then (1 : Int) else 0) ∧ (if b = true then (1 : Int) else 0) ≤ 1 := fun b => by cases b <;> decide
      have bb := b01 (!decide (V.str j = V.str ""))
      refine ⟨p6, _, _, rfl, rfl, e8, by omega, by omega, by rw [sizeLine_eq]; show 1 * (if (!decide (V.str j = V.str "")) = true then (1 : Int) else 0).toNat ≤ 16777216; omega, fun p7 hp7 => ?_⟩
      rw [rep_sj j]
      have S9 : Same J8 (upd J8 p7 (.lst ((sj j).map V.str))) := same_upd hp7
      have e9 : upd J8 p7 (.lst ((sj j).map V.str)) p7 = some (.lst ((sj j).map V.str)) := upd_same
      generalize upd J8 p7 (.lst ((sj j).map V.str)) = J9 at S9 e9 ⊢
      have hsj : (sj j).length ≤ 1 := by unfold sj; split <;> simp
      refine ⟨p5, p7, _, _, rfl, rfl, SqL.of (S9 _ _ (S8 _ _ e7)), SqL.of e9, ?_, fun p8 J10 hp8 S10 e10 => ?_⟩
      · rw [List.length_append, List.length_map, List.length_map, sizeLine_eq]
        show _ + 1 + _ ≤ 16777216
        omega
      have SJ10 := ((((SJ5.trans S6).trans S7).trans S8).trans S9).trans S10
      refine ⟨p8, _, _, rfl, SJ10, (((((S4.trans S5).trans S6).trans S7).trans S8).trans S9).trans S10 _ _ e3J, ?_⟩
      have hi2 : i < ds.length := (List.getElem?_eq_some_iff.mp hd).1
      have hi3 : i < (js ++ ([""] : List Str)).length := (List.getElem?_eq_some_iff.mp ej).1
      rw [e10, List.take_add_one, List.take_add_one, hd, ej]
      refine congrArg (fun z => some (HO.lst z)) ?_
      show _ = (lw2 (ds.take i ++ [d]) ((js ++ ([""] : List Str)).take i ++ [j])).map V.str
      rw [lw2_snoc _ _ _ _ (by rw [List.length_take, List.length_take]; omega), List.map_append, List.map_append]
      rfl
    · rintro σ J ⟨pw, v3, v4, rfl, S, e3J, eW⟩
      rw [eq2, List.length_map, List.take_length, show (js ++ ([""] : List Str)).length = ds.length by rw [List.length_append]; exact hl, List.take_length] at eW
      cases ds with
      | nil => simp only [List.length_nil] at hl; omega
      | cons d ds =>
      rw [lw2_is js d ds (Nat.succ.inj hl)] at eW
      obtain ⟨a1, a2⟩ := lwords_small hW hj hn
      refine ⟨⟨_, rfl⟩, _, rfl, " ", pw, lwords (d :: ds) js, rfl, rfl, .inl (SqL.of eW), ?_, q J S⟩
      have a := sum_le _ a1
      have e1 : (" " : Str).length = 1 := rfl
      rw [e1]
      omega

end
end L2.K79

set_option Elab.async false
set_option linter.all false
set_option maxRecDepth 100000
set_option maxHeartbeats 4000000
/-! x in a tuple, x not in a tuple: any data. -/
namespace L2.Jk
open PySem PySem.W PySem.Spec PySem.Calls PyProof.Rows L2
def rInTD (K : Frag) (n : Bool) : R2 := fun x y H Q => ∃ (d : PyData) (ds : List PyData), Dp K H x d ∧ Dp K H y (.tuple ds) ∧ SeqAt.shaped d = true ∧ SeqAt.shaped (.tuple ds) = true ∧ Q (.bl (xor n (ds.any fun z => PyData.eqv z d))) H
theorem op_inTD {X : Cx} (hu : X.A.units + 65 < cLine) : OpR X (compareOp .In) (rInTD X.K false) := by
  rintro pins s σ H x y v u Q I rx ry ⟨d, ds, hd, he, sd, se, q⟩
  obtain ⟨as, a1⟩ := Dp.reads I d x v hd rx
  obtain ⟨bs, a2⟩ := Dp.reads I (.tuple ds) y u he ry
  exact SeqAt.in_tuple_reads a2 a1 (SeqAt.canLay_of_shaped se) (SeqAt.canLay_of_shaped sd) (room_in_shaped sd hu) ⟨.bl _, H, I, rfl, by simpa using q⟩
theorem op_notInTD {X : Cx} (hu : X.A.units + 65 < cLine) : OpR X (compareOp .NotIn) (rInTD X.K true) := by
  rintro pins s σ H x y v u Q I rx ry ⟨d, ds, hd, he, sd, se, q⟩
  obtain ⟨as, a1⟩ := Dp.reads I d x v hd rx
  obtain ⟨bs, a2⟩ := Dp.reads I (.tuple ds) y u he ry
  exact SeqAt.notIn_tuple_reads a2 a1 (SeqAt.canLay_of_shaped se) (SeqAt.canLay_of_shaped sd) (room_in_shaped sd hu) ⟨.bl _, H, I, rfl, by simpa using q⟩
end L2.Jk

set_option Elab.async false
set_option linter.all false
set_option maxRecDepth 100000
set_option maxHeartbeats 4000000
/-! The law reads numbers and strings by hand. -/
namespace L2.K79
open PySem PySem.W PySem.Spec PySem.Calls PyProof.Rows L2.Jk
/-- all signs below 200 -/
def A8 (t : Str) : Prop := ∀ c ∈ t.cps.toList, c < 200
def oddS (z t : Str) (n : Nat) : List Str := ((t.cps.toList.take n).filter fun c => !decide (c ∈ z.cps.toList)).map fun c => ⟨#[c]⟩
theorem odd_nil {z t : Str} : decide (oddS z t t.length = []) = t.cps.toList.all (fun c => decide (c ∈ z.cps.toList)) := by
  have e : t.cps.toList.take t.length = t.cps.toList := List.take_of_length_le (by rw [Array.length_toList]; exact Nat.le_refl _)
  rw [Bool.eq_iff_iff]
  constructor
  · intro h
    have h := of_decide_eq_true h
    unfold oddS at h
    rw [e] at h
    refine List.all_eq_true.mpr fun c hc => ?_
    cases q : decide (c ∈ z.cps.toList) with
    | true => rfl
    | false =>
      have m : c ∈ t.cps.toList.filter fun c => !decide (c ∈ z.cps.toList) := List.mem_filter.mpr ⟨hc, by rw [q]; rfl⟩
      rw [List.map_eq_nil_iff.mp h] at m
      cases m
  · intro h
    refine decide_eq_true ?_
    unfold oddS
    rw [e, List.map_eq_nil_iff, List.filter_eq_nil_iff]
    intro c hc
    rw [List.all_eq_true.mp h c hc]
    simp
theorem lay_sgs : ∀ (ts : List Str), (∀ t ∈ ts, A8 t) → PyData.canLayAll0 ((ts.map V.str).map dV) = true ∧ PyData.depthAll ((ts.map V.str).map dV) = 0
  | [], _ => ⟨rfl, rfl⟩
  | t :: ts, h => by
    obtain ⟨a, b⟩ := lay_sgs ts fun y hy => h y (List.mem_cons_of_mem _ hy)
    refine ⟨Bool.and_eq_true_iff.mpr ⟨strOk_of (h t (List.mem_cons_self ..)), a⟩, ?_⟩
    show max 0 _ = 0
    rw [b]
    rfl
theorem sh_sgs {ts : List Str} (h : ∀ t ∈ ts, A8 t) : SeqAt.shaped (.list ((ts.map V.str).map dV)) = true := by
  obtain ⟨l1, l2⟩ := lay_sgs ts h
  refine Bool.and_eq_true_iff.mpr ⟨l1, decide_eq_true ?_⟩
  show PyData.depthAll ((ts.map V.str).map dV) + 1 ≤ 64
  omega

def spLin : Sp := fun vs H Q _ => ∃ t : Str, vs = [.str t] ∧ t.length ≤ 900 ∧ A8 t ∧ ∀ H', Same H H' → Q (.bl (shortB t)) H'
def spLis : Sp := fun vs H Q _ => ∃ t : Str, vs = [.str t] ∧ t.length ≤ 5000 ∧ A8 t ∧ ∀ H', Same H H' → Q (.bl (madeB t SG)) H'
/-- two bounds, in a list, or an empty list -/
def spLbd : Sp := fun vs H Q _ => ∃ l m : Str, vs = [.str l, .str m] ∧ l.length ≤ 80 ∧ m.length ≤ 80 ∧ A8 l ∧ A8 m ∧ (spansB l m = false → ∀ p H', Same H H' → H' p = some (.lst []) → Q (.ref p) H') ∧
  (spansB l m = true → ∀ (n : Nat) (v : V), l = T n → n < 1000000000 → m = mostT v → MOk v → ∀ p H', Same H H' → H' p = some (.lst [.int (n : Nat), v]) → Q (.ref p) H')
theorem mostT_inj {v u : V} (hv : MOk v) (hu : MOk u) (h : mostT v = mostT u) : v = u := by
  have st : ∀ n : Nat, T n ≠ "*" := fun n z => by
    have d := T_dg n 42 (by rw [z]; decide)
    exact absurd d.1 (by decide)
  rcases hv with rfl | ⟨n, rfl, hn⟩ <;> rcases hu with rfl | ⟨k, rfl, hk⟩
  · rfl
  · exact absurd h.symm (st k)
  · exact absurd h (st n)
  · rw [T_inj (show T n = T k from h)]
theorem A8_T (n : Nat) : A8 (T n) := fun c hc => by have := T_dg n c hc; omega
theorem int_T {n : Nat} (h : (T n).length ≤ 4000) : PySem.intText? (T n) = some (n : Int) := by
  rw [intText_digits (T_dg n) (T_ne n) (by omega), T_val]
theorem odd_all {z t : Str} : decide (oddS z t t.length = []) = madeB t z := by
  rw [odd_nil, Bool.eq_iff_iff, made_iff, List.all_eq_true]
  exact ⟨fun h c hc => of_decide_eq_true (h c hc), fun h c hc => decide_eq_true (h c hc)⟩
theorem short_eq {t : Str} (h1 : ¬ (1 ≤ (t.length : Int) ∧ (t.length : Int) ≤ 9)) : shortB t = false := by
  unfold shortB
  by_cases h0 : t.length = 0
  · have e : t = "" := by
      obtain ⟨a⟩ := t
      have e2 : a = #[] := Array.eq_empty_of_size_eq_zero h0
      rw [e2]
      rfl
    rw [e]
    rfl
  · rw [decide_eq_false (show ¬ t.length ≤ 9 by omega), Bool.and_false]
section
variable {P : Program} {w : World} {K : Frag} {mg : Str → Option Value} {base : Heap} {f : Addr} {fd : FuncData}

abbrev s_law_is_number : Stmt := top 54
theorem sc_law_is_number : FnScope ["_law_text", "_law_sign"] ["_law_text"] (defScope s_law_is_number) := ⟨rfl, rfl, rfl, by decide +kernel, rfl, by decide +kernel, by decide +kernel⟩

theorem ok_law_is_number (F : FunD K "_law_is_number" "_law_is_number" (defArgs s_law_is_number) (defBody s_law_is_number) (defScope s_law_is_number) [] [] f fd) (G : GO P w K mg base) : FnOk P w K mg base CX0 2 f fd ["_law_text"] spLin := by
  refine F.ok (CX := CX0) sc_law_is_number (fun vs H Q E h => ?_) (fun cdv A outer s H vs Q E hr h => ?_)
  · obtain ⟨_, rfl, _⟩ := h
    rfl
  · refine ⟨_, PSs.nox (pss_cons (ps_if (PW.pt (pw_or (pt_not (pt_chain op_le op_le pe_int (pe_callB call_len_str (by rfl) G.len (by decide +kernel) (pa_cons (pv 0) pa_nil)) pe_int)) (pw_or1 (pt_cmpR (op_neD hr.units) (pe_lc (own := [("_law_sign", 1)]) (g := gName 1) (tt := _) rfl sc_law_is_number.nd (pi_str (pv 0)) (blkOk_by (N := ["_law_text", "_law_sign"]) (sc := defScope s_law_is_number) (by decide +kernel)) (fun _ _ _ _ _ => pg_name (i := 1) sc_law_is_number.nd rfl (Or.inl rfl)) (fun _ _ _ _ _ => pts_one (pt_cmpR op_notIn_sign (pv 1) pe_str (by rfl))) (fun _ _ _ _ _ => (pv 1))) (pe_lstS pa_nil) (nomark _)))))
      (pss_one (ps_ret pe_bl))
      pss_nil)
    (pss_one (ps_ret (pe_or (pe_cmpR op_eq (pv 0) pe_str (nomark _)) (pe_one (pe_cmpR op_ne (pe_ix ix_str (pv 0) pe_int (fun _ _ => rfl)) pe_str (nomark _))))))), ?_⟩
    obtain ⟨t, rfl, hl, h8, q⟩ := h
    have tl : t.length ≤ sizeLine := by rw [sizeLine_eq]; omega
    refine ⟨_, rfl, t, rfl, tl, _, _, rfl, rfl, _, rfl, ?_⟩
    have no : ¬ (1 ≤ (t.length : Int) ∧ (t.length : Int) ≤ 9) → Q (.bl false) H := fun hc => by
      have z := q H (Same.refl _)
      rwa [short_eq hc] at z
    refine ite2 (fun c1 => ?_) (fun c1 => ?_)
    rotate_left
    · exact ⟨_, rfl, iteT (iteT (no fun z => c1 (decide_eq_true z.1)))⟩
    refine ⟨_, _, rfl, rfl, _, rfl, ?_⟩
    refine ite2 (fun c3 => ?_) (fun c3 => ?_)
    · have c3 : (!decide ((t.length : Int) ≤ 9)) = true := c3
      exact iteT (no fun z => by rw [decide_eq_true z.2] at c3; cases c3)
    have c2 : (t.length : Int) ≤ 9 := by
      have c3 : ¬ (!decide ((t.length : Int) ≤ 9)) = true := c3
      apply Classical.byContradiction
      intro z
      exact c3 (by rw [decide_eq_false z]; rfl)
    have c1 : (1 : Int) ≤ (t.length : Int) := of_decide_eq_true c1
    refine ⟨_, rfl, t, rfl, fun D hD => ?_⟩
    refine lc_str (x := t) (fun i J => Same H J ∧ J D = some (.lst ((oddS DG t i).map V.str))) ⟨same_upd hD, upd_same⟩ ?_ ?_
    · rintro i c J hc ⟨SJ, eD⟩
      have hc' : t.cps.toList[i]? = some c := by rw [Array.getElem?_toList]; exact hc
      have hi := (List.getElem?_eq_some_iff.mp hc').1
      rw [Array.length_toList] at hi
      have hi : i < t.length := hi
      refine ⟨rfl, _, rfl, c, DG, rfl, rfl, _, rfl, ?_⟩
      have e : oddS DG t (i + 1) = oddS DG t i ++ (if decide (c ∈ DG.cps.toList) = true then [] else [⟨#[c]⟩]) := by
        unfold oddS
        rw [List.take_add_one, hc', List.filter_append, List.map_append]
        congr 1
        show List.map _ (List.filter _ [c]) = _
        by_cases q : c ∈ DG.cps.toList
        · rw [List.filter_cons_of_neg (by simp [q]), if_pos (decide_eq_true q)]; rfl
        · rw [List.filter_cons_of_pos (by simp [q]), if_neg (by simp [q])]; rfl
      have ol : (oddS DG t i).length ≤ i := by
        unfold oddS
        rw [List.length_map]
        exact Nat.le_trans (List.length_filter_le _ _) (by rw [List.length_take]; exact Nat.min_le_left _ _)
      by_cases q : decide (c ∈ DG.cps.toList) = true
      · rw [q]
        refine iteF ⟨SJ, ?_⟩
        rw [e, if_pos q, List.append_nil]
        exact eD
      · rw [Bool.eq_false_iff.mpr q]
        refine iteT ⟨_, rfl, _, eD, by rw [List.length_map, sizeLine_eq]; omega, same_put SJ hD, ?_⟩
        rw [upd_same, e, if_neg q, List.map_append]
        rfl
    rintro J ⟨SJ, eD⟩
    refine ⟨by show 0 ≤ 1000; decide, fun pe H3 hpe S3 e3 => ⟨_, _, dp_strs (S3 _ _ eD), .lst (SqL.of e3) .nil, sh_sgs (fun x hx => ?_), by decide +kernel, _, rfl, ?_⟩⟩
    · obtain ⟨c, hc, rfl⟩ := List.mem_map.mp hx
      intro c' hc'
      obtain rfl := List.mem_singleton.mp hc'
      exact h8 _ (List.mem_of_mem_take (List.mem_filter.mp hc).1)
    have SH := SJ.trans S3
    rw [eqv_nil, show t.cps.size = t.length from rfl, odd_all]
    have z0 := q _ SH
    unfold shortB numeralB at z0
    rw [decide_eq_true (show t.length ≤ 9 by omega), Bool.and_true] at z0
    have hne : decide (V.str t = .str "") = false := decide_eq_false fun z => by
      injection z with z
      rw [z] at c1
      exact absurd c1 (by decide)
    rw [hne, Bool.false_or] at z0
    cases hm : madeB t DG with
    | false =>
      rw [hm] at z0
      exact iteT z0
    | true =>
      rw [hm] at z0
      refine iteF ⟨_, rfl, rfl, _, rfl, ?_⟩
      have z0 : Q (.bl (decide (V.str t = .str "0") || !decide (V.str ⟨#[t.cps.getD 0 0]⟩ = .str "0"))) _ := z0
      refine ite2 (fun h3 => ?_) (fun h3 => ?_)
      · rw [h3] at z0
        exact z0
      · rw [Bool.eq_false_iff.mpr h3] at z0
        have hp : 0 < t.cps.toList.length := by
          rw [Array.length_toList]
          have : (0 : Int) < (t.length : Int) := by omega
          exact Int.ofNat_lt.mp this
        refine ⟨_, rfl, t, 0, t.cps.getD 0 0, rfl, rfl, tl, atI_nat (j := 0) ?_, rfl, ?_⟩
        · cases e : t.cps.toList with
          | nil => rw [e] at hp; exact absurd hp (Nat.lt_irrefl _)
          | cons x xs =>
            show some x = some (t.cps.getD 0 0)
            have e2 : t.cps = (x :: xs).toArray := by rw [← Array.toArray_toList (xs := t.cps), e]
            rw [e2]
            rfl
        · exact z0

structure Gis (P : Program) (w : World) (K : Frag) (mg : Str → Option Value) (base : Heap) : Prop extends GO P w K mg base where
  law_is_number : FnAt P w K mg base CX0 2 "_law_is_number" ["_law_text"] spLin

abbrev s_law_bounds : Stmt := top 55
theorem sc_law_bounds : FnScope ["_law_least", "_law_most"] ["_law_least", "_law_most"] (defScope s_law_bounds) := ⟨rfl, rfl, rfl, by decide +kernel, rfl, by decide +kernel, by decide +kernel⟩

theorem ok_law_bounds (F : FunD K "_law_bounds" "_law_bounds" (defArgs s_law_bounds) (defBody s_law_bounds) (defScope s_law_bounds) [] [] f fd) (G : Gis P w K mg base) : FnOk P w K mg base CX0 3 f fd ["_law_least", "_law_most"] spLbd := by
  refine F.ok (CX := CX0) sc_law_bounds (fun vs H Q E h => ?_) (fun cdv A outer s H vs Q E hr h => ?_)
  · obtain ⟨_, _, rfl, _⟩ := h
    rfl
  · refine ⟨_, PSs.nox (pss_cons (ps_if (PW.pt (pw_or (pt_not (pt_val (pe_fn G.law_is_number hr pass0 (by rfl) (pa_cons (pv 0) pa_nil)))) (pw_or1 (PW.pt (pw_and (pt_cmpR op_ne (pv 1) pe_str (nomark _)) (pw_and1 (pt_not (pt_val (pe_fn G.law_is_number hr pass0 (by rfl) (pa_cons (pv 1) pa_nil))))))))))
      (pss_one (ps_ret (pe_lstS pa_nil)))
      pss_nil)
    (pss_one (ps_ret (pe_lstS (pa_cons (pe_callTy call_int_str (by rfl) G.int (by decide +kernel) (pa_cons (pv 0) pa_nil)) (pa_cons (pe_ifExp (pt_cmpR op_eq (pv 1) pe_str (nomark _)) pe_non (pe_callTy call_int_str (by rfl) G.int (by decide +kernel) (pa_cons (pv 1) pa_nil))) pa_nil)))))), ?_⟩
    obtain ⟨l, m, rfl, hl, hm, a1, a2, q1, q2⟩ := h
    unfold spansB at q1 q2
    refine ⟨_, rfl, l, rfl, by omega, a1, fun H1 S1 => ?_⟩
    have emp : ∀ {J}, Same H J → (shortB l && (decide (V.str m = .str "*") || shortB m)) = false → ∀ p H', J p = none → Same J H' → H' p = some (.lst []) → Q (.ref p) H' := fun S h p H' _ S' e => q1 h p H' (S.trans S') e
    refine ⟨_, rfl, ?_⟩
    refine ite2 (fun c1 => ?_) (fun c1 => ?_)
    · have c1 : (!shortB l) = true := c1
      have c1 : shortB l = false := by rw [Bool.not_eq_true'] at c1; exact c1
      exact iteT ⟨by show 0 ≤ 1000; decide, emp S1 (by rw [c1]; rfl)⟩
    have c1 : shortB l = true := by
      cases z : shortB l with
      | true => rfl
      | false => rw [z] at c1; exact absurd rfl c1
    refine ⟨_, rfl, rfl, _, rfl, ?_⟩
    obtain ⟨n, rfl, hn⟩ := short_is c1
    have ti : ∀ {k : Nat}, k < 1000000000 → PySem.intText? (T k) = some (k : Int) ∧ (T k).length ≤ 640 := fun h => by
      have := T9 h
      exact ⟨int_T (by omega), by omega⟩
    refine ite2 (fun c2 => ?_) (fun c2 => ?_)
    rotate_left
    · have c2 : ¬ (!decide (V.str m = .str "*")) = true := c2
      have c2 : decide (V.str m = .str "*") = true := by
        cases z : decide (V.str m = .str "*") with
        | true => rfl
        | false => rw [z] at c2; exact absurd rfl c2
      have em : m = "*" := by have := of_decide_eq_true c2; injection this
      subst em
      refine iteF ⟨_, rfl, T n, n, rfl, (ti hn).1, (ti hn).2, _, rfl, rfl, _, rfl, iteT ⟨by show 2 ≤ 1000; decide, fun p H' _ S' e => ?_⟩⟩
      exact q2 (by rw [c1]; rfl) n .non rfl hn rfl (.inl rfl) p H' (S1.trans S') e
    have c2 : (!decide (V.str m = .str "*")) = true := c2
    have c2 : decide (V.str m = .str "*") = false := by rw [Bool.not_eq_true'] at c2; exact c2
    refine ⟨_, rfl, m, rfl, by omega, a2, fun H2 S2 => ⟨_, rfl, ?_⟩⟩
    have S12 := S1.trans S2
    refine ite2 (fun c3 => ?_) (fun c3 => ?_)
    · have c3 : (!shortB m) = true := c3
      have c3 : shortB m = false := by rw [Bool.not_eq_true'] at c3; exact c3
      exact ⟨by show 0 ≤ 1000; decide, emp S12 (by rw [c2, c3, Bool.false_or, Bool.and_false])⟩
    have c3 : shortB m = true := by
      cases z : shortB m with
      | true => rfl
      | false => rw [z] at c3; exact absurd rfl c3
    obtain ⟨k, rfl, hk⟩ := short_is c3
    refine ⟨_, rfl, T n, n, rfl, (ti hn).1, (ti hn).2, _, rfl, rfl, _, rfl, ?_⟩
    rw [c2]
    refine iteF ⟨_, rfl, T k, k, rfl, (ti hk).1, (ti hk).2, by show 2 ≤ 1000; decide, fun p H' _ S' e => ?_⟩
    exact q2 (by rw [c1, c3, Bool.or_true]; rfl) n (.int (k : Nat)) rfl hn rfl (.inr ⟨k, rfl, hk⟩) p H' (S12.trans S') e

abbrev s_law_is_string : Stmt := top 57
theorem sc_law_is_string : FnScope ["_law_text", "_law_signs", "_law_sign"] ["_law_text"] (defScope s_law_is_string) := ⟨rfl, rfl, rfl, by decide +kernel, rfl, by decide +kernel, by decide +kernel⟩

theorem ok_law_is_string (F : FunD K "_law_is_string" "_law_is_string" (defArgs s_law_is_string) (defBody s_law_is_string) (defScope s_law_is_string) [] [] f fd) (G : GO P w K mg base) : FnOk P w K mg base CX0 1 f fd ["_law_text"] spLis := by
  refine F.ok (CX := CX0) sc_law_is_string (fun vs H Q E h => ?_) (fun cdv A outer s H vs Q E hr h => ?_)
  · obtain ⟨_, rfl, _⟩ := h
    rfl
  · refine ⟨_, PSs.nox (pss_cons (ps_set (i := 1) sc_law_is_string.nd rfl (Or.inr rfl) pe_str)
    (pss_one (ps_ret (pe_cmpR (op_eqD hr.units) (pe_lc (own := [("_law_sign", 2)]) (g := gName 2) (tt := _) rfl sc_law_is_string.nd (pi_str (pv 0)) (blkOk_by (N := ["_law_text", "_law_signs", "_law_sign"]) (sc := defScope s_law_is_string) (by decide +kernel)) (fun _ _ _ _ _ => pg_name (i := 2) sc_law_is_string.nd rfl (Or.inl rfl)) (fun _ _ _ _ _ => pts_one (pt_cmpR op_notIn_sign (pv 2) (pv 1) (by rfl))) (fun _ _ _ _ _ => (pv 2))) (pe_lstS pa_nil) (nomark _))))), ?_⟩
    obtain ⟨t, rfl, hl, h8, q⟩ := h
    refine ⟨_, rfl, t, rfl, fun D hD => ?_⟩
    refine lc_str (x := t) (fun i J => Same H J ∧ J D = some (.lst ((oddS SG t i).map V.str))) ⟨same_upd hD, upd_same⟩ ?_ ?_
    · rintro i c J hc ⟨SJ, eD⟩
      have hc' : t.cps.toList[i]? = some c := by rw [Array.getElem?_toList]; exact hc
      have hi := (List.getElem?_eq_some_iff.mp hc').1
      rw [Array.length_toList] at hi
      have hi : i < t.length := hi
      refine ⟨rfl, _, rfl, _, rfl, c, SG, rfl, rfl, _, rfl, ?_⟩
      have e : oddS SG t (i + 1) = oddS SG t i ++ (if decide (c ∈ SG.cps.toList) = true then [] else [⟨#[c]⟩]) := by
        unfold oddS
        rw [List.take_add_one, hc', List.filter_append, List.map_append]
        congr 1
        show List.map _ (List.filter _ [c]) = _
        by_cases q : c ∈ SG.cps.toList
        · rw [List.filter_cons_of_neg (by simp [q]), if_pos (decide_eq_true q)]; rfl
        · rw [List.filter_cons_of_pos (by simp [q]), if_neg (by simp [q])]; rfl
      have ol : (oddS SG t i).length ≤ i := by
        unfold oddS
        rw [List.length_map]
        exact Nat.le_trans (List.length_filter_le _ _) (by rw [List.length_take]; exact Nat.min_le_left _ _)
      by_cases q : decide (c ∈ SG.cps.toList) = true
      · rw [q]
        refine iteF ⟨SJ, ?_⟩
        rw [e, if_pos q, List.append_nil]
        exact eD
      · rw [Bool.eq_false_iff.mpr q]
        refine iteT ⟨_, rfl, _, eD, by rw [List.length_map, sizeLine_eq]; omega, same_put SJ hD, ?_⟩
        rw [upd_same, e, if_neg q, List.map_append]
        rfl
    rintro J ⟨SJ, eD⟩
    refine ⟨by show 0 ≤ 1000; decide, fun pe H3 hpe S3 e3 => ⟨_, _, dp_strs (S3 _ _ eD), .lst (SqL.of e3) .nil, sh_sgs (fun x hx => ?_), by decide +kernel, ?_⟩⟩
    · obtain ⟨c, hc, rfl⟩ := List.mem_map.mp hx
      intro c' hc'
      obtain rfl := List.mem_singleton.mp hc'
      exact h8 _ (List.mem_of_mem_take (List.mem_filter.mp hc).1)
    have z := q _ (SJ.trans S3)
    rw [← odd_all] at z
    rw [eqv_nil]
    exact z

end
end L2.K79

set_option Elab.async false
set_option linter.all false
set_option maxRecDepth 100000
set_option maxHeartbeats 4000000
/-! The law reads words by hand. -/
namespace L2.K79
open PySem PySem.W PySem.Spec PySem.Calls PyProof.Rows L2.Jk
/-- a field's tuple, in its marks -/
def SIn (s : Addr) (H : Hp) : V → List (Str × Str) → PD → Prop
  | v, [], d => PDAt s H v d
  | v, p :: ms, d => ∃ b u, v = .ref b ∧ b ≠ s ∧ H b = some (.tup [.str "marked", .str p.1, .str p.2, u]) ∧ SIn s H u ms d
theorem SIn.same {s : Addr} {H H' : Hp} {d : PD} (S : Same H H') : ∀ {ms : List (Str × Str)} {v : V}, SIn s H v ms d → SIn s H' v ms d
  | [], _, h => PDAt.same S h
  | _ :: _, _, ⟨b, u, e, n, h, k⟩ => ⟨b, u, e, n, S _ _ h, SIn.same S k⟩
theorem PDAt.ref {s : Addr} {H : Hp} {v : V} : ∀ {d : PD}, PDAt s H v d → ∃ b, v = .ref b
  | .word .., ⟨b, e, _⟩ => ⟨b, e⟩
  | .number .., ⟨b, e, _⟩ => ⟨b, e⟩
  | .fixed _, ⟨b, e, _⟩ => ⟨b, e⟩
  | .listed _, ⟨b, _, e, _⟩ => ⟨b, e⟩
  | .ended .., ⟨b, e, _⟩ => ⟨b, e⟩
theorem SIn.ref {s : Addr} {H : Hp} {v : V} {d : PD} : ∀ {ms : List (Str × Str)}, SIn s H v ms d → ∃ b, v = .ref b
  | [], h => PDAt.ref h
  | _ :: _, ⟨b, _, e, _⟩ => ⟨b, e⟩
theorem room65 {k : Nat} {A : Around} (r : Room k A) : A.units + 65 < cLine := by have := r.un; omega
theorem eqv_pair (a b : Str) (i j : Int) : PyData.eqv (.tuple [.str a, .int i]) (.tuple [.str b, .int j]) = (decide (a = b) && decide (i = j)) := by
  unfold PyData.eqv PyData.eqvAll PyData.eqvAll PyData.eqvAll PyData.eqv
  by_cases h : a = b <;> by_cases k : i = j <;> simp [h, k]
def kindsD : List PyData := [.tuple [.str "word", .int 4], .tuple [.str "number", .int 3], .tuple [.str "ended", .int 5]]
theorem kinds_any (p : Str) (n : Nat) : (kindsD.any fun z => PyData.eqv z (.tuple [.str p, .int (n : Nat)])) = (decide (p = "word" ∧ n = 4) || (decide (p = "number" ∧ n = 3) || decide (p = "ended" ∧ n = 5))) := by
  have f : ∀ (q : Str) (k : Nat), PyData.eqv (.tuple [.str q, .int (k : Nat)]) (.tuple [.str p, .int (n : Nat)]) = decide (p = q ∧ n = k) := fun q k => by
    rw [eqv_pair]
    by_cases h : p = q
    · by_cases h2 : n = k
      · simp [h, h2]
      · have : ¬ ((k : Int) = (n : Int)) := by omega
        simp [h, h2, this]
    · have : ¬ q = p := fun z => h z.symm
      simp [h, this]
  show ((PyData.eqv (.tuple [.str "word", .int 4]) _) || ((PyData.eqv (.tuple [.str "number", .int 3]) _) || ((PyData.eqv (.tuple [.str "ended", .int 5]) _) || false))) = _
  rw [Bool.or_false]
  exact congr (congrArg _ (f "word" 4)) (congr (congrArg _ (f "number" 3)) (f "ended" 5))
/-- no comma in a plain word that is no list -/
theorem plB_free {p0 : Str} {r : List Str} (h : plB (p0 :: r) = true) (h0 : p0 ≠ "listed") : ∀ p ∈ p0 :: r, 44 ∉ p.cps.toList := by
  have sh : ∀ {x : Str}, shortB x = true → 44 ∉ x.cps.toList := fun h k => by
    obtain ⟨n, rfl, _⟩ := short_is h
    have := T_dg n _ k
    omega
  have sp : ∀ {l m : Str}, spansB l m = true → 44 ∉ l.cps.toList ∧ 44 ∉ m.cps.toList := fun h => by
    obtain ⟨h1, h2⟩ := Bool.and_eq_true_iff.mp h
    refine ⟨sh h1, ?_⟩
    rcases Bool.or_eq_true_iff.mp h2 with h2 | h2
    · have := of_decide_eq_true h2
      injection this with this
      rw [this]
      decide
    · exact sh h2
  have lits : 44 ∉ ("word" : Str).cps.toList ∧ 44 ∉ ("number" : Str).cps.toList ∧ 44 ∉ ("fixed" : Str).cps.toList ∧ 44 ∉ ("ended" : Str).cps.toList := by decide +kernel
  match r, h with
  | [x], h =>
    rcases Bool.or_eq_true_iff.mp (show (decide (p0 = "fixed") && shortB x || decide (p0 = "listed")) = true from h) with h | h
    · obtain ⟨h1, h2⟩ := Bool.and_eq_true_iff.mp h
      rw [of_decide_eq_true h1]
      intro p hp
      simp only [List.mem_cons, List.not_mem_nil, or_false] at hp
      rcases hp with rfl | rfl
      · exact lits.2.2.1
      · exact sh h2
    · exact absurd (of_decide_eq_true h) h0
  | [l, m], h =>
    obtain ⟨h1, h2⟩ := Bool.and_eq_true_iff.mp (show (decide (p0 = "number") && spansB l m) = true from h)
    rw [of_decide_eq_true h1]
    intro p hp
    simp only [List.mem_cons, List.not_mem_nil, or_false] at hp
    rcases hp with rfl | rfl | rfl
    · exact lits.2.1
    · exact (sp h2).1
    · exact (sp h2).2
  | [a, l, m], h =>
    obtain ⟨h1, h2⟩ := Bool.and_eq_true_iff.mp (show (decide (p0 = "word") && (freeB a && spansB l m)) = true from h)
    obtain ⟨h2, h3⟩ := Bool.and_eq_true_iff.mp h2
    rw [of_decide_eq_true h1]
    intro p hp
    simp only [List.mem_cons, List.not_mem_nil, or_false] at hp
    rcases hp with rfl | rfl | rfl | rfl
    · exact lits.1
    · exact free_is (by assumption)
    · exact (sp h3).1
    · exact (sp h3).2
  | [a, e, l, m], h =>
    obtain ⟨h1, h2⟩ := Bool.and_eq_true_iff.mp (show (decide (p0 = "ended") && (freeB a && freeB e && spansB l m)) = true from h)
    obtain ⟨h4, h3⟩ := Bool.and_eq_true_iff.mp h2
    obtain ⟨h5, h6⟩ := Bool.and_eq_true_iff.mp h4
    rw [of_decide_eq_true h1]
    intro p hp
    simp only [List.mem_cons, List.not_mem_nil, or_false] at hp
    rcases hp with rfl | rfl | rfl | rfl | rfl
    · exact lits.2.2.2
    · exact free_is h5
    · exact free_is h6
    · exact (sp h3).1
    · exact (sp h3).2
theorem wB_mark {t n k p : Str} {r : List Str} (h : pcs t = ("marked" : Str) :: n :: k :: p :: r) : wB t = ((freeB n && freeB k) && wB (Txt.join ":" (p :: r))) ∧ mkL (pcs t) = ((n, k) :: (mkL (pcs (Txt.join ":" (p :: r)))).1, (mkL (pcs (Txt.join ":" (p :: r)))).2) := by
  have hf := pcs_free t
  rw [h] at hf
  have e : pcs (Txt.join ":" (p :: r)) = p :: r := pcs_of (List.cons_ne_nil _ _) fun x hx => hf x (List.mem_cons_of_mem _ (List.mem_cons_of_mem _ (List.mem_cons_of_mem _ hx)))
  unfold wB
  rw [e, h, mkL_yes]
  refine ⟨?_, rfl⟩
  show (((freeB n && freeB k) && (mkL (p :: r)).1.all _) && _) = _
  rw [Bool.and_assoc]
theorem wB_plain {t : Str} (h : ¬ ∃ n k p r, pcs t = ("marked" : Str) :: n :: k :: p :: r) : wB t = plB (pcs t) ∧ mkL (pcs t) = ([], pcs t) := by
  have e := mkL_no h
  unfold wB
  rw [e]
  exact ⟨rfl, rfl⟩
def spSo (n : Nat) : Sp := fun vs H Q _ => ∃ (t : Str) (k : Nat), vs = [.str t] ∧ Wee k t ∧ k ≤ 200 ∧ (mkL (pcs t)).1.length < n ∧ (wB t = false → ∀ H', Same H H' → Q .non H') ∧
  (wB t = true → ∃ ms d, mkL (pcs t) = (ms, d.parts) ∧ WfP d ∧ ∀ v H', Same H H' → (∀ s, H s ≠ none → SIn s H' v ms d) → Q v H')
structure Gso (P : Program) (w : World) (K : Frag) (mg : Str → Option Value) (base : Heap) : Prop extends Gis P w K mg base where
  law_bounds : FnAt P w K mg base CX0 3 "_law_bounds" ["_law_least", "_law_most"] spLbd
section
variable {P : Program} {w : World} {K : Frag} {mg : Str → Option Value} {base : Heap} {f : Addr} {fd : FuncData}

abbrev s_law_spec_of : Stmt := top 56
theorem sc_law_spec_of : FnScope ["_law_word_here", "_law_parts", "_law_inner", "_law_found"] ["_law_word_here"] (defScope s_law_spec_of) := ⟨rfl, rfl, rfl, by decide +kernel, rfl, by decide +kernel, by decide +kernel⟩

theorem ok_law_spec_of (F : FunD K "_law_spec_of" "_law_spec_of" (defArgs s_law_spec_of) (defBody s_law_spec_of) (defScope s_law_spec_of) [] [] f fd) {n : Nat} (AM : FnAt P w K mg base CX0 (n + 4) "_law_spec_of" ["_law_word_here"] (spSo n)) (G : Gso P w K mg base) : FnOk P w K mg base CX0 (n + 4 + 1) f fd ["_law_word_here"] (spSo (n + 1)) := by
  refine F.ok (CX := CX0) sc_law_spec_of (fun vs H Q E h => ?_) (fun cdv A outer s H vs Q E hr h => ?_)
  · obtain ⟨_, _, rfl, _⟩ := h
    rfl
  · refine ⟨_, PSs.nox (pss_cons (ps_set (i := 1) sc_law_spec_of.nd rfl (Or.inl rfl) (pe_split (pv 0) pe_str))
    (C8.pss_cut (ps_if (PW.pt (pw_and (pt_cmpR op_eq (pe_ix ix_list (pv 1) pe_int (fun _ _ => rfl)) pe_str (nomark _)) (pw_and (pt_cmpR op_gt (pe_callB call_len_seq (by rfl) G.len (by decide +kernel) (pa_cons (pv 1) pa_nil)) pe_int (nomark _)) (pw_and1 (pt_cmpR op_notIn_sign pe_str (pe_op op_add_str (pe_ix ix_list (pv 1) pe_int (fun _ _ => rfl)) (pe_ix ix_list (pv 1) pe_int (fun _ _ => rfl))) (by rfl))))))
      (pss_cons (ps_set (i := 2) sc_law_spec_of.nd rfl (Or.inl rfl) (pe_fn AM hr pass0 (by rfl) (pa_cons (pe_join pe_str (pe_slice sl_listS (pv 1) (po_some pe_int) po_none)) pa_nil)))
      (pss_one (ps_ret (pe_ifExp (pt_cmpR op_isN (pv 2) pe_non (nomark _)) pe_non (pe_tupS (pa_cons pe_str (pa_cons (pe_ix ix_list (pv 1) pe_int (fun _ _ => rfl)) (pa_cons (pe_ix ix_list (pv 1) pe_int (fun _ _ => rfl)) (pa_cons (pv 2) pa_nil)))))))))
      pss_nil)
    (pss_cons (ps_if (PW.pt (pw_and (pt_cmpR op_eq (pe_ix ix_list (pv 1) pe_int (fun _ _ => rfl)) pe_str (nomark _)) (pw_and1 (pt_cmpR op_eq (pe_callB call_len_seq (by rfl) G.len (by decide +kernel) (pa_cons (pv 1) pa_nil)) pe_int (nomark _)))))
      (pss_one (ps_ret (pe_tupS (pa_cons pe_str (pa_cons (pe_split (pe_ix ix_list (pv 1) pe_int (fun _ _ => rfl)) pe_str) pa_nil)))))
      pss_nil)
    (pss_cons (ps_if (PW.pt (pw_or (pt_cmpR op_in_sign pe_str (pv 0) (by rfl)) (pw_or1 (pt_cmpR op_in_seq (pe_ix ix_list (pv 1) pe_int (fun _ _ => rfl)) (pe_tupS (pa_cons pe_str (pa_cons pe_str pa_nil))) (by rfl)))))
      (pss_one (ps_ret pe_non))
      pss_nil)
    (pss_cons (ps_if (pt_cmpR op_eq (pe_ix ix_list (pv 1) pe_int (fun _ _ => rfl)) pe_str (nomark _))
      (pss_one (ps_ret (pe_ifExp (PW.pt (pw_and (pt_cmpR op_eq (pe_callB call_len_seq (by rfl) G.len (by decide +kernel) (pa_cons (pv 1) pa_nil)) pe_int (nomark _)) (pw_and1 (pt_val (pe_fn G.law_is_number (hr.mono (by omega)) pass0 (by rfl) (pa_cons (pe_ix ix_list (pv 1) pe_int (fun _ _ => rfl)) pa_nil)))))) (pe_tupS (pa_cons pe_str (pa_cons (pe_callTy call_int_str (by rfl) G.int (by decide +kernel) (pa_cons (pe_ix ix_list (pv 1) pe_int (fun _ _ => rfl)) pa_nil)) pa_nil))) pe_non)))
      pss_nil)
    (pss_cons (ps_if (pt_cmpR (op_notInTD (room65 hr)) (pe_tupS (pa_cons (pe_ix ix_list (pv 1) pe_int (fun _ _ => rfl)) (pa_cons (pe_callB call_len_seq (by rfl) G.len (by decide +kernel) (pa_cons (pv 1) pa_nil)) pa_nil))) (pe_tupS (pa_cons (pe_tupS (pa_cons pe_str (pa_cons pe_int pa_nil))) (pa_cons (pe_tupS (pa_cons pe_str (pa_cons pe_int pa_nil))) (pa_cons (pe_tupS (pa_cons pe_str (pa_cons pe_int pa_nil))) pa_nil)))) (by rfl))
      (pss_one (ps_ret pe_non))
      pss_nil)
    (pss_cons (ps_set (i := 3) sc_law_spec_of.nd rfl (Or.inl rfl) (pe_fn G.law_bounds (hr.mono (by omega)) pass0 (by rfl) (pa_cons (pe_ix ix_list (pv 1) (pe_un un_neg pe_int) (fun _ _ => rfl)) (pa_cons (pe_ix ix_list (pv 1) (pe_un un_neg pe_int) (fun _ _ => rfl)) pa_nil))))
    (pss_one (ps_ret (pe_ifExp (pt_cmpR (op_eqD hr.units) (pv 3) (pe_lstS pa_nil) (nomark _)) pe_non (pe_callTy call_tuple_of (by rfl) G.tuple (by decide +kernel) (pa_cons (pe_op op_cat (pe_slice sl_listS (pv 1) po_none (po_some (pe_un un_neg pe_int))) (pv 3)) pa_nil)))))))))))), ?_⟩
    obtain ⟨t, k, rfl, hW, hk, hd, q1, q2⟩ := h
    have tl : t.length ≤ sizeLine := by
      have := hW.len
      rw [sizeLine_eq]
      omega
    refine ⟨_, rfl, ⟨_, rfl⟩, t, ":", rfl, rfl, rfl, by have := hW.len; rw [sizeLine_eq]; omega, fun P hP => ?_⟩
    have S1 : Same H (upd H P (.lst ((Txt.split t ":").map V.str))) := same_upd hP
    have eP : upd H P (.lst ((Txt.split t ":").map V.str)) P = some (.lst ((pcs t).map V.str)) := upd_same
    generalize upd H P (.lst ((Txt.split t ":").map V.str)) = J at S1 eP ⊢
    have sJ : ∀ {s}, H s ≠ none → ∀ {J'}, Same J J' → J' s ≠ none := fun {s} hs {J'} S' => by
      cases e : H s with
      | none => exact absurd e hs
      | some o => rw [S' _ _ (S1 _ _ e)]; exact fun z => by cases z
    have hne := pcs_ne t
    have hok := hW.ok
    refine ⟨fun σ J' => ∃ v2 v3, σ = [some (.str t), some (.ref P), v2, v3] ∧ J' = J ∧ ((pcs t).head? = some "marked" → wB t = false), ?_, ?_⟩
    by_cases hc : ∃ nn kk p r, pcs t = ("marked" : Str) :: nn :: kk :: p :: r
    · obtain ⟨nn, kk, p, r, hp⟩ := hc
      obtain ⟨w1, w2⟩ := wB_mark hp
      rw [hp] at eP hok
      have okn := hok nn (by simp)
      have okk := hok kk (by simp)
      have hl3 : ((3 : Int) < ((("marked" : Str) :: nn :: kk :: p :: r).map V.str).length) := by
        rw [List.length_map]
        simp only [List.length_cons]
        omega
      refine ⟨_, rfl, P, _, _, _, rfl, rfl, SqL.of eP, atI_nat (j := 0) rfl, rfl, _, rfl, itY ?_⟩
      refine ⟨_, rfl, P, _, rfl, .inl (SqL.of eP), _, _, rfl, rfl, _, rfl, ?_⟩
      rw [decide_eq_true hl3]
      refine iteT ⟨_, rfl, P, _, _, _, rfl, rfl, SqL.of eP, atI_nat (j := 1) rfl, _, rfl, P, _, _, _, rfl, rfl, SqL.of eP, atI_nat (j := 2) rfl, nn, kk, rfl, rfl, ?_, 44, nn ++ kk, rfl, rfl, _, rfl, ?_⟩
      · have := okn.len
        have := okk.len
        rw [sizeLine_eq]
        omega
      have em : decide (44 ∈ (nn ++ kk).cps.toList) = !(freeB nn && freeB kk) := by
        rw [cat_list]
        show _ = !((!decide (44 ∈ nn.cps.toList)) && (!decide (44 ∈ kk.cps.toList)))
        by_cases a : 44 ∈ nn.cps.toList <;> by_cases b : 44 ∈ kk.cps.toList <;> simp [a, b]
      rw [em, Bool.not_not]
      refine ite2 (fun hf => ?_) (fun hf => ?_)
      · rw [hf, Bool.true_and] at w1
        have hfr := pcs_free t
        rw [hp] at hfr
        have e2 : pcs (Txt.join ":" (p :: r)) = p :: r := pcs_of (List.cons_ne_nil _ _) fun x hx => hfr x (List.mem_cons_of_mem _ (List.mem_cons_of_mem _ (List.mem_cons_of_mem _ hx)))
        have hW2 : Wee k (Txt.join ":" (p :: r)) := by
          have hfw := hW.few
          rw [hp] at hfw
          simp only [List.length_cons] at hfw
          exact Wee.of (fun x hx => hok x (List.mem_cons_of_mem _ (List.mem_cons_of_mem _ (List.mem_cons_of_mem _ hx)))) (by simp only [List.length_cons]; omega) (by omega)
        have hd2 : (mkL (pcs (Txt.join ":" (p :: r)))).1.length < n := by
          rw [w2] at hd
          have hd : (mkL (pcs (Txt.join ":" (p :: r)))).1.length + 1 < n + 1 := hd
          omega
        have ecut : cutV ((("marked" : Str) :: nn :: kk :: p :: r).map V.str) (some 3) none = (p :: r).map V.str := by
          unfold cutV
          have e : HT.sIx ((("marked" : Str) :: nn :: kk :: p :: r).map V.str).length 0 (some 3) = 3 := by
            rw [show (some (3 : Int)) = some ((3 : Nat) : Int) from rfl, HT.sIx_nat, List.length_map]
            simp only [List.length_cons]
            omega
          rw [e, HT.sIx_none]
          show ((p :: r).map V.str).take _ = _
          rw [List.take_of_length_le]
          rw [List.length_map, List.length_map]
          simp only [List.length_cons]
          omega
        refine ⟨⟨_, rfl⟩, _, rfl, 3, rfl, P, _, rfl, SqL.of eP, fun p2 J2 hp2 S2 e2' => ?_⟩
        rw [ecut] at e2'
        have jl := join_le (s := ":") (B := 80) (by decide) (p :: r) fun x hx => (hok x (List.mem_cons_of_mem _ (List.mem_cons_of_mem _ (List.mem_cons_of_mem _ hx)))).len
        have hfw := hW.few
        rw [hp] at hfw
        simp only [List.length_cons] at hfw jl
        have sl := sum_le (p :: r) fun x hx => (hok x (List.mem_cons_of_mem _ (List.mem_cons_of_mem _ (List.mem_cons_of_mem _ hx)))).len
        refine ⟨":", p2, p :: r, rfl, rfl, .inl (SqL.of e2'), ?_, Txt.join ":" (p :: r), k, rfl, hW2, hk, hd2, fun hb H3 S3 => ?_, fun hb => ?_⟩
        · have e1 : (":" : Str).length = 1 := rfl
          rw [e1, List.length_cons]
          simp only [List.length_cons] at sl
          omega
        · refine ⟨_, rfl, rfl, _, rfl, iteT ?_⟩
          rw [← w1] at hb
          exact q1 hb H3 ((S1.trans S2).trans S3)
        · rw [← w1] at hb
          obtain ⟨ms, d, hm, hwf, q⟩ := q2 hb
          rw [w2] at hm
          injection hm with hm1 hm2
          cases ms with
          | nil => cases hm1
          | cons pm ms =>
          injection hm1 with hm1 hm3
          subst hm1
          refine ⟨ms, d, by rw [← hm3, ← hm2], hwf, fun v H3 S3 hS => ?_⟩
          obtain ⟨b, rfl⟩ := (hS P (by rw [S2 _ _ eP]; exact fun z => by cases z)).ref
          refine ⟨_, rfl, rfl, _, rfl, iteF ?_⟩
          have eP3 := S3 _ _ (S2 _ _ eP)
          refine ⟨_, rfl, P, _, _, _, rfl, rfl, SqL.of eP3, atI_nat (j := 1) rfl, _, rfl, P, _, _, _, rfl, rfl, SqL.of eP3, atI_nat (j := 2) rfl, _, rfl, by show 4 ≤ 1000; decide, fun tt H4 ht S4 e4 => ?_⟩
          have SH := ((S1.trans S2).trans S3).trans S4
          refine q _ _ SH fun s hs => ⟨tt, .ref b, rfl, fun z => ?_, e4, (hS s (sJ hs S2)).same S4⟩
          have := sJ hs (S2.trans S3)
          rw [← z] at this
          exact this ht
      · refine ⟨_, _, rfl, rfl, fun _ => ?_⟩
        rw [w1, Bool.eq_false_iff.mpr hf]
        rfl
    · -- no mark ahead
      obtain ⟨w1, w2⟩ := wB_plain hc
      have hmk : (pcs t).head? = some "marked" → wB t = false := fun h => by
        rw [w1]
        cases e : pcs t with
        | nil => exact absurd e hne
        | cons p0 r =>
          rw [e] at h
          obtain rfl := Option.some.inj h
          exact plB_none (by decide +kernel) (by decide +kernel) (by decide +kernel) (by decide +kernel) (by decide +kernel)
      cases e : pcs t with
      | nil => exact absurd e hne
      | cons p0 r =>
      rw [e] at eP hc
      have eP : J P = some (.lst (V.str p0 :: r.map V.str)) := eP
      refine ⟨_, rfl, P, _, _, _, rfl, rfl, SqL.of eP, atI_nat (j := 0) rfl, rfl, _, rfl, ?_⟩
      refine ite2 (fun h0 => ?_) (fun h0 => ⟨_, _, rfl, rfl, by rw [← e]; exact hmk⟩)
      have e0 : p0 = "marked" := by have := of_decide_eq_true h0; injection this
      subst e0
      refine ⟨_, rfl, P, _, rfl, .inl (SqL.of eP), _, _, rfl, rfl, _, rfl, ?_⟩
      have hn : ¬ ((3 : Int) < ((V.str "marked" :: r.map V.str).length : Nat)) := by
        rw [List.length_cons, List.length_map]
        match r, hc with
        | [], _ => decide
        | [_], _ => exact (by decide : ¬ (3 : Int) < 2)
        | [_, _], _ => exact (by decide : ¬ (3 : Int) < 3)
        | a :: b :: c :: r, hc => exact absurd ⟨a, b, c, r, rfl⟩ hc
      rw [decide_eq_false hn]
      exact iteF ⟨_, _, rfl, rfl, by rw [← e]; exact hmk⟩
    rintro σ J' ⟨v2, v3, rfl, rfl, hmk⟩
    have plain : ∀ {p0 : Str} {r : List Str}, pcs t = p0 :: r → p0 ≠ "marked" → wB t = plB (p0 :: r) ∧ mkL (pcs t) = ([], p0 :: r) := fun e h0 => by
      obtain ⟨w1, w2⟩ := wB_plain (t := t) (fun ⟨a, b, c, d, e2⟩ => h0 (by rw [e] at e2; exact (List.cons.inj e2).1))
      rw [w1, w2, e]
      exact ⟨rfl, rfl⟩
    have ecom : (44 ∈ t.cps.toList) ↔ ∃ p ∈ pcs t, 44 ∈ p.cps.toList := by
      have := join_has (s := ":") (c := 44) (by decide) (pcs t)
      rwa [pcs_join] at this
    cases e : pcs t with
    | nil => exact absurd e hne
    | cons p0 r =>
    rw [e] at eP hok hmk ecom
    have eP : J' P = some (.lst (V.str p0 :: r.map V.str)) := eP
    have hl : (V.str p0 :: r.map V.str).length = r.length + 1 := by rw [List.length_cons, List.length_map]
    have lenq : ∀ k : Nat, decide (V.int ((V.str p0 :: r.map V.str).length : Nat) = V.int (k : Nat)) = decide (r.length + 1 = k) := fun k => by
      rw [hl]
      exact decide_eq_decide.mpr ⟨fun z => by injection z with z; omega, fun z => by rw [z]⟩
    -- lists
    refine ⟨_, rfl, P, _, _, _, rfl, rfl, SqL.of eP, atI_nat (j := 0) rfl, rfl, _, rfl, ?_⟩
    have inq : inV (.str p0) [V.str "marked", V.str "listed"] = decide (p0 = "marked" ∨ p0 = "listed") := by
      unfold inV
      simp only [List.any_cons, List.any_nil, eqV, Bool.or_false]
      by_cases h1 : p0 = "marked"
      · subst h1; simp
      · by_cases h2 : p0 = "listed"
        · subst h2; simp
        · have a : ((("marked" : Str) == p0) : Bool) = false := beq_eq_false_iff_ne.mpr (Ne.symm h1)
          have b : ((("listed" : Str) == p0) : Bool) = false := beq_eq_false_iff_ne.mpr (Ne.symm h2)
          simp [h1, h2, a, b]
    by_cases hL : p0 = "listed"
    · subst hL
      obtain ⟨w1, w2⟩ := plain e (by decide +kernel)
      rw [plB_listed] at w1
      refine itY ⟨_, rfl, P, _, rfl, .inl (SqL.of eP), rfl, _, rfl, ?_⟩
      rw [show decide (V.int ((V.str "listed" :: r.map V.str).length : Nat) = V.int 2) = decide (r.length + 1 = 2) from lenq 2]
      refine ite2 (fun h2 => ?_) (fun h2 => ?_)
      · rw [h2] at w1
        obtain ⟨x, rfl⟩ := len1 (of_decide_eq_true h2)
        have okx := hok x (by simp)
        have xl := okx.len
        obtain ⟨ms, d, hm, hwf, q⟩ := q2 w1
        rw [w2] at hm
        injection hm with hm1 hm2
        subst hm1
        refine ⟨_, rfl, P, _, _, _, rfl, rfl, SqL.of eP, atI_nat (j := 1) rfl, ⟨_, rfl⟩, x, ",", rfl, rfl, rfl, by rw [sizeLine_eq]; omega, fun pl hpl => ?_⟩
        have S2 : Same J' (upd J' pl (.lst ((Txt.split x ",").map V.str))) := same_upd hpl
        have e2 : upd J' pl (.lst ((Txt.split x ",").map V.str)) pl = some (.lst ((Txt.split x ",").map V.str)) := upd_same
        generalize upd J' pl (.lst ((Txt.split x ",").map V.str)) = J2 at S2 e2 ⊢
        refine ⟨by show 2 ≤ 1000; decide, fun tt J3 ht S3 e3 => ?_⟩
        have S23 := S2.trans S3
        refine q _ _ (S1.trans S23) fun s hs => ?_
        cases hwf with
        | word => cases hm2
        | number => cases hm2
        | fixed => exact absurd (List.cons.inj hm2).1 (by decide +kernel)
        | ended => cases hm2
        | @listed ts c1 c2 c3 =>
          have hx : x = Txt.join "," ts := by
            have z := (List.cons.inj (List.cons.inj hm2).2).1
            rw [els_str] at z
            exact z
          have es : Txt.split x "," = ts := by rw [hx]; exact split_join (c := 44) c1 c2
          rw [es] at e2
          refine ⟨tt, .ref pl, rfl, fun z => ?_, e3, ⟨pl, rfl, S3 _ _ e2⟩, fun c hc z => ?_⟩
          · have := sJ hs S2
            rw [← z] at this
            exact this ht
          · injection hc with hc
            have := sJ hs (Same.refl _)
            rw [← z, ← hc] at this
            exact this hpl
      · rw [Bool.eq_false_iff.mpr h2] at w1
        refine ⟨_, rfl, 44, t, rfl, rfl, _, rfl, ?_⟩
        refine ite2 (fun h3 => iteT (q1 w1 _ S1)) (fun h3 => ?_)
        refine ⟨_, rfl, P, _, _, _, rfl, rfl, SqL.of eP, atI_nat (j := 0) rfl, by show 2 ≤ 1000; decide, fun p4 J4 hp4 S4 e4 => ⟨p4, _, rfl, .inr (SqT.of e4), rfl, rfl, _, rfl, ?_⟩⟩
        exact iteT (q1 w1 _ (S1.trans S4))
    refine itN (decide_eq_false fun z => hL (by injection z)) ?_
    refine ⟨_, rfl, 44, t, rfl, rfl, _, rfl, ?_⟩
    refine ite2 (fun h3 => ?_) (fun h3 => ?_)
    · refine iteT (q1 ?_ _ S1)
      by_cases hM : p0 = "marked"
      · exact hmk (by rw [hM]; rfl)
      · obtain ⟨w1, w2⟩ := plain e hM
        rw [w1]
        cases z : plB (p0 :: r) with
        | false => rfl
        | true =>
          obtain ⟨p, hp, h4⟩ := ecom.mp (of_decide_eq_true h3)
          exact absurd h4 (plB_free z hL p hp)
    have nocom : ∀ p ∈ p0 :: r, 44 ∉ p.cps.toList := fun p hp h4 => h3 (decide_eq_true (ecom.mpr ⟨p, hp, h4⟩))
    refine ⟨_, rfl, P, _, _, _, rfl, rfl, SqL.of eP, atI_nat (j := 0) rfl, by show 2 ≤ 1000; decide, fun p4 J4 hp4 S4 e4 => ⟨p4, _, rfl, .inr (SqT.of e4), rfl, rfl, _, rfl, ?_⟩⟩
    show if inV (.str p0) [V.str "marked", V.str "listed"] = true then _ else _
    rw [inq]
    have S14 := S1.trans S4
    have eP4 := S4 _ _ eP
    refine ite2 (fun h4 => ?_) (fun h4 => ?_)
    · rcases of_decide_eq_true h4 with hM | hM
      · exact q1 (hmk (by rw [hM]; rfl)) _ S14
      · exact absurd hM hL
    have hM : p0 ≠ "marked" := fun z => h4 (decide_eq_true (.inl z))
    obtain ⟨w1, w2⟩ := plain e hM
    -- fixed
    refine ⟨_, rfl, P, _, _, _, rfl, rfl, SqL.of eP4, atI_nat (j := 0) rfl, rfl, _, rfl, ?_⟩
    by_cases hF : p0 = "fixed"
    · subst hF
      refine itY ⟨_, rfl, P, _, rfl, .inl (SqL.of eP4), rfl, _, rfl, ?_⟩
      rw [show decide (V.int ((V.str "fixed" :: r.map V.str).length : Nat) = V.int 2) = decide (r.length + 1 = 2) from lenq 2]
      refine ite2 (fun h2 => ?_) (fun h2 => ?_)
      · obtain ⟨x, rfl⟩ := len1 (of_decide_eq_true h2)
        have okx := hok x (by simp)
        have xl := okx.len
        rw [plB_fixed] at w1
        refine ⟨_, rfl, P, _, _, _, rfl, rfl, SqL.of eP4, atI_nat (j := 1) rfl, x, rfl, by omega, okx.asc, fun J5 S5 => ⟨_, rfl, ?_⟩⟩
        have S15 := S14.trans S5
        refine ite2 (fun h5 => ?_) (fun h5 => ?_)
        · rw [h5] at w1
          obtain ⟨ms, d, hm, hwf, q⟩ := q2 w1
          rw [w2] at hm
          injection hm with hm1 hm2
          subst hm1
          obtain ⟨v, rfl, hv⟩ := short_is h5
          have t9 := T9 hv
          refine ⟨_, rfl, P, _, _, _, rfl, rfl, SqL.of (S5 _ _ eP4), atI_nat (j := 1) rfl, T v, v, rfl, int_T (by omega), by omega, by show 2 ≤ 1000; decide, fun tt J6 ht S6 e6 => ?_⟩
          refine q _ _ (S15.trans S6) fun s hs => ?_
          cases hwf with
          | word => cases hm2
          | number => cases hm2
          | listed => exact absurd (List.cons.inj hm2).1 (by decide +kernel)
          | ended => cases hm2
          | @fixed w c =>
            have hx : T v = T w := (List.cons.inj (List.cons.inj hm2).2).1
            rw [← T_inj hx]
            refine ⟨tt, rfl, fun z => ?_, e6⟩
            have := sJ hs (S4.trans S5)
            rw [← z] at this
            exact this ht
        · rw [Bool.eq_false_iff.mpr h5] at w1
          exact q1 w1 _ S15
      · rw [plB_fixedN (fun z => h2 (decide_eq_true (by omega)))] at w1
        exact q1 w1 _ S14
    refine itN (decide_eq_false fun z => hF (by injection z)) ?_
    -- words, numbers, ended ones
    refine ⟨_, rfl, P, _, _, _, rfl, rfl, SqL.of eP4, atI_nat (j := 0) rfl, _, rfl, P, _, rfl, .inl (SqL.of eP4), by show 2 ≤ 1000; decide, fun p5 J5 hp5 S5 e5 => ?_⟩
    refine ⟨by show 2 ≤ 1000; decide, fun k1 J6 hk1 S6 e6 => ⟨by show 2 ≤ 1000; decide, fun k2 J7 hk2 S7 e7 => ⟨by show 2 ≤ 1000; decide, fun k3 J8 hk3 S8 e8 => ⟨by show 3 ≤ 1000; decide, fun k4 J9 hk4 S9 e9 => ?_⟩⟩⟩⟩
    have S59 := ((S6.trans S7).trans S8).trans S9
    have S19 := S14.trans (S5.trans S59)
    have eP9 := (S5.trans S59) _ _ eP4
    have okp := hok p0 (by simp)
    refine ⟨.tuple [.str p0, .int ((V.str p0 :: r.map V.str).length : Nat)], kindsD, .tup (SqT.of (S59 _ _ e5)) (.cons (.str _) (.cons (.int _) .nil)),
      .tup (SqT.of e9) (.cons (.tup (SqT.of (((S7.trans S8).trans S9) _ _ e6)) (.cons (.str _) (.cons (.int _) .nil))) (.cons (.tup (SqT.of ((S8.trans S9) _ _ e7)) (.cons (.str _) (.cons (.int _) .nil))) (.cons (.tup (SqT.of (S9 _ _ e8)) (.cons (.str _) (.cons (.int _) .nil))) .nil))), ?_, by decide +kernel, _, rfl, ?_⟩
    · refine Bool.and_eq_true_iff.mpr ⟨?_, decide_eq_true (by show max 0 (max 0 0) + 1 ≤ 64; decide)⟩
      show ((PyData.str p0).canLay0 && (_ && _)) = true
      rw [strOk_of okp.asc]
      rfl
    rw [kinds_any]
    have hl4 : (V.str p0 :: r.map V.str).length = r.length + 1 := hl
    rw [hl4]
    refine ite2 (fun h6 => ?_) (fun h6 => ?_)
    · refine q1 ?_ _ S19
      have h6 : (decide (p0 = "word" ∧ r.length + 1 = 4) || (decide (p0 = "number" ∧ r.length + 1 = 3) || decide (p0 = "ended" ∧ r.length + 1 = 5))) = false := by
        cases z : (decide (p0 = "word" ∧ r.length + 1 = 4) || (decide (p0 = "number" ∧ r.length + 1 = 3) || decide (p0 = "ended" ∧ r.length + 1 = 5))) with
        | false => rfl
        | true => rw [z] at h6; cases h6
      rw [Bool.or_eq_false_iff, Bool.or_eq_false_iff] at h6
      obtain ⟨n1, n2, n3⟩ := h6
      rw [w1]
      exact plB_shape (fun x _ => by rw [decide_eq_false hF, decide_eq_false hL]; rfl) (fun x y er => decide_eq_false fun z => of_decide_eq_false n2 ⟨z, by rw [er]; rfl⟩) (fun x y z er => decide_eq_false fun z => of_decide_eq_false n1 ⟨z, by rw [er]; rfl⟩) (fun x y z u er => decide_eq_false fun z => of_decide_eq_false n3 ⟨z, by rw [er]; rfl⟩)
    have h6 : (decide (p0 = "word" ∧ r.length + 1 = 4) || (decide (p0 = "number" ∧ r.length + 1 = 3) || decide (p0 = "ended" ∧ r.length + 1 = 5))) = true := by
      cases z : (decide (p0 = "word" ∧ r.length + 1 = 4) || (decide (p0 = "number" ∧ r.length + 1 = 3) || decide (p0 = "ended" ∧ r.length + 1 = 5))) with
      | true => rfl
      | false => rw [z] at h6; exact absurd rfl h6
    obtain ⟨ini, l, m, hr, wsp, hin⟩ : ∃ (ini : List Str) (l m : Str), p0 :: r = ini ++ [l, m] ∧ plB (p0 :: r) = spansB l m ∧ ini.length ≤ 3 := by
      rcases Bool.or_eq_true_iff.mp h6 with h6 | h6
      · obtain ⟨z1, z2⟩ := of_decide_eq_true h6
        obtain ⟨a, l, m, rfl⟩ := len3 z2
        subst z1
        refine ⟨["word", a], l, m, rfl, ?_, by show 2 ≤ 3; decide⟩
        rw [plB_word, free_of (nocom a (by simp)), Bool.true_and]
      · rcases Bool.or_eq_true_iff.mp h6 with h6 | h6
        · obtain ⟨z1, z2⟩ := of_decide_eq_true h6
          obtain ⟨l, m, rfl⟩ := len2 z2
          subst z1
          exact ⟨["number"], l, m, rfl, plB_number, by decide⟩
        · obtain ⟨z1, z2⟩ := of_decide_eq_true h6
          obtain ⟨a, x, l, m, rfl⟩ := len4 z2
          subst z1
          refine ⟨["ended", a, x], l, m, rfl, ?_, by show 3 ≤ 3; decide⟩
          rw [plB_ended, free_of (nocom a (by simp)), free_of (nocom x (by simp)), Bool.true_and, Bool.true_and]
    have eP9 : J9 P = some (.lst (ini.map V.str ++ [V.str l, V.str m])) := by
      have z := congrArg (List.map V.str) hr
      rw [List.map_append] at z
      rw [eP9]
      exact congrArg (fun q => some (HO.lst q)) z
    have okl := hok l (by rw [hr]; simp)
    have okm := hok m (by rw [hr]; simp)
    have a2 : atI (ini.map V.str ++ [V.str l, V.str m]) (-2) = some (.str l) := by
      have hz : (ini.map V.str).length ≤ 3 := by rw [List.length_map]; exact hin
      match ini.map V.str, hz with
      | [], _ => rfl
      | [_], _ => rfl
      | [_, _], _ => rfl
      | [_, _, _], _ => rfl
    have a1 : atI (ini.map V.str ++ [V.str l, V.str m]) (-1) = some (.str m) := by
      have hz : (ini.map V.str).length ≤ 3 := by rw [List.length_map]; exact hin
      match ini.map V.str, hz with
      | [], _ => rfl
      | [_], _ => rfl
      | [_, _], _ => rfl
      | [_, _, _], _ => rfl
    have c2 : cutV (ini.map V.str ++ [V.str l, V.str m]) none (some (-2)) = ini.map V.str := by
      have hz : (ini.map V.str).length ≤ 3 := by rw [List.length_map]; exact hin
      match ini.map V.str, hz with
      | [], _ => rfl
      | [_], _ => rfl
      | [_, _], _ => rfl
      | [_, _, _], _ => rfl
    rw [wsp] at w1
    refine ⟨_, rfl, _, rfl, P, _, _, _, rfl, rfl, SqL.of eP9, a2, _, rfl, _, rfl, P, _, _, _, rfl, rfl, SqL.of eP9, a1, l, m, rfl, okl.len, okm.len, okl.asc, okm.asc, fun hb p6 J10 S10 e10 => ?_, fun hb nn v hl hnn hm hv p6 J10 S10 e10 => ?_⟩
    · rw [hb] at w1
      refine ⟨_, rfl, by show 0 ≤ 1000; decide, fun pe J11 hpe S11 e11 => ⟨_, _, .lst (SqL.of (S11 _ _ e10)) .nil, .lst (SqL.of e11) .nil, by decide +kernel, by decide +kernel, _, rfl, iteT ?_⟩⟩
      exact q1 w1 _ ((S19.trans S10).trans S11)
    · rw [hb] at w1
      obtain ⟨ms, d, hmm, hwf, q⟩ := q2 w1
      rw [w2] at hmm
      injection hmm with hm1 hm2
      subst hm1
      subst hl hm
      have dv : Dp K J10 v (dV v) := by
        rcases hv with rfl | ⟨k, rfl, _⟩
        · exact .non
        · exact .int _
      have shv : (dV v).canLay0 = true ∧ (dV v).depth = 0 := by
        rcases hv with rfl | ⟨k, rfl, _⟩ <;> exact ⟨rfl, rfl⟩
      refine ⟨_, rfl, by show 0 ≤ 1000; decide, fun pe J11 hpe S11 e11 => ⟨.list [.int (nn : Nat), dV v], .list [], .lst (SqL.of (S11 _ _ e10)) (.cons (.int _) (.cons ?_ .nil)), .lst (SqL.of e11) .nil, ?_, by decide +kernel, _, rfl, ?_⟩⟩
      · rcases hv with rfl | ⟨k, rfl, _⟩
        · exact .non
        · exact .int _
      · rcases hv with rfl | ⟨k, rfl, _⟩ <;> rfl
      have ef : PyData.eqv (.list [.int (nn : Nat), dV v]) (.list []) = false := rfl
      rw [ef]
      refine iteF ?_
      have eP11 := (S10.trans S11) _ _ eP9
      refine ⟨_, rfl, _, rfl, -2, rfl, P, _, rfl, SqL.of eP11, fun p8 J12 hp8 S12 e12 => ?_⟩
      rw [c2] at e12
      refine ⟨_, rfl, p8, p6, _, _, rfl, rfl, e12, S12 _ _ (S11 _ _ e10), by rw [List.length_map, sizeLine_eq]; simp only [List.length_cons, List.length_nil]; omega, fun p9 hp9 => ?_⟩
      refine ⟨p9, _, rfl, .inl ⟨SqL.of upd_same, fun tt htt => ?_⟩⟩
      have S13 : Same J12 (upd J12 p9 (.lst (ini.map V.str ++ [.int (nn : Nat), v]))) := same_upd hp9
      have S14' := S13.trans (same_upd (o := .tup (ini.map V.str ++ [.int (nn : Nat), v])) htt)
      have SH := (((S19.trans S10).trans S11).trans S12).trans S14'
      refine q _ _ SH fun s hs => ?_
      have ntt : tt ≠ s := fun z => by
        have := sJ hs ((((((S4.trans S5).trans S59).trans S10).trans S11).trans S12).trans S13)
        rw [← z] at this
        exact this htt
      have ett : upd (upd J12 p9 (.lst (ini.map V.str ++ [.int (nn : Nat), v]))) tt (.tup (ini.map V.str ++ [.int (nn : Nat), v])) tt = some (.tup (ini.map V.str ++ [.int (nn : Nat), v])) := upd_same
      rw [hr] at hm2
      cases hwf with
      | @fixed w c =>
        have z := List.append_inj' (s₂ := ([] : List Str)) (t₂ := (["fixed", T w] : List Str)) hm2 rfl
        have z2 := (List.cons.inj z.2).1
        rw [z.1] at hr
        exact absurd ((List.cons.inj hr).1.trans z2) hF
      | @listed ts c1 c2 c3 =>
        have z := List.append_inj' (s₂ := ([] : List Str)) (t₂ := (["listed", Txt.join "," ((LX.lst (ts.map V.str)).els.map strV)] : List Str)) hm2 rfl
        have z2 := (List.cons.inj z.2).1
        rw [z.1] at hr
        exact absurd ((List.cons.inj hr).1.trans z2) hL
      | @number l m c e2 =>
        have z := List.append_inj' (s₂ := (["number"] : List Str)) (t₂ := ([T l, mostT m] : List Str)) hm2 rfl
        have z2 := List.cons.inj z.2
        obtain rfl := T_inj z2.1
        obtain rfl := mostT_inj hv e2 (List.cons.inj z2.2).1
        rw [z.1] at ett ⊢
        exact ⟨tt, rfl, ntt, ett⟩
      | @word x l m a b c e2 =>
        have z := List.append_inj' (s₂ := (["word", x] : List Str)) (t₂ := ([T l, mostT m] : List Str)) hm2 rfl
        have z2 := List.cons.inj z.2
        obtain rfl := T_inj z2.1
        obtain rfl := mostT_inj hv e2 (List.cons.inj z2.2).1
        rw [z.1] at ett ⊢
        exact ⟨tt, rfl, ntt, ett⟩
      | @ended x y l m a b a2 b2 c e2 =>
        have z := List.append_inj' (s₂ := (["ended", x, y] : List Str)) (t₂ := ([T l, mostT m] : List Str)) hm2 rfl
        have z2 := List.cons.inj z.2
        obtain rfl := T_inj z2.1
        obtain rfl := mostT_inj hv e2 (List.cons.inj z2.2).1
        rw [z.1] at ett ⊢
        exact ⟨tt, rfl, ntt, ett⟩

end
end L2.K79

set_option Elab.async false
set_option linter.all false
set_option maxRecDepth 100000
set_option maxHeartbeats 4000000
/-! range(n) as a value; list(range(..)). -/
namespace L2.Jk
open PySem PySem.W PySem.Spec PySem.Calls PyProof.Rows
section
variable {X : Cx}
theorem cr_range1 : CallR X (.type "range") (fun vs H Q => ∃ j, vs = [V.int j] ∧ ∀ p, H p = none → Q (.ref p) (upd H p (.rng 0 j))) := by
  intro pins s σ H vs us Q I r h
  obtain ⟨j, rfl, q⟩ := h
  obtain ⟨u1, rfl, ri⟩ := vals1 r
  obtain ⟨t, rfl⟩ := ri
  refine call_range_1 ⟨.ref s.heap.objs.size, upd H s.heap.objs.size (.rng 0 j), I.laid (t' := s.toks + 1 + 1) (fun b o e => Heap.get?_push_of_some _ e) (Nat.le_refl _) ?_, rfl, q _ (I.hok.fresh (Nat.le_refl _))⟩
  exact ⟨s.toks, t, s.toks + 1, Heap.get?_push_size _ rfl⟩
def intsV (lo : Int) (n : Nat) : List V := (List.range n).map fun i : Nat => V.int (lo + (i : Int))
theorem rng_size (lo : Int) (n : Nat) : Builtin.Range.rangeSize lo (lo + n) 1 = (n : Int) := by
  unfold Builtin.Range.rangeSize
  rw [if_pos (by decide)]
  split
  · rw [Int.ediv_one]
    omega
  · omega
theorem call_list_rng (hc : X.calm = true) : CallR X (.type "list") (fun xs H Q => ∃ (p : Addr) (lo : Int) (n : Nat), xs = [.ref p] ∧ H p = some (.rng lo (lo + n)) ∧ -1000 ≤ lo ∧ lo ≤ 1000 ∧ n ≤ 1000 ∧
    ∀ l H', H l = none → Same H H' → H' l = some (.lst (intsV lo n)) → Q (.ref l) H') := by
  intro pins s σ H xs us Q I r h
  obtain ⟨p, lo, n, rfl, hp, h0, h1, hn, q⟩ := h
  obtain ⟨u, rfl, ru⟩ := vals1 r
  cases ru
  obtain ⟨t, u, v, e⟩ := (show ObjOk X.prog X.w H s.heap p (.rng lo (lo + n)) from I.hok p _ hp)
  refine call_list_range (n := n) (I.ok.hd hc) e (small_one (by omega) (by omega) (by omega) (by omega)) (rng_size lo n) (by omega) (fun h' tk acc c k hp2 ha => ?_)
  obtain ⟨al, ai⟩ := ha
  have vs : Vals (intsV lo n) acc.toList := by
    refine paired_of (show (intsV lo n).length = acc.toList.length by
      have e : acc.toList.length = acc.size := Array.length_toList
      rw [e, al]
      simp [intsV]) fun i x v hx hv => ?_
    have hi : i < n := by
      have := (List.getElem?_eq_some_iff.mp hx).1
      simpa [intsV] using this
    obtain ⟨t', e⟩ := ai i v (by rw [← Array.getElem?_toList]; exact hv)
    subst e
    have e2 : x = V.int (lo + (i : Int)) := by
      unfold intsV at hx
      rw [List.getElem?_map, List.getElem?_range hi] at hx
      exact (Option.some.inj hx).symm
    subst e2
    exact ⟨t', by rw [Int.mul_one]⟩
  have nf := I.fresh
  refine ⟨.ref s.heap.objs.size, _, I.laid (t' := tk) (h' := h') (o := .lst (intsV lo n)) k (Nat.le_refl _) ⟨?_, acc.toList, c, vs, by simpa using hp2⟩, rfl, q _ _ nf (same_upd nf) upd_same⟩
  simp only [intsV, List.length_map, List.length_range]
  rw [sizeLine_eq]
  omega
end
end L2.Jk

set_option Elab.async false
set_option linter.all false
set_option maxRecDepth 100000
set_option maxHeartbeats 4000000
/-! The law: what a field is refused for. -/
namespace L2.K79
open PySem PySem.W PySem.Spec PySem.Calls PyProof.Rows L2.Jk
/-- the texts of some numbers in a row -/
def rowT (l n : Nat) : Str := Txt.join "" ((List.range n).map fun i => T (l + i))
def manyB (l : Nat) : V → Option Nat
  | .int j => if j - (l : Int) < 100 then some ((j + 1 - (l : Int)).toNat) else none
  | _ => none
def sgnT : PD → Str
  | .word z _ m => (if decide (m = .int 0) = true then ("" : Str) else strV z) ++ ("" : Str)
  | .number l m => match manyB (intV l).toNat m with
    | some n => rowT (intV l).toNat n
    | none => DG
  | .fixed _ => DG
  | .listed x => Txt.join "" (x.els.map strV)
  | .ended z e _ m => (if decide (m = .int 0) = true then ("" : Str) else strV z) ++ strV e
theorem scal_mok {m : V} {i : Int} (h : MOk m) : scal m (.int i) = true := by
  rcases h with rfl | ⟨k, rfl, _⟩ <;> rfl
theorem atI_m1 {us : List V} {u : V} (h0 : 0 < us.length) (h : us[us.length - 1]? = some u) : atI us (-1) = some u := by
  have e : ixN us.length (-1) = some (us.length - 1) := by
    unfold ixN
    rw [if_neg (by decide), if_pos (by omega)]
    congr 1
    omega
  unfold atI
  rw [e]
  exact h
theorem atI_m2 {us : List V} {u : V} (h0 : 1 < us.length) (h : us[us.length - 2]? = some u) : atI us (-2) = some u := by
  have e : ixN us.length (-2) = some (us.length - 2) := by
    unfold ixN
    rw [if_neg (by decide), if_pos (by omega)]
    congr 1
    omega
  unfold atI
  rw [e]
  exact h
theorem sgn_num (l k : Nat) : sgnT (.number (.int (l : Nat)) (.int (k : Nat))) = if (k : Int) - (l : Int) < 100 then rowT l (((k : Int) + 1 - (l : Int)).toNat) else DG := by
  show (match (if (k : Int) - (l : Int) < 100 then some (((k : Int) + 1 - (l : Int)).toNat) else none) with | some n => rowT l n | none => DG) = _
  by_cases h : (k : Int) - (l : Int) < 100
  · rw [if_pos h, if_pos h]
  · rw [if_neg h, if_neg h]
def spSgn : Sp := fun vs H Q _ => ∃ (s : Addr) (v : V) (d : PD), vs = [v] ∧ PDAt s H v d ∧ WfP d ∧ BdP d ∧ ∀ H', Same H H' → Q (.str (sgnT d)) H'
section
variable {P : Program} {w : World} {K : Frag} {mg : Str → Option Value} {base : Heap} {f : Addr} {fd : FuncData}

abbrev s_law_signs_in : Stmt := top 58
theorem sc_law_signs_in : FnScope ["_law_spec", "_law_value"] ["_law_spec"] (defScope s_law_signs_in) := ⟨rfl, rfl, rfl, by decide +kernel, rfl, by decide +kernel, by decide +kernel⟩

theorem ok_law_signs_in (F : FunD K "_law_signs_in" "_law_signs_in" (defArgs s_law_signs_in) (defBody s_law_signs_in) (defScope s_law_signs_in) [] [] f fd) (G : GO P w K mg base) : FnOk P w K mg base CX0 1 f fd ["_law_spec"] spSgn := by
  refine F.ok (CX := CX0) sc_law_signs_in (fun vs H Q E h => ?_) (fun cdv A outer s H vs Q E hr h => ?_)
  · obtain ⟨_, _, _, rfl, _⟩ := h
    rfl
  · refine ⟨_, PSs.nox (pss_cons (ps_if (pt_cmpR op_eq (pe_ix ix_tup (pv 0) pe_int (fun _ _ => rfl)) pe_str (nomark _))
      (pss_one (ps_ret (pe_join pe_str (pe_ix ix_tup (pv 0) pe_int (fun _ _ => rfl)))))
      pss_nil)
    (pss_cons (ps_if (PW.pt (pw_and (pt_cmpR op_eq (pe_ix ix_tup (pv 0) pe_int (fun _ _ => rfl)) pe_str (nomark _)) (pw_and (pt_cmpR op_notN (pe_ix ix_tup (pv 0) pe_int (fun _ _ => rfl)) pe_non (nomark _)) (pw_and1 (pt_cmpR op_lt (pe_op op_sub (pe_ix ix_tup (pv 0) pe_int (fun _ _ => rfl)) (pe_ix ix_tup (pv 0) pe_int (fun _ _ => rfl))) pe_int (nomark _))))))
      (pss_one (ps_ret (pe_join pe_str (pe_lc (own := [("_law_value", 1)]) (g := gName 1) (tt := tYes) rfl sc_law_signs_in.nd (pi_range2 (by rfl) G.range (pa_cons (pe_ix ix_tup (pv 0) pe_int (fun _ _ => rfl)) (pa_cons (pe_op op_add (pe_ix ix_tup (pv 0) pe_int (fun _ _ => rfl)) pe_int) pa_nil))) (blkOk_by (N := ["_law_spec", "_law_value"]) (sc := defScope s_law_signs_in) (by decide +kernel)) (fun _ _ _ _ _ => pg_name (i := 1) sc_law_signs_in.nd rfl (Or.inl rfl)) (fun _ _ _ _ _ => pts_nil) (fun _ _ _ _ _ => (pe_callTy call_str_int (by rfl) G.str (by decide +kernel) (pa_cons (pv 1) pa_nil)))))))
      pss_nil)
    (pss_cons (ps_if (pt_cmpR op_in_seq (pe_ix ix_tup (pv 0) pe_int (fun _ _ => rfl)) (pe_tupS (pa_cons pe_str (pa_cons pe_str pa_nil))) (by rfl))
      (pss_one (ps_ret pe_str))
      pss_nil)
    (pss_one (ps_ret (pe_op op_add_str (pe_ifExp (pt_cmpR op_ne (pe_ix ix_tup (pv 0) (pe_un un_neg pe_int) (fun _ _ => rfl)) pe_int (nomark _)) (pe_ix ix_tup (pv 0) pe_int (fun _ _ => rfl)) pe_str) (pe_ifExp (pt_cmpR op_eq (pe_ix ix_tup (pv 0) pe_int (fun _ _ => rfl)) pe_str (nomark _)) (pe_ix ix_tup (pv 0) pe_int (fun _ _ => rfl)) pe_str))))))), ?_⟩
    obtain ⟨s, v, d, rfl, hP, hW, hB, q⟩ := h
    cases hW with
    | @listed ts c1 c2 c3 =>
      obtain ⟨b, u, rfl, nb, eb, ⟨u2, rfl, eu⟩, _⟩ := hP
      have hB : (ts.map V.str).length ≤ 12 ∧ ∀ v ∈ ts.map V.str, lenOf v ≤ 12 := hB
      have z := sum_le (B := 12) ts fun t ht => hB.2 (.str t) (List.mem_map.mpr ⟨t, ht, rfl⟩)
      have e0 : ("" : Str).length = 0 := rfl
      have zl := hB.1
      rw [List.length_map] at zl
      have q0 := q _ (Same.refl _)
      have eq0 : sgnT (.listed (.lst (ts.map V.str))) = Txt.join "" ts := by show Txt.join "" ((LX.lst (ts.map V.str)).els.map strV) = _; rw [els_str]
      rw [eq0] at q0
      refine ⟨_, rfl, b, _, _, _, rfl, rfl, SqT.of eb, atI_nat (j := 0) rfl, rfl, _, rfl, itY ?_⟩
      exact ⟨⟨_, rfl⟩, _, rfl, b, _, _, _, rfl, rfl, SqT.of eb, atI_nat (j := 1) rfl, "", u2, ts, rfl, rfl, .inl (SqL.of eu), by rw [e0]; omega, q0⟩
    | @number l m c e =>
      obtain ⟨b, rfl, nb, eb⟩ := hP
      refine ⟨_, rfl, b, _, _, _, rfl, rfl, SqT.of eb, atI_nat (j := 0) rfl, rfl, _, rfl, itN (by decide +kernel) ?_⟩
      refine ⟨_, rfl, b, _, _, _, rfl, rfl, SqT.of eb, atI_nat (j := 0) rfl, rfl, _, rfl, itY ?_⟩
      refine ⟨_, rfl, b, _, _, _, rfl, rfl, SqT.of eb, atI_nat (j := 2) rfl, rfl, _, rfl, ?_⟩
      have fin : sgnT (.number (.int (l : Nat)) m) = DG → ∀ {H2 : Hp}, Same H H2 → Q (.str DG) H2 := fun z _ S => by
        have q0 := q _ S
        rw [z] at q0
        exact q0
      rcases e with rfl | ⟨k, rfl, hk⟩
      · refine iteF (iteF ?_)
        refine ⟨_, rfl, b, _, _, _, rfl, rfl, SqT.of eb, atI_nat (j := 0) rfl, by show 2 ≤ 1000; decide, fun pe H2 _ S2 e2 => ⟨pe, _, rfl, .inr (SqT.of e2), rfl, rfl, _, rfl, ?_⟩⟩
        rw [show inV (.str "number") [.str "number", .str "fixed"] = true by decide +kernel]
        exact iteT (fin rfl S2)
      refine iteT ⟨_, rfl, b, _, _, _, rfl, rfl, SqT.of eb, atI_nat (j := 2) rfl, _, rfl, b, _, _, _, rfl, rfl, SqT.of eb, atI_nat (j := 1) rfl, _, _, rfl, rfl, _, _, rfl, rfl, _, rfl, ?_⟩
      refine ite2 (fun h1 => ?_) (fun h1 => ?_)
      rotate_left
      · refine ⟨_, rfl, b, _, _, _, rfl, rfl, SqT.of eb, atI_nat (j := 0) rfl, by show 2 ≤ 1000; decide, fun pe H2 _ S2 e2 => ⟨pe, _, rfl, .inr (SqT.of e2), rfl, rfl, _, rfl, ?_⟩⟩
        rw [show inV (.str "number") [.str "number", .str "fixed"] = true by decide +kernel]
        have z : ¬ ((k : Int) - (l : Int) < 100) := fun z => h1 (decide_eq_true z)
        exact iteT (fin (by rw [sgn_num, if_neg z]) S2)
      have z : (k : Int) - (l : Int) < 100 := of_decide_eq_true h1
      have eq0 : sgnT (.number (.int (l : Nat)) (.int (k : Nat))) = rowT l (((k : Int) + 1 - (l : Int)).toNat) := by
        rw [sgn_num, if_pos z]
      rw [eq0] at q
      refine ⟨⟨_, rfl⟩, _, rfl, b, _, _, _, rfl, rfl, SqT.of eb, atI_nat (j := 1) rfl, _, rfl, b, _, _, _, rfl, rfl, SqT.of eb, atI_nat (j := 2) rfl, _, _, rfl, rfl, (l : Int), (k : Int) + 1, rfl, ⟨by omega, by omega, by omega, by omega⟩, fun D hD => ?_⟩
      have hn : ((k : Int) + 1 - (l : Int)).toNat ≤ 100 := by omega
      refine lc_range (lo := (l : Int)) (n := ((k : Int) + 1 - (l : Int)).toNat) (LcP H D fun n => ((List.range n).map fun (i : Nat) => T (l + i)).map V.str) (LcP.start hD rfl) ?_ ?_
      · intro i J hi p
        have ei : (l : Int) + (i : Int) = ((l + i : Nat) : Int) := by omega
        refine ⟨rfl, _, rfl, _, rfl, ?_, ?_⟩
        · rw [ei]
          exact dg_log (by omega)
        · rw [ei]
          exact p.put (Same.refl _) (by rw [List.range_succ, List.map_append, List.map_append]; rfl) (by omega)
      · rintro J ⟨SJ, _, eJ, _⟩
        refine ⟨"", D, _, rfl, rfl, .inl (SqL.of eJ), ?_, q _ SJ⟩
        have a := sum_le (B := 10) ((List.range ((k : Int) + 1 - (l : Int)).toNat).map fun (i : Nat) => T (l + i)) fun t ht => by
          obtain ⟨i, hi, rfl⟩ := List.mem_map.mp ht
          have := List.mem_range.mp hi
          exact T_len (by decide) (by omega)
        have e0 : ("" : Str).length = 0 := rfl
        rw [List.length_map, List.length_range] at a
        rw [e0]
        omega
    | @fixed l c =>
      obtain ⟨b, rfl, nb, eb⟩ := hP
      refine ⟨_, rfl, b, _, _, _, rfl, rfl, SqT.of eb, atI_nat (j := 0) rfl, rfl, _, rfl, itN (by decide +kernel) ?_⟩
      refine ⟨_, rfl, b, _, _, _, rfl, rfl, SqT.of eb, atI_nat (j := 0) rfl, rfl, _, rfl, itN (by decide +kernel) (iteF ?_)⟩
      refine ⟨_, rfl, b, _, _, _, rfl, rfl, SqT.of eb, atI_nat (j := 0) rfl, by show 2 ≤ 1000; decide, fun pe H2 _ S2 e2 => ⟨pe, _, rfl, .inr (SqT.of e2), rfl, rfl, _, rfl, ?_⟩⟩
      rw [show inV (.str "fixed") [.str "number", .str "fixed"] = true by decide +kernel]
      exact iteT (q _ S2)
    | @word z l m a b' c e =>
      obtain ⟨b, rfl, nb, eb⟩ := hP
      refine ⟨_, rfl, b, _, _, _, rfl, rfl, SqT.of eb, atI_nat (j := 0) rfl, rfl, _, rfl, itN (by decide +kernel) ?_⟩
      refine ⟨_, rfl, b, _, _, _, rfl, rfl, SqT.of eb, atI_nat (j := 0) rfl, rfl, _, rfl, itN (by decide +kernel) (iteF ?_)⟩
      refine ⟨_, rfl, b, _, _, _, rfl, rfl, SqT.of eb, atI_nat (j := 0) rfl, by show 2 ≤ 1000; decide, fun pe H2 _ S2 e2 => ⟨pe, _, rfl, .inr (SqT.of e2), rfl, rfl, _, rfl, ?_⟩⟩
      rw [show inV (.str "word") [.str "number", .str "fixed"] = false by decide +kernel]
      refine iteF ?_
      have eb := S2 _ _ eb
      refine ⟨_, rfl, 1, rfl, b, _, _, _, rfl, rfl, SqT.of eb, atI_m1 (by show 0 < 4; decide) rfl, scal_mok e, _, rfl, ?_⟩
      have al := a.len
      have e0 : ("" : Str).length = 0 := rfl
      by_cases h0 : decide (m = .int 0) = true
      · have q0 := q _ S2
        rw [show sgnT (.word (.str z) (.int (l : Nat)) m) = ("" : Str) ++ ("" : Str) by show (if decide (m = .int 0) = true then ("" : Str) else _) ++ _ = _; rw [if_pos h0]] at q0
        rw [h0]
        refine iteF ?_
        refine ⟨_, rfl, b, _, _, _, rfl, rfl, SqT.of eb, atI_nat (j := 0) rfl, rfl, _, rfl, itN (by decide +kernel) ?_⟩
        exact ⟨_, _, rfl, rfl, by decide, q0⟩
      · have q0 := q _ S2
        rw [show sgnT (.word (.str z) (.int (l : Nat)) m) = z ++ ("" : Str) by show (if decide (m = .int 0) = true then ("" : Str) else z) ++ _ = _; rw [if_neg h0]] at q0
        rw [Bool.eq_false_iff.mpr h0]
        refine iteT ⟨_, rfl, b, _, _, _, rfl, rfl, SqT.of eb, atI_nat (j := 1) rfl, ?_⟩
        refine ⟨_, rfl, b, _, _, _, rfl, rfl, SqT.of eb, atI_nat (j := 0) rfl, rfl, _, rfl, itN (by decide +kernel) ?_⟩
        exact ⟨_, _, rfl, rfl, by rw [e0, sizeLine_eq]; omega, q0⟩
    | @ended z e l m a b' a2 b2 c em =>
      obtain ⟨b, rfl, nb, eb⟩ := hP
      refine ⟨_, rfl, b, _, _, _, rfl, rfl, SqT.of eb, atI_nat (j := 0) rfl, rfl, _, rfl, itN (by decide +kernel) ?_⟩
      refine ⟨_, rfl, b, _, _, _, rfl, rfl, SqT.of eb, atI_nat (j := 0) rfl, rfl, _, rfl, itN (by decide +kernel) (iteF ?_)⟩
      refine ⟨_, rfl, b, _, _, _, rfl, rfl, SqT.of eb, atI_nat (j := 0) rfl, by show 2 ≤ 1000; decide, fun pe H2 _ S2 e2 => ⟨pe, _, rfl, .inr (SqT.of e2), rfl, rfl, _, rfl, ?_⟩⟩
      rw [show inV (.str "ended") [.str "number", .str "fixed"] = false by decide +kernel]
      refine iteF ?_
      have eb := S2 _ _ eb
      refine ⟨_, rfl, 1, rfl, b, _, _, _, rfl, rfl, SqT.of eb, atI_m1 (by show 0 < 5; decide) rfl, scal_mok em, _, rfl, ?_⟩
      have al := a.len
      have al2 := a2.len
      have e0 : ("" : Str).length = 0 := rfl
      by_cases h0 : decide (m = .int 0) = true
      · have q0 := q _ S2
        rw [show sgnT (.ended (.str z) (.str e) (.int (l : Nat)) m) = ("" : Str) ++ e by show (if decide (m = .int 0) = true then ("" : Str) else _) ++ _ = _; rw [if_pos h0]; rfl] at q0
        rw [h0]
        refine iteF ?_
        refine ⟨_, rfl, b, _, _, _, rfl, rfl, SqT.of eb, atI_nat (j := 0) rfl, rfl, _, rfl, itY ?_⟩
        exact ⟨_, rfl, b, _, _, _, rfl, rfl, SqT.of eb, atI_nat (j := 2) rfl, _, _, rfl, rfl, by rw [e0, sizeLine_eq]; omega, q0⟩
      · have q0 := q _ S2
        rw [show sgnT (.ended (.str z) (.str e) (.int (l : Nat)) m) = z ++ e by show (if decide (m = .int 0) = true then ("" : Str) else z) ++ _ = _; rw [if_neg h0]; rfl] at q0
        rw [Bool.eq_false_iff.mpr h0]
        refine iteT ⟨_, rfl, b, _, _, _, rfl, rfl, SqT.of eb, atI_nat (j := 1) rfl, ?_⟩
        refine ⟨_, rfl, b, _, _, _, rfl, rfl, SqT.of eb, atI_nat (j := 0) rfl, rfl, _, rfl, itY ?_⟩
        exact ⟨_, rfl, b, _, _, _, rfl, rfl, SqT.of eb, atI_nat (j := 2) rfl, _, _, rfl, rfl, by rw [sizeLine_eq]; omega, q0⟩

end
end L2.K79

set_option Elab.async false
set_option linter.all false
set_option maxRecDepth 100000
set_option maxHeartbeats 4000000
/-! A sign of a field's texts: the law's way and the program's. -/
namespace L2.K79
open PySem PySem.W PySem.Spec PySem.Calls PyProof.Rows L2.Jk
theorem T_last (n : Nat) : 48 + n % 10 ∈ (T n).cps.toList := by
  rw [T_list]
  have dc : ∀ d : Nat, d < 10 → (Nat.digitChar d).toNat = 48 + d := by decide
  by_cases h : n < 10
  · rw [Nat.toDigits_of_lt_base h, Nat.mod_eq_of_lt h]
    exact List.mem_map.mpr ⟨_, List.mem_singleton.mpr rfl, dc n h⟩
  · have hm : n % 10 < 10 := Nat.mod_lt n (by decide)
    have t : Nat.toDigits 10 (n / 10) ++ Nat.toDigits 10 (n % 10) = Nat.toDigits 10 (10 * (n / 10) + n % 10) := Nat.toDigits_append_toDigits (by decide) (by omega) hm
    rw [Nat.div_add_mod] at t
    rw [← t, List.map_append, Nat.toDigits_of_lt_base hm]
    exact List.mem_append.mpr (.inr (List.mem_map.mpr ⟨_, List.mem_singleton.mpr rfl, dc _ hm⟩))
theorem inB_is (c : Nat) (z : Str) : inB ⟨#[c]⟩ z = decide (c ∈ z.cps.toList) := rfl
theorem rowT_has (l n c : Nat) : decide (c ∈ (rowT l n).cps.toList) = (List.range n).any fun i => decide (c ∈ (T (l + i)).cps.toList) := by
  rw [Bool.eq_iff_iff, decide_eq_true_iff]
  unfold rowT
  rw [join_has (s := "") (c := c) (by intro h; cases h), List.any_eq_true]
  constructor
  · rintro ⟨p, hp, h⟩
    obtain ⟨i, hi, rfl⟩ := List.mem_map.mp hp
    exact ⟨i, hi, decide_eq_true h⟩
  · rintro ⟨i, hi, h⟩
    exact ⟨_, List.mem_map.mpr ⟨i, hi, rfl⟩, of_decide_eq_true h⟩
theorem dg_mem (c : Nat) : c ∈ DG.cps.toList ↔ 48 ≤ c ∧ c ≤ 57 := ⟨dg_lt c, fun h => dgs_in c h.1 h.2⟩
theorem row_all {l n : Nat} (h : 10 ≤ n) (c : Nat) : ((List.range n).any fun i => decide (c ∈ (T (l + i)).cps.toList)) = decide (c ∈ DG.cps.toList) := by
  rw [Bool.eq_iff_iff, decide_eq_true_iff, List.any_eq_true, dg_mem]
  constructor
  · rintro ⟨i, hi, h⟩
    exact T_dg _ c (of_decide_eq_true h)
  · rintro ⟨h1, h2⟩
    refine ⟨(c - 48 + 10 - l % 10) % 10, List.mem_range.mpr (by omega), decide_eq_true ?_⟩
    have z := T_last (l + (c - 48 + 10 - l % 10) % 10)
    have e : 48 + (l + (c - 48 + 10 - l % 10) % 10) % 10 = c := by omega
    rw [e] at z
    exact z
theorem sgn_has {d : PD} (h : WfP d) (hd : d.due = none) (c : Nat) : inB ⟨#[c]⟩ (sgnT d) = d.has ⟨#[c]⟩ := by
  have app : ∀ a b : Str, inB ⟨#[c]⟩ (a ++ b) = (inB ⟨#[c]⟩ a || inB ⟨#[c]⟩ b) := fun a b => by
    rw [inB_is, inB_is, inB_is, cat_list, Bool.eq_iff_iff]
    simp
  have em : inB ⟨#[c]⟩ ("" : Str) = false := by rw [inB_is]; exact decide_eq_false fun h => by cases h
  have pre : ∀ (z : Str) (m : V), inB ⟨#[c]⟩ (if decide (m = .int 0) = true then ("" : Str) else z) = wwB (.str z) m ⟨#[c]⟩ := fun z m => by
    show _ = (inB ⟨#[c]⟩ z && !decide (m = .int 0))
    by_cases k : decide (m = .int 0) = true
    · rw [if_pos k, k, em, Bool.not_true, Bool.and_false]
    · rw [if_neg k, Bool.eq_false_iff.mpr k, Bool.not_false, Bool.and_true]
  cases h with
  | @listed ts c1 c2 c3 =>
    show inB ⟨#[c]⟩ (Txt.join "" ((LX.lst (ts.map V.str)).els.map strV)) = (ts.map V.str).any fun v => inB ⟨#[c]⟩ (strV v)
    rw [els_str, inB_is, Bool.eq_iff_iff, decide_eq_true_iff, join_has (s := "") (c := c) (by intro h; cases h), List.any_eq_true]
    constructor
    · rintro ⟨p, hp, h⟩
      exact ⟨_, List.mem_map.mpr ⟨p, hp, rfl⟩, decide_eq_true h⟩
    · rintro ⟨v, hv, h⟩
      obtain ⟨p, hp, rfl⟩ := List.mem_map.mp hv
      exact ⟨p, hp, of_decide_eq_true h⟩
  | @number l m a e =>
    rcases e with rfl | ⟨k, rfl, hk⟩
    · rfl
    · rw [sgn_num]
      show _ = if (decide (V.int (k : Nat) = .non) || decide (9 ≤ (k : Int) - (l : Int))) = true then inB ⟨#[c]⟩ DG else (List.range ((k : Int) + 1 - (l : Int)).toNat).any fun (i : Nat) => inB ⟨#[c]⟩ (dg ((l : Int) + i))
      have f : ((List.range ((k : Int) + 1 - (l : Int)).toNat).any fun (i : Nat) => inB ⟨#[c]⟩ (dg ((l : Int) + i))) = ((List.range ((k : Int) + 1 - (l : Int)).toNat).any fun i => decide (c ∈ (T (l + i)).cps.toList)) := by
        congr 1
      rw [f, decide_eq_false (show ¬ V.int (k : Nat) = .non from fun z => by cases z), Bool.false_or]
      by_cases h1 : (k : Int) - (l : Int) < 100
      · rw [if_pos h1, inB_is, rowT_has]
        by_cases h2 : 9 ≤ (k : Int) - (l : Int)
        · rw [if_pos (decide_eq_true h2), row_all (by omega)]
          rfl
        · rw [if_neg (by simp [h2])]
      · rw [if_neg h1, if_pos (decide_eq_true (by omega))]
  | @fixed l a => rfl
  | @word z l m a b a2 e =>
    show inB ⟨#[c]⟩ ((if decide (m = .int 0) = true then ("" : Str) else z) ++ ("" : Str)) = wwB (.str z) m ⟨#[c]⟩
    rw [app, em, Bool.or_false, pre]
  | @ended z e l m a b a2 b2 c' em' =>
    show inB ⟨#[c]⟩ ((if decide (m = .int 0) = true then ("" : Str) else z) ++ e) = (decide (V.str ⟨#[c]⟩ = .str e) || wwB (.str z) m ⟨#[c]⟩)
    rw [app, pre, Bool.or_comm]
    congr 1
    have hd : eDue (.str z) (.str e) (.int (l : Nat)) m = none := hd
    unfold eDue at hd
    split at hd
    · cases hd
    split at hd
    · cases hd
    rename_i _ k
    have s1 : isSignB (.str e) = true := by
      cases q : isSignB (.str e) with
      | true => rfl
      | false => rw [q] at k; exact absurd rfl k
    have s2 := (Bool.and_eq_true_iff.mp (show ((e.length == 1) && inB e SG) = true from s1)).1
    have e1 := one_of (eq_of_beq s2)
    rw [e1, inB_is, Bool.eq_iff_iff]
    simp
end L2.K79

set_option Elab.async false
set_option linter.all false
set_option maxRecDepth 100000
set_option maxHeartbeats 4000000
/-! The law: what a field is refused for. -/
namespace L2.K79
open PySem PySem.W PySem.Spec PySem.Calls PyProof.Rows L2.Jk
def optV : Option Str → V
  | some x => .str x
  | none => .non
def spRf (n : Nat) : Sp := fun vs H Q _ => ∃ (s : Addr) (v : V) (ms : List (Str × Str)) (d : PD), vs = [v] ∧ SIn s H v ms d ∧ WfP d ∧ BdP d ∧ (∀ p ∈ ms, PtOk p.1 ∧ PtOk p.2) ∧ ms.length < n ∧ ∀ H', Same H H' → Q (optV (dueM ms d)) H'
structure Grf (P : Program) (w : World) (K : Frag) (mg : Str → Option Value) (base : Heap) : Prop extends Gso P w K mg base where
  law_is_string : FnAt P w K mg base CX0 1 "_law_is_string" ["_law_text"] spLis
  law_signs_in : FnAt P w K mg base CX0 1 "_law_signs_in" ["_law_spec"] spSgn
theorem sign_law (z : Str) : isSignB (.str z) = (decide (V.int z.length = V.int 1) && madeB z SG) := by
  show ((z.length == 1) && inB z SG) = _
  by_cases h : z.length = 1
  · have e : decide (V.int z.length = V.int 1) = true := decide_eq_true (by rw [h]; rfl)
    rw [e, beq_iff_eq.mpr h, Bool.true_and, Bool.true_and]
    rw [one_of h]
    show decide (z.cps.getD 0 0 ∈ SG.cps.toList) = _
    rw [Bool.eq_iff_iff, decide_eq_true_iff, made_iff]
    exact ⟨fun k c hc => by rw [List.mem_singleton.mp hc]; exact k, fun k => k _ (List.mem_singleton.mpr rfl)⟩
  · have e : decide (V.int z.length = V.int 1) = false := decide_eq_false (fun k => h (by injection k with k; omega))
    rw [e, beq_eq_false_iff_ne.mpr h]
    rfl
theorem PDAt.kind {s : Addr} {H : Hp} {v : V} : ∀ {d : PD}, PDAt s H v d → ∃ b k r, v = .ref b ∧ H b = some (.tup (.str k :: r)) ∧ decide (V.str k = .str "marked") = false
  | .word .., ⟨b, e, _, h⟩ => ⟨b, _, _, e, h, by decide +kernel⟩
  | .number .., ⟨b, e, _, h⟩ => ⟨b, _, _, e, h, by decide +kernel⟩
  | .fixed _, ⟨b, e, _, h⟩ => ⟨b, _, _, e, h, by decide +kernel⟩
  | .listed _, ⟨b, _, e, _, h, _⟩ => ⟨b, _, _, e, h, by decide +kernel⟩
  | .ended .., ⟨b, e, _, h⟩ => ⟨b, _, _, e, h, by decide +kernel⟩
theorem mk_is {n m : Str} {i : OD} : OD.due (.mk (.str n) (.str m) i) = if (!isSignB (.str n)) = true then some ("none" : Str) else if (!isSignB (.str m) || decide (V.str m = .str n)) = true then some ("mark" : Str) else iDue (.str n) (.str m) i := rfl
theorem lx_law {ts : List Str} (h : ts ≠ []) : lxDue (.lst (ts.map V.str)) = if (decide (((newS (fun i => ts.getD i Str.empty) ts.length : Nat) : Int) < ((ts.map V.str).length : Nat)) || !madeB (Txt.join "" ts) SG) = true then some ("texts" : Str) else none := by
  have e0 : decide ((ts.map V.str).length = 0) = false := decide_eq_false fun k => h (List.eq_nil_of_length_eq_zero (by rwa [List.length_map] at k))
  have em : (ts.map V.str).map strV = ts := els_str ts
  have ea : (ts.map V.str).all areB = madeB (Txt.join "" ts) SG := by
    rw [Bool.eq_iff_iff, List.all_eq_true, made_iff]
    constructor
    · intro k c hc
      obtain ⟨p, hp, hc⟩ := (join_has (s := "") (c := c) (by intro h; cases h) ts).mp hc
      exact made_iff.mp (k _ (List.mem_map.mpr ⟨p, hp, rfl⟩) : madeB p SG = true) c hc
    · intro k v hv
      obtain ⟨p, hp, rfl⟩ := List.mem_map.mp hv
      exact (made_iff.mpr fun c hc => k c ((join_has (s := "") (c := c) (by intro h; cases h) ts).mpr ⟨p, hp, hc⟩) : madeB p SG = true)
  show (if (decide ((ts.map V.str).length = 0) || xsBad (ts.map V.str)) = true then some ("texts" : Str) else none) = _
  unfold xsBad
  rw [em, ea, e0, Bool.false_or, Bool.or_comm]
  congr 3
  rw [Bool.eq_iff_iff, decide_eq_true_iff, decide_eq_true_iff]
  omega
def twI (z : Str) : Bool := decide (((newS (fun i => ⟨#[z.cps.getD i 0]⟩) z.cps.size : Nat) : Int) < (z.length : Nat))
theorem tw_law (z : Str) : twB (.str z) = twI z := by
  show decide _ = decide _
  rw [Bool.eq_iff_iff, decide_eq_true_iff, decide_eq_true_iff]
  omega
theorem sbad_law (z : Str) : sBad (.str z) = (decide (V.str z = .str "") || (!madeB z SG || twI z)) := by
  show (!madeB z SG || (decide (V.str z = .str "") || twB (.str z))) = _
  rw [tw_law, ← Bool.or_assoc, Bool.or_comm (!madeB z SG), Bool.or_assoc]
theorem b_law_non (l : Nat) : bDue (.int (l : Nat)) .non = none := by
  unfold bDue
  have : ltV (.int (l : Nat)) (.int 0) = false := (decide_eq_false (show ¬ ((l : Int) < 0) by omega) : decide ((l : Int) < 0) = false)
  rw [this]
  rfl
theorem b_law (l k : Nat) : bDue (.int (l : Nat)) (.int (k : Nat)) = if decide ((k : Int) < (l : Int)) = true then some ("most" : Str) else none := by
  unfold bDue
  have : ltV (.int (l : Nat)) (.int 0) = false := (decide_eq_false (show ¬ ((l : Int) < 0) by omega) : decide ((l : Int) < 0) = false)
  rw [this]
  rfl
theorem notB {b : Bool} (h : ¬ b = true) : b = false := Bool.eq_false_iff.mpr h
theorem notNot {b : Bool} (h : ¬ (!b) = true) : b = true := by cases b <;> first | rfl | exact absurd rfl h
theorem isNot {b : Bool} (h : (!b) = true) : b = false := by cases b <;> first | rfl | cases h

section
variable {P : Program} {w : World} {K : Frag} {mg : Str → Option Value} {base : Heap} {f : Addr} {fd : FuncData}

abbrev s_law_refusal : Stmt := top 59
theorem sc_law_refusal : FnScope ["_law_spec", "_law_inner", "_law_is_odd"] ["_law_spec"] (defScope s_law_refusal) := ⟨rfl, rfl, rfl, by decide +kernel, rfl, by decide +kernel, by decide +kernel⟩

theorem ok_law_refusal (F : FunD K "_law_refusal" "_law_refusal" (defArgs s_law_refusal) (defBody s_law_refusal) (defScope s_law_refusal) [] [] f fd) {n : Nat} (AM : FnAt P w K mg base CX0 (n + 1) "_law_refusal" ["_law_spec"] (spRf n)) (G : Grf P w K mg base) : FnOk P w K mg base CX0 (n + 1 + 1) f fd ["_law_spec"] (spRf (n + 1)) := by
  refine F.ok (CX := CX0) sc_law_refusal (fun vs H Q E h => ?_) (fun cdv A outer s H vs Q E hr h => ?_)
  · obtain ⟨_, _, _, _, rfl, _⟩ := h
    rfl
  · refine ⟨_, PSs.nox (pss_cons (ps_if (pt_cmpR op_eq (pe_ix ix_tup (pv 0) pe_int (fun _ _ => rfl)) pe_str (nomark _))
      (pss_cons (ps_set (i := 1) sc_law_refusal.nd rfl (Or.inl rfl) (pe_fn AM hr pass0 (by rfl) (pa_cons (pe_ix ix_tup (pv 0) pe_int (fun _ _ => rfl)) pa_nil)))
      (pss_cons (ps_if (pt_cmpR op_notN (pv 1) pe_non (nomark _))
        (pss_one (ps_ret (pv 1)))
        pss_nil)
      (pss_cons (ps_if (PW.pt (pw_or (pt_cmpR op_ne (pe_callB call_len_str (by rfl) G.len (by decide +kernel) (pa_cons (pe_ix ix_tup (pv 0) pe_int (fun _ _ => rfl)) pa_nil)) pe_int (nomark _)) (pw_or1 (pt_not (pt_val (pe_fn G.law_is_string (hr.mono (by omega)) pass0 (by rfl) (pa_cons (pe_ix ix_tup (pv 0) pe_int (fun _ _ => rfl)) pa_nil)))))))
        (pss_one (ps_ret pe_str))
        pss_nil)
      (pss_cons (ps_if (PW.pt (pw_or (pt_cmpR op_ne (pe_callB call_len_str (by rfl) G.len (by decide +kernel) (pa_cons (pe_ix ix_tup (pv 0) pe_int (fun _ _ => rfl)) pa_nil)) pe_int (nomark _)) (pw_or (pt_not (pt_val (pe_fn G.law_is_string (hr.mono (by omega)) pass0 (by rfl) (pa_cons (pe_ix ix_tup (pv 0) pe_int (fun _ _ => rfl)) pa_nil)))) (pw_or1 (pt_cmpR op_eq (pe_ix ix_tup (pv 0) pe_int (fun _ _ => rfl)) (pe_ix ix_tup (pv 0) pe_int (fun _ _ => rfl)) (nomark _))))))
        (pss_one (ps_ret pe_str))
        pss_nil)
      (pss_cons (ps_set (i := 2) sc_law_refusal.nd rfl (Or.inl rfl) (pe_or (pe_cmpR op_eq (pe_ix ix_tup (pe_ix ix_tup (pv 0) pe_int (fun _ _ => rfl)) pe_int (fun _ _ => rfl)) pe_str (nomark _)) (pe_or (pe_cmpR op_in_sign (pe_ix ix_tup (pv 0) pe_int (fun _ _ => rfl)) (pe_fn G.law_signs_in (hr.mono (by omega)) pass0 (by rfl) (pa_cons (pe_ix ix_tup (pv 0) pe_int (fun _ _ => rfl)) pa_nil)) (by rfl)) (pe_one (pe_cmpR op_in_sign (pe_ix ix_tup (pv 0) pe_int (fun _ _ => rfl)) (pe_fn G.law_signs_in (hr.mono (by omega)) pass0 (by rfl) (pa_cons (pe_ix ix_tup (pv 0) pe_int (fun _ _ => rfl)) pa_nil)) (by rfl))))))
      (pss_one (ps_ret (pe_ifExp (pt_val (pv 2)) pe_str pe_non))))))))
      pss_nil)
    (pss_cons (ps_if (pt_cmpR op_eq (pe_ix ix_tup (pv 0) pe_int (fun _ _ => rfl)) pe_str (nomark _))
      (pss_cons (ps_set (i := 2) sc_law_refusal.nd rfl (Or.inl rfl) (pe_or (pe_cmpR op_lt (pe_lenSetSeq rfl (by rfl) G.len (by rfl) G.set (pe_ix ix_tup (pv 0) pe_int (fun _ _ => rfl))) (pe_callB call_len_seq (by rfl) G.len (by decide +kernel) (pa_cons (pe_ix ix_tup (pv 0) pe_int (fun _ _ => rfl)) pa_nil)) (nomark _)) (pe_one (pe_not (pe_fn G.law_is_string (hr.mono (by omega)) pass0 (by rfl) (pa_cons (pe_join pe_str (pe_ix ix_tup (pv 0) pe_int (fun _ _ => rfl))) pa_nil))))))
      (pss_one (ps_ret (pe_ifExp (pt_val (pv 2)) pe_str pe_non))))
      pss_nil)
    (pss_cons (ps_if (pt_cmpR op_eq (pe_ix ix_tup (pv 0) pe_int (fun _ _ => rfl)) pe_str (nomark _))
      (pss_one (ps_ret (pe_ifExp (pt_cmpR op_eq (pe_ix ix_tup (pv 0) pe_int (fun _ _ => rfl)) pe_int (nomark _)) pe_str pe_non)))
      pss_nil)
    (pss_cons (ps_if (PW.pt (pw_and (pt_cmpR op_ne (pe_ix ix_tup (pv 0) pe_int (fun _ _ => rfl)) pe_str (nomark _)) (pw_and1 (PW.pt (pw_or (pt_cmpR op_eq (pe_ix ix_tup (pv 0) pe_int (fun _ _ => rfl)) pe_str (nomark _)) (pw_or (pt_not (pt_val (pe_fn G.law_is_string (hr.mono (by omega)) pass0 (by rfl) (pa_cons (pe_ix ix_tup (pv 0) pe_int (fun _ _ => rfl)) pa_nil)))) (pw_or1 (pt_cmpR op_lt (pe_lenSetStr rfl (by rfl) G.len (by rfl) G.set (pe_ix ix_tup (pv 0) pe_int (fun _ _ => rfl))) (pe_callB call_len_str (by rfl) G.len (by decide +kernel) (pa_cons (pe_ix ix_tup (pv 0) pe_int (fun _ _ => rfl)) pa_nil)) (nomark _)))))))))
      (pss_one (ps_ret pe_str))
      pss_nil)
    (pss_cons (ps_if (PW.pt (pw_and (pt_cmpR op_eq (pe_ix ix_tup (pv 0) pe_int (fun _ _ => rfl)) pe_str (nomark _)) (pw_and1 (PW.pt (pw_or (pt_cmpR op_ne (pe_callB call_len_str (by rfl) G.len (by decide +kernel) (pa_cons (pe_ix ix_tup (pv 0) pe_int (fun _ _ => rfl)) pa_nil)) pe_int (nomark _)) (pw_or (pt_not (pt_val (pe_fn G.law_is_string (hr.mono (by omega)) pass0 (by rfl) (pa_cons (pe_ix ix_tup (pv 0) pe_int (fun _ _ => rfl)) pa_nil)))) (pw_or1 (pt_cmpR op_in_sign (pe_ix ix_tup (pv 0) pe_int (fun _ _ => rfl)) (pe_ix ix_tup (pv 0) pe_int (fun _ _ => rfl)) (by rfl)))))))))
      (pss_one (ps_ret pe_str))
      pss_nil)
    (pss_one (ps_ret (pe_ifExp (PW.pt (pw_and (pt_cmpR op_notN (pe_ix ix_tup (pv 0) (pe_un un_neg pe_int) (fun _ _ => rfl)) pe_non (nomark _)) (pw_and1 (pt_cmpR op_lt (pe_ix ix_tup (pv 0) (pe_un un_neg pe_int) (fun _ _ => rfl)) (pe_ix ix_tup (pv 0) (pe_un un_neg pe_int) (fun _ _ => rfl)) (nomark _))))) pe_str pe_non)))))))), ?_⟩
    obtain ⟨s, v, ms, d, rfl, hI, hW, hB, hM, hn, q⟩ := h
    cases ms with
    | cons p ms =>
      obtain ⟨b, u, rfl, nb, eb, hIu⟩ := hI
      obtain ⟨pn, pm⟩ := p
      refine ⟨_, rfl, b, _, _, _, rfl, rfl, SqT.of eb, atI_nat (j := 0) rfl, rfl, _, rfl, itY ?_⟩
      refine ⟨_, rfl, b, _, _, _, rfl, rfl, SqT.of eb, atI_nat (j := 3) rfl, s, u, ms, d, rfl, hIu, hW, hB, fun p hp => hM p (List.mem_cons_of_mem _ hp), Nat.lt_of_succ_lt_succ hn, fun H1 S1 => ?_⟩
      have hpn : PtOk pn := (hM _ (List.mem_cons_self ..)).1
      have hpm : PtOk pm := (hM _ (List.mem_cons_self ..)).2
      have eb := S1 _ _ eb
      have hIu := SIn.same S1 hIu
      refine ⟨_, rfl, rfl, _, rfl, ?_⟩
      cases e : dueM ms d with
      | some x =>
        have q0 := q _ S1
        rw [show dueM ((pn, pm) :: ms) d = some x by show (match dueM ms d with | some x => some x | none => _) = some x; rw [e]] at q0
        exact iteT ⟨_, rfl, q0⟩
      | none =>
        have fin : ∀ x : Option Str, OD.due (.mk (.str pn) (.str pm) (odM ms d)) = x → ∀ {H'}, Same H H' → Q (optV x) H' := fun x hx H' S => by
          have q0 := q _ S
          rw [show dueM ((pn, pm) :: ms) d = x by show (match dueM ms d with | some x => some x | none => _) = x; rw [e]; exact hx] at q0
          exact q0
        rw [mk_is] at fin
        have ln := hpn.len
        have lm := hpm.len
        refine iteF ⟨_, rfl, b, _, _, _, rfl, rfl, SqT.of eb, atI_nat (j := 1) rfl, pn, rfl, by rw [sizeLine_eq]; omega, rfl, _, rfl, ?_⟩
        refine ite2 (fun h1 => ?_) (fun h1 => ?_)
        · have h1 : (!decide (V.int pn.length = V.int 1)) = true := h1
          rw [Bool.not_eq_true'] at h1
          exact iteT (fin (some "none") (by rw [sign_law, h1] <;> rfl) S1)
        have h1 : decide (V.int pn.length = V.int 1) = true := by
          cases z : decide (V.int pn.length = V.int 1) with
          | true => rfl
          | false => exact absurd (show (!decide (V.int pn.length = V.int 1)) = true by rw [z]; rfl) h1
        refine ⟨_, rfl, b, _, _, _, rfl, rfl, SqT.of eb, atI_nat (j := 1) rfl, pn, rfl, by omega, hpn.asc, fun H2 S2 => ⟨_, rfl, ?_⟩⟩
        have S12 := S1.trans S2
        have eb := S2 _ _ eb
        have hIu := SIn.same S2 hIu
        refine ite2 (fun h2 => ?_) (fun h2 => ?_)
        · have h2 : (!madeB pn SG) = true := h2
          rw [Bool.not_eq_true'] at h2
          exact fin (some "none") (by rw [sign_law, h1, h2] <;> rfl) S12
        have h2 : madeB pn SG = true := by
          cases z : madeB pn SG with
          | true => rfl
          | false => exact absurd (show (!madeB pn SG) = true by rw [z]; rfl) h2
        have sn : isSignB (.str pn) = true := by rw [sign_law, h1, h2]; rfl
        rw [sn] at fin
        refine ⟨_, rfl, b, _, _, _, rfl, rfl, SqT.of eb, atI_nat (j := 2) rfl, pm, rfl, by rw [sizeLine_eq]; omega, rfl, _, rfl, ?_⟩
        refine ite2 (fun h3 => ?_) (fun h3 => ?_)
        · have h3 : (!decide (V.int pm.length = V.int 1)) = true := h3
          rw [Bool.not_eq_true'] at h3
          exact iteT (fin (some "mark") (by rw [sign_law, h3] <;> rfl) S12)
        have h3 : decide (V.int pm.length = V.int 1) = true := by
          cases z : decide (V.int pm.length = V.int 1) with
          | true => rfl
          | false => exact absurd (show (!decide (V.int pm.length = V.int 1)) = true by rw [z]; rfl) h3
        refine ⟨_, rfl, b, _, _, _, rfl, rfl, SqT.of eb, atI_nat (j := 2) rfl, pm, rfl, by omega, hpm.asc, fun H3 S3 => ⟨_, rfl, ?_⟩⟩
        have S13 := S12.trans S3
        have eb := S3 _ _ eb
        have hIu := SIn.same S3 hIu
        refine ite2 (fun h4 => ?_) (fun h4 => ?_)
        · have h4 : (!madeB pm SG) = true := h4
          rw [Bool.not_eq_true'] at h4
          exact iteT (fin (some "mark") (by rw [sign_law, h3, h4] <;> rfl) S13)
        have h4 : madeB pm SG = true := by
          cases z : madeB pm SG with
          | true => rfl
          | false => exact absurd (show (!madeB pm SG) = true by rw [z]; rfl) h4
        have sm : isSignB (.str pm) = true := by rw [sign_law, h3, h4]; rfl
        rw [sm] at fin
        refine ⟨_, rfl, b, _, _, _, rfl, rfl, SqT.of eb, atI_nat (j := 2) rfl, _, rfl, b, _, _, _, rfl, rfl, SqT.of eb, atI_nat (j := 1) rfl, rfl, _, rfl, ?_⟩
        refine ite2 (fun h5 => ?_) (fun h5 => ?_)
        · have h5 : decide (V.str pm = .str pn) = true := h5
          exact fin (some "mark") (by rw [h5] <;> rfl) S13
        have h5 : decide (V.str pm = .str pn) = false := Bool.eq_false_iff.mpr h5
        rw [h5] at fin
        have l1 : pn.length = 1 := by have := of_decide_eq_true h1; injection this with this; omega
        have l2 : pm.length = 1 := by have := of_decide_eq_true h3; injection this with this; omega
        cases ms with
        | cons p2 ms =>
          obtain ⟨b2, u2, rfl, nb2, eb2, hIu2⟩ := hIu
          refine ⟨_, rfl, b, _, _, _, rfl, rfl, SqT.of eb, atI_nat (j := 3) rfl, b2, _, _, _, rfl, rfl, SqT.of eb2, atI_nat (j := 0) rfl, rfl, _, rfl, itY ?_⟩
          exact ⟨_, rfl, _, rfl, iteT (fin (some "field") rfl S13)⟩
        | nil =>
          obtain ⟨b2, k2, r2, rfl, eb2, nk⟩ := PDAt.kind hIu
          refine ⟨_, rfl, b, _, _, _, rfl, rfl, SqT.of eb, atI_nat (j := 3) rfl, b2, _, _, _, rfl, rfl, SqT.of eb2, atI_nat (j := 0) rfl, rfl, _, rfl, ?_⟩
          rw [nk]
          have on := one_of l1
          have om := one_of l2
          refine iteF ⟨_, rfl, b, _, _, _, rfl, rfl, SqT.of eb, atI_nat (j := 1) rfl, _, rfl, b, _, _, _, rfl, rfl, SqT.of eb, atI_nat (j := 3) rfl, s, _, d, rfl, hIu, hW, hB, fun H4 S4 => ⟨_, _, congrArg V.str on, rfl, _, rfl, ?_⟩⟩
          have S14 := S13.trans S4
          have eb := S4 _ _ eb
          have hIu := PDAt.same S4 hIu
          have f1 := sgn_has hW e (pn.cps.getD 0 0)
          have f2 := sgn_has hW e (pm.cps.getD 0 0)
          rw [← on] at f1
          rw [← om] at f2
          have fi : iDue (.str pn) (.str pm) (odM [] d) = if (d.has pn || d.has pm) = true then some ("field" : Str) else none := rfl
          rw [fi, ← f1, ← f2] at fin
          refine ite2 (fun h6 => ?_) (fun h6 => ?_)
          · have h6 : inB pn (sgnT d) = true := h6
            exact ⟨_, rfl, _, rfl, iteT (fin (some "field") (by rw [h6] <;> rfl) S14)⟩
          have h6 : inB pn (sgnT d) = false := Bool.eq_false_iff.mpr h6
          refine ⟨_, rfl, b, _, _, _, rfl, rfl, SqT.of eb, atI_nat (j := 2) rfl, _, rfl, b, _, _, _, rfl, rfl, SqT.of eb, atI_nat (j := 3) rfl, s, _, d, rfl, hIu, hW, hB, fun H5 S5 => ⟨_, _, congrArg V.str om, rfl, ?_⟩⟩
          refine ⟨_, rfl, _, rfl, ?_⟩
          refine ite2 (fun h7 => ?_) (fun h7 => ?_)
          · have h7 : inB pm (sgnT d) = true := h7
            exact fin (some "field") (by rw [h7, Bool.or_true] <;> rfl) (S14.trans S5)
          have h7 : inB pm (sgnT d) = false := Bool.eq_false_iff.mpr h7
          exact fin (none) (by rw [h6, h7] <;> rfl) (S14.trans S5)
    | nil =>
      have hI : PDAt s H v d := hI
      have fin : ∀ x : Option Str, d.due = x → ∀ {H'}, Same H H' → Q (optV x) H' := fun x hx H' S => by
        have q0 := q _ S
        rw [show dueM [] d = x from hx] at q0
        exact q0
      cases hW with
      | @listed ts c1 c2 c3 =>
        obtain ⟨b, u, rfl, nb, eb, ⟨u2, rfl, eu⟩, _⟩ := hI
        have hB : (ts.map V.str).length ≤ 12 ∧ ∀ v ∈ ts.map V.str, lenOf v ≤ 12 := hB
        have z := sum_le (B := 12) ts fun t ht => hB.2 (.str t) (List.mem_map.mpr ⟨t, ht, rfl⟩)
        have e0 : ("" : Str).length = 0 := rfl
        have zl := hB.1
        rw [List.length_map] at zl
        refine ⟨_, rfl, b, _, _, _, rfl, rfl, SqT.of eb, atI_nat (j := 0) rfl, rfl, _, rfl, itN (by decide +kernel) ?_⟩
        refine ⟨_, rfl, b, _, _, _, rfl, rfl, SqT.of eb, atI_nat (j := 0) rfl, rfl, _, rfl, itY ?_⟩
        refine ⟨_, rfl, b, _, _, _, rfl, rfl, SqT.of eb, atI_nat (j := 1) rfl, u2, ts, rfl, .inl (SqL.of eu), by omega, ?_⟩
        refine ⟨_, rfl, b, _, _, _, rfl, rfl, SqT.of eb, atI_nat (j := 1) rfl, u2, _, rfl, .inl (SqL.of eu), _, _, rfl, rfl, ?_⟩
        have lx : PD.due (.listed (.lst (ts.map V.str))) = _ := lx_law c1
        rw [lx] at fin
        refine ⟨_, rfl, ?_⟩
        refine ite2 (fun h1 => ?_) (fun h1 => ?_)
        · exact ⟨_, rfl, _, rfl, iteT (fin (some "texts") (by rw [if_pos]; rw [h1] <;> rfl) (Same.refl _))⟩
        have h1 := notB h1
        have al : (Txt.join "" ts).length ≤ 5000 := by have := join_le (s := "") (B := 12) (by decide) ts fun t ht => hB.2 (.str t) (List.mem_map.mpr ⟨t, ht, rfl⟩); omega
        refine ⟨⟨_, rfl⟩, _, rfl, b, _, _, _, rfl, rfl, SqT.of eb, atI_nat (j := 1) rfl, "", u2, ts, rfl, rfl, .inl (SqL.of eu), by rw [e0]; omega, _, rfl, al, fun c hc => ?_, fun H1 S1 => ?_⟩
        · obtain ⟨p, hp, hc⟩ := (join_has (s := "") (c := c) (by intro h; cases h) ts).mp hc
          exact c3.asc c (join_in hc ts hp)
        refine ⟨_, rfl, _, rfl, _, rfl, ?_⟩
        refine ite2 (fun h2 => ?_) (fun h2 => ?_)
        · exact fin (some "texts") (by rw [h1, isNot h2] <;> rfl) S1
        · exact fin none (by rw [h1, notNot h2] <;> rfl) S1
      | @number l m c e =>
        obtain ⟨b, rfl, nb, eb⟩ := hI
        refine ⟨_, rfl, b, _, _, _, rfl, rfl, SqT.of eb, atI_nat (j := 0) rfl, rfl, _, rfl, itN (by decide +kernel) ?_⟩
        refine ⟨_, rfl, b, _, _, _, rfl, rfl, SqT.of eb, atI_nat (j := 0) rfl, rfl, _, rfl, itN (by decide +kernel) ?_⟩
        refine ⟨_, rfl, b, _, _, _, rfl, rfl, SqT.of eb, atI_nat (j := 0) rfl, rfl, _, rfl, itN (by decide +kernel) ?_⟩
        refine ⟨_, rfl, b, _, _, _, rfl, rfl, SqT.of eb, atI_nat (j := 0) rfl, rfl, _, rfl, ?_⟩
        rw [show (!decide (V.str "number" = .str "number")) = false by decide +kernel]
        refine iteF (iteF ⟨_, rfl, b, _, _, _, rfl, rfl, SqT.of eb, atI_nat (j := 0) rfl, rfl, _, rfl, itN (by decide +kernel) (iteF ?_)⟩)
        refine ⟨_, rfl, 1, rfl, b, _, _, _, rfl, rfl, SqT.of eb, atI_m1 (by show 0 < 3; decide) rfl, rfl, _, rfl, ?_⟩
        rcases e with rfl | ⟨k, rfl, hk⟩
        · exact iteF (iteF (fin none (by show bDue _ _ = _; exact b_law_non l) (Same.refl _)))
        · refine iteT ⟨_, rfl, 1, rfl, b, _, _, _, rfl, rfl, SqT.of eb, atI_m1 (by show 0 < 3; decide) rfl, _, rfl, 2, rfl, b, _, _, _, rfl, rfl, SqT.of eb, atI_m2 (by show 1 < 3; decide) rfl, _, _, rfl, rfl, _, rfl, ?_⟩
          refine ite2 (fun h9 => ?_) (fun h9 => ?_)
          · exact fin (some "most") (by show bDue _ _ = _; rw [b_law, if_pos h9]) (Same.refl _)
          · exact fin none (by show bDue _ _ = _; rw [b_law, if_neg h9]) (Same.refl _)
      | @fixed l c =>
        obtain ⟨b, rfl, nb, eb⟩ := hI
        refine ⟨_, rfl, b, _, _, _, rfl, rfl, SqT.of eb, atI_nat (j := 0) rfl, rfl, _, rfl, itN (by decide +kernel) ?_⟩
        refine ⟨_, rfl, b, _, _, _, rfl, rfl, SqT.of eb, atI_nat (j := 0) rfl, rfl, _, rfl, itN (by decide +kernel) ?_⟩
        refine ⟨_, rfl, b, _, _, _, rfl, rfl, SqT.of eb, atI_nat (j := 0) rfl, rfl, _, rfl, itY ?_⟩
        refine ⟨_, rfl, b, _, _, _, rfl, rfl, SqT.of eb, atI_nat (j := 1) rfl, rfl, _, rfl, ?_⟩
        refine ite2 (fun h1 => ?_) (fun h1 => ?_)
        · have h1 : V.int (l : Nat) = .int 0 := of_decide_eq_true h1
          injection h1 with h1
          have h1 : l = 0 := by omega
          subst h1
          exact fin (some "width") (by decide +kernel) (Same.refl _)
        · have h1 : ¬ l = 0 := fun k => h1 (by subst k; rfl)
          refine fin none ?_ (Same.refl _)
          show (if (!true || decide ((l : Int) < 1)) = true then some ("width" : Str) else none) = none
          rw [decide_eq_false (by omega)]
          rfl
      | @word z l m a b' c e =>
        obtain ⟨b, rfl, nb, eb⟩ := hI
        refine ⟨_, rfl, b, _, _, _, rfl, rfl, SqT.of eb, atI_nat (j := 0) rfl, rfl, _, rfl, itN (by decide +kernel) ?_⟩
        refine ⟨_, rfl, b, _, _, _, rfl, rfl, SqT.of eb, atI_nat (j := 0) rfl, rfl, _, rfl, itN (by decide +kernel) ?_⟩
        refine ⟨_, rfl, b, _, _, _, rfl, rfl, SqT.of eb, atI_nat (j := 0) rfl, rfl, _, rfl, itN (by decide +kernel) ?_⟩
        refine ⟨_, rfl, b, _, _, _, rfl, rfl, SqT.of eb, atI_nat (j := 0) rfl, rfl, _, rfl, ?_⟩
        rw [show (!decide (V.str "word" = .str "number")) = true by decide +kernel]
        have hz := a.len
        refine iteT ⟨_, rfl, b, _, _, _, rfl, rfl, SqT.of eb, atI_nat (j := 1) rfl, rfl, _, rfl, ?_⟩
        refine ite2 (fun h1 => ?_) (fun h1 => ?_)
        · have h1 : decide (V.str z = .str "") = true := h1
          exact iteT (fin (some "signs") (by show oDue _ _ _ = _; unfold oDue; rw [sbad_law, h1] <;> rfl) (Same.refl _))
        have h1 : decide (V.str z = .str "") = false := notB h1
        refine ⟨_, rfl, b, _, _, _, rfl, rfl, SqT.of eb, atI_nat (j := 1) rfl, z, rfl, by omega, a.asc, fun H1 S1 => ⟨_, rfl, ?_⟩⟩
        have eb := S1 _ _ eb
        refine ite2 (fun h2 => ?_) (fun h2 => ?_)
        · have h2 : madeB z SG = false := isNot h2
          exact iteT (fin (some "signs") (by show oDue _ _ _ = _; unfold oDue; rw [sbad_law, h1, h2] <;> rfl) S1)
        have h2 : madeB z SG = true := notNot h2
        refine ⟨_, rfl, b, _, _, _, rfl, rfl, SqT.of eb, atI_nat (j := 1) rfl, z, rfl, by show z.length ≤ 4000; omega, _, rfl, b, _, _, _, rfl, rfl, SqT.of eb, atI_nat (j := 1) rfl, z, rfl, by rw [sizeLine_eq]; omega, _, _, rfl, rfl, _, rfl, ?_⟩
        refine ite2 (fun h3 => ?_) (fun h3 => ?_)
        · have h3 : twI z = true := h3
          exact fin (some "signs") (by show oDue _ _ _ = _; unfold oDue; rw [sbad_law, h1, h2, h3] <;> rfl) S1
        have h3 : twI z = false := notB h3
        have sb : sBad (.str z) = false := by rw [sbad_law, h1, h2, h3] <;> rfl
        refine ⟨_, rfl, b, _, _, _, rfl, rfl, SqT.of eb, atI_nat (j := 0) rfl, rfl, _, rfl, itN (by decide +kernel) (iteF ?_)⟩
        refine ⟨_, rfl, 1, rfl, b, _, _, _, rfl, rfl, SqT.of eb, atI_m1 (by show 0 < 4; decide) rfl, rfl, _, rfl, ?_⟩
        rcases e with rfl | ⟨k, rfl, hk⟩
        · exact iteF (iteF (fin none (by show oDue _ _ _ = _; unfold oDue; rw [sb, if_neg (by decide)]; exact b_law_non l) S1))
        · refine iteT ⟨_, rfl, 1, rfl, b, _, _, _, rfl, rfl, SqT.of eb, atI_m1 (by show 0 < 4; decide) rfl, _, rfl, 2, rfl, b, _, _, _, rfl, rfl, SqT.of eb, atI_m2 (by show 1 < 4; decide) rfl, _, _, rfl, rfl, _, rfl, ?_⟩
          refine ite2 (fun h9 => ?_) (fun h9 => ?_)
          · exact fin (some "most") (by show oDue _ _ _ = _; unfold oDue; rw [sb, if_neg (by decide)]; rw [b_law, if_pos h9]) S1
          · exact fin none (by show oDue _ _ _ = _; unfold oDue; rw [sb, if_neg (by decide)]; rw [b_law, if_neg h9]) S1
      | @ended z e l m a b' a2 b2 c em =>
        obtain ⟨b, rfl, nb, eb⟩ := hI
        refine ⟨_, rfl, b, _, _, _, rfl, rfl, SqT.of eb, atI_nat (j := 0) rfl, rfl, _, rfl, itN (by decide +kernel) ?_⟩
        refine ⟨_, rfl, b, _, _, _, rfl, rfl, SqT.of eb, atI_nat (j := 0) rfl, rfl, _, rfl, itN (by decide +kernel) ?_⟩
        refine ⟨_, rfl, b, _, _, _, rfl, rfl, SqT.of eb, atI_nat (j := 0) rfl, rfl, _, rfl, itN (by decide +kernel) ?_⟩
        refine ⟨_, rfl, b, _, _, _, rfl, rfl, SqT.of eb, atI_nat (j := 0) rfl, rfl, _, rfl, ?_⟩
        rw [show (!decide (V.str "ended" = .str "number")) = true by decide +kernel]
        have hz := a.len
        refine iteT ⟨_, rfl, b, _, _, _, rfl, rfl, SqT.of eb, atI_nat (j := 1) rfl, rfl, _, rfl, ?_⟩
        refine ite2 (fun h1 => ?_) (fun h1 => ?_)
        · have h1 : decide (V.str z = .str "") = true := h1
          exact iteT (fin (some "signs") (by show eDue _ _ _ _ = _; unfold eDue; rw [sbad_law, h1] <;> rfl) (Same.refl _))
        have h1 : decide (V.str z = .str "") = false := notB h1
        refine ⟨_, rfl, b, _, _, _, rfl, rfl, SqT.of eb, atI_nat (j := 1) rfl, z, rfl, by omega, a.asc, fun H1 S1 => ⟨_, rfl, ?_⟩⟩
        have eb := S1 _ _ eb
        refine ite2 (fun h2 => ?_) (fun h2 => ?_)
        · have h2 : madeB z SG = false := isNot h2
          exact iteT (fin (some "signs") (by show eDue _ _ _ _ = _; unfold eDue; rw [sbad_law, h1, h2] <;> rfl) S1)
        have h2 : madeB z SG = true := notNot h2
        refine ⟨_, rfl, b, _, _, _, rfl, rfl, SqT.of eb, atI_nat (j := 1) rfl, z, rfl, by show z.length ≤ 4000; omega, _, rfl, b, _, _, _, rfl, rfl, SqT.of eb, atI_nat (j := 1) rfl, z, rfl, by rw [sizeLine_eq]; omega, _, _, rfl, rfl, _, rfl, ?_⟩
        refine ite2 (fun h3 => ?_) (fun h3 => ?_)
        · have h3 : twI z = true := h3
          exact fin (some "signs") (by show eDue _ _ _ _ = _; unfold eDue; rw [sbad_law, h1, h2, h3] <;> rfl) S1
        have h3 : twI z = false := notB h3
        have sb : sBad (.str z) = false := by rw [sbad_law, h1, h2, h3] <;> rfl
        have le := a2.len
        have un : PD.due (.ended (.str z) (.str e) (.int (l : Nat)) m) = if (!isSignB (.str e) || inB e z) = true then some ("sign" : Str) else bDue (.int (l : Nat)) m := by show eDue _ _ _ _ = _; unfold eDue; rw [sb, if_neg (by decide)]; rfl
        rw [un] at fin
        refine ⟨_, rfl, b, _, _, _, rfl, rfl, SqT.of eb, atI_nat (j := 0) rfl, rfl, _, rfl, itY ?_⟩
        refine ⟨_, rfl, b, _, _, _, rfl, rfl, SqT.of eb, atI_nat (j := 2) rfl, e, rfl, by rw [sizeLine_eq]; omega, rfl, _, rfl, ?_⟩
        refine ite2 (fun h4 => ?_) (fun h4 => ?_)
        · have h4 : decide (V.int e.length = V.int 1) = false := isNot h4
          exact iteT (fin (some "sign") (by rw [sign_law, h4] <;> rfl) S1)
        have h4 : decide (V.int e.length = V.int 1) = true := notNot h4
        refine ⟨_, rfl, b, _, _, _, rfl, rfl, SqT.of eb, atI_nat (j := 2) rfl, e, rfl, by omega, a2.asc, fun H2 S2 => ⟨_, rfl, ?_⟩⟩
        have S12 := S1.trans S2
        have eb := S2 _ _ eb
        refine ite2 (fun h5 => ?_) (fun h5 => ?_)
        · have h5 : madeB e SG = false := isNot h5
          exact iteT (fin (some "sign") (by rw [sign_law, h4, h5] <;> rfl) S12)
        have h5 : madeB e SG = true := notNot h5
        have l1 : e.length = 1 := by have := of_decide_eq_true h4; injection this with this; omega
        refine ⟨_, rfl, b, _, _, _, rfl, rfl, SqT.of eb, atI_nat (j := 2) rfl, _, rfl, b, _, _, _, rfl, rfl, SqT.of eb, atI_nat (j := 1) rfl, _, _, congrArg V.str (one_of l1), rfl, _, rfl, ?_⟩
        refine ite2 (fun h6 => ?_) (fun h6 => ?_)
        · have h6 : inB e z = true := h6
          exact fin (some "sign") (by rw [sign_law, h4, h5, h6] <;> rfl) S12
        have h6 : inB e z = false := notB h6
        have un2 : (if (!isSignB (.str e) || inB e z) = true then some ("sign" : Str) else bDue (.int (l : Nat)) m) = bDue (.int (l : Nat)) m := by rw [sign_law, h4, h5, h6] <;> rfl
        rw [un2] at fin
        refine ⟨_, rfl, 1, rfl, b, _, _, _, rfl, rfl, SqT.of eb, atI_m1 (by show 0 < 5; decide) rfl, rfl, _, rfl, ?_⟩
        rcases em with rfl | ⟨k, rfl, hk⟩
        · exact iteF (iteF (fin none (by skip; exact b_law_non l) S12))
        · refine iteT ⟨_, rfl, 1, rfl, b, _, _, _, rfl, rfl, SqT.of eb, atI_m1 (by show 0 < 5; decide) rfl, _, rfl, 2, rfl, b, _, _, _, rfl, rfl, SqT.of eb, atI_m2 (by show 1 < 5; decide) rfl, _, _, rfl, rfl, _, rfl, ?_⟩
          refine ite2 (fun h9 => ?_) (fun h9 => ?_)
          · exact fin (some "most") (by skip; rw [b_law, if_pos h9]) S12
          · exact fin none (by skip; rw [b_law, if_neg h9]) S12

end
end L2.K79

set_option Elab.async false
set_option linter.all false
set_option maxRecDepth 100000
set_option maxHeartbeats 4000000
/-! The law: whether a field is within the bounds. -/
namespace L2.K79
open PySem PySem.W PySem.Spec PySem.Calls PyProof.Rows L2.Jk
def bdB : PD → Bool
  | .word _ l m => decide (intV l ≤ 12) && (decide (m = .non) || decide (intV m ≤ 12))
  | .number _ _ => true
  | .fixed w => decide (intV w ≤ 20)
  | .listed x => decide (x.els.length ≤ 12) && x.els.all fun v => decide (lenOf v ≤ 12)
  | .ended _ _ l m => decide (intV l ≤ 12) && (decide (m = .non) || decide (intV m ≤ 12))
theorem bd_of {d : PD} (h : WfP d) (k : bdB d = true) : BdP d := by
  have le : ∀ {l : Nat} {m : V}, MOk m → (decide (intV (.int (l : Nat)) ≤ 12) && (decide (m = .non) || decide (intV m ≤ 12))) = true → (∃ k : Nat, V.int (l : Nat) = .int (k : Nat) ∧ k ≤ 12) ∧ leB m := fun {l m} hm k => by
    obtain ⟨k1, k2⟩ := Bool.and_eq_true_iff.mp k
    have k1 : (l : Int) ≤ 12 := of_decide_eq_true k1
    refine ⟨⟨l, rfl, by omega⟩, ?_⟩
    rcases hm with rfl | ⟨n, rfl, _⟩
    · exact .inl rfl
    · have k2 : (decide (V.int (n : Nat) = .non) || decide ((n : Int) ≤ 12)) = true := k2
      rw [decide_eq_false (show ¬ V.int (n : Nat) = .non from fun z => by cases z), Bool.false_or] at k2
      have k2 : (n : Int) ≤ 12 := of_decide_eq_true k2
      exact .inr ⟨n, rfl, by omega⟩
  cases h with
  | number => trivial
  | @fixed w c =>
    have k : (w : Int) ≤ 20 := of_decide_eq_true k
    exact ⟨w, rfl, by omega⟩
  | @listed ts c1 c2 c3 =>
    obtain ⟨k1, k2⟩ := Bool.and_eq_true_iff.mp k
    exact ⟨of_decide_eq_true k1, fun v hv => of_decide_eq_true (List.all_eq_true.mp k2 v hv)⟩
  | word a b c e => exact le e k
  | ended a b a2 b2 c e => exact le e k
def spBn (n : Nat) : Sp := fun vs H Q _ => ∃ (s : Addr) (v : V) (ms : List (Str × Str)) (d : PD), vs = [v] ∧ SIn s H v ms d ∧ WfP d ∧ ms.length < n ∧ ∀ H', Same H H' → Q (.bl (bdB d)) H'
structure Gbd (P : Program) (w : World) (K : Frag) (mg : Str → Option Value) (base : Heap) : Prop extends Grf P w K mg base where
  max : mg "max" = none
theorem join_part {s t : Str} : ∀ ts : List Str, t ∈ ts → t.length ≤ (Txt.join s ts).length
  | [], h => nomatch h
  | [x], h => by rw [Jk.join_one, List.mem_singleton.mp h]; exact Nat.le_refl _
  | x :: y :: r, h => by
    rw [Jk.join_cons, app_len, app_len]
    rcases List.mem_cons.mp h with rfl | h
    · omega
    · have := join_part (s := s) (y :: r) h
      omega

section
variable {P : Program} {w : World} {K : Frag} {mg : Str → Option Value} {base : Heap} {f : Addr} {fd : FuncData}

abbrev s_law_is_bounded : Stmt := top 60
theorem sc_law_is_bounded : FnScope ["_law_spec", "_law_text"] ["_law_spec"] (defScope s_law_is_bounded) := ⟨rfl, rfl, rfl, by decide +kernel, rfl, by decide +kernel, by decide +kernel⟩

theorem ok_law_is_bounded (F : FunD K "_law_is_bounded" "_law_is_bounded" (defArgs s_law_is_bounded) (defBody s_law_is_bounded) (defScope s_law_is_bounded) [] [] f fd) {n : Nat} (AM : FnAt P w K mg base CX0 n "_law_is_bounded" ["_law_spec"] (spBn n)) (G : Gbd P w K mg base) : FnOk P w K mg base CX0 (n + 1) f fd ["_law_spec"] (spBn (n + 1)) := by
  refine F.ok (CX := CX0) sc_law_is_bounded (fun vs H Q E h => ?_) (fun cdv A outer s H vs Q E hr h => ?_)
  · obtain ⟨_, _, _, _, rfl, _⟩ := h
    rfl
  · refine ⟨_, PSs.nox (pss_cons (ps_if (pt_cmpR op_eq (pe_ix ix_tup (pv 0) pe_int (fun _ _ => rfl)) pe_str (nomark _))
      (pss_one (ps_ret (pe_fn AM hr pass0 (by rfl) (pa_cons (pe_ix ix_tup (pv 0) pe_int (fun _ _ => rfl)) pa_nil))))
      pss_nil)
    (pss_cons (ps_if (pt_cmpR op_eq (pe_ix ix_tup (pv 0) pe_int (fun _ _ => rfl)) pe_str (nomark _))
      (pss_one (ps_ret (pe_and (pe_cmpR op_le (pe_callB call_len_seq (by rfl) G.len (by decide +kernel) (pa_cons (pe_ix ix_tup (pv 0) pe_int (fun _ _ => rfl)) pa_nil)) pe_int (nomark _)) (pe_one (pe_cmpR op_le (pe_callB (cr_max rfl) (by rfl) G.max (by decide +kernel) (pa_cons (pe_lc (own := [("_law_text", 1)]) (g := gName 1) (tt := tYes) rfl sc_law_is_bounded.nd (pi_list (pe_ix ix_tup (pv 0) pe_int (fun _ _ => rfl))) (blkOk_by (N := ["_law_spec", "_law_text"]) (sc := defScope s_law_is_bounded) (by decide +kernel)) (fun _ _ _ _ _ => pg_name (i := 1) sc_law_is_bounded.nd rfl (Or.inl rfl)) (fun _ _ _ _ _ => pts_nil) (fun _ _ _ _ _ => (pe_callB call_len_str (by rfl) G.len (by decide +kernel) (pa_cons (pv 1) pa_nil)))) pa_nil)) pe_int (nomark _))))))
      pss_nil)
    (pss_cons (ps_if (pt_cmpR op_in_seq (pe_ix ix_tup (pv 0) pe_int (fun _ _ => rfl)) (pe_tupS (pa_cons pe_str (pa_cons pe_str pa_nil))) (by rfl))
      (pss_one (ps_ret (pe_or (pe_cmpR op_eq (pe_ix ix_tup (pv 0) pe_int (fun _ _ => rfl)) pe_str (nomark _)) (pe_one (pe_cmpR op_le (pe_ix ix_tup (pv 0) pe_int (fun _ _ => rfl)) pe_int (nomark _))))))
      pss_nil)
    (pss_one (ps_ret (pe_and (pe_cmpR op_le (pe_ix ix_tup (pv 0) (pe_un un_neg pe_int) (fun _ _ => rfl)) pe_int (nomark _)) (pe_one (pe_or (pe_cmpR op_isN (pe_ix ix_tup (pv 0) (pe_un un_neg pe_int) (fun _ _ => rfl)) pe_non (nomark _)) (pe_one (pe_cmpR op_le (pe_ix ix_tup (pv 0) (pe_un un_neg pe_int) (fun _ _ => rfl)) pe_int (nomark _))))))))))), ?_⟩
    obtain ⟨s, v, ms, d, rfl, hI, hW, hn, q⟩ := h
    cases ms with
    | cons p ms =>
      obtain ⟨b, u, rfl, nb, eb, hIu⟩ := hI
      refine ⟨_, rfl, b, _, _, _, rfl, rfl, SqT.of eb, atI_nat (j := 0) rfl, rfl, _, rfl, itY ?_⟩
      exact ⟨_, rfl, b, _, _, _, rfl, rfl, SqT.of eb, atI_nat (j := 3) rfl, s, u, ms, d, rfl, hIu, hW, Nat.lt_of_succ_lt_succ hn, q⟩
    | nil =>
      have hI : PDAt s H v d := hI
      cases hW with
      | @listed ts c1 c2 c3 =>
        obtain ⟨b, u, rfl, nb, eb, ⟨u2, rfl, eu⟩, _⟩ := hI
        refine ⟨_, rfl, b, _, _, _, rfl, rfl, SqT.of eb, atI_nat (j := 0) rfl, rfl, _, rfl, itN (by decide +kernel) ?_⟩
        refine ⟨_, rfl, b, _, _, _, rfl, rfl, SqT.of eb, atI_nat (j := 0) rfl, rfl, _, rfl, itY ?_⟩
        refine ⟨_, rfl, b, _, _, _, rfl, rfl, SqT.of eb, atI_nat (j := 1) rfl, u2, _, rfl, .inl (SqL.of eu), _, _, rfl, rfl, ?_⟩
        refine ⟨_, rfl, ?_⟩
        have u : bdB (.listed (.lst (ts.map V.str))) = (decide (((ts.map V.str).length : Int) ≤ 12) && (ts.map V.str).all fun v => decide (lenOf v ≤ 12)) := by
          show (decide ((ts.map V.str).length ≤ 12) && _) = _
          congr 1
          rw [Bool.eq_iff_iff, decide_eq_true_iff, decide_eq_true_iff]
          omega
        rw [u] at q
        refine ite2 (fun h1 => ?_) (fun h1 => ?_)
        rotate_left
        · have q0 := q _ (Same.refl _)
          rw [notB h1] at q0
          exact q0
        rw [h1, Bool.true_and] at q
        have hl : (ts.map V.str).length ≤ 12 := by have := of_decide_eq_true h1; omega
        refine ⟨_, rfl, b, _, _, _, rfl, rfl, SqT.of eb, atI_nat (j := 1) rfl, u2, rfl, ⟨_, SqL.of eu⟩, fun D hD => ?_⟩
        refine lc_list (K := K) (a := u2) (xs := ts.map V.str) (LcP H D fun n => ((ts.map V.str).take n).map fun v => V.int (lenOf v : Nat)) (LcP.start hD rfl) (fun i J hi p => p.1.seq (SqL.of eu)) ?_ ?_
        · intro i v J hx p
          obtain ⟨t, ht, rfl⟩ := List.mem_map.mp (List.mem_of_getElem? hx)
          have l1 : t.length ≤ 80 := Nat.le_trans (join_part (s := ",") ts ht) c3.len
          refine ⟨rfl, _, rfl, t, rfl, by rw [sizeLine_eq]; omega, p.put (Same.refl _) (take_succ_map _ hx) ?_⟩
          have := (List.getElem?_eq_some_iff.mp hx).1
          omega
        · rintro J ⟨SJ, _, eJ, _⟩
          have eJ2 : J D = some (.lst ((ts.map fun t => ((t.length : Nat) : Int)).map V.int)) := by
            rw [eJ]
            show some (HO.lst (((ts.map V.str).take (ts.map V.str).length).map fun v => V.int (lenOf v : Nat))) = _
            rw [List.take_length, List.map_map, List.map_map]
            rfl
          refine ⟨D, _, rfl, SqL.of eJ2, ?_, fun m hm hmax => ⟨_, _, rfl, rfl, ?_⟩⟩
          · rw [List.length_map]
            exact List.length_pos_iff.mpr c1
          · have q0 := q _ SJ
            have e : ((ts.map V.str).all fun v => decide (lenOf v ≤ 12)) = decide (m ≤ 12) := by
              rw [Bool.eq_iff_iff, List.all_eq_true, decide_eq_true_iff]
              constructor
              · intro k
                obtain ⟨t, ht, rfl⟩ := List.mem_map.mp hm
                have := of_decide_eq_true (k _ (List.mem_map.mpr ⟨t, ht, rfl⟩))
                have z : lenOf (V.str t) = t.length := rfl
                omega
              · intro k v hv
                obtain ⟨t, ht, rfl⟩ := List.mem_map.mp hv
                have := hmax _ (List.mem_map.mpr ⟨t, ht, rfl⟩)
                exact decide_eq_true (by show t.length ≤ 12; omega)
            rw [e] at q0
            exact q0
      | @number l m c e =>
        obtain ⟨b, rfl, nb, eb⟩ := hI
        refine ⟨_, rfl, b, _, _, _, rfl, rfl, SqT.of eb, atI_nat (j := 0) rfl, rfl, _, rfl, itN (by decide +kernel) ?_⟩
        refine ⟨_, rfl, b, _, _, _, rfl, rfl, SqT.of eb, atI_nat (j := 0) rfl, rfl, _, rfl, itN (by decide +kernel) ?_⟩
        refine ⟨_, rfl, b, _, _, _, rfl, rfl, SqT.of eb, atI_nat (j := 0) rfl, by show 2 ≤ 1000; decide, fun pe H2 _ S2 e2 => ⟨pe, _, rfl, .inr (SqT.of e2), rfl, rfl, _, rfl, ?_⟩⟩
        rw [show inV (.str "number") [.str "fixed", .str "number"] = true by decide +kernel]
        have eb := S2 _ _ eb
        refine iteT ⟨_, rfl, b, _, _, _, rfl, rfl, SqT.of eb, atI_nat (j := 0) rfl, rfl, _, rfl, ?_⟩
        exact itY (q _ S2)
      | @fixed l c =>
        obtain ⟨b, rfl, nb, eb⟩ := hI
        refine ⟨_, rfl, b, _, _, _, rfl, rfl, SqT.of eb, atI_nat (j := 0) rfl, rfl, _, rfl, itN (by decide +kernel) ?_⟩
        refine ⟨_, rfl, b, _, _, _, rfl, rfl, SqT.of eb, atI_nat (j := 0) rfl, rfl, _, rfl, itN (by decide +kernel) ?_⟩
        refine ⟨_, rfl, b, _, _, _, rfl, rfl, SqT.of eb, atI_nat (j := 0) rfl, by show 2 ≤ 1000; decide, fun pe H2 _ S2 e2 => ⟨pe, _, rfl, .inr (SqT.of e2), rfl, rfl, _, rfl, ?_⟩⟩
        rw [show inV (.str "fixed") [.str "fixed", .str "number"] = true by decide +kernel]
        have eb := S2 _ _ eb
        refine iteT ⟨_, rfl, b, _, _, _, rfl, rfl, SqT.of eb, atI_nat (j := 0) rfl, rfl, _, rfl, itN (by decide +kernel) ?_⟩
        exact ⟨_, rfl, b, _, _, _, rfl, rfl, SqT.of eb, atI_nat (j := 1) rfl, _, _, rfl, rfl, q _ S2⟩
      | @word z l m a b' c e =>
        obtain ⟨b, rfl, nb, eb⟩ := hI
        refine ⟨_, rfl, b, _, _, _, rfl, rfl, SqT.of eb, atI_nat (j := 0) rfl, rfl, _, rfl, itN (by decide +kernel) ?_⟩
        refine ⟨_, rfl, b, _, _, _, rfl, rfl, SqT.of eb, atI_nat (j := 0) rfl, rfl, _, rfl, itN (by decide +kernel) ?_⟩
        refine ⟨_, rfl, b, _, _, _, rfl, rfl, SqT.of eb, atI_nat (j := 0) rfl, by show 2 ≤ 1000; decide, fun pe H2 _ S2 e2 => ⟨pe, _, rfl, .inr (SqT.of e2), rfl, rfl, _, rfl, ?_⟩⟩
        rw [show inV (.str "word") [.str "fixed", .str "number"] = false by decide +kernel]
        have eb := S2 _ _ eb
        refine iteF ⟨_, rfl, 2, rfl, b, _, _, _, rfl, rfl, SqT.of eb, atI_m2 (by show 1 < 4; decide) rfl, _, _, rfl, rfl, _, rfl, ?_⟩
        have q0 := q _ S2
        have u : bdB (.word (.str z) (.int (l : Nat)) m) = (decide ((l : Int) ≤ 12) && (decide (m = .non) || decide (intV m ≤ 12))) := rfl
        rw [u] at q0
        refine ite2 (fun h1 => ?_) (fun h1 => ?_)
        rotate_left
        · have h1 := notB h1
          rw [h1] at q0
          exact q0
        rw [h1, Bool.true_and] at q0
        refine ⟨_, rfl, 1, rfl, b, _, _, _, rfl, rfl, SqT.of eb, atI_m1 (by show 0 < 4; decide) rfl, rfl, _, rfl, ?_⟩
        rcases e with rfl | ⟨k, rfl, hk⟩
        · exact iteT q0
        · exact iteF ⟨_, rfl, 1, rfl, b, _, _, _, rfl, rfl, SqT.of eb, atI_m1 (by show 0 < 4; decide) rfl, _, _, rfl, rfl, q0⟩
      | @ended z e l m a b' a2 b2 c em =>
        obtain ⟨b, rfl, nb, eb⟩ := hI
        refine ⟨_, rfl, b, _, _, _, rfl, rfl, SqT.of eb, atI_nat (j := 0) rfl, rfl, _, rfl, itN (by decide +kernel) ?_⟩
        refine ⟨_, rfl, b, _, _, _, rfl, rfl, SqT.of eb, atI_nat (j := 0) rfl, rfl, _, rfl, itN (by decide +kernel) ?_⟩
        refine ⟨_, rfl, b, _, _, _, rfl, rfl, SqT.of eb, atI_nat (j := 0) rfl, by show 2 ≤ 1000; decide, fun pe H2 _ S2 e2 => ⟨pe, _, rfl, .inr (SqT.of e2), rfl, rfl, _, rfl, ?_⟩⟩
        rw [show inV (.str "ended") [.str "fixed", .str "number"] = false by decide +kernel]
        have eb := S2 _ _ eb
        refine iteF ⟨_, rfl, 2, rfl, b, _, _, _, rfl, rfl, SqT.of eb, atI_m2 (by show 1 < 5; decide) rfl, _, _, rfl, rfl, _, rfl, ?_⟩
        have q0 := q _ S2
        have u : bdB (.ended (.str z) (.str e) (.int (l : Nat)) m) = (decide ((l : Int) ≤ 12) && (decide (m = .non) || decide (intV m ≤ 12))) := rfl
        rw [u] at q0
        refine ite2 (fun h1 => ?_) (fun h1 => ?_)
        rotate_left
        · have h1 := notB h1
          rw [h1] at q0
          exact q0
        rw [h1, Bool.true_and] at q0
        refine ⟨_, rfl, 1, rfl, b, _, _, _, rfl, rfl, SqT.of eb, atI_m1 (by show 0 < 5; decide) rfl, rfl, _, rfl, ?_⟩
        rcases em with rfl | ⟨k, rfl, hk⟩
        · exact iteT q0
        · exact iteF ⟨_, rfl, 1, rfl, b, _, _, _, rfl, rfl, SqT.of eb, atI_m1 (by show 0 < 5; decide) rfl, _, _, rfl, rfl, q0⟩

end
end L2.K79

set_option Elab.async false
set_option linter.all false
set_option maxRecDepth 100000
set_option maxHeartbeats 4000000
/-! The law: what a text is due. -/
namespace L2.K79
open PySem PySem.W PySem.Spec PySem.Calls PyProof.Rows L2.Jk
open Classical in
noncomputable def Fw (w : Str) : List (Str × Str) × PD := if h : ∃ f, FwOk w f then h.choose else ([], .fixed .non)
theorem Fw_ok {n : Nat} {w : Str} (h : Wee n w) (hw : wB w = true) : FwOk w (Fw w) := by
  have k := fw_is h hw
  unfold Fw
  rw [dif_pos k]
  exact k.choose_spec
noncomputable def fsOf (W : List Str) : List (List (Str × Str) × PD) := (fws W).map Fw
def spDue (K : Frag) : Sp := fun vs H Q _ => ∃ (t : Str) (n : Nat) (s : Addr), vs = [.str t] ∧ H s ≠ none ∧ (∀ w ∈ blk t, Wee n w) ∧ n ≤ 200 ∧ (∀ w ∈ blk t, (mkL (pcs w)).1.length < 30) ∧ (blk t).length ≤ 30 ∧
  (rdBad (blk t) = none → ∀ f ∈ fsOf (blk t), BdP f.2) ∧
  (∀ i : Nat, rdBad (blk t) = some i → ∀ T H', Same H H' → H' T = some (.tup [.str "text", .int (i : Nat)]) → Q (.ref T) H') ∧
  (∀ x, rdBad (blk t) = none → firstDue (fsOf (blk t)) = some x → ∀ T H', Same H H' → H' T = some (.tup [.str "field", .str x]) → Q (.ref T) H') ∧
  (rdBad (blk t) = none → firstDue (fsOf (blk t)) = none → ∀ T L H', Same H H' → H' T = some (.tup [.str "told", .ref L]) → LayAt K H' L ((fsOf (blk t)).map fun f => fdM f.1 f.2) (sg "" (blk t)).tail → Q (.ref T) H')
structure Gdu (P : Program) (w : World) (K : Frag) (mg : Str → Option Value) (base : Heap) : Prop extends Gbd P w K mg base where
  law_spec_of : FnAt P w K mg base CX0 34 "_law_spec_of" ["_law_word_here"] (spSo 30)
  law_refusal : FnAt P w K mg base CX0 31 "_law_refusal" ["_law_spec"] (spRf 30)
  law_made : FnAt P w K mg base CX0 7 "_law_made" ["_law_spec"] (spMd K 2)
theorem PDAt.but2 {s s' : Addr} {H H' : Hp} {v : V} (B : But s' H H') : ∀ {d : PD}, PDAt s H v d → PDAt s' H v d → PDAt s H' v d
  | .word .., ⟨b, e, n, h⟩, ⟨b', e', n', _⟩ => ⟨b, e, n, B _ _ (by rw [e] at e'; injection e' with z; rw [z]; exact n') h⟩
  | .number .., ⟨b, e, n, h⟩, ⟨b', e', n', _⟩ => ⟨b, e, n, B _ _ (by rw [e] at e'; injection e' with z; rw [z]; exact n') h⟩
  | .fixed _, ⟨b, e, n, h⟩, ⟨b', e', n', _⟩ => ⟨b, e, n, B _ _ (by rw [e] at e'; injection e' with z; rw [z]; exact n') h⟩
  | .listed _, ⟨b, u, e, n, h, l, k⟩, ⟨b', u', e', n', h', l', k'⟩ => by
    rw [e] at e'
    injection e' with z
    subst z
    rw [h] at h'
    injection h' with h'
    injection h' with h'
    injection h' with _ h'
    injection h' with h' _
    subst h'
    exact ⟨b, u, e, n, B _ _ n' h, l.but B k', k⟩
  | .ended .., ⟨b, e, n, h⟩, ⟨b', e', n', _⟩ => ⟨b, e, n, B _ _ (by rw [e] at e'; injection e' with z; rw [z]; exact n') h⟩
theorem SIn.but2 {s s' : Addr} {H H' : Hp} {d : PD} (B : But s' H H') : ∀ {ms : List (Str × Str)} {v : V}, SIn s H v ms d → SIn s' H v ms d → SIn s H' v ms d
  | [], _, h, h' => PDAt.but2 B h h'
  | _ :: _, _, ⟨b, u, e, n, h, k⟩, ⟨b', u', e', n', h', k'⟩ => by
    rw [e] at e'
    injection e' with z
    subst z
    rw [h] at h'
    injection h' with h'
    injection h' with h'
    have eu : u = u' := by simpa using h'
    subst eu
    exact ⟨b, u, e, n, B _ _ n' h, SIn.but2 B k k'⟩
abbrev FL := List (List (Str × Str) × PD)
def SpsI (s : Addr) (J : Hp) (vs : List V) (fs : FL) : Prop := vs.length = fs.length ∧ ∀ (i : Nat) (v : V) (f : List (Str × Str) × PD), vs[i]? = some v → fs[i]? = some f → SIn s J v f.1 f.2
theorem SpsI.same {s : Addr} {J J' : Hp} {vs : List V} {fs : FL} (S : Same J J') (h : SpsI s J vs fs) : SpsI s J' vs fs := ⟨h.1, fun i v f a b => (h.2 i v f a b).same S⟩
theorem SpsI.but2 {s s' : Addr} {J J' : Hp} {vs : List V} {fs : FL} (B : But s' J J') (h : SpsI s J vs fs) (h' : SpsI s' J vs fs) : SpsI s J' vs fs := ⟨h.1, fun i v f a b => SIn.but2 B (h.2 i v f a b) (h'.2 i v f a b)⟩
theorem SpsI.snoc {s : Addr} {J : Hp} {vs : List V} {fs : FL} {v : V} {f : List (Str × Str) × PD} (h : SpsI s J vs fs) (k : SIn s J v f.1 f.2) : SpsI s J (vs ++ [v]) (fs ++ [f]) := by
  refine ⟨by rw [List.length_append, List.length_append, h.1]; rfl, fun i u g a b => ?_⟩
  by_cases hi : i < vs.length
  · rw [List.getElem?_append_left hi] at a
    rw [List.getElem?_append_left (by rw [← h.1]; exact hi)] at b
    exact h.2 i u g a b
  · rw [List.getElem?_append_right (by omega)] at a
    rw [List.getElem?_append_right (by rw [← h.1]; omega)] at b
    have hz : i - vs.length = 0 := by
      have := (List.getElem?_eq_some_iff.mp a).1
      simp only [List.length_cons, List.length_nil] at this
      omega
    rw [hz] at a
    rw [← h.1, hz] at b
    obtain rfl := Option.some.inj a
    obtain rfl := Option.some.inj b
    exact k
theorem inI (W : List Str) (i : Nat) : inV (.int (i : Nat)) [.int 0, .int (((W.map V.str).length : Nat) - 1 : Int)] = (decide (i = 0) || decide (i + 1 = W.length)) := by
  rw [Bool.eq_iff_iff]
  unfold inV
  simp only [List.any_cons, List.any_nil, eqV, Bool.or_false, List.length_map, Bool.or_eq_true, decide_eq_true_iff, beq_iff_eq]
  omega
theorem fd_good {ms : List (Str × Str)} {d : PD} (hw : WfP d) (hb : BdP d) (hm : ∀ p ∈ ms, PtOk p.1 ∧ PtOk p.2) (h : dueM ms d = none) : (fdM ms d).good ∧ (fdM ms d).dep < 2 := by
  match ms, hm, h with
  | [], _, h => exact ⟨⟨in_of hw hb, h⟩, Nat.zero_lt_two⟩
  | [p], hm, h =>
    have h : (match d.due with | some x => some x | none => OD.due (.mk (.str p.1) (.str p.2) (.pl d))) = none := h
    cases k : d.due with
    | some x => rw [k] at h; cases h
    | none =>
      rw [k] at h
      obtain ⟨a, b⟩ := hm p (List.mem_singleton.mpr rfl)
      exact ⟨⟨in_of hw hb, k, ⟨rfl, a.len⟩, ⟨rfl, b.len⟩, h⟩, Nat.one_lt_two⟩
  | p :: q :: ms, _, h => have := dueM_short h; simp only [List.length_cons] at this; omega
theorem SIn.fin {s : Addr} {H : Hp} {v : V} {ms : List (Str × Str)} {d : PD} (h : SIn s H v ms d) (k : dueM ms d = none) : FIn s H v (fdM ms d) := by
  match ms, h, k with
  | [], h, _ => exact h
  | [p], h, _ => exact h
  | p :: q :: ms, _, k => have := dueM_short k; simp only [List.length_cons] at this; omega
theorem fws_wB {W : List Str} (h : rdBad W = none) {u : Str} (hu : u ∈ fws W) : u ∈ W ∧ wB u = true := by
  obtain ⟨a, b⟩ := List.mem_filter.mp hu
  obtain ⟨j, hj⟩ := List.mem_iff_getElem?.mp a
  have z := none_bad h (List.getElem?_eq_some_iff.mp hj).1
  rw [badW_word hj (isNot b)] at z
  exact ⟨a, notNot (by rw [z]; exact Bool.false_ne_true)⟩
theorem fs_snoc {W : List Str} {i : Nat} {u : Str} (h : fws (W.take (i + 1)) = fws (W.take i) ++ [u]) : fsOf (W.take (i + 1)) = fsOf (W.take i) ++ [Fw u] := by
  unfold fsOf
  rw [h, List.map_append]
  rfl

section
variable {P : Program} {w : World} {K : Frag} {mg : Str → Option Value} {base : Heap} {f : Addr} {fd : FuncData}

abbrev s_law_due : Stmt := top 61
theorem sc_law_due : FnScope ["_law_text", "_law_words", "_law_fields", "_law_signs", "_law_at", "_law_word_here", "_law_is_sign_word", "_law_spec"] ["_law_text"] (defScope s_law_due) := ⟨rfl, rfl, rfl, by decide +kernel, rfl, by decide +kernel, by decide +kernel⟩

theorem ok_law_due (F : FunD K "_law_due" "_law_due" (defArgs s_law_due) (defBody s_law_due) (defScope s_law_due) [] [] f fd) (G : Gdu P w K mg base) : FnOk P w K mg base CX0 41 f fd ["_law_text"] (spDue K) := by
  refine F.ok (CX := CX0) sc_law_due (fun vs H Q E h => ?_) (fun cdv A outer s H vs Q E hr h => ?_)
  · obtain ⟨_, _, _, rfl, _⟩ := h
    rfl
  · refine ⟨_, PSs.nox (pss_cons (ps_par3 (i := 1) (j := 2) (l := 3) (by rfl) sc_law_due.nd rfl rfl rfl (by decide) (by decide) (by decide) rfl rfl rfl (pa_cons (pe_split (pv 0) pe_str) (pa_cons (pe_lstS pa_nil) (pa_cons (pe_lstS pa_nil) pa_nil))) (by rfl))
    (pss_cons (ps_for PassesOwn.never rfl (pi_enum (by rfl) G.enumerate (pa_cons (pv 1) pa_nil)) (pg_tup rfl (pgs_cons (pg_name (i := 4) sc_law_due.nd rfl (Or.inl rfl)) (pgs_cons (pg_name (i := 5) sc_law_due.nd rfl (Or.inl rfl)) pgs_nil)))
      (pss_cons (ps_set (i := 6) sc_law_due.nd rfl (Or.inl rfl) (pe_cmpR op_in_seq (pv 5) (pe_tupS (pa_cons pe_str (pa_cons pe_str pa_nil))) (by rfl)))
      (pss_cons (ps_if (PW.pt (pw_and (pt_val (pv 6)) (pw_and1 (PW.pt (pw_or (pt_cmpR op_in_seq (pv 4) (pe_tupS (pa_cons pe_int (pa_cons (pe_op op_sub (pe_callB call_len_seq (by rfl) G.len (by decide +kernel) (pa_cons (pv 1) pa_nil)) pe_int) pa_nil))) (by rfl)) (pw_or1 (pt_cmpR op_in_seq (pe_ix ix_list (pv 1) (pe_op op_sub (pv 4) pe_int) (fun _ _ => rfl)) (pe_tupS (pa_cons pe_str (pa_cons pe_str pa_nil))) (by rfl))))))))
        (pss_one (ps_ret (pe_tupS (pa_cons pe_str (pa_cons (pv 4) pa_nil)))))
        pss_nil)
      (pss_cons (ps_if (PW.pt (pw_and (pt_not (pt_val (pv 6))) (pw_and1 (pt_cmpR op_isN (pe_fn G.law_spec_of (hr.mono (by omega)) pass0 (by rfl) (pa_cons (pv 5) pa_nil)) pe_non (nomark _)))))
        (pss_one (ps_ret (pe_tupS (pa_cons pe_str (pa_cons (pv 4) pa_nil)))))
        pss_nil)
      (pss_one (ps_if (pt_not (pt_val (pv 6)))
        (pss_cons (ps_expr (pe_bm PySem.F.plainAttrs_list PySem.F.slot_list_append PySem.F.type_list_append mt_append (pv 2) (pa_cons (pe_fn G.law_spec_of (hr.mono (by omega)) pass0 (by rfl) (pa_cons (pv 5) pa_nil)) pa_nil)))
        (pss_one (ps_expr (pe_bm PySem.F.plainAttrs_list PySem.F.slot_list_append PySem.F.type_list_append mt_append (pv 3) (pa_cons (pe_ifExp (PW.pt (pw_and (pt_cmpR op_gt (pv 4) pe_int (nomark _)) (pw_and1 (pt_cmpR op_in_seq (pe_ix ix_list (pv 1) (pe_op op_sub (pv 4) pe_int) (fun _ _ => rfl)) (pe_tupS (pa_cons pe_str (pa_cons pe_str pa_nil))) (by rfl))))) (pe_ix ix_list (pv 1) (pe_op op_sub (pv 4) pe_int) (fun _ _ => rfl)) pe_str) pa_nil)))))
        pss_nil))))))
    (pss_cons (ps_for PassesOwn.never rfl (pi_list (pv 2)) (pg_name (i := 7) sc_law_due.nd rfl (Or.inl rfl))
      (pss_one (ps_if (pt_cmpR op_notN (pe_fn G.law_refusal (hr.mono (by omega)) pass0 (by rfl) (pa_cons (pv 7) pa_nil)) pe_non (nomark _))
        (pss_one (ps_ret (pe_tupS (pa_cons pe_str (pa_cons (pe_fn G.law_refusal (hr.mono (by omega)) pass0 (by rfl) (pa_cons (pv 7) pa_nil)) pa_nil)))))
        pss_nil)))
    (pss_one (ps_ret (pe_tupS (pa_cons pe_str (pa_cons (pe_newS G.kLay (hr.mono (j := 5) (by decide)) (fun σ => passAt takes0 σ) (by rfl) (pa_cons (pe_lc (own := [("_law_spec", 7)]) (g := gName 7) (tt := tYes) rfl sc_law_due.nd (pi_list (pv 2)) (blkOk_by (N := ["_law_text", "_law_words", "_law_fields", "_law_signs", "_law_at", "_law_word_here", "_law_is_sign_word", "_law_spec"]) (sc := defScope s_law_due) (by decide +kernel)) (fun _ _ _ _ _ => pg_name (i := 7) sc_law_due.nd rfl (Or.inl rfl)) (fun _ _ _ _ _ => pts_nil) (fun _ _ _ _ _ => (pe_fn G.law_made (hr.mono (by omega)) pass0 (by rfl) (pa_cons (pv 7) pa_nil)))) (pa_cons (pe_slice sl_listS (pv 3) (po_some pe_int) po_none) pa_nil))) pa_nil)))))))), ?_⟩
    obtain ⟨t, n, s, rfl, hs, hWe, hn, hmk, hl, hbd, q1, q2, q3⟩ := h
    have hlen : t.length ≤ 30 * 16201 := by
      have h1 := join_le (s := " ") (B := 16200) (by decide) (blk t) fun w hw => by
        have := (hWe w hw).len
        omega
      rw [blk_join] at h1
      exact Nat.le_trans h1 (Nat.mul_le_mul_right _ hl)
    refine ⟨_, rfl, ⟨_, rfl⟩, t, " ", rfl, rfl, rfl, by rw [sizeLine_eq]; omega, fun wl hwl => ?_⟩
    have S1 : Same H (upd H wl (.lst ((Txt.split t " ").map V.str))) := same_upd hwl
    have eW : upd H wl (.lst ((Txt.split t " ").map V.str)) wl = some (.lst ((blk t).map V.str)) := upd_same
    generalize upd H wl (.lst ((Txt.split t " ").map V.str)) = J at S1 eW ⊢
    have hW0 := blk_ne t
    generalize blk t = W at *
    refine ⟨by show 0 ≤ 1000; decide, fun fl J1 hfl Sf e1 => ⟨by show 0 ≤ 1000; decide, fun jl J2 hjl Sj e2 => ⟨_, _, _, rfl, ?_⟩⟩⟩
    have eW2 := Sj _ _ (Sf _ _ eW)
    have ef2 := Sj _ _ e1
    have n1 : wl ≠ fl := ne_of_none eW hfl
    have n2 : wl ≠ jl := ne_of_none (Sf _ _ eW) hjl
    have n3 : fl ≠ jl := ne_of_none e1 hjl
    have hf0 : H fl = none := none_of S1 hfl
    have hj0 : H jl = none := none_of (S1.trans Sf) hjl
    have S := (S1.trans Sf).trans Sj
    clear eW e1
    refine ⟨_, rfl, wl, _, rfl, SqL.of eW2, for_it (walk_enum (xs := W.map V.str)) (fun i σ J => ∃ v4 v5 v6 v7, σ = [some (.str t), some (.ref wl), some (.ref fl), some (.ref jl), v4, v5, v6, v7] ∧ Same H J ∧ J wl = some (.lst (W.map V.str)) ∧ (∀ j, j < i → badW W j = false) ∧ J jl = some (.lst ((sg "" (W.take i)).map V.str)) ∧ ∃ vs, J fl = some (.lst vs) ∧ SpsI fl J vs (fsOf (W.take i)) ∧ SpsI jl J vs (fsOf (W.take i)))
      ⟨_, _, _, _, rfl, S, eW2, fun j hj => absurd hj (Nat.not_lt_zero _), e2, [], ef2, ⟨rfl, fun i v f a => by cases a⟩, ⟨rfl, fun i v f a => by cases a⟩⟩ (fun i σ J _ ⟨_, _, _, _, _, _, e, _⟩ => SqL.of e) ?_ ?_⟩
    · rintro i z σ J J2 hi ⟨v4, v5, v6, v7, rfl, S, eW, hb, eJ, vs, eF, hF, hF2⟩ ⟨T0, p, x, rfl, hT, rfl, ep, ex⟩
      obtain rfl := Option.some.inj ep
      replace ex : (W.map V.str)[i]? = some x := ex
      rw [List.getElem?_map] at ex
      obtain ⟨u, hu, rfl⟩ := Option.map_eq_some_iff.mp ex
      have hiW : i < W.length := (List.getElem?_eq_some_iff.mp hu).1
      have hum := hWe u (List.mem_of_getElem? hu)
      have hfl := fws_len (W.take i)
      rw [List.length_take] at hfl
      have S3 : Same J (upd J T0 (.tup [.int (i : Nat), .str u])) := same_upd hT
      have e3 : upd J T0 (.tup [.int (i : Nat), .str u]) T0 = some (.tup [.int (i : Nat), .str u]) := upd_same
      generalize upd J T0 (.tup [.int (i : Nat), .str u]) = J3 at S3 e3 ⊢
      have hline : ∀ k : Nat, k ≤ 80 → k < sizeLine := fun k hk => by rw [sizeLine_eq]; omega
      have bad : badW W i = true → ∀ T J5, Same H J5 → J5 T = some (.tup [.str "text", .int (i : Nat)]) → Q (.ref T) J5 := fun h T J5 S5 e5 => q1 i (find_first hiW h hb) T J5 S5 e5
      have hbi : badW W i = false → ∀ j, j < i + 1 → badW W j = false := fun h j hj => by
        rcases Nat.lt_succ_iff_lt_or_eq.mp hj with h1 | h1
        · exact hb j h1
        · rw [h1]; exact h
      have hft := fws_take hu
      have hsg := sg_snoc (W.take i) "" u
      rw [← take_snoc hu] at hsg
      refine ⟨T0, _, rfl, SqT.of e3, rfl, _, _, rfl, _, _, rfl, rfl, ?_⟩
      refine ⟨_, rfl, by show 2 ≤ 1000; decide, fun p1 J4 hp1 S4 e4 => ⟨p1, _, rfl, .inr (SqT.of e4), rfl, rfl, ?_⟩⟩
      have S34 := S3.trans S4
      have HS := S.trans S34
      show gName 6 (.bl (sepB u)) _ _ _
      cases hsp : sepB u with
      | true =>
        rw [hsp, if_pos rfl, List.append_nil] at hft hsg
        have e0 : badW W i = (decide (i = 0) || (decide (i + 1 = W.length) || sepB (pvW W i))) := badW_sep hu hsp
        refine ⟨_, rfl, _, rfl, iteT ?_⟩
        refine ⟨_, rfl, _, rfl, wl, _, rfl, .inl (SqL.of (S34 _ _ eW)), _, _, rfl, rfl, by show 2 ≤ 1000; decide, fun p2 J5 hp2 S5 e5 => ⟨p2, _, rfl, .inr (SqT.of e5), rfl, rfl, _, rfl, ?_⟩⟩
        refine ite2 (fun h1 => ?_) (fun h1 => ?_)
        · have h1 : inV (.int (i : Nat)) [.int 0, .int (((W.map V.str).length : Nat) - 1 : Int)] = true := h1
          rw [inI] at h1
          exact iteT ⟨_, rfl, by show 2 ≤ 1000; decide, fun T J6 _ S6 e6 => bad (by rw [e0, ← Bool.or_assoc, h1]; rfl) T J6 ((HS.trans S5).trans S6) e6⟩
        have h1 : inV (.int (i : Nat)) [.int 0, .int (((W.map V.str).length : Nat) - 1 : Int)] = false := notB h1
        rw [inI, Bool.or_eq_false_iff, decide_eq_false_iff_not, decide_eq_false_iff_not] at h1
        obtain ⟨hi0, hi1⟩ := h1
        refine ⟨_, rfl, _, rfl, _, _, rfl, rfl, wl, _, _, _, rfl, rfl, SqL.of ((S34.trans S5) _ _ eW), prevW hi0 (Nat.le_of_lt hiW), by show 2 ≤ 1000; decide, fun p3 J6 hp3 S6 e6 => ⟨p3, _, rfl, .inr (SqT.of e6), rfl, rfl, _, rfl, ?_⟩⟩
        show if sepB (pvW W i) = true then _ else _
        have HS6 := (HS.trans S5).trans S6
        have S36 := (S34.trans S5).trans S6
        refine ite2 (fun h2 => ?_) (fun h2 => ?_)
        · exact ⟨_, rfl, by show 2 ≤ 1000; decide, fun T J7 _ S7 e7 => bad (by rw [e0, h2]; simp) T J7 (HS6.trans S7) e7⟩
        have hbad : badW W i = false := by rw [e0, decide_eq_false hi0, decide_eq_false hi1, notB h2]; rfl
        refine ⟨_, rfl, _, rfl, iteF (iteF ⟨_, rfl, _, rfl, iteF ?_⟩)⟩
        exact ⟨_, _, _, _, rfl, HS6, S36 _ _ eW, hbi hbad, by rw [hsg]; exact S36 _ _ eJ, vs, S36 _ _ eF, by unfold fsOf; rw [hft]; exact hF.same S36, by unfold fsOf; rw [hft]; exact hF2.same S36⟩
      | false =>
        rw [hsp, if_neg Bool.false_ne_true] at hft hsg
        have e0 : badW W i = !wB u := badW_word hu hsp
        have hm30 := hmk u (List.mem_of_getElem? hu)
        refine ⟨_, rfl, _, rfl, iteF (iteF ?_)⟩
        refine ⟨_, rfl, _, rfl, iteT ?_⟩
        cases hw : wB u with
        | false =>
          refine ⟨_, rfl, u, n, rfl, hum, hn, hm30, fun _ J5 S5 => ⟨rfl, _, rfl, iteT ?_⟩, fun h => by rw [hw] at h; cases h⟩
          exact ⟨_, rfl, by show 2 ≤ 1000; decide, fun T J6 _ S6 e6 => bad (by rw [e0, hw]; rfl) T J6 ((HS.trans S5).trans S6) e6⟩
        | true =>
          have fo := Fw_ok hum hw
          have hbad : badW W i = false := by rw [e0, hw]; rfl
          refine ⟨_, rfl, u, n, rfl, hum, hn, hm30, fun h => (by rw [hw] at h; cases h), fun _ => ⟨(Fw u).1, (Fw u).2, fo.mkE, fo.wf, fun v5 J5 S5 hv5 => ?_⟩⟩
          obtain ⟨b5, rfl⟩ := (hv5 T0 (by rw [S4 _ _ e3]; exact fun z => by cases z)).ref
          refine ⟨rfl, _, rfl, iteF ?_⟩
          refine ⟨_, rfl, _, rfl, iteT ?_⟩
          have S35 := S34.trans S5
          refine ⟨_, rfl, .inl ⟨rfl, _, SqL.of (S35 _ _ eF)⟩, _, rfl, u, n, rfl, hum, hn, hm30, fun h => (by rw [hw] at h; cases h), fun _ => ⟨(Fw u).1, (Fw u).2, fo.mkE, fo.wf, fun v J6 S6 hv => ?_⟩⟩
          have hvf := hv fl (by rw [S35 _ _ eF]; exact fun z => by cases z)
          have hvj := hv jl (by rw [S35 _ _ eJ]; exact fun z => by cases z)
          have S36 := S35.trans S6
          have hvl : vs.length ≤ 30 := by
            rw [hF.1]
            unfold fsOf
            rw [List.length_map]
            omega
          refine ⟨fl, _, _, rfl, rfl, S36 _ _ eF, hline _ (by omega), ?_⟩
          have SK : Same H (upd J6 fl (.lst (vs ++ [v]))) := same_put (S.trans S36) hf0
          have B7 : But fl J6 (upd J6 fl (.lst (vs ++ [v]))) := but_upd _ _ _
          have k1 : upd J6 fl (.lst (vs ++ [v])) fl = some (.lst (vs ++ [v])) := upd_same
          have k2 : upd J6 fl (.lst (vs ++ [v])) jl = some (.lst ((sg "" (W.take i)).map V.str)) := by rw [upd_ne (Ne.symm n3)]; exact S36 _ _ eJ
          have k3 : upd J6 fl (.lst (vs ++ [v])) wl = some (.lst (W.map V.str)) := by rw [upd_ne n1]; exact S36 _ _ eW
          have F1 : SpsI fl J6 (vs ++ [v]) (fsOf (W.take (i + 1))) := by rw [fs_snoc hft]; exact (hF.same S36).snoc hvf
          have F2 : SpsI jl J6 (vs ++ [v]) (fsOf (W.take (i + 1))) := by rw [fs_snoc hft]; exact (hF2.same S36).snoc hvj
          replace F2 := F2.but2 B7 F1
          replace F1 := F1.but2 B7 F1
          generalize upd J6 fl (.lst (vs ++ [v])) = J7 at SK k1 k2 k3 F1 F2 ⊢
          clear B7
          refine ⟨_, rfl, .inl ⟨rfl, _, SqL.of k2⟩, ?_⟩
          have hjl : (sg "" (W.take i)).length ≤ 30 := by rw [sg_len]; omega
          have app : ∀ (J8 : Hp) (y : Str), Same J7 J8 → y = (if sepB (pvW W i) = true then pvW W i else "") →
              ∃ v4 v5 v6 v7', [some (V.str t), some (.ref wl), some (.ref fl), some (.ref jl), some (.int (i : Nat)), some (.str u), some (.bl false), v7] = [some (V.str t), some (.ref wl), some (.ref fl), some (.ref jl), v4, v5, v6, v7'] ∧ Same H (upd J8 jl (.lst ((sg "" (W.take i)).map V.str ++ [.str y]))) ∧ upd J8 jl (.lst ((sg "" (W.take i)).map V.str ++ [.str y])) wl = some (.lst (W.map V.str)) ∧ (∀ j, j < i + 1 → badW W j = false) ∧
                upd J8 jl (.lst ((sg "" (W.take i)).map V.str ++ [.str y])) jl = some (.lst ((sg "" (W.take (i + 1))).map V.str)) ∧ ∃ vs, upd J8 jl (.lst ((sg "" (W.take i)).map V.str ++ [.str y])) fl = some (.lst vs) ∧ SpsI fl (upd J8 jl (.lst ((sg "" (W.take i)).map V.str ++ [.str y]))) vs (fsOf (W.take (i + 1))) ∧ SpsI jl (upd J8 jl (.lst ((sg "" (W.take i)).map V.str ++ [.str y]))) vs (fsOf (W.take (i + 1))) := fun J8 y S8 hy => by
            have B9 : But jl J8 (upd J8 jl (.lst ((sg "" (W.take i)).map V.str ++ [.str y]))) := but_upd _ _ _
            refine ⟨_, _, _, _, rfl, same_put (SK.trans S8) hj0, by rw [upd_ne n2]; exact S8 _ _ k3, hbi hbad, ?_, vs ++ [v], by rw [upd_ne n3]; exact S8 _ _ k1, (F1.same S8).but2 B9 (F2.same S8), (F2.same S8).but2 B9 (F2.same S8)⟩
            rw [upd_same, hsg, List.map_append, hy]
            rfl
          refine ⟨_, rfl, _, _, rfl, rfl, _, rfl, ?_⟩
          refine ite2 (fun h0 => ?_) (fun h0 => ?_)
          · have hi0 : i ≠ 0 := fun z => by
              have := of_decide_eq_true h0
              have : (0 : Int) < ((i : Nat) : Int) := this
              omega
            refine ⟨_, rfl, _, rfl, _, _, rfl, rfl, wl, _, _, _, rfl, rfl, SqL.of k3, prevW hi0 (Nat.le_of_lt hiW), by show 2 ≤ 1000; decide, fun p2 J8 hp2 S8 e8 => ⟨p2, _, rfl, .inr (SqT.of e8), rfl, rfl, _, rfl, ?_⟩⟩
            show if sepB (pvW W i) = true then _ else _
            refine ite2 (fun h2 => ?_) (fun h2 => ?_)
            · refine ⟨_, rfl, _, rfl, _, _, rfl, rfl, wl, _, _, _, rfl, rfl, SqL.of (S8 _ _ k3), prevW hi0 (Nat.le_of_lt hiW), jl, _, _, rfl, rfl, S8 _ _ k2, hline _ (by rw [List.length_map]; omega), ?_⟩
              exact app J8 _ S8 (by rw [if_pos h2])
            · refine ⟨jl, _, _, rfl, rfl, S8 _ _ k2, hline _ (by rw [List.length_map]; omega), ?_⟩
              exact app J8 _ S8 (by rw [if_neg h2])
          · have hi0 : i = 0 := by
              rcases Nat.eq_zero_or_pos i with z | z
              · exact z
              · exact absurd (decide_eq_true (show (0 : Int) < ((i : Nat) : Int) by omega)) h0
            subst hi0
            refine ⟨jl, _, _, rfl, rfl, k2, hline _ (by rw [List.length_map]; omega), ?_⟩
            exact app J7 _ (Same.refl _) (by rw [if_neg (by show ¬ sepB "" = true; rw [sep_emp]; exact Bool.false_ne_true)])
    · rintro σ J ⟨v4, v5, v6, v7, rfl, S, eW, hb, eJ, vs, eF, hF, _⟩
      rw [List.length_map] at hb eJ hF
      rw [List.take_length] at eJ hF
      have hno := find_none hb
      replace hbd := hbd hno
      have hfl : (fsOf W).length ≤ 30 := by
        have := fws_len W
        unfold fsOf
        rw [List.length_map]
        omega
      have item : ∀ {i : Nat} {f : List (Str × Str) × PD}, (fsOf W)[i]? = some f → WfP f.2 ∧ BdP f.2 ∧ (∀ p ∈ f.1, PtOk p.1 ∧ PtOk p.2) ∧ f.1.length < 30 := fun {i f} hf => by
        have hfm := List.mem_of_getElem? hf
        have hB := hbd f hfm
        obtain ⟨u, hu, rfl⟩ := List.mem_map.mp hfm
        obtain ⟨hu1, hu2⟩ := fws_wB hno hu
        have fo := Fw_ok (hWe u hu1) hu2
        refine ⟨fo.wf, hB, fo.ms, ?_⟩
        have := hmk u hu1
        rw [fo.mkE] at this
        exact this
      refine ⟨_, rfl, fl, rfl, ⟨_, SqL.of eF⟩, for_list (K := K) (a := fl) (xs := vs) (fun i σ J1 => ∃ v4 v5 v6 v7, σ = [some (.str t), some (.ref wl), some (.ref fl), some (.ref jl), v4, v5, v6, v7] ∧ Same J J1 ∧ ∀ g ∈ (fsOf W).take i, dueM g.1 g.2 = none) ⟨_, _, _, _, rfl, Same.refl _, fun g hg => by cases hg⟩ (fun i σ J1 _ ⟨_, _, _, _, _, SJ, _⟩ => SqL.of (SJ _ _ eF)) ?_ ?_⟩
      · rintro i z σ J1 ez ⟨v4, v5, v6, v7, rfl, SJ, hdn⟩
        have hiv := (List.getElem?_eq_some_iff.mp ez).1
        obtain ⟨f, hf⟩ : ∃ f, (fsOf W)[i]? = some f := ⟨_, List.getElem?_eq_getElem (by rw [← hF.1]; exact hiv)⟩
        have hS := (hF.2 i z f ez hf).same SJ
        obtain ⟨i1, i2, i3, i4⟩ := item hf
        refine ⟨_, rfl, fl, z, f.1, f.2, rfl, hS, i1, i2, i3, i4, fun J3 S3 => ?_⟩
        cases e : dueM f.1 f.2 with
        | some x =>
          refine ⟨rfl, _, rfl, iteT ?_⟩
          refine ⟨_, rfl, fl, z, f.1, f.2, rfl, hS.same S3, i1, i2, i3, i4, fun J4 S4 => ⟨by show 2 ≤ 1000; decide, fun T J5 _ S5 e5 => ?_⟩⟩
          rw [e] at e5
          exact q2 x hno (first_at hf e hdn) T J5 ((((S.trans SJ).trans S3).trans S4).trans S5) e5
        | none =>
          refine ⟨rfl, _, rfl, iteF ⟨_, _, _, _, rfl, SJ.trans S3, fun g hg => ?_⟩⟩
          rw [List.take_add_one, hf] at hg
          rcases List.mem_append.mp hg with hg | hg
          · exact hdn g hg
          · rw [List.mem_singleton.mp hg]; exact e
      · rintro σ J1 ⟨v4, v5, v6, v7, rfl, SJ, hdn⟩
        rw [hF.1, List.take_length] at hdn
        have hfn : firstDue (fsOf W) = none := first_none hdn
        refine ⟨_, rfl, fl, rfl, ⟨_, SqL.of (SJ _ _ eF)⟩, fun D hD => ?_⟩
        refine lc_list (K := K) (a := fl) (xs := vs) (fun i J2 => ∃ ys, Same J1 J2 ∧ J2 D = some (.lst ys) ∧ FsAt K J2 ys (((fsOf W).take i).map fun f => fdM f.1 f.2)) ⟨[], same_upd hD, upd_same, ⟨rfl, fun i v d a => by cases a⟩⟩ (fun i J2 hi ⟨_, S2, _⟩ => S2.seq (SqL.of (SJ _ _ eF))) ?_ ?_
        · rintro i z J2 ez ⟨ys, S2, eD, hY⟩
          have hiv := (List.getElem?_eq_some_iff.mp ez).1
          obtain ⟨f, hf⟩ : ∃ f, (fsOf W)[i]? = some f := ⟨_, List.getElem?_eq_getElem (by rw [← hF.1]; exact hiv)⟩
          have hS := (hF.2 i z f ez hf).same (SJ.trans S2)
          obtain ⟨i1, i2, i3, i4⟩ := item hf
          have hd := hdn f (List.mem_of_getElem? hf)
          obtain ⟨g1, g2⟩ := fd_good i1 i2 i3 hd
          have hyl := hY.1
          rw [List.length_map, List.length_take] at hyl
          refine ⟨rfl, _, rfl, fl, z, fdM f.1 f.2, rfl, hS.fin hd, g1, g2, fun r J3 S3 hr => ⟨ys, S3 _ _ eD, by rw [sizeLine_eq]; omega, ys ++ [.ref r], same_put (S2.trans S3) hD, upd_same, ?_⟩⟩
          rw [List.take_add_one, hf, List.map_append]
          exact (hY.same S3).snoc (S3 _ _ eD) hr
        · rintro J2 ⟨ys, S2, eD, hY⟩
          rw [hF.1, List.take_length] at hY
          have eJ2 := S2 _ _ (SJ _ _ eJ)
          refine ⟨_, rfl, 1, rfl, jl, _, rfl, SqL.of eJ2, fun p8 J3 hp8 S3 e8 => fun L dx hL hdx ne => ?_⟩
          rw [cut1, ← List.map_drop, List.drop_one] at e8
          have hwp : 0 < (fws W).length := List.length_pos_iff.mpr (fws_ne hno hW0)
          have hfe : fsOf W ≠ [] := fun z => by
            have := congrArg List.length z
            unfold fsOf at this
            rw [List.length_map] at this
            simp only [List.length_nil] at this
            omega
          have hsl := sg_len W ""
          have hff : (fsOf W).length = (fws W).length := by unfold fsOf; rw [List.length_map]
          refine lay_at hL hdx (S3 _ _ eD) (hY.same S3) (by rw [List.length_map]; omega) (fun z => hfe (List.map_eq_nil_iff.mp z)) e8 (jn_tail W "" (.inl rfl)) (by rw [List.length_tail, hsl, List.length_map, hff]; omega) fun J' S4 h => ⟨rfl, by show 2 ≤ 1000; decide, fun T J5 _ S5 e5 => ?_⟩
          exact q3 hno hfn T L J5 (((((S.trans SJ).trans S2).trans S3).trans S4).trans S5) e5 (h.same S5)

end
end L2.K79

set_option Elab.async false
set_option linter.all false
set_option maxRecDepth 100000
set_option maxHeartbeats 4000000
/-! repr of flat values. -/
namespace L2.Jk
open PySem PySem.W PySem.Spec PySem.Calls PyProof.Rows
def reprV : V → Str
  | .non => "None"
  | .bl b => if b then "True" else "False"
  | .int i => (toString i : Str)
  | .str z => reprText z
  | _ => ""
def reprOk : V → Bool
  | .int i => decide (i.natAbs.log2 < 1920)
  | .str z => decide ((reprText z).length ≤ 16777216)
  | _ => true
theorem call_reprV {X : Cx} : CallR X (.builtin "repr") (fun xs H Q => ∃ v, xs = [v] ∧ flatV v = true ∧ reprOk v = true ∧ Q (.str (reprV v)) H) := by
  intro pins s σ H xs us Q I r h
  obtain ⟨v, rfl, hf, hz, q⟩ := h
  obtain ⟨u, rfl, ru⟩ := vals1 r
  cases v with
  | non =>
    cases ru
    exact P.repr_of_none ⟨.str _, H, I.tok _, ⟨_, rfl⟩, q⟩
  | bl b =>
    cases ru
    exact P.repr_of_bool ⟨.str _, H, I.tok _, ⟨_, by cases b <;> rfl⟩, q⟩
  | int i =>
    obtain ⟨t, rfl⟩ := ru
    exact P.repr_of_int (of_decide_eq_true hz) ⟨.str _, H, I.tok _, ⟨_, rfl⟩, q⟩
  | str z =>
    obtain ⟨t, rfl⟩ := ru
    exact P.repr_of_str ⟨.str _, H, I.tok _, ⟨_, rfl⟩, q⟩ (by rw [sizeLine_eq]; exact of_decide_eq_true hz)
  | _ => cases hf
end L2.Jk

set_option Elab.async false
set_option linter.all false
set_option maxRecDepth 100000
set_option maxHeartbeats 4000000
/-! try: several clauses, some with a name, some without, put together clause by clause. -/
namespace L2.Jk
open PySem PySem.W PySem.Spec PySem.Calls PyProof.Rows

section
variable {X : Cx}
/-- an error that was caught here: all that is known where the clauses are looked at -/
structure Hit (X : Cx) (pins : List (Addr × Obj)) (σ : St) (H : Hp) (s' : Shared) (a : Addr) (cls : Value) (d : Option Addr) (B : Heap) (sI : Shared) (h3 : Heap) : Prop where
  hs : X.stack = X.env :: X.outer
  hf : X.env.frame = some X.env.locals
  J : Inv X pins σ H sI
  nb : ∀ b o, sI.heap.get? b = some o → b ∉ frs X.stack → B.get? b = some o
  up : sI.heap.UpToSlots h3
  fl : HandSPX.FlyingZ B (X.env :: X.outer) a (Zc cls d) h3
  na : H a = none
  os : s'.os = sI.os
  ag : AllBare s'.gens
/-- the clauses hds keep the wish w -/
def Hnd (X : Cx) (hds : List ExceptHandler) (w : Ends → WX) : Prop := ∀ (D : Ends) (pins : List (Addr × Obj)) (σ : St) (H : Hp) (s' : Shared) (a : Addr) (cls : Value) (d : Option Addr) (B : Heap) (sI : Shared) (h3 : Heap),
  Hit X pins σ H s' a cls d B sI h3 → w D cls d σ H → wpAny (model X.prog X.w) X.A (handleBy (.ref a) X.env hds) (SP X pins D) X.xe { s' with heap := h3 }
section
variable {pins : List (Addr × Obj)} {σ : St} {H : Hp} {s' : Shared} {a : Addr} {cls : Value} {d : Option Addr} {B : Heap} {sI : Shared} {h3 : Heap}
theorem Hit.inv (t : Hit X pins σ H s' a cls d B sI h3) : Inv X pins σ H { s' with heap := h3 } :=
  t.J.landed t.nb t.fl.1 t.up t.os t.ag
theorem Hit.apart (t : Hit X pins σ H s' a cls d B sI h3) : a ≠ X.env.locals ∧ a ∉ X.fs := by
  obtain ⟨oe, vs, he, hz, hd⟩ := t.fl.there
  have nfr : a ∉ frs (X.env :: X.outer) := fun hm => by
    obtain ⟨_, o', e', hnf⟩ := t.fl.2.2.1.mem hm
    rw [he] at e'
    cases e'
    exact hnf _ hd
  refine ⟨fun z => nfr (List.mem_filterMap.mpr ⟨X.env, List.mem_cons_self, by rw [t.hf, z]⟩), fun hm => ?_⟩
  obtain ⟨e, he, q⟩ := List.mem_filterMap.mp hm
  exact nfr (List.mem_filterMap.mpr ⟨e, List.mem_cons_of_mem _ he, q⟩)
end
theorem hnd_nil {Wout : WX} (tk : Takes X Wout) : Hnd X [] (fun _ => Wout) := by
  intro D pins σ H s' a cls d B sI h3 t w
  refine wpAny_handleBy_nil ?_
  obtain ⟨_, _, _, oe, vs, T, oT, ts', he, hz, hd, h1, hr⟩ := id t.fl
  unfold PySem.passOn
  refine wpAny_bind (wpAny_field he hd h1 ?_)
  have nn : ¬ ((Value.ref T == Value.none) = true) := by simp
  rw [if_neg nn]
  have fin : wpAny (model X.prog X.w) X.A (setFlight (.ref a) X.env.frame) (fun _ s4 => wpAny (model X.prog X.w) X.A (throw (.ref a) : Sem Flow) (SP X pins D) X.xe s4) X.xe { s' with heap := h3 } := by
    rw [t.hf]
    exact HandSPX.setFlight_upZ t.fl fun h4 hh4 up4 => wpAny_throw (tk _ _ ⟨a, B, sI, pins, σ, H, cls, d, rfl, t.J, t.nb, t.up.trans up4, .inr (.inr (by rw [t.hs]; exact hh4)), t.na, t.os, t.ag, w⟩)
  first
    | exact wpAny_bind (wpAny_pure (wpAny_bind fin))
    | exact wpAny_bind fin
section
variable {x n : Str} {c : Value} {np cp : Pos} {pins : List (Addr × Obj)} {σ : St} {H : Hp} {s' : Shared} {a : Addr} {cls : Value} {d : Option Addr} {B : Heap} {sI : Shared} {h3 : Heap} {b₀ : Stmt} {suite : List Stmt} {hds : List ExceptHandler} {w : Ends → WX} {ts : Addr → Value → Option Addr → TS} {i : Nat}
/-- there is an object there, and the suite of a clause may run -/
theorem Hit.go (t : Hit X pins σ H s' a cls d B sI h3) : ∃ oe : Obj, h3.get? a = some oe ∧ Zc cls d oe ∧ (∃ vs, oe.data = .fields vs) ∧ Inv (X.suite a ((a, oe) :: (X.pn ++ pins))) [] σ H { s' with heap := h3 } := by
  obtain ⟨oe, vs, he, hz, hd⟩ := t.fl.there
  exact ⟨oe, he, hz, ⟨vs, hd⟩, t.inv.suite he hd t.na t.apart.1 t.apart.2⟩
theorem Hit.again (t : Hit X pins σ H s' a cls d B sI h3) {h4 : Heap} (fl4 : HandSPX.FlyingZ B (X.env :: X.outer) a (Zc cls d) h4) (up4 : h3.UpToSlots h4) : Hit X pins σ H s' a cls d B sI h4 :=
  ⟨t.hs, t.hf, t.J, t.nb, t.up.trans up4, fl4, t.na, t.os, t.ag⟩
/-- what a clause asks first: whether the error is one of its class -/
theorem hit_test {b : Bool} {Q : Bool → Shared → Prop} {E E2 : Value → Shared → Prop}
    (t : Hit X pins σ H s' a cls d B sI h3) (hc : Names X x c) (hb : exmOne X.K cls c = some b) (q : Q b { s' with heap := h3 }) :
    wpAny (model X.prog X.w) (X.A.mark (some (.ref a))) (eval (.Name x np) X.env) (fun c' s1 => wpAny (model X.prog X.w) (X.A.mark (some (.ref a))) (excMatches (.ref a) c') Q E s1) E2 { s' with heap := h3 } := by
  obtain ⟨oe, he, hz, hd, S3⟩ := t.go
  have LT : Looks (model X.prog X.w) h3 (typeOf (.ref a)) cls := fun A Q E s k q => wpAny_typeOf_ref (k _ _ he) (by rw [hz.1]; exact q)
  have LM := exm_one (M := model X.prog X.w) t.inv.kIn LT hb
  have fin : wpAny (model X.prog X.w) (X.A.mark (some (.ref a))) (excMatches (.ref a) c) Q E { s' with heap := h3 } := LM.here q
  obtain ⟨hg, hdbg, hm | ⟨hm, hv, hnn⟩⟩ := hc
  · exact ld_glob (X := X.suite a ((a, oe) :: (X.pn ++ pins))) S3 hg hm fin hdbg
  · exact ld_blt (X := X.suite a ((a, oe) :: (X.pn ++ pins))) S3 hg hm hv fin hnn hdbg
abbrev SuiteOk (X : Cx) (body : List Stmt) (ts : Addr → Value → Option Addr → TS) : Prop :=
  ∀ (a : Addr) (oe : Obj) (cls : Value) (d : Option Addr) (pn : List (Addr × Obj)), Zc cls d oe → (∃ vs, oe.data = .fields vs) → PSs (X.suite a ((a, oe) :: pn)) body (ts a cls d)
/-- except x: suite, and the clauses behind it -/
theorem hnd_un (hc : Names X x c) (hsu : SuiteOk X (b₀ :: suite) ts) (r : Hnd X hds w) :
    Hnd X (.ExceptHandler (some (.Name x np)) none (b₀ :: suite) cp :: hds) (fun D cls d σ H => ∃ b, exmOne X.K cls c = some b ∧ (b = true → ∀ a, H a = none → ts a cls d D σ H) ∧ (b = false → w D cls d σ H)) := by
  intro D pins σ H s' a cls d B sI h3 t ⟨b, hb, yes, no⟩
  have ok := t.J.ok
  refine wpAny_handleBy_cons (codeAny_handlers_test (hit_test t hc hb ?_)) (by intro q; cases q)
  cases b with
  | false => exact r D pins σ H s' a cls d B sI h3 t (no rfl)
  | true =>
    refine codeAny_handlers_suite (HandSPX.lands_againZ t.fl fun h4 fl4 up4 => ?_)
    obtain ⟨oe4, he4, hz4, hd4, S4⟩ := (t.again fl4 up4).go
    refine wpAny_mono ((hsu a oe4 cls d (X.pn ++ pins) hz4 hd4).run [] _ _ H _ S4 (yes rfl a t.na)) (fun f s6 hsp => ?_) (fun _ _ z => False.elim z)
    cases f with
    | ret u =>
      obtain ⟨v6, σ6, H6, S6, r6, q6⟩ := hsp
      exact ⟨_, _, _, S6.unsuite ok, r6, q6⟩
    | _ =>
      obtain ⟨σ6, H6, S6, q6⟩ := hsp
      exact ⟨_, _, S6.unsuite ok, q6⟩
/-- except x as n: suite, n in slot i, and the clauses behind it -/
theorem hnd_as (hN : X.N.Nodup) (hi : X.N[i]? = some n) (hln : X.env.kindOf n = some .local) (hc : Names X x c) (hsu : SuiteOk X (b₀ :: suite) ts) (r : Hnd X hds w) :
    Hnd X (.ExceptHandler (some (.Name x np)) (some n) (b₀ :: suite) cp :: hds) (fun D cls d σ H => ∃ b, exmOne X.K cls c = some b ∧ (b = true → ∀ a, H a = none → ts a cls d { nx := fun σ' H' => D.nx (σ'.set i none) H', rt := D.rt, bk := fun σ' H' => D.bk (σ'.set i none) H', ct := fun σ' H' => D.ct (σ'.set i none) H' } (σ.set i (some (.ref a))) H) ∧ (b = false → w D cls d σ H)) := by
  intro D pins σ H s' a cls d B sI h3 t ⟨b, hb, yes, no⟩
  have ok := t.J.ok
  refine wpAny_handleBy_cons (codeAny_handlers_test (hit_test t hc hb ?_)) (by intro q; cases q)
  cases b with
  | false => exact r D pins σ H s' a cls d B sI h3 t (no rfl)
  | true =>
    refine codeAny_handlers_suite_as (HandSPX.lands_againZ t.fl fun h4 fl4 up4 => ?_)
    obtain ⟨oe4, he4, hz4, hd4, S4⟩ := (t.again fl4 up4).go
    refine store_ok (X := X.suite a ((a, oe4) :: (X.pn ++ pins))) (v := .ref a) S4 hN hi (.inl hln) rfl (fun s5 S5 => ?_) (.inr hln)
    refine wpAny_mono ((hsu a oe4 cls d (X.pn ++ pins) hz4 hd4).run [] s5 _ H _ S5 (yes rfl a t.na)) (fun f s6 hsp => ?_) (fun _ _ z => False.elim z)
    cases f with
    | ret u =>
      obtain ⟨v6, σ6, H6, S6, r6, q6⟩ := hsp
      exact gone_ok (S6.unsuite ok) hN hi hln fun s7 J7 => ⟨_, _, _, J7, r6, q6⟩
    | _ =>
      obtain ⟨σ6, H6, S6, q6⟩ := hsp
      exact gone_ok (S6.unsuite ok) hN hi hln fun s7 J7 => ⟨_, _, J7, q6⟩
end
/-- the statement -/
theorem ps_try_hnd {body : List Stmt} {h₀ : ExceptHandler} {hds : List ExceptHandler} {w : Ends → WX} {tb : WX → TS} {pos : Pos} (hs : X.stack = X.env :: X.outer) (hf : X.env.frame = some X.env.locals)
    (hb : ∀ (W : WX) (pn : List (Addr × Obj)) (xe : Value → Shared → Prop), Takes (X.tr pn xe) W → PassesOwn (model X.prog X.w) X.A X.env xe → PSs (X.tr pn xe) body (tb W))
    (hh : Hnd X (h₀ :: hds) w) : PS X (.Try body (h₀ :: hds) [] [] pos) (fun D σ H => tb (w D) D σ H) := by
  constructor
  intro pins s σ H D I h
  have ok := I.ok
  have hfr : X.A.frames = some (X.env :: X.outer) := by rw [ok.frames, hs]
  refine wpAny_Try_except (wpAny_mono ((hb (w D) (X.pn ++ pins) (fun e s₁ => wpAny (model X.prog X.w) X.A (noteFrame e X.env) (fun _ s₂ => wpAny (model X.prog X.w) X.A (setFlight e none) (fun _ s₃ =>
    wpAny (model X.prog X.w) X.A (handleBy e X.env (h₀ :: hds)) (SP X pins D) X.xe s₃) X.xe s₂) X.xe s₁) (fun u s' xx => ?_) PassesOwn.looking).run [] s σ H D (I.toTry _) h) (fun f s1 hsp => ?_) (fun e s1 he => he))
  · obtain ⟨a, B, sI, pins', σ', H', cls, d, rfl, J', nb, up, sky, na, os, ag, wd⟩ := xx
    have sky' : Sky B (X.env :: X.outer) a (Zc cls d) X.env.locals s'.heap := by rw [← hs]; exact sky
    exact Sky.land Zc.steady hfr hf sky' fun h3 fl3 up3 => hh D pins σ' H' s' a cls d B sI h3 ⟨hs, hf, J'.ofTry ok, nb, up.trans up3, fl3, na, os, ag⟩ wd
  · cases f with
    | next =>
      obtain ⟨σ', H', J', q⟩ := hsp
      exact wpAny_execs_nil ⟨σ', H', J'.ofTry ok, q⟩
    | ret u =>
      obtain ⟨v, σ', H', J', r, q⟩ := hsp
      exact ⟨v, σ', H', J'.ofTry ok, r, q⟩
    | _ =>
      obtain ⟨σ', H', J', q⟩ := hsp
      exact ⟨σ', H', J'.ofTry ok, q⟩
end
end L2.Jk

set_option Elab.async false
set_option linter.all false
set_option maxRecDepth 100000
set_option maxHeartbeats 4000000
/-! The law: what is said of a text. -/
namespace L2.K79
open PySem PySem.W PySem.Spec PySem.Calls PyProof.Rows L2.Jk
theorem fws_ok {n : Nat} {W : List Str} (h : rdBad W = none) (hW : ∀ w ∈ W, Wee n w) : FwsOk W (fsOf W) := by
  refine ⟨by unfold fsOf; rw [List.length_map], fun i w f hw hf => ?_⟩
  unfold fsOf at hf
  rw [List.getElem?_map, hw] at hf
  obtain rfl := Option.some.inj hf
  obtain ⟨a, b⟩ := fws_wB h (List.mem_of_getElem? hw)
  exact Fw_ok (hW w a) b
theorem place_look {z : V} : ([(("place" : Str), z)] : List (Str × V)).lookup ("place" : Str) = some z := by rw [lookup_put, if_pos rfl]
theorem what_look {z : V} : ([(("what" : Str), z)] : List (Str × V)).lookup ("what" : Str) = some z := by rw [lookup_put, if_pos rfl]
def Ends3 (K : Frag) (W : List Str) (H : Hp) (Q : VK) : Prop :=
  (∀ i : Nat, rdBad W = some i → ∀ T H', Same H H' → H' T = some (.tup [.str "text", .int (i : Nat)]) → Q (.ref T) H') ∧
  (∀ x, rdBad W = none → firstDue (fsOf W) = some x → ∀ T H', Same H H' → H' T = some (.tup [.str "field", .str x]) → Q (.ref T) H') ∧
  (rdBad W = none → firstDue (fsOf W) = none → ∀ T L H', Same H H' → H' T = some (.tup [.str "told", .ref L]) → LayAt K H' L ((fsOf W).map fun f => fdM f.1 f.2) (sg "" W).tail → Q (.ref T) H')
def spSaid (K : Frag) : Sp := fun vs H Q _ => ∃ v : V, vs = [v] ∧
  ((∃ T : String, TyE K H v (.type T) ∧ kitOne K (.type T) (.type "str") = some false ∧ ∀ t H', Same H H' → H' t = some (.tup [.str "text", .int 0]) → Q (.ref t) H') ∨
   ∃ (t : Str) (n : Nat), v = .str t ∧ (∀ w ∈ blk t, Wee n w) ∧ n ≤ 200 ∧ (blk t).length ≤ 30 ∧ (rdBad (blk t) = none → ∀ f ∈ fsOf (blk t), BdP f.2) ∧ Ends3 K (blk t) H Q)
structure Gsd (P : Program) (w : World) (K : Frag) (mg : Str → Option Value) (base : Heap) : Prop extends Gdu P w K mg base where
  read_layout : FnAt P w K mg base (L2.CX P w) 8 "read_layout" ["text"] (spRl K)
  exm : exmOne K (.ref (BT K)) (.ref (BT K)) = some true
  exmF : exmOne K (.ref (BF K)) (.ref (BF K)) = some true
  exmN : exmOne K (.ref (BF K)) (.ref (BT K)) = some false
  mgJ : mg "JointError" = some (.ref (He.ga K "JointError"))
section
variable {P : Program} {w : World} {K : Frag} {mg : Str → Option Value} {base : Heap} {f : Addr} {fd : FuncData}

abbrev s_law_said : Stmt := top 62
theorem sc_law_said : FnScope ["_law_text", "e"] ["_law_text"] (defScope s_law_said) := ⟨rfl, rfl, rfl, by decide +kernel, rfl, by decide +kernel, by decide +kernel⟩

theorem ok_law_said (F : FunD K "_law_said" "_law_said" (defArgs s_law_said) (defBody s_law_said) (defScope s_law_said) [] [] f fd) (G : Gsd P w K mg base) : FnOk P w K mg base CX0 9 f fd ["_law_text"] (spSaid K) := by
  refine F.ok (CX := CX0) sc_law_said (fun vs H Q E h => ?_) (fun cdv A outer s H vs Q E hr h => ?_)
  · obtain ⟨v, rfl, _⟩ := h
    rfl
  · refine ⟨_, PSs.nox (pss_one (ps_try_hnd rfl rfl (fun W pn xe tk _ => pss_one (ps_ret (pe_tupS (pa_cons pe_str (pa_cons (pe_fnS G.read_layout hr (fun σ => passAt tk σ) (by rfl) (pa_cons (pv 0) pa_nil)) pa_nil))))) (hnd_as (i := 1) sc_law_said.nd rfl rfl ⟨rfl, by decide, .inl G.bt.mgC⟩ (fun a_ oe cls d_ pn hz hf => pss_one (ps_ret (pe_tupS (pa_cons pe_str (pa_cons (pe_xf G.bt.ex.ec.xf (G.bt.ex.no _ (by decide +kernel)) hz hf (pv 1)) pa_nil))))) (hnd_as (i := 1) sc_law_said.nd rfl rfl ⟨rfl, by decide, .inl G.bf.mgC⟩ (fun a_ oe cls d_ pn hz hf => pss_one (ps_ret (pe_tupS (pa_cons pe_str (pa_cons (pe_xf G.bf.ex.ec.xf (G.bf.ex.no _ (by decide +kernel)) hz hf (pv 1)) pa_nil))))) (hnd_un ⟨rfl, by decide, .inl G.mgJ⟩ (fun a_ oe cls d_ pn hz hf => pss_one (ps_ret (pe_tupS (pa_cons pe_str (pa_cons pe_non pa_nil))))) (hnd_nil takes0)))))), ?_⟩
    obtain ⟨v, rfl, ⟨T0, hT, hk, q⟩ | ⟨t, n, rfl, hWe, hn, hl, hbd, q1, q2, q3⟩⟩ := h
    · refine ⟨_, rfl, v, rfl, .inl ⟨T0, hT, hk, fun dd H2 hdd S2 e2 => ?_⟩⟩
      exact ⟨true, G.exm, fun _ a0 ha0 => ⟨_, rfl, rfl, rfl, dd, _, _, rfl, e2, place_look, by show 2 ≤ 1000; decide, fun t H3 ht S3 e3 => q t H3 (S2.trans S3) e3⟩, fun qq => Bool.noConfusion qq⟩
    · refine ⟨_, rfl, _, rfl, .inr ⟨t, n, rfl, hWe, hn, hl, fun i hi dd H2 hdd S2 e2 => ?_, fun hno => ⟨fsOf (blk t), fws_ok hno hWe, hbd hno, fun x hx dd H2 hdd S2 e2 => ?_, fun hx L H2 S2 hL => ?_⟩⟩⟩
      · exact ⟨true, G.exm, fun _ a0 ha0 => ⟨_, rfl, rfl, rfl, dd, _, _, rfl, e2, place_look, by show 2 ≤ 1000; decide, fun t H3 ht S3 e3 => q1 i hi t H3 (S2.trans S3) e3⟩, fun qq => Bool.noConfusion qq⟩
      · exact ⟨false, G.exmN, fun qq => Bool.noConfusion qq, fun _ => ⟨true, G.exmF, fun _ a0 ha0 => ⟨_, rfl, rfl, rfl, dd, _, _, rfl, e2, what_look, by show 2 ≤ 1000; decide, fun t H3 ht S3 e3 => q2 x hno hx t H3 (S2.trans S3) e3⟩, fun qq => Bool.noConfusion qq⟩⟩
      · exact ⟨by show 2 ≤ 1000; decide, fun t H3 ht S3 e3 => q3 hno hx t L H3 (S2.trans S3) e3 (hL.same S3)⟩

end
end L2.K79

set_option Elab.async false
set_option linter.all false
set_option maxRecDepth 100000
set_option maxHeartbeats 4000000
/-! The words of the texts that the law draws. -/
namespace L2.K79
open PySem PySem.W PySem.Spec PySem.Calls PyProof.Rows L2.Jk
theorem ptok_sg {z : Str} (h : ∀ c ∈ z.cps.toList, c ∈ SG.cps.toList) (hl : z.length ≤ 80) : PtOk z := by
  obtain ⟨⟨a, b, c, d, e⟩, k⟩ := sg_no
  exact ⟨hl, fun q => d (h _ q), fun q => a (h _ q), fun q hq => by have := k q (h _ hq); omega⟩
theorem ptok_T {n : Nat} (h : n < 1000000000) : PtOk (T n) := ⟨by have := T9 h; omega, (T_no n).2.2, (T_no n).1, fun q hq => by have := T_dg n q hq; omega⟩
theorem ptok_most {m : V} (h : MOk m) : PtOk (mostT m) := by
  rcases h with rfl | ⟨n, rfl, h⟩
  · exact ⟨by decide +kernel, by decide +kernel, by decide +kernel, by decide +kernel⟩
  · exact ptok_T h
theorem ptok_lit : ∀ z ∈ (["word", "number", "fixed", "listed", "ended", "marked", "N", "z", "M"] : List Str), z.length ≤ 80 ∧ 58 ∉ z.cps.toList ∧ 32 ∉ z.cps.toList ∧ ∀ c ∈ z.cps.toList, c < 200 := by decide +kernel
theorem ptl {z : Str} (h : z ∈ (["word", "number", "fixed", "listed", "ended", "marked", "N", "z", "M"] : List Str)) : PtOk z := by
  obtain ⟨a, b, c, d⟩ := ptok_lit z h
  exact ⟨a, b, c, d⟩
theorem far_w : ∀ z ∈ farW, z.length ≤ 80 ∧ ∀ c ∈ z.cps.toList, c ∈ SG.cps.toList := by decide +kernel
theorem end_w : ∀ z ∈ endZ ++ endE, z.length ≤ 80 ∧ ∀ c ∈ z.cps.toList, c ∈ SG.cps.toList := by decide +kernel
theorem far_l : ∀ z ∈ farL, z.length ≤ 3 ∧ ∀ c ∈ z.cps.toList, c ∈ SG.cps.toList := by decide +kernel
theorem DrP.parts_ok {d : PD} (h : DrP farW farL d) : (∀ p ∈ d.parts, PtOk p) ∧ d.parts.length ≤ 5 ∧ d.parts ≠ [] := by
  cases h with
  | @word z l m a b c =>
    obtain ⟨w1, w2⟩ := far_w z a
    refine ⟨fun p hp => ?_, by show 4 ≤ 5; decide, List.cons_ne_nil _ _⟩
    simp only [PD.parts, List.mem_cons, List.not_mem_nil, or_false] at hp
    rcases hp with rfl | rfl | rfl | rfl
    · exact ptl (by simp)
    · exact ptok_sg w2 w1
    · exact ptok_T (by show l < _; omega)
    · exact ptok_most c.ok
  | @number l m a b =>
    refine ⟨fun p hp => ?_, by show 3 ≤ 5; decide, List.cons_ne_nil _ _⟩
    simp only [PD.parts, List.mem_cons, List.not_mem_nil, or_false] at hp
    rcases hp with rfl | rfl | rfl
    · exact ptl (by simp)
    · exact ptok_T (by show l < _; omega)
    · exact ptok_most b.ok
  | @fixed w a b =>
    refine ⟨fun p hp => ?_, by show 2 ≤ 5; decide, List.cons_ne_nil _ _⟩
    simp only [PD.parts, List.mem_cons, List.not_mem_nil, or_false] at hp
    rcases hp with rfl | rfl
    · exact ptl (by simp)
    · exact ptok_T (by show w < _; omega)
  | @listed ts a b c e =>
    refine ⟨fun p hp => ?_, by show 2 ≤ 5; decide, List.cons_ne_nil _ _⟩
    simp only [PD.parts, List.mem_cons, List.not_mem_nil, or_false] at hp
    rcases hp with rfl | rfl
    · exact ptl (by simp)
    · rw [els_str]
      have hj := join_le (s := ",") (B := 3) (by decide) ts fun t ht => (far_l t (b t ht)).1
      have asc : ∀ c ∈ (Txt.join "," ts).cps.toList, c = 44 ∨ c ∈ SG.cps.toList := fun c hc => by
        apply Classical.byContradiction
        intro k
        rw [not_or] at k
        exact join_no2 (s := ",") (c := c) (fun q => k.1 (List.mem_singleton.mp q)) ts (fun p hp q => k.2 ((far_l p (b p hp)).2 _ q)) hc
      obtain ⟨⟨n1, n2, n3, n4, n5⟩, k⟩ := sg_no
      refine ⟨by omega, fun q => ?_, fun q => ?_, fun q hq => ?_⟩
      · rcases asc _ q with z | z
        · exact absurd z (by decide)
        · exact n4 z
      · rcases asc _ q with z | z
        · exact absurd z (by decide)
        · exact n1 z
      · rcases asc _ hq with z | z
        · omega
        · have := k q z; omega
  | @ended z e l m a b c f =>
    obtain ⟨w1, w2⟩ := end_w z (List.mem_append_left _ a)
    obtain ⟨w3, w4⟩ := end_w e (List.mem_append_right _ b)
    refine ⟨fun p hp => ?_, by show 5 ≤ 5; decide, List.cons_ne_nil _ _⟩
    simp only [PD.parts, List.mem_cons, List.not_mem_nil, or_false] at hp
    rcases hp with rfl | rfl | rfl | rfl | rfl
    · exact ptl (by simp)
    · exact ptok_sg w2 w1
    · exact ptok_sg w4 w3
    · exact ptok_T (by show l < _; omega)
    · exact ptok_most f.ok
theorem FrF.wee {d : FD} (h : FrF d) : Wee 8 d.wd := by
  cases h with
  | pl h =>
    obtain ⟨a, b, c⟩ := h.parts_ok
    exact Wee.of a (by omega) (by decide)
  | @mk n d hm h =>
    obtain ⟨a, b, c⟩ := h.parts_ok
    have hn : PtOk n := ptl (by
      have : ∀ x ∈ marks, x ∈ (["word", "number", "fixed", "listed", "ended", "marked", "N", "z", "M"] : List Str) := by decide +kernel
      exact this n hm)
    have e : FD.wd (.mk (.str n) (.str "M") d) = Txt.join ":" ("marked" :: n :: "M" :: d.parts) := by
      show Txt.join ":" ["marked", n, "M", Txt.join ":" d.parts] = _
      cases hp : d.parts with
      | nil => exact absurd hp c
      | cons x r =>
        rw [join_cons, join_cons, join_cons, Jk.join_one, join_cons, join_cons, join_cons]
    rw [e]
    refine Wee.of (fun p hp => ?_) (by simp only [List.length_cons]; omega) (by decide)
    rcases List.mem_cons.mp hp with rfl | hp
    · exact ptl (by simp)
    rcases List.mem_cons.mp hp with rfl | hp
    · exact hn
    rcases List.mem_cons.mp hp with rfl | hp
    · exact ptl (by simp)
    · exact a p hp
/-- a text of at most k words, each of at most n parts -/
structure TxW (k n : Nat) (t : Str) : Prop where
  few : (blk t).length ≤ k
  wee : ∀ w ∈ blk t, Wee n w
theorem wee_small : ∀ w ∈ (["!", "~", "", "!!", "!~", "fixed:1", "fixed:0", "word:a:0:1"] : List Str), (pcs w).length ≤ 4 ∧ ∀ p ∈ pcs w, p.length ≤ 80 ∧ 58 ∉ p.cps.toList ∧ 32 ∉ p.cps.toList ∧ ∀ c ∈ p.cps.toList, c < 200 := by decide +kernel
theorem wee_lit {w : Str} (h : w ∈ (["!", "~", "", "!!", "!~", "fixed:1", "fixed:0", "word:a:0:1"] : List Str)) : Wee 4 w := by
  obtain ⟨a, b⟩ := wee_small w h
  exact ⟨a, fun p hp => by
    obtain ⟨c, d, e, f⟩ := b p hp
    exact ⟨c, d, e, f⟩⟩
theorem TxW.join {k n : Nat} {ws : List Str} (hk : ws.length ≤ k) (h1 : 1 ≤ k) (h4 : 4 ≤ n) (h : ∀ w ∈ ws, Wee n w) : TxW k n (Txt.join " " ws) := by
  cases ws with
  | nil =>
    have e : blk (Txt.join " " []) = [("" : Str)] := by rw [Jk.join_nil]; decide +kernel
    exact ⟨by rw [e]; exact h1, fun w hw => by rw [e] at hw; rw [List.mem_singleton.mp hw]; exact (wee_lit (by simp)).mono h4⟩
  | cons x r =>
    have e : blk (Txt.join " " (x :: r)) = x :: r := blk_of (List.cons_ne_nil _ _) fun p hp => (h p hp).blank
    exact ⟨by rw [e]; exact hk, fun w hw => by rw [e] at hw; exact h w hw⟩
theorem lay_txw {ds : List FD} {js : List Str} (hd : ∀ d ∈ ds, FrF d) (hj : ∀ j ∈ js, j ∈ JN) (hn : ds.length ≤ 8) : TxW 16 8 (layT ds js) := by
  refine TxW.join (by have := lwords_len ds js; omega) (by decide) (by decide) fun w hw => ?_
  rcases lwords_mem hw with ⟨a, _⟩ | ⟨d, a, rfl⟩
  · have : ∀ x ∈ JN, x ∈ (["!", "~", "", "!!", "!~", "fixed:1", "fixed:0", "word:a:0:1"] : List Str) := by decide +kernel
    exact (wee_lit (this w (hj w a))).mono (by decide)
  · exact (hd d a).wee
theorem mkL_len3 : ∀ ps : List Str, 3 * (mkL ps).1.length ≤ ps.length := by
  intro ps
  induction hn : ps.length using Nat.strongRecOn generalizing ps with
  | _ m ih =>
    by_cases h : ∃ n k p r, ps = ("marked" : Str) :: n :: k :: p :: r
    · obtain ⟨n, k, p, r, rfl⟩ := h
      rw [mkL_yes]
      have := ih (p :: r).length (by simp only [List.length_cons] at hn ⊢; omega) (p :: r) rfl
      simp only [List.length_cons] at hn this ⊢
      omega
    · rw [mkL_no h]
      exact Nat.zero_le _
end L2.K79

set_option Elab.async false
set_option linter.all false
set_option maxRecDepth 100000
set_option maxHeartbeats 4000000
/-! The law: a word with one change. -/
namespace L2.K79
open PySem PySem.W PySem.Spec PySem.Calls PyProof.Rows L2.Jk
def spBw : Sp := fun vs H Q _ => ∃ (a : Addr) (t : Str) (n : Nat), vs = [.ref a, .str t] ∧ StAt H a ∧ Wee n t ∧ 8 ≤ n ∧ n ≤ 40 ∧ ∀ t' H', Wee (2 * n + 1) t' → But a H H' → StAt H' a → Q (.str t') H'
theorem cut_str {ps : List Str} {lo hi : Option Int} : ∃ qs : List Str, cutV (ps.map V.str) lo hi = qs.map V.str ∧ qs.length ≤ ps.length ∧ ∀ p ∈ qs, p ∈ ps := by
  unfold cutV
  rw [← List.map_drop, ← List.map_take]
  exact ⟨_, rfl, by rw [List.length_take, List.length_drop]; omega, fun p h => List.mem_of_mem_drop (List.mem_of_mem_take h)⟩
def OD1 : List Str := ["", "0", "00", "07", "1", "5", "*", "-1", "+1", "1234567890", "a", "aa", "ba", "a,b", ",", "!", "N", "M"]
def OD2 : List Str := ["?", "word", "marked", "listed", "Word", "fixed", "ended", "number", "7", "c", "12", "**"]
def KND : List Str := ["words", "wor", "fixed1", "numbe", "list", "liste", "endeds", "mark", "numbers"]
theorem odds_all : ∀ z ∈ (OD1 ++ OD2) ++ (KND ++ (["marked", "N", "M", "a", "z"] : List Str)), z.length ≤ 80 ∧ 58 ∉ z.cps.toList ∧ 32 ∉ z.cps.toList ∧ ∀ c ∈ z.cps.toList, c < 200 := by decide +kernel
theorem odd_pt {z : Str} (h : z ∈ (OD1 ++ OD2) ++ (KND ++ (["marked", "N", "M", "a", "z"] : List Str))) : PtOk z := by
  obtain ⟨a, b, c, e⟩ := odds_all z h
  exact ⟨a, b, c, e⟩
/-- a list of parts -/
def LgAt (a : Addr) (L : Nat) (J : Hp) (v : V) : Prop := ∃ (r : Addr) (qs : List Str), v = .ref r ∧ r ≠ a ∧ J r = some (.lst (qs.map V.str)) ∧ qs.length ≤ L ∧ ∀ p ∈ qs, PtOk p
theorem LgAt.but {a : Addr} {L : Nat} {J J' : Hp} {v : V} (B : But a J J') : LgAt a L J v → LgAt a L J' v
  | ⟨r, qs, e, n, h, k⟩ => ⟨r, qs, e, n, B _ _ n h, k⟩
theorem LgAt.same {a : Addr} {L : Nat} {J J' : Hp} {v : V} (S : Same J J') (h : LgAt a L J v) : LgAt a L J' v := h.but (But.of_same S)
theorem none_ofB {a p : Addr} {H J : Hp} (B : But a H J) (n : p ≠ a) (h : J p = none) : H p = none := by
  cases e : H p with
  | none => rfl
  | some o => rw [B _ _ n e] at h; cases h
theorem LgAt.putS {a pS : Addr} {L : Nat} {J : Hp} {v : V} {o : HO} {rs : List V} (e : J pS = some (.lst rs)) (h0 : rs ≠ []) (hr : ∀ x ∈ rs, LgAt a L J x) : LgAt a L J v → LgAt a L (upd J pS o) v
  | ⟨r, qs, ev, n, h, k⟩ => by
    refine ⟨r, qs, ev, n, ?_, k⟩
    rw [upd_ne ?_]
    · exact h
    · intro z
      rw [z, e] at h
      have h := Option.some.inj h
      injection h with h
      cases rs with
      | nil => exact h0 rfl
      | cons x xs =>
        obtain ⟨b, _, rfl, _⟩ := hr x (List.mem_cons_self ..)
        cases qs with
        | nil => cases h
        | cons y ys => rw [List.map_cons] at h; injection h with h; cases h
theorem szs : ∀ n : Nat, n ≤ 1000 → n ≤ sizeLine := fun n h => by rw [sizeLine_eq]; omega

section
variable {P : Program} {w : World} {K : Frag} {mg : Str → Option Value} {base : Heap} {f : Addr} {fd : FuncData}

abbrev s_law_bent_word : Stmt := top 63
theorem sc_law_bent_word : FnScope ["_law_source_here", "_law_word_here", "_law_parts", "_law_at", "_law_odd", "_law_some", "_law_kindly"] ["_law_source_here", "_law_word_here"] (defScope s_law_bent_word) := ⟨rfl, rfl, rfl, by decide +kernel, rfl, by decide +kernel, by decide +kernel⟩

theorem ok_law_bent_word (F : FunD K "_law_bent_word" "_law_bent_word" (defArgs s_law_bent_word) (defBody s_law_bent_word) (defScope s_law_bent_word) [] [] f fd) (G : Gsd P w K mg base) : FnOk P w K mg base CX0 3 f fd ["_law_source_here", "_law_word_here"] spBw := by
  refine F.ok (CX := CX0) sc_law_bent_word (fun vs H Q E h => ?_) (fun cdv A outer s H vs Q E hr h => ?_)
  · obtain ⟨_, _, _, rfl, _⟩ := h
    rfl
  · refine ⟨_, PSs.nox (pss_cons (ps_set (i := 2) sc_law_bent_word.nd rfl (Or.inl rfl) (pe_split (pv 1) pe_str))
    (C8.pss_cut (ps_set (i := 3) sc_law_bent_word.nd rfl (Or.inl rfl) (pe_fn G.law_draw (hr.mono (by decide)) pass0 (by rfl) (pa_cons (pv 0) (pa_cons (pe_callB call_len_seq (by rfl) G.len (by decide +kernel) (pa_cons (pv 2) pa_nil)) pa_nil))))
    (C8.pss_cut (ps_set (i := 4) sc_law_bent_word.nd rfl (Or.inl rfl) (pe_lstS (pa_cons pe_str (pa_cons pe_str (pa_cons pe_str (pa_cons pe_str (pa_cons pe_str (pa_cons pe_str (pa_cons pe_str (pa_cons pe_str (pa_cons pe_str (pa_cons pe_str (pa_cons pe_str (pa_cons pe_str (pa_cons pe_str (pa_cons pe_str (pa_cons pe_str (pa_cons pe_str (pa_cons pe_str (pa_cons pe_str pa_nil))))))))))))))))))))
    (C8.pss_cut (ps_set (i := 4) sc_law_bent_word.nd rfl (Or.inl rfl) (pe_op op_catS (pv 4) (pe_lstS (pa_cons pe_str (pa_cons pe_str (pa_cons pe_str (pa_cons pe_str (pa_cons pe_str (pa_cons pe_str (pa_cons pe_str (pa_cons pe_str (pa_cons pe_str (pa_cons pe_str (pa_cons pe_str (pa_cons pe_str pa_nil)))))))))))))))
    (C8.pss_cut (ps_set (i := 5) sc_law_bent_word.nd rfl (Or.inl rfl) (pe_lstS (pa_cons (pe_op op_catS (pe_op op_catS (pe_slice sl_listS (pv 2) po_none (po_some (pv 3))) (pe_lstS (pa_cons (pe_fn G.law_pick (hr.mono (by decide)) pass0 (by rfl) (pa_cons (pv 0) (pa_cons (pv 4) pa_nil))) pa_nil))) (pe_slice sl_listS (pv 2) (po_some (pe_op op_add (pv 3) pe_int)) po_none)) (pa_cons (pe_op op_catS (pe_slice sl_listS (pv 2) po_none (po_some (pv 3))) (pe_slice sl_listS (pv 2) (po_some (pe_op op_add (pv 3) pe_int)) po_none)) pa_nil))))
    (C8.pss_cut (ps_expr (pe_bm PySem.F.plainAttrs_list PySem.F.slot_list_append PySem.F.type_list_append mt_append (pv 5) (pa_cons (pe_op op_catS (pe_op op_catS (pe_slice sl_listS (pv 2) po_none (po_some (pv 3))) (pe_lstS (pa_cons (pe_fn G.law_pick (hr.mono (by decide)) pass0 (by rfl) (pa_cons (pv 0) (pa_cons (pv 4) pa_nil))) pa_nil))) (pe_slice sl_listS (pv 2) (po_some (pv 3)) po_none)) pa_nil)))
    (C8.pss_cut (ps_set (i := 5) sc_law_bent_word.nd rfl (Or.inl rfl) (pe_op op_catS (pv 5) (pe_lstS (pa_cons (pe_op op_catS (pe_slice sl_listS (pv 2) po_none (po_some (pv 3))) (pe_revL (pe_slice sl_listS (pv 2) (po_some (pv 3)) po_none))) (pa_cons (pe_op op_catS (pv 2) (pe_slice sl_listS (pv 2) (po_some (pv 3)) po_none)) (pa_cons (pe_ix ix_list (pv 5) pe_int (fun _ _ => rfl)) (pa_cons (pe_ix ix_list (pv 5) pe_int (fun _ _ => rfl)) pa_nil)))))))
    (C8.pss_cut (ps_set (i := 6) sc_law_bent_word.nd rfl (Or.inl rfl) (pe_fn G.law_pick (hr.mono (by decide)) pass0 (by rfl) (pa_cons (pv 0) (pa_cons (pe_lstS (pa_cons pe_str (pa_cons pe_str (pa_cons pe_str (pa_cons pe_str (pa_cons pe_str (pa_cons pe_str (pa_cons pe_str (pa_cons pe_str (pa_cons pe_str pa_nil)))))))))) pa_nil))))
    (C8.pss_cut (ps_set (i := 5) sc_law_bent_word.nd rfl (Or.inl rfl) (pe_op op_catS (pv 5) (pe_lstS (pa_cons (pe_op op_catS (pe_lstS (pa_cons pe_str (pa_cons pe_str (pa_cons pe_str pa_nil)))) (pv 2)) (pa_cons (pe_op op_catS (pe_lstS (pa_cons pe_str (pa_cons pe_str (pa_cons pe_str pa_nil)))) (pv 2)) pa_nil)))))
    (pss_one (ps_ret (pe_join pe_str (pe_fn G.law_pick (hr.mono (by decide)) pass0 (by rfl) (pa_cons (pv 0) (pa_cons (pe_op op_catS (pv 5) (pe_lstS (pa_cons (pe_op op_catS (pe_lstS (pa_cons (pv 6) pa_nil)) (pe_slice sl_listS (pv 2) (po_some pe_int) po_none)) pa_nil))) pa_nil))))))))))))))), ?_⟩
    obtain ⟨a, t, n, rfl, st, hW, hn8, hn, q⟩ := h
    have hne := pcs_ne t
    have hok := hW.ok
    have hfew := hW.few
    have hlen := hW.len
    have hpl : 0 < (pcs t).length := List.length_pos_iff.mpr hne
    refine ⟨_, rfl, ⟨_, rfl⟩, _, ":", rfl, rfl, rfl, by rw [sizeLine_eq]; omega, fun pl hpln => ?_⟩
    have npl : pl ≠ a := st.ne hpln
    have S1 : Same H (upd H pl (.lst ((Txt.split t ":").map V.str))) := same_upd hpln
    have e1 : upd H pl (.lst ((Txt.split t ":").map V.str)) pl = some (.lst ((pcs t).map V.str)) := upd_same
    generalize upd H pl (.lst ((Txt.split t ":").map V.str)) = H1 at S1 e1 ⊢
    generalize pcs t = ps at *
    have st1 := st.same S1
    have B01 := But.of_same (a := a) S1
    have cut : ∀ (qs : List Str), qs.length ≤ ps.length → (∀ p ∈ qs, p ∈ ps) → qs.length ≤ n ∧ ∀ p ∈ qs, PtOk p := fun qs h1 h2 => ⟨by omega, fun p hp => hok p (h2 p hp)⟩
    refine ⟨fun σ J => ∃ k : Nat, k < ps.length ∧ σ = [some (.ref a), some (.str t), some (.ref pl), some (.int (k : Nat)), none, none, none] ∧ But a H1 J ∧ StAt J a, ⟨_, rfl, _, rfl, pl, _, rfl, .inl (SqL.of e1), a, _, rfl, st1, by rw [List.length_map]; omega, by rw [List.length_map]; omega, fun k H2 k0 k1 B2 st2 => ⟨k.toNat, by rw [List.length_map] at k1; omega, by rw [Int.toNat_of_nonneg k0]; rfl, B2, st2⟩⟩, ?_⟩
    rintro σ J ⟨k, hk, rfl, B1, st1⟩
    refine ⟨fun σ J' => ∃ po, po ≠ a ∧ σ = [some (.ref a), some (.str t), some (.ref pl), some (.int (k : Nat)), some (.ref po), none, none] ∧ J' po = some (.lst (OD1.map V.str)) ∧ But a H1 J' ∧ StAt J' a, ?_, ?_⟩
    · exact ⟨by show 18 ≤ 1000; decide, fun po J hp S e => ⟨po, st1.ne hp, rfl, e, B1.trans (But.of_same S), st1.same S⟩⟩
    rintro σ J2 ⟨po, npo, rfl, ePo, B2, st2⟩
    refine ⟨fun σ J' => ∃ po, po ≠ a ∧ σ = [some (.ref a), some (.str t), some (.ref pl), some (.int (k : Nat)), some (.ref po), none, none] ∧ J' po = some (.lst ((OD1 ++ OD2).map V.str)) ∧ But a H1 J' ∧ StAt J' a, ?_, ?_⟩
    · refine ⟨_, rfl, by show 12 ≤ 1000; decide, fun p1 J3 hp1 S3 e3 => ⟨po, p1, _, _, rfl, rfl, SqL.of (S3 _ _ ePo), SqL.of e3, szs _ (by decide), fun p2 J4 hp2 S4 e4 => ?_⟩⟩
      exact ⟨p2, (st2.same S3).ne hp2, rfl, by rw [e4, List.map_append]; rfl, (B2.trans (But.of_same S3)).trans (But.of_same S4), (st2.same S3).same S4⟩
    clear ePo npo
    rintro σ J2 ⟨po, npo, rfl, ePo, B2, st2⟩
    have hods : (OD1 ++ OD2).length = 30 := rfl
    refine ⟨fun σ J' => ∃ pS rs, H1 pS = none ∧ pS ≠ a ∧ σ = [some (.ref a), some (.str t), some (.ref pl), some (.int (k : Nat)), some (.ref po), some (.ref pS), none] ∧ J' pS = some (.lst rs) ∧ rs.length = 2 ∧ J' po = some (.lst ((OD1 ++ OD2).map V.str)) ∧ po ≠ pS ∧ (∀ v ∈ rs, LgAt a (2 * n + 1) J' v) ∧ But a H1 J' ∧ StAt J' a, ?_, ?_⟩
    · have eL2 := B2 _ _ npl e1
      refine ⟨_, rfl, _, rfl, k, rfl, pl, _, rfl, SqL.of eL2, fun p1 J3 hp1 S3 e3 => ?_⟩
      obtain ⟨q1, c1, l1, m1⟩ := cut_str (ps := ps) (lo := none) (hi := some (k : Int))
      rw [c1] at e3
      have np1 := st2.ne hp1
      have st3 := st2.same S3
      refine ⟨_, rfl, _, rfl, a, po, _, rfl, st3, npo, S3 _ _ ePo, (by intro z; have := congrArg List.length z; rw [List.length_map, hods] at this; cases this), by rw [List.length_map, hods]; decide, fun v J4 hv B4 st4 => ?_⟩
      obtain ⟨o, ho, rfl⟩ := List.mem_map.mp hv
      have oOk := odd_pt (List.mem_append_left _ ho)
      refine ⟨by show 1 ≤ 1000; decide, fun p5 J5 hp5 S5 e5 => ⟨p1, p5, _, _, rfl, rfl, SqL.of (S5 _ _ (B4 _ _ np1 e3)), SqL.of e5, szs _ (by rw [List.length_map]; show q1.length + 1 ≤ 1000; omega), fun p6 J6 hp6 S6 e6 => ?_⟩⟩
      have st5 := st4.same S5
      have st6 := st5.same S6
      have np6 := st5.ne hp6
      have B26 : But a J2 J6 := (((But.of_same S3).trans B4).trans (But.of_same S5)).trans (But.of_same S6)
      refine ⟨_, rfl, _, rfl, _, _, rfl, rfl, _, rfl, pl, _, rfl, SqL.of (B26 _ _ npl eL2), fun p7 J7 hp7 S7 e7 => ?_⟩
      obtain ⟨q2, c2, l2, m2⟩ := cut_str (ps := ps) (lo := some ((k : Int) + 1)) (hi := none)
      have e7 : J7 p7 = some (.lst (q2.map V.str)) := by rw [← c2]; exact e7
      refine ⟨p6, p7, _, _, rfl, rfl, SqL.of (S7 _ _ e6), SqL.of e7, szs _ (by rw [List.length_append, List.length_map, List.length_map]; show q1.length + 1 + q2.length ≤ 1000; omega), fun p8 J8 hp8 S8 e8 => ?_⟩
      have st7 := st6.same S7
      have np8 := st7.ne hp8
      have st8 := st7.same S8
      have B28 : But a J2 J8 := (B26.trans (But.of_same S7)).trans (But.of_same S8)
      have g1 : LgAt a (2 * n + 1) J8 (.ref p8) := ⟨p8, q1 ++ [o] ++ q2, rfl, np8, by rw [e8, List.map_append, List.map_append]; rfl, by rw [List.length_append, List.length_append]; show q1.length + 1 + q2.length ≤ _; have := (cut q1 l1 m1).1; omega, fun p hp => by
        rcases List.mem_append.mp hp with hp | hp
        · rcases List.mem_append.mp hp with hp | hp
          · exact (cut q1 l1 m1).2 p hp
          · rw [List.mem_singleton.mp hp]; exact oOk
        · exact (cut q2 l2 m2).2 p hp⟩
      refine ⟨_, rfl, _, rfl, k, rfl, pl, _, rfl, SqL.of (B28 _ _ npl eL2), fun p9 J9 hp9 S9 e9 => ?_⟩
      have st9 := st8.same S9
      have B29 := B28.trans (But.of_same S9)
      rw [c1] at e9
      refine ⟨_, rfl, _, rfl, _, _, rfl, rfl, _, rfl, pl, _, rfl, SqL.of (B29 _ _ npl eL2), fun pa Ja hpa Sa ea => ?_⟩
      have ea : Ja pa = some (.lst (q2.map V.str)) := by rw [← c2]; exact ea
      have sta := st9.same Sa
      refine ⟨p9, pa, _, _, rfl, rfl, SqL.of (Sa _ _ e9), SqL.of ea, szs _ (by rw [List.length_map, List.length_map]; omega), fun pb Jb hpb Sb eb => ?_⟩
      have npb := sta.ne hpb
      have stb := sta.same Sb
      have B2b := (B29.trans (But.of_same Sa)).trans (But.of_same Sb)
      have B8b : But a J8 Jb := ((But.of_same S9).trans (But.of_same Sa)).trans (But.of_same Sb)
      have g2 : LgAt a (2 * n + 1) Jb (.ref pb) := ⟨pb, q1 ++ q2, rfl, npb, by rw [eb, List.map_append], by rw [List.length_append]; omega, fun p hp => by
        rcases List.mem_append.mp hp with hp | hp
        · exact (cut q1 l1 m1).2 p hp
        · exact (cut q2 l2 m2).2 p hp⟩
      refine ⟨by show 2 ≤ 1000; decide, fun pe Je hpe Se ee => ⟨pe, _, none_ofB (B2.trans B2b) (stb.ne hpe) hpe, stb.ne hpe, rfl, ee, rfl, Se _ _ (B2b _ _ npo ePo), ne_of_none (B2b _ _ npo ePo) hpe, fun v hv => ?_, (B2.trans B2b).trans (But.of_same Se), stb.same Se⟩⟩
      have Bbe := But.of_same (a := a) Se
      simp only [List.mem_cons, List.not_mem_nil, or_false] at hv
      rcases hv with rfl | rfl
      · exact (g1.but B8b).but Bbe
      · exact g2.but Bbe
    rintro σ J3 ⟨pS, rs, nS0, npS, rfl, eS, hr2, ePo3, nop, hg, B3, st3⟩
    clear B2 st2 ePo
    refine ⟨fun σ J' => ∃ rs, σ = [some (.ref a), some (.str t), some (.ref pl), some (.int (k : Nat)), some (.ref po), some (.ref pS), none] ∧ J' pS = some (.lst rs) ∧ rs.length = 3 ∧ (∀ v ∈ rs, LgAt a (2 * n + 1) J' v) ∧ But a H1 J' ∧ StAt J' a, ?_, ?_⟩
    · have eL3 := B3 _ _ npl e1
      refine ⟨_, rfl, .inl ⟨rfl, _, SqL.of eS⟩, ?_⟩
      refine ⟨_, rfl, _, rfl, k, rfl, pl, _, rfl, SqL.of eL3, fun p1 J4 hp1 S4 e4 => ?_⟩
      obtain ⟨q1, c1, l1, m1⟩ := cut_str (ps := ps) (lo := none) (hi := some (k : Int))
      rw [c1] at e4
      have np1 := st3.ne hp1
      have st4 := st3.same S4
      refine ⟨_, rfl, _, rfl, a, po, _, rfl, st4, npo, S4 _ _ ePo3, (by intro z; have := congrArg List.length z; rw [List.length_map, hods] at this; cases this), by rw [List.length_map, hods]; decide, fun v J5 hv B5 st5 => ?_⟩
      obtain ⟨o, ho, rfl⟩ := List.mem_map.mp hv
      have oOk := odd_pt (List.mem_append_left _ ho)
      refine ⟨by show 1 ≤ 1000; decide, fun p5 J6 hp5 S6 e6 => ⟨p1, p5, _, _, rfl, rfl, SqL.of (S6 _ _ (B5 _ _ np1 e4)), SqL.of e6, szs _ (by rw [List.length_map]; show q1.length + 1 ≤ 1000; omega), fun p6 J7 hp6 S7 e7 => ?_⟩⟩
      have B37 : But a J3 J7 := (((But.of_same S4).trans B5).trans (But.of_same S6)).trans (But.of_same S7)
      have st7 := (st5.same S6).same S7
      refine ⟨_, rfl, _, rfl, k, rfl, pl, _, rfl, SqL.of (B37 _ _ npl eL3), fun p7 J8 hp7 S8 e8 => ?_⟩
      obtain ⟨q2, c2, l2, m2⟩ := cut_str (ps := ps) (lo := some (k : Int)) (hi := none)
      have e8 : J8 p7 = some (.lst (q2.map V.str)) := by rw [← c2]; exact e8
      refine ⟨p6, p7, _, _, rfl, rfl, SqL.of (S8 _ _ e7), SqL.of e8, szs _ (by rw [List.length_append, List.length_map, List.length_map]; show q1.length + 1 + q2.length ≤ 1000; omega), fun p8 J9 hp8 S9 e9 => ?_⟩
      have st8 := st7.same S8
      have np8 := st8.ne hp8
      have st9 := st8.same S9
      have B39 : But a J3 J9 := (B37.trans (But.of_same S8)).trans (But.of_same S9)
      have g1 : LgAt a (2 * n + 1) J9 (.ref p8) := ⟨p8, q1 ++ [o] ++ q2, rfl, np8, by rw [e9, List.map_append, List.map_append]; rfl, by rw [List.length_append, List.length_append]; show q1.length + 1 + q2.length ≤ _; omega, fun p hp => by
        rcases List.mem_append.mp hp with hp | hp
        · rcases List.mem_append.mp hp with hp | hp
          · exact (cut q1 l1 m1).2 p hp
          · rw [List.mem_singleton.mp hp]; exact oOk
        · exact (cut q2 l2 m2).2 p hp⟩
      have eS9 := B39 _ _ npS eS
      have hg9 : ∀ v ∈ rs, LgAt a (2 * n + 1) J9 v := fun v hv => (hg v hv).but B39
      have h0 : rs ≠ [] := fun z => by rw [z] at hr2; cases hr2
      refine ⟨pS, _, _, rfl, rfl, eS9, by rw [hr2, sizeLine_eq]; decide, ⟨rs ++ [.ref p8], rfl, upd_same, by rw [List.length_append, hr2]; rfl, fun v hv => ?_, but_put (B3.trans B39) nS0, st9.put npS⟩⟩
      rcases List.mem_append.mp hv with hv | hv
      · exact (hg9 v hv).putS eS9 h0 hg9
      · rw [List.mem_singleton.mp hv]; exact g1.putS eS9 h0 hg9
    clear hg eS hr2 B3 st3 rs
    rintro σ J3 ⟨rs, rfl, eS, hr3, hg, B3, st3⟩
    refine ⟨fun σ J' => ∃ pS rs, pS ≠ a ∧ σ = [some (.ref a), some (.str t), some (.ref pl), some (.int (k : Nat)), some (.ref po), some (.ref pS), none] ∧ J' pS = some (.lst rs) ∧ rs.length = 7 ∧ (∀ v ∈ rs, LgAt a (2 * n + 1) J' v) ∧ But a H1 J' ∧ StAt J' a, ?_, ?_⟩
    · have eL3 := B3 _ _ npl e1
      refine ⟨_, rfl, ?_⟩
      refine ⟨_, rfl, _, rfl, k, rfl, pl, _, rfl, SqL.of eL3, fun p1 J4 hp1 S4 e4 => ?_⟩
      obtain ⟨q1, c1, l1, m1⟩ := cut_str (ps := ps) (lo := none) (hi := some (k : Int))
      rw [c1] at e4
      refine ⟨_, rfl, _, rfl, k, rfl, pl, _, rfl, SqL.of (S4 _ _ eL3), fun p2 J5 hp2 S5 e5 => ?_⟩
      obtain ⟨q2, c2, l2, m2⟩ := cut_str (ps := ps) (lo := some (k : Int)) (hi := none)
      have e5 : J5 p2 = some (.lst (q2.map V.str)) := by rw [← c2]; exact e5
      refine ⟨p2, _, rfl, SqL.of e5, fun p3 hp3 => ?_⟩
      have S6 : Same J5 (upd J5 p3 (.lst (q2.map V.str).reverse)) := same_upd hp3
      have e6 : upd J5 p3 (.lst (q2.map V.str).reverse) p3 = some (.lst (q2.reverse.map V.str)) := by rw [upd_same, List.map_reverse]
      generalize upd J5 p3 (.lst (q2.map V.str).reverse) = J6 at S6 e6 ⊢
      refine ⟨p1, p3, _, _, rfl, rfl, SqL.of (S6 _ _ (S5 _ _ e4)), SqL.of e6, szs _ (by rw [List.length_map, List.length_map, List.length_reverse]; omega), fun p4 J7 hp4 S7 e7 => ?_⟩
      have S37 := ((S4.trans S5).trans S6).trans S7
      have st6 := ((st3.same S4).same S5).same S6
      have np4 := st6.ne hp4
      have st7 := st6.same S7
      have g1 : LgAt a (2 * n + 1) J7 (.ref p4) := ⟨p4, q1 ++ q2.reverse, rfl, np4, by rw [e7, List.map_append], by rw [List.length_append, List.length_reverse]; omega, fun p hp => by
        rcases List.mem_append.mp hp with hp | hp
        · exact (cut q1 l1 m1).2 p hp
        · exact (cut q2 l2 m2).2 p (List.mem_reverse.mp hp)⟩
      refine ⟨_, rfl, _, rfl, _, rfl, k, rfl, pl, _, rfl, SqL.of (S37 _ _ eL3), fun p5 J8 hp5 S8 e8 => ?_⟩
      have e8 : J8 p5 = some (.lst (q2.map V.str)) := by rw [← c2]; exact e8
      refine ⟨pl, p5, _, _, rfl, rfl, SqL.of (S8 _ _ (S37 _ _ eL3)), SqL.of e8, szs _ (by rw [List.length_map, List.length_map]; omega), fun p6 J9 hp6 S9 e9 => ?_⟩
      have st8 := st7.same S8
      have np6 := st8.ne hp6
      have st9 := st8.same S9
      have g2 : LgAt a (2 * n + 1) J9 (.ref p6) := ⟨p6, ps ++ q2, rfl, np6, by rw [e9, List.map_append], by rw [List.length_append]; omega, fun p hp => by
        rcases List.mem_append.mp hp with hp | hp
        · exact (cut ps (Nat.le_refl _) fun _ h => h).2 p hp
        · exact (cut q2 l2 m2).2 p hp⟩
      have S39 := (S37.trans S8).trans S9
      obtain ⟨v0, hv0⟩ : ∃ v0, rs[0]? = some v0 := ⟨_, List.getElem?_eq_getElem (by omega)⟩
      have eS9 := S39 _ _ eS
      refine ⟨_, rfl, pS, _, _, _, rfl, rfl, SqL.of eS9, atI_nat (j := 0) hv0, _, rfl, pS, _, _, _, rfl, rfl, SqL.of eS9, atI_nat (j := 0) hv0, by show 4 ≤ 1000; decide, fun pq Jq hq Sq eq => ?_⟩
      refine ⟨pS, pq, _, _, rfl, rfl, SqL.of (Sq _ _ eS9), SqL.of eq, szs _ (by rw [hr3]; show 3 + 4 ≤ 1000; decide), fun pn Jn hn Sn en => ?_⟩
      have Sqn := Sq.trans Sn
      refine ⟨pn, _, (st9.same Sq).ne hn, rfl, en, by rw [List.length_append, hr3]; rfl, fun v hv => ?_, B3.trans (But.of_same (S39.trans Sqn)), (st9.same Sq).same Sn⟩
      have old : ∀ v ∈ rs, LgAt a (2 * n + 1) Jn v := fun v hv => (hg v hv).same (S39.trans Sqn)
      rcases List.mem_append.mp hv with hv | hv
      · exact old v hv
      · simp only [List.mem_cons, List.not_mem_nil, or_false] at hv
        rcases hv with rfl | rfl | rfl | rfl
        · exact g1.same ((S8.trans S9).trans Sqn)
        · exact g2.same Sqn
        · exact old _ (List.mem_of_getElem? hv0)
        · exact old _ (List.mem_of_getElem? hv0)
    clear hg eS hr3 B3 st3 rs nS0 npS nop ePo3 pS
    rintro σ J3 ⟨pS, rs, npS, rfl, eS, hr7, hg, B3, st3⟩
    refine ⟨fun σ J' => ∃ o, o ∈ KND ∧ σ = [some (.ref a), some (.str t), some (.ref pl), some (.int (k : Nat)), some (.ref po), some (.ref pS), some (.str o)] ∧ J' pS = some (.lst rs) ∧ (∀ v ∈ rs, LgAt a (2 * n + 1) J' v) ∧ But a H1 J' ∧ StAt J' a, ?_, ?_⟩
    · refine ⟨_, rfl, by show 9 ≤ 1000; decide, fun p1 J4 hp1 S4 e4 => ?_⟩
      refine ⟨a, p1, _, rfl, st3.same S4, st3.ne hp1, e4, by simp, by show 9 ≤ 1000; decide, fun v J5 hv B5 st5 => ?_⟩
      have hv : v ∈ KND.map V.str := hv
      obtain ⟨o, ho, rfl⟩ := List.mem_map.mp hv
      have B35 : But a J3 J5 := (But.of_same S4).trans B5
      exact ⟨o, ho, rfl, B35 _ _ npS eS, fun v hv => (hg v hv).but B35, B3.trans B35, st5⟩
    clear hg eS B3 st3
    rintro σ J3 ⟨kd, hkd, rfl, eS, hg, B3, st3⟩
    refine ⟨fun σ J' => ∃ pS rs, pS ≠ a ∧ σ = [some (.ref a), some (.str t), some (.ref pl), some (.int (k : Nat)), some (.ref po), some (.ref pS), some (.str kd)] ∧ J' pS = some (.lst rs) ∧ rs.length = 9 ∧ (∀ v ∈ rs, LgAt a (2 * n + 1) J' v) ∧ But a H1 J' ∧ StAt J' a, ?_, ?_⟩
    · have eL3 := B3 _ _ npl e1
      refine ⟨_, rfl, by show 3 ≤ 1000; decide, fun p1 J4 hp1 S4 e4 => ?_⟩
      refine ⟨_, rfl, p1, pl, _, _, rfl, rfl, SqL.of e4, SqL.of (S4 _ _ eL3), szs _ (by rw [List.length_map]; show 3 + ps.length ≤ 1000; omega), fun p2 J5 hp2 S5 e5 => ?_⟩
      have st4 := st3.same S4
      have np2 := st4.ne hp2
      have st5 := st4.same S5
      have mk3 : ∀ x y : Str, x ∈ (["marked", "N", "M", "a", "z"] : List Str) → y ∈ (["marked", "N", "M", "a", "z"] : List Str) → (("marked" : Str) :: x :: y :: ps).length ≤ 2 * n + 1 ∧ ∀ p ∈ (("marked" : Str) :: x :: y :: ps), PtOk p := fun x y hx hy => by
        refine ⟨by simp only [List.length_cons]; omega, fun p hp => ?_⟩
        rcases List.mem_cons.mp hp with rfl | hp
        · exact odd_pt (List.mem_append_right _ (List.mem_append_right _ (by simp)))
        rcases List.mem_cons.mp hp with rfl | hp
        · exact odd_pt (List.mem_append_right _ (List.mem_append_right _ hx))
        rcases List.mem_cons.mp hp with rfl | hp
        · exact odd_pt (List.mem_append_right _ (List.mem_append_right _ hy))
        · exact hok p hp
      have g1 : LgAt a (2 * n + 1) J5 (.ref p2) := ⟨p2, ("marked" : Str) :: "N" :: "M" :: ps, rfl, np2, e5, (mk3 "N" "M" (by simp) (by simp)).1, (mk3 "N" "M" (by simp) (by simp)).2⟩
      refine ⟨by show 3 ≤ 1000; decide, fun p3 J6 hp3 S6 e6 => ?_⟩
      have S36 := (S4.trans S5).trans S6
      refine ⟨_, rfl, p3, pl, _, _, rfl, rfl, SqL.of e6, SqL.of (S36 _ _ eL3), szs _ (by rw [List.length_map]; show 3 + ps.length ≤ 1000; omega), fun p4 J7 hp4 S7 e7 => ?_⟩
      have st6 := st5.same S6
      have np4 := st6.ne hp4
      have st7 := st6.same S7
      have g2 : LgAt a (2 * n + 1) J7 (.ref p4) := ⟨p4, ("marked" : Str) :: "a" :: "z" :: ps, rfl, np4, e7, (mk3 "a" "z" (by simp) (by simp)).1, (mk3 "a" "z" (by simp) (by simp)).2⟩
      have S37 := S36.trans S7
      have eS7 := S37 _ _ eS
      refine ⟨by show 2 ≤ 1000; decide, fun pq Jq hq Sq eq => ?_⟩
      refine ⟨pS, pq, _, _, rfl, rfl, SqL.of (Sq _ _ eS7), SqL.of eq, szs _ (by rw [hr7]; show 7 + 2 ≤ 1000; decide), fun pn Jn hn Sn en => ?_⟩
      have Sqn := Sq.trans Sn
      refine ⟨pn, _, (st7.same Sq).ne hn, rfl, en, by rw [List.length_append, hr7]; rfl, fun v hv => ?_, B3.trans (But.of_same (S37.trans Sqn)), (st7.same Sq).same Sn⟩
      rcases List.mem_append.mp hv with hv | hv
      · exact (hg v hv).same (S37.trans Sqn)
      · simp only [List.mem_cons, List.not_mem_nil, or_false] at hv
        rcases hv with rfl | rfl
        · exact g1.same ((S6.trans S7).trans Sqn)
        · exact g2.same Sqn
    clear hg eS hr7 B3 st3 rs npS pS
    rintro σ J3 ⟨pS, rs, npS, rfl, eS, hr9, hg, B3, st3⟩
    have eL3 := B3 _ _ npl e1
    refine ⟨⟨_, rfl⟩, _, rfl, _, rfl, _, rfl, by show 1 ≤ 1000; decide, fun p1 J4 hp1 S4 e4 => ?_⟩
    refine ⟨_, rfl, 1, rfl, pl, _, rfl, SqL.of (S4 _ _ eL3), fun p2 J5 hp2 S5 e5 => ?_⟩
    obtain ⟨q2, c2, l2, m2⟩ := cut_str (ps := ps) (lo := some 1) (hi := none)
    rw [c2] at e5
    refine ⟨p1, p2, _, _, rfl, rfl, SqL.of (S5 _ _ e4), SqL.of e5, szs _ (by rw [List.length_map]; show 1 + q2.length ≤ 1000; omega), fun p3 J6 hp3 S6 e6 => ?_⟩
    have st5 := (st3.same S4).same S5
    have np3 := st5.ne hp3
    have st6 := st5.same S6
    have S36 := (S4.trans S5).trans S6
    have g1 : LgAt a (2 * n + 1) J6 (.ref p3) := ⟨p3, kd :: q2, rfl, np3, e6, by simp only [List.length_cons]; omega, fun p hp => by
      rcases List.mem_cons.mp hp with rfl | hp
      · exact odd_pt (List.mem_append_right _ (List.mem_append_left _ hkd))
      · exact (cut q2 l2 m2).2 p hp⟩
    refine ⟨by show 1 ≤ 1000; decide, fun pq Jq hq Sq eq => ?_⟩
    refine ⟨pS, pq, _, _, rfl, rfl, SqL.of (Sq _ _ (S36 _ _ eS)), SqL.of eq, szs _ (by rw [hr9]; show 9 + 1 ≤ 1000; decide), fun pn Jn hn Sn en => ?_⟩
    have Sqn := Sq.trans Sn
    have stn := (st6.same Sq).same Sn
    refine ⟨a, pn, _, rfl, stn, (st6.same Sq).ne hn, en, by simp, by rw [List.length_append, hr9]; show 9 + 1 ≤ 1000; decide, fun v Jv hv Bv stv => ?_⟩
    have gv : LgAt a (2 * n + 1) Jn v := by
      rcases List.mem_append.mp hv with hv | hv
      · exact (hg v hv).same (S36.trans Sqn)
      · rw [List.mem_singleton.mp hv]
        exact g1.same Sqn
    obtain ⟨r, qs, rfl, nr, er, lq, kq⟩ := gv.but Bv
    have sl := sum_le (B := 80) qs fun x hx => (kq x hx).len
    have e0 : (":" : Str).length = 1 := rfl
    exact ⟨":", r, qs, rfl, rfl, .inl (SqL.of er), by rw [e0]; omega, q _ Jv (Wee.of kq lq (by omega)) (((B01.trans B3).trans (But.of_same (S36.trans Sqn))).trans Bv) stv⟩

end
end L2.K79

set_option Elab.async false
set_option linter.all false
set_option maxRecDepth 100000
set_option maxHeartbeats 4000000
/-! The law: a text with one change. -/
namespace L2.K79
open PySem PySem.W PySem.Spec PySem.Calls PyProof.Rows L2.Jk
def spBt : Sp := fun vs H Q _ => ∃ (a : Addr) (t : Str) (k n : Nat), vs = [.ref a, .str t] ∧ StAt H a ∧ TxW k n t ∧ k ≤ 25 ∧ 8 ≤ n ∧ n ≤ 40 ∧ ∀ t' H', TxW (k + 1) (2 * n + 1) t' → But a H H' → StAt H' a → Q (.str t') H'
structure Gbt (P : Program) (w : World) (K : Frag) (mg : Str → Option Value) (base : Heap) : Prop extends Gsd P w K mg base where
  law_bent_word : FnAt P w K mg base CX0 3 "_law_bent_word" ["_law_source_here", "_law_word_here"] spBw
theorem ixN_nat {len i : Nat} (h : i < len) : ixN len (i : Int) = some i := by
  unfold ixN
  split
  · split
    · simp
    · omega
  · omega
theorem seqIndex_nat {len i : Nat} (h : i < len) : PySem.seqIndex? (i : Int) len = some i := by
  unfold PySem.seqIndex?
  have h1 : ¬ ((i : Int) < 0) := by omega
  have h2 : (0 : Int) ≤ (i : Int) := by omega
  have h3 : (i : Int) < (len : Int) := by omega
  simp [h1, h2, h3, h]
theorem erase_map : ∀ (ws : List Str) (i : Nat), (ws.map V.str).eraseIdx i = (ws.eraseIdx i).map V.str
  | [], _ => rfl
  | _ :: _, 0 => rfl
  | x :: ws, i + 1 => by
    rw [List.map_cons, List.eraseIdx_cons_succ, List.eraseIdx_cons_succ, List.map_cons, erase_map ws i]
theorem cut_from (xs : List V) (i : Nat) : (cutV xs (some (i : Int)) none).length ≤ xs.length - i := by
  unfold cutV
  have e : HT.sIx xs.length 0 (some (i : Int)) = min i xs.length := HT.sIx_nat xs.length 0 i
  rw [e, HT.sIx_none, List.length_take, List.length_drop]
  omega
theorem cut_to (xs : List V) (i : Nat) : (cutV xs none (some (i : Int))).length ≤ i := by
  unfold cutV
  have e : HT.sIx xs.length xs.length (some (i : Int)) = min i xs.length := HT.sIx_nat xs.length xs.length i
  rw [HT.sIx_none, e, List.length_take, List.length_drop]
  omega

section
variable {P : Program} {w : World} {K : Frag} {mg : Str → Option Value} {base : Heap} {f : Addr} {fd : FuncData}

abbrev s_law_bent : Stmt := top 64
theorem sc_law_bent : FnScope ["_law_source_here", "_law_text", "_law_words", "_law_at", "_law_way"] ["_law_source_here", "_law_text"] (defScope s_law_bent) := ⟨rfl, rfl, rfl, by decide +kernel, rfl, by decide +kernel, by decide +kernel⟩

theorem ok_law_bent (F : FunD K "_law_bent" "_law_bent" (defArgs s_law_bent) (defBody s_law_bent) (defScope s_law_bent) [] [] f fd) (G : Gbt P w K mg base) : FnOk P w K mg base CX0 4 f fd ["_law_source_here", "_law_text"] spBt := by
  refine F.ok (CX := CX0) sc_law_bent (fun vs H Q E h => ?_) (fun cdv A outer s H vs Q E hr h => ?_)
  · obtain ⟨_, _, _, _, rfl, _⟩ := h
    rfl
  · refine ⟨_, PSs.nox (pss_cons (ps_set (i := 2) sc_law_bent.nd rfl (Or.inl rfl) (pe_split (pv 1) pe_str))
    (C8.pss_cut (ps_par (i := 3) (j := 4) (by rfl) sc_law_bent.nd rfl rfl (by decide) rfl rfl (pa_cons (pe_fn G.law_draw (hr.mono (by decide)) pass0 (by rfl) (pa_cons (pv 0) (pa_cons (pe_callB call_len_seq (by rfl) G.len (by decide +kernel) (pa_cons (pv 2) pa_nil)) pa_nil))) (pa_cons (pe_fn G.law_draw (hr.mono (by decide)) pass0 (by rfl) (pa_cons (pv 0) (pa_cons pe_int pa_nil))) pa_nil)) (by rfl))
    (C8.pss_cut (ps_if (pt_cmpR op_lt (pv 4) pe_int (nomark _))
      (pss_one (ps_asg (pe_fn G.law_bent_word (hr.mono (by decide)) pass0 (by rfl) (pa_cons (pv 0) (pa_cons (pe_ix ix_list (pv 2) (pv 3) (fun _ _ => rfl)) pa_nil))) (pg_sub (pv 2) (pv 3) set_list)))
      (pss_one (ps_if (pt_cmpR op_eq (pv 4) pe_int (nomark _))
        (pss_one (ps_expr (pe_bm PySem.F.plainAttrs_list PySem.F.slot_list_insert PySem.F.type_list_insert mt_insert (pv 2) (pa_cons (pv 3) (pa_cons (pe_fn G.law_pick (hr.mono (by decide)) pass0 (by rfl) (pa_cons (pv 0) (pa_cons (pe_lstS (pa_cons pe_str (pa_cons pe_str (pa_cons pe_str (pa_cons pe_str (pa_cons pe_str (pa_cons pe_str (pa_cons pe_str pa_nil)))))))) pa_nil))) pa_nil)))))
        (pss_one (ps_if (pt_cmpR op_eq (pv 4) pe_int (nomark _))
          (pss_one (ps_expr (pe_bm PySem.F.plainAttrs_list PySem.F.slot_list_pop PySem.F.type_list_pop mt_popAt (pv 2) (pa_cons (pv 3) pa_nil))))
          (pss_one (ps_if (pt_cmpR op_eq (pv 4) pe_int (nomark _))
            (pss_one (ps_expr (pe_bm PySem.F.plainAttrs_list PySem.F.slot_list_append PySem.F.type_list_append mt_append (pv 2) (pa_cons (pe_fn G.law_pick (hr.mono (by decide)) pass0 (by rfl) (pa_cons (pv 0) (pa_cons (pe_lstS (pa_cons pe_str (pa_cons pe_str (pa_cons pe_str (pa_cons pe_str pa_nil))))) pa_nil))) pa_nil))))
            (pss_one (ps_set (i := 2) sc_law_bent.nd rfl (Or.inl rfl) (pe_op op_catS (pe_slice sl_listS (pv 2) (po_some (pv 3)) po_none) (pe_slice sl_listS (pv 2) po_none (po_some (pv 3)))))))))))))
    (pss_one (ps_ret (pe_join pe_str (pv 2))))))), ?_⟩
    obtain ⟨a, t, k, n, rfl, st, hT, hk, hn8, hn, q⟩ := h
    have hwe := hT.wee
    have hfew := hT.few
    have hne := blk_ne t
    have hlen : t.length ≤ 25 * 3241 := by
      have h1 := join_le (s := " ") (B := 3240) (by decide) (blk t) fun w hw => by
        have := (hwe w hw).len
        omega
      rw [blk_join] at h1
      exact Nat.le_trans h1 (Nat.mul_le_mul_right _ (by omega))
    refine ⟨_, rfl, ⟨_, rfl⟩, _, " ", rfl, rfl, rfl, by rw [sizeLine_eq]; omega, fun pl hpln => ?_⟩
    have npl : pl ≠ a := st.ne hpln
    have S1 : Same H (upd H pl (.lst ((Txt.split t " ").map V.str))) := same_upd hpln
    have e1 : upd H pl (.lst ((Txt.split t " ").map V.str)) pl = some (.lst ((blk t).map V.str)) := upd_same
    generalize upd H pl (.lst ((Txt.split t " ").map V.str)) = H1 at S1 e1 ⊢
    generalize blk t = ws at *
    have st1 := st.same S1
    have B01 := But.of_same (a := a) S1
    have hwl : 0 < ws.length := List.length_pos_iff.mpr hne
    refine ⟨fun σ J => ∃ (i : Nat) (m : Int), i < ws.length ∧ σ = [some (.ref a), some (.str t), some (.ref pl), some (.int (i : Nat)), some (.int m)] ∧ J pl = some (.lst (ws.map V.str)) ∧ But a H J ∧ StAt J a, ?_, ?_⟩
    · refine ⟨_, rfl, _, rfl, pl, _, rfl, .inl (SqL.of e1), a, _, rfl, st1, by rw [List.length_map]; omega, by rw [List.length_map]; omega, fun i H2 i0 i1 B2 st2 => ?_⟩
      refine ⟨_, rfl, a, _, rfl, st2, by decide, by decide, fun m H3 m0 m1 B3 st3 => ⟨_, _, rfl, i.toNat, m, by rw [List.length_map] at i1; omega, by rw [Int.toNat_of_nonneg i0]; rfl, B3 _ _ npl (B2 _ _ npl e1), (B01.trans B2).trans B3, st3⟩⟩
    rintro σ J ⟨i, m, hi, rfl, eW, B, st2⟩
    have hm : ∀ w ∈ ws, Wee (2 * n + 1) w := fun w hw => (hwe w hw).mono (by omega)
    have lit : ∀ w ∈ (["!", "~", "", "!!", "!~", "fixed:1", "fixed:0", "word:a:0:1"] : List Str), Wee (2 * n + 1) w := fun w hw => (wee_lit hw).mono (by omega)
    obtain ⟨u, hu⟩ : ∃ u, ws[i]? = some u := ⟨_, List.getElem?_eq_getElem hi⟩
    have hline : ∀ j : Nat, j ≤ 80 → j < sizeLine := fun j hj => by rw [sizeLine_eq]; omega
    refine ⟨fun σ J' => ∃ (pl' : Addr) (ws' : List Str) (v3 v4 : Option V), σ = [some (.ref a), some (.str t), some (.ref pl'), v3, v4] ∧ J' pl' = some (.lst (ws'.map V.str)) ∧ ws'.length ≤ k + 1 ∧ (∀ w ∈ ws', Wee (2 * n + 1) w) ∧ But a H J' ∧ StAt J' a, ?_, ?_⟩
    · refine ⟨_, rfl, _, _, rfl, rfl, _, rfl, ?_⟩
      refine ite2 (fun _ => ?_) (fun _ => ?_)
      · refine ⟨_, rfl, _, rfl, _, rfl, pl, _, _, _, rfl, rfl, SqL.of eW, atI_nat (j := i) (by rw [List.getElem?_map, hu]; rfl), a, u, n, rfl, st2, hwe u (List.mem_of_getElem? hu), hn8, hn, fun u' J3 hu' B3 st3 => ?_⟩
        refine ⟨_, rfl, _, rfl, pl, _, (i : Nat), i, rfl, rfl, B3 _ _ npl eW, ixN_nat (by rw [List.length_map]; exact hi), ?_⟩
        refine ⟨pl, ws.set i u', _, _, rfl, by rw [upd_same, List.map_set], by rw [List.length_set]; omega, fun w hw => ?_, but_put (B.trans B3) hpln, st3.put npl⟩
        rcases List.mem_or_eq_of_mem_set hw with hw | rfl
        · exact hm w hw
        · exact hu'
      refine ⟨_, rfl, rfl, _, rfl, ?_⟩
      refine ite2 (fun _ => ?_) (fun _ => ?_)
      · refine ⟨_, rfl, .inl ⟨rfl, _, SqL.of eW⟩, _, rfl, _, rfl, by show 7 ≤ 1000; decide, fun p1 J3 hp1 S3 e3 => ?_⟩
        refine ⟨a, p1, _, rfl, st2.same S3, st2.ne hp1, e3, by simp, by show 7 ≤ 1000; decide, fun v J4 hv B4 st4 => ?_⟩
        have hv : v ∈ (["!", "~", "", "!!", "fixed:1", "word:a:0:1", "!~"] : List Str).map V.str := hv
        obtain ⟨x, hx, rfl⟩ := List.mem_map.mp hv
        have eW4 := B4 _ _ npl (S3 _ _ eW)
        have hx8 : Wee (2 * n + 1) x := lit x (by simp only [List.mem_cons, List.not_mem_nil, or_false] at hx ⊢; rcases hx with rfl | rfl | rfl | rfl | rfl | rfl | rfl <;> simp)
        refine ⟨pl, _, (i : Nat), .str x, rfl, rfl, eW4, by rw [List.length_map]; exact hline _ (by omega), by omega, by omega, ?_⟩
        refine ⟨pl, ws.take i ++ [x] ++ ws.drop i, _, _, rfl, ?_, ?_, ?_, but_put ((B.trans (But.of_same S3)).trans B4) hpln, st4.put npl⟩
        · rw [upd_same, Int.toNat_natCast, List.map_append, List.map_append, List.map_take, List.map_drop]
          rfl
        · rw [List.length_append, List.length_append, List.length_take, List.length_drop]
          simp only [List.length_cons, List.length_nil]
          omega
        · intro w hw
          rcases List.mem_append.mp hw with hw | hw
          · rcases List.mem_append.mp hw with hw | hw
            · exact hm w (List.mem_of_mem_take hw)
            · rw [List.mem_singleton.mp hw]; exact hx8
          · exact hm w (List.mem_of_mem_drop hw)
      refine ⟨_, rfl, rfl, _, rfl, ?_⟩
      refine ite2 (fun _ => ?_) (fun _ => ?_)
      · refine ⟨_, rfl, .inl ⟨rfl, _, SqL.of eW⟩, _, rfl, pl, _, (i : Nat), i, .str u, rfl, rfl, eW, by omega, by omega, ?_, by rw [List.getElem?_map, hu]; rfl, ?_⟩
        · exact seqIndex_nat (by rw [List.length_map]; exact hi)
        refine ⟨pl, ws.eraseIdx i, _, _, rfl, ?_, ?_, ?_, but_put B hpln, st2.put npl⟩
        · rw [upd_same, erase_map]
        · rw [List.length_eraseIdx]
          split <;> omega
        · intro w hw
          exact hm w (List.mem_of_mem_eraseIdx hw)
      refine ⟨_, rfl, rfl, _, rfl, ?_⟩
      refine ite2 (fun _ => ?_) (fun _ => ?_)
      · refine ⟨_, rfl, .inl ⟨rfl, _, SqL.of eW⟩, _, rfl, by show 4 ≤ 1000; decide, fun p1 J3 hp1 S3 e3 => ?_⟩
        refine ⟨a, p1, _, rfl, st2.same S3, st2.ne hp1, e3, by simp, by show 4 ≤ 1000; decide, fun v J4 hv B4 st4 => ?_⟩
        have hv : v ∈ (["!", "~", "", "fixed:0"] : List Str).map V.str := hv
        obtain ⟨x, hx, rfl⟩ := List.mem_map.mp hv
        have eW4 := B4 _ _ npl (S3 _ _ eW)
        have hx8 : Wee (2 * n + 1) x := lit x (by simp only [List.mem_cons, List.not_mem_nil, or_false] at hx ⊢; rcases hx with rfl | rfl | rfl | rfl <;> simp)
        refine ⟨pl, _, _, rfl, rfl, eW4, by rw [List.length_map]; exact hline _ (by omega), ?_⟩
        refine ⟨pl, ws ++ [x], _, _, rfl, by rw [upd_same, List.map_append]; rfl, by rw [List.length_append]; simp only [List.length_cons, List.length_nil]; omega, fun w hw => ?_, but_put ((B.trans (But.of_same S3)).trans B4) hpln, st4.put npl⟩
        rcases List.mem_append.mp hw with hw | hw
        · exact hm w hw
        · rw [List.mem_singleton.mp hw]; exact hx8
      refine ⟨_, rfl, _, rfl, i, rfl, pl, _, rfl, SqL.of eW, fun p1 J3 hp1 S3 e3 => ?_⟩
      obtain ⟨q1, c1, l1, m1⟩ := cut_str (ps := ws) (lo := some (i : Int)) (hi := none)
      rw [c1] at e3
      refine ⟨_, rfl, _, rfl, i, rfl, pl, _, rfl, SqL.of (S3 _ _ eW), fun p2 J4 hp2 S4 e4 => ?_⟩
      obtain ⟨q2, c2, l2, m2⟩ := cut_str (ps := ws) (lo := none) (hi := some (i : Int))
      rw [c2] at e4
      have hsum : q1.length + q2.length ≤ k + 1 := by
        have h1 := cut_from (ws.map V.str) i
        have h2 := cut_to (ws.map V.str) i
        rw [c1, List.length_map, List.length_map] at h1
        rw [c2, List.length_map] at h2
        omega
      refine ⟨p1, p2, _, _, rfl, rfl, SqL.of (S4 _ _ e3), SqL.of e4, szs _ (by rw [List.length_map, List.length_map]; omega), fun p3 J5 hp3 S5 e5 => ?_⟩
      refine ⟨p3, q1 ++ q2, _, _, rfl, by rw [e5, List.map_append], by rw [List.length_append]; exact hsum, fun w hw => ?_, ((B.trans (But.of_same S3)).trans (But.of_same S4)).trans (But.of_same S5), ((st2.same S3).same S4).same S5⟩
      rcases List.mem_append.mp hw with hw | hw
      · exact hm w (m1 w hw)
      · exact hm w (m2 w hw)
    rintro σ J3 ⟨pl', ws', v3, v4, rfl, eW3, hk3, hw3, B3, st3⟩
    have sl := sum_le (B := (2 * n + 1) * 81) ws' fun x hx => (hw3 x hx).len
    have e0 : (" " : Str).length = 1 := rfl
    have : ws'.length * ((2 * n + 1) * 81) ≤ 26 * 6561 := Nat.mul_le_mul (by omega) (by omega)
    exact ⟨⟨_, rfl⟩, _, rfl, " ", pl', ws', rfl, rfl, .inl (SqL.of eW3), by rw [e0]; omega, q _ J3 (TxW.join hk3 (by omega) (by omega) hw3) B3 st3⟩

end
end L2.K79

set_option Elab.async false
set_option linter.all false
set_option maxRecDepth 100000
set_option maxHeartbeats 4000000
/-! xs == []: any list. -/
namespace L2.Jk
open PySem PySem.W PySem.Spec PySem.Calls PyProof.Rows L2 PySem.SeqAt
def rEqNil (K : Frag) : R2 := fun x y H Q => ∃ (p q : Addr) (xs : List V), x = .ref p ∧ y = .ref q ∧ SqL K H p xs ∧ SqL K H q [] ∧ Q (.bl (decide (xs.length = 0))) H
theorem op_eqNil {X : Cx} (hu : X.A.units < cLine) : OpR X (compareOp .Eq) (rEqNil X.K) := by
  rintro pins s σ H x y v u Q I rx ry ⟨p, q, xs, rfl, rfl, hp, hq, h⟩
  cases rx
  cases ry
  obtain ⟨its, r, ht, hz⟩ := I.list hp
  obtain ⟨its2, r2, ht2, hz2⟩ := I.list hq
  have e1 := r.length
  have e2 := r2.length
  simp only [List.length_nil] at e2
  by_cases k : xs.length = 0
  · rw [decide_eq_true k] at h
    have z1 : its = [] := List.eq_nil_of_length_eq_zero (by omega)
    have z2 : its2 = [] := List.eq_nil_of_length_eq_zero (by omega)
    subst z1 z2
    exact eq_listAt (e := fun _ => true) ht.isList ht2.isList rfl hu (fun j h1 _ => absurd h1 (Nat.not_lt_zero _)) ⟨.bl true, H, I, rfl, h⟩
  · rw [decide_eq_false k] at h
    exact eq_list_lengthsAt ht.isList ht2.isList (by
      rw [List.size_toArray, List.size_toArray]
      simp only [bne_iff_ne, ne_eq]
      omega) hu ⟨.bl false, H, I, rfl, h⟩
end L2.Jk

set_option Elab.async false
set_option linter.all false
set_option maxRecDepth 100000
set_option maxHeartbeats 4000000
/-! The law. -/
namespace L2.K79
open PySem PySem.W PySem.Spec PySem.Calls PyProof.Rows L2.Jk
section
variable {P : Program} {w : World} {K : Frag} {mg : Str → Option Value} {base : Heap} {f : Addr} {fd : FuncData}
theorem dfd_0 {K : Frag} {x y : V} {c : Bool} {H : Hp} (h : DInX K (ca K 0) (RF K 0) x y c H) : DFd K x y c H := Or.inr (Or.inl h)
theorem dfd_1 {K : Frag} {x y : V} {c : Bool} {H : Hp} (h : DInX K (ca K 1) (RF K 1) x y c H) : DFd K x y c H := Or.inr (Or.inr (Or.inl h))
theorem dfd_2 {K : Frag} {x y : V} {c : Bool} {H : Hp} (h : DInX K (ca K 2) (RF K 2) x y c H) : DFd K x y c H := Or.inr (Or.inr (Or.inr (Or.inl h)))
theorem dfd_3 {K : Frag} {x y : V} {c : Bool} {H : Hp} (h : DInX K (ca K 3) (RF K 3) x y c H) : DFd K x y c H := Or.inr (Or.inr (Or.inr (Or.inr (Or.inl h))))
theorem dfd_4 {K : Frag} {x y : V} {c : Bool} {H : Hp} (h : DInX K (ca K 4) (RF K 4) x y c H) : DFd K x y c H := Or.inr (Or.inr (Or.inr (Or.inr (Or.inr (Or.inl h)))))
theorem dfd_5 {K : Frag} {x y : V} {c : Bool} {H : Hp} (h : DInX K (ca K 5) (RF K 5) x y c H) : DFd K x y c H := Or.inr (Or.inr (Or.inr (Or.inr (Or.inr (Or.inr h)))))
theorem dfd_of {K : Frag} {i : Nat} (hi : i < 6) {x y : V} {c : Bool} {H : Hp} (h : DInX K (ca K i) (RF K i) x y c H) : DFd K x y c H := by
  have e : i = 0 ∨ i = 1 ∨ i = 2 ∨ i = 3 ∨ i = 4 ∨ i = 5 := by omega
  rcases e with rfl | rfl | rfl | rfl | rfl | rfl
  · exact dfd_0 h
  · exact dfd_1 h
  · exact dfd_2 h
  · exact dfd_3 h
  · exact dfd_4 h
  · exact dfd_5 h
theorem dfd_like (G : Q4 P w K mg base) {H : Hp} {a b : Addr} {d : FD} (ha : FdAt K H a d) (hb : FdAt K H b d) : DFd K (.ref a) (.ref b) true H := by
  obtain ⟨dx, fs, ea⟩ := ha.ins
  obtain ⟨dy, gs, eb⟩ := hb.ins
  exact dfd_of d.ci_lt ⟨a, b, dx, dy, _, fs, gs, rfl, rfl, ea, eb, G.nf _ _ (Nat.lt_succ_of_lt d.ci_lt) (Nat.lt_succ_of_lt d.ci_lt), ⟨d, rfl, ha, .inl ⟨rfl, hb⟩⟩, fun _ => rfl⟩
end
theorem idx_lt3 {n i : Nat} (h : i < (if (if (n : Int) < 3 then (n : Int) else 3) > 1 then (if (n : Int) < 3 then (n : Int) else 3) else 1).toNat) : i < n + 1 ∧ i < 3 := by
  split at h <;> split at h <;> omega
structure GL (P : Program) (w : World) (K : Frag) (mg : Str → Option Value) (base : Heap) : Prop extends Gbt P w K mg base where
  law_source : FnAt P w K mg base CX0 1 "_law_source" ["_law_cell"] spSource
  law_far_layout : FnAt P w K mg base CX0 5 "_law_far_layout" ["_law_source_here", "_law_most"] spFl
  law_layout_text : FnAt P w K mg base CX0 3 "_law_layout_text" ["_law_specs", "_law_joints"] spLtx
  law_bent : FnAt P w K mg base CX0 4 "_law_bent" ["_law_source_here", "_law_text"] spBt
  law_is_bounded : FnAt P w K mg base CX0 30 "_law_is_bounded" ["_law_spec"] (spBn 30)
  law_due : FnAt P w K mg base CX0 41 "_law_due" ["_law_text"] (spDue K)
  law_said : FnAt P w K mg base CX0 9 "_law_said" ["_law_text"] (spSaid K)
  eLay : ∃ fd, FnOk P w K mg base CX0 4 (He.ma K (LA K) "__eq__") fd ["self", "other"] (spEqLay K) ∧ Binds K fd ["self", "other"] []
  kcL : KC K (LA K)
  minB : mg "min" = none
def RL (K : Frag) (a b : Addr) (H : Hp) : Prop := ∃ (ds : List FD) (js : List Str), LayAt K H a ds js ∧ LayAt K H b ds js
def DSd (K : Frag) : Eqv := fun x y H => DFlat x y H ∨ DIns (LA K) (RL K) x y H
theorem mon_sd (K : Frag) : Mon (DSd K) := mon_flat.or (mon_ins fun _ _ _ _ e ⟨ds, js, a, b⟩ => ⟨ds, js, a.same e, b.same e⟩)
theorem eq_sd {X : Cx} {fd : FuncData} (G : GL X.prog X.w X.K X.mg X.base) (F : FnOk X.prog X.w X.K X.mg X.base CX0 4 (He.ma X.K (LA X.K) "__eq__") fd ["self", "other"] (spEqLay X.K)) (B : Binds X.K fd ["self", "other"] []) (hx : Passes CX0 X E0) : EqG X 4 (DSd X.K) := by
  refine (eqG_flat.mono (Nat.zero_le _)).or (eqG_ins (CX := CX0) (E := E0) (F.imp fun vs H Q E h => ?_) G.kcL.eq.find G.kcL.eq.fn B hx)
  obtain ⟨a, b, rfl, ⟨ds, js, ha, hb⟩, q⟩ := h
  obtain ⟨⟨dx, t1, t2, ys, a1, a2, a3, a4⟩, ok⟩ := ha
  obtain ⟨⟨dy, t3, t4, zs, b1, b2, b3, b4⟩, _⟩ := hb
  refine ⟨a, .ref b, ys, js, rfl, ⟨dx, t1, t2, a1, a2, a4⟩, ok.jn, .inl ⟨b, zs, js, fun _ => true, rfl, ⟨dy, t3, t4, b1, b2, b4⟩, ok.jn, fun i x y hx hy => ?_, fun H' S => ?_⟩⟩
  · obtain ⟨p, d, rfl, hd, hF⟩ := a3.get hx
    obtain ⟨r, e, hF2⟩ := b3.2 i y d hy hd
    subst e
    exact dfd_like G.toQ4 hF hF2
  · have e : ((allE (fun _ => true) (min ys.length zs.length) && (ys.length == zs.length)) && decide (js = js)) = true := by
      rw [allE_of (fun _ _ => rfl), a3.1, b3.1, beq_self_eq_true, decide_eq_true rfl]
      rfl
    rw [e]
    exact q H' S
def spLaw (K : Frag) : Sp := fun vs H Q _ => ∃ (a : Addr) (ns : List Int), vs = [.ref a] ∧ SqL K H a (ns.map V.int) ∧ ns.length ≤ 63 ∧ ∀ H', Q (.bl true) H'
def rNeK (K : Frag) (D : Eqv) : R2 := fun x y H Q => DTup K D x y H ∧ ∀ H', Same H H' → Q (.bl false) H'
theorem op_neTK {X : Cx} {K : Frag} {n : Nat} {D : Eqv} (e : X.K = K) (hD : Mon D) (h : EqG X n D) (hr : Room (n + 1) X.A) : OpR X (compareOp .NotEq) (rNeK K D) := by
  subst e
  exact op_neT hD h hr
def bn : Nat → Nat
  | 0 => 8
  | m + 1 => 2 * bn m + 1
theorem bn_le {m : Nat} (h : m ≤ 2) : 8 ≤ bn m ∧ bn m ≤ 40 := by
  have e : m = 0 ∨ m = 1 ∨ m = 2 := by omega
  rcases e with rfl | rfl | rfl <;> decide
theorem bn_71 {m : Nat} (h : m ≤ 3) : bn m ≤ 71 := by
  have e : m = 0 ∨ m = 1 ∨ m = 2 ∨ m = 3 := by omega
  rcases e with rfl | rfl | rfl | rfl <;> decide
/-- what the words of a text are read as -/
def FdW (s : Addr) (J : Hp) (vs : List V) (W : List Str) : Prop := vs.length = W.length ∧ ∀ (i : Nat) (v : V) (u : Str), vs[i]? = some v → W[i]? = some u → (wB u = false ∧ v = .non) ∨ (wB u = true ∧ SIn s J v (Fw u).1 (Fw u).2)
theorem FdW.but {s : Addr} {J J' : Hp} {vs : List V} {W : List Str} (B : But s J J') (h : FdW s J vs W) : FdW s J' vs W := ⟨h.1, fun i v u a b => (h.2 i v u a b).imp id fun ⟨x, y⟩ => ⟨x, y.but2 B y⟩⟩
theorem FdW.same {s : Addr} {J J' : Hp} {vs : List V} {W : List Str} (S : Same J J') (h : FdW s J vs W) : FdW s J' vs W := ⟨h.1, fun i v u a b => (h.2 i v u a b).imp id fun ⟨x, y⟩ => ⟨x, y.same S⟩⟩
theorem FdW.snoc {s : Addr} {J : Hp} {vs : List V} {W : List Str} {v : V} {u : Str} (h : FdW s J vs W) (k : (wB u = false ∧ v = .non) ∨ (wB u = true ∧ SIn s J v (Fw u).1 (Fw u).2)) : FdW s J (vs ++ [v]) (W ++ [u]) := by
  refine ⟨by rw [List.length_append, List.length_append, h.1]; rfl, fun i x y a b => ?_⟩
  by_cases hi : i < vs.length
  · rw [List.getElem?_append_left hi] at a
    rw [List.getElem?_append_left (by rw [← h.1]; exact hi)] at b
    exact h.2 i x y a b
  · rw [List.getElem?_append_right (by omega)] at a
    rw [List.getElem?_append_right (by rw [← h.1]; omega)] at b
    have hz : i - vs.length = 0 := by
      have := (List.getElem?_eq_some_iff.mp a).1
      simp only [List.length_cons, List.length_nil] at this
      omega
    rw [hz] at a
    rw [← h.1, hz] at b
    obtain rfl := Option.some.inj a
    obtain rfl := Option.some.inj b
    exact k
theorem prs2 {H : Hp} (x y : Str) : Prs DFlat [V.str x, .str y] [V.str x, .str y] H := .cons ⟨rfl, rfl, by simp [eqV]⟩ (.cons ⟨rfl, rfl, by simp [eqV]⟩ .nil)
theorem prs1 {H : Hp} (x : Str) (i : Int) : Prs DFlat [V.str x, .int i] [V.str x, .int i] H := .cons ⟨rfl, rfl, by simp [eqV]⟩ (.cons ⟨rfl, rfl, by simp [eqV]⟩ .nil)
theorem prsI {K : Frag} {H : Hp} {xs ys : List V} (h : Prs DFlat xs ys H) : Prs (DSd K) xs ys H := ⟨h.1, fun i x y a b => .inl (h.2 i x y a b)⟩
theorem LayAt.ins {K : Frag} {H : Hp} {L : Addr} {ds : List FD} {js : List Str} (h : LayAt K H L ds js) : ∃ dx fs, H L = some (.ins (LA K) dx fs) := by
  obtain ⟨⟨dx, t1, t2, ys, a1, _⟩, _⟩ := h
  exact ⟨dx, _, a1⟩
theorem prsL {K : Frag} {H : Hp} {a b : Addr} {ds : List FD} {js : List Str} (ha : LayAt K H a ds js) (hb : LayAt K H b ds js) : Prs (DSd K) [.str "told", .ref a] [.str "told", .ref b] H := by
  obtain ⟨dx, fs, ea⟩ := ha.ins
  obtain ⟨dy, gs, eb⟩ := hb.ins
  exact .cons (.inl ⟨rfl, rfl, by simp [eqV]⟩) (.cons (.inr ⟨a, b, dx, dy, fs, gs, rfl, rfl, ea, eb, ds, js, ha, hb⟩) .nil)
theorem ends_txt : rdBad (blk "") = some 0 ∧ rdBad (blk "fixed:1  fixed:1") = some 1 := by decide +kernel
theorem ends_mem : (∀ w ∈ blk "", w ∈ (["!", "~", "", "!!", "!~", "fixed:1", "fixed:0", "word:a:0:1"] : List Str)) ∧ ∀ w ∈ blk "fixed:1  fixed:1", w ∈ (["!", "~", "", "!!", "!~", "fixed:1", "fixed:0", "word:a:0:1"] : List Str) := by decide +kernel

section
variable {P : Program} {w : World} {K : Frag} {mg : Str → Option Value} {base : Heap} {f : Addr} {fd : FuncData}

abbrev s_law : Stmt := top 65
theorem sc_law : FnScope ["_law_script", "_law_index", "_law_source_here", "_law_turn", "_law_specs", "_law_signs", "_law_text", "_law_k", "_law_found", "_law_word_here", "_law_great", "_law_spec", "_law_odd"] ["_law_script"] (defScope s_law) := ⟨rfl, rfl, rfl, by decide +kernel, rfl, by decide +kernel, by decide +kernel⟩

theorem ok_law (F : FunD K "law" "law" (defArgs s_law) (defBody s_law) (defScope s_law) [] [] f fd) (G : GL P w K mg base) : FnOk P w K mg base CX0 42 f fd ["_law_script"] (spLaw K) := by
  refine F.ok (CX := CX0) sc_law (fun vs H Q E h => ?_) (fun cdv A outer s H vs Q E hr h => ?_)
  · obtain ⟨_, _, rfl, _⟩ := h
    rfl
  · obtain ⟨fdL, FL, BL⟩ := G.eLay
    refine ⟨_, PSs.nox (pss_cons (ps_for PassesOwn.never rfl (pi_range1 (by rfl) G.range (pa_cons (pe_callB (call_max2 rfl) (by rfl) G.max (by decide +kernel) (pa_cons pe_int (pa_cons (pe_callB (call_min2 rfl) (by rfl) G.minB (by decide +kernel) (pa_cons pe_int (pa_cons (pe_callB call_len_seq (by rfl) G.len (by decide +kernel) (pa_cons (pv 0) pa_nil)) pa_nil))) pa_nil))) pa_nil)) (pg_name (i := 1) sc_law.nd rfl (Or.inl rfl))
      (pss_cons (ps_set (i := 2) sc_law.nd rfl (Or.inl rfl) (pe_fn G.law_source (hr.mono (by decide)) pass0 (by rfl) (pa_cons (pe_ix ix_list (pe_op op_catS (pv 0) (pe_lstS (pa_cons pe_int pa_nil))) (pv 1) (fun _ _ => rfl)) pa_nil)))
      (pss_cons (ps_for PassesOwn.never rfl (pi_range1 (by rfl) G.range (pa_cons pe_int pa_nil)) (pg_name (i := 3) sc_law.nd rfl (Or.inl rfl))
        (C8.pss_cut (ps_asg (pe_fn G.law_far_layout (hr.mono (by decide)) pass0 (by rfl) (pa_cons (pv 2) (pa_cons pe_int pa_nil))) (pg_tup rfl (pgs_cons (pg_name (i := 4) sc_law.nd rfl (Or.inl rfl)) (pgs_cons (pg_name (i := 5) sc_law.nd rfl (Or.inl rfl)) pgs_nil))))
        (C8.pss_cut (ps_set (i := 6) sc_law.nd rfl (Or.inl rfl) (pe_fn G.law_layout_text (hr.mono (by decide)) pass0 (by rfl) (pa_cons (pv 4) (pa_cons (pv 5) pa_nil))))
        (C8.pss_cut (ps_for PassesOwn.never rfl (pi_range1 (by rfl) G.range (pa_cons (pe_fn G.law_draw (hr.mono (by decide)) pass0 (by rfl) (pa_cons (pv 2) (pa_cons pe_int pa_nil))) pa_nil)) (pg_name (i := 7) sc_law.nd rfl (Or.inl rfl))
          (pss_one (ps_set (i := 6) sc_law.nd rfl (Or.inl rfl) (pe_fn G.law_bent (hr.mono (by decide)) pass0 (by rfl) (pa_cons (pv 2) (pa_cons (pv 6) pa_nil))))))
        (C8.pss_cut (ps_setLc (i := 8) (own := [("_law_word_here", 9)]) (g := gName 9) (tt := tYes) (by rfl) sc_law.nd rfl rfl (sw_true rfl rfl rfl (by decide +kernel)) (pi_list (pe_split (pv 6) pe_str)) (blkOk_by (N := ["_law_script", "_law_index", "_law_source_here", "_law_turn", "_law_specs", "_law_signs", "_law_text", "_law_k", "_law_found", "_law_word_here", "_law_great", "_law_spec", "_law_odd"]) (sc := defScope s_law) (by decide +kernel)) (fun _ _ _ _ _ => pg_name (i := 9) sc_law.nd rfl (Or.inl rfl)) (fun _ _ _ _ _ => pts_nil) (fun _ _ _ _ _ => (pe_fn G.law_spec_of (hr.mono (by decide)) pass0 (by rfl) (pa_cons (pv 9) pa_nil))))
        (C8.pss_cut (ps_setLc (i := 10) (own := [("_law_spec", 11)]) (g := gName 11) (tt := _) (by rfl) sc_law.nd rfl rfl (sw_true rfl rfl rfl (by decide +kernel)) (pi_list (pv 8)) (blkOk_by (N := ["_law_script", "_law_index", "_law_source_here", "_law_turn", "_law_specs", "_law_signs", "_law_text", "_law_k", "_law_found", "_law_word_here", "_law_great", "_law_spec", "_law_odd"]) (sc := defScope s_law) (by decide +kernel)) (fun _ _ _ _ _ => pg_name (i := 11) sc_law.nd rfl (Or.inl rfl)) (fun _ _ _ _ _ => pts_one (PW.pt (pw_and (pt_cmpR op_notN (pv 11) pe_non (nomark _)) (pw_and1 (pt_not (pt_val (pe_fn G.law_is_bounded (hr.mono (by decide)) pass0 (by rfl) (pa_cons (pv 11) pa_nil)))))))) (fun _ _ _ _ _ => (pv 11)))
        (pss_one (ps_if (PW.pt (pw_and (pt_cmpR op_lt (pe_callB call_len_seq (by rfl) G.len (by decide +kernel) (pa_cons (pv 8) pa_nil)) pe_int (nomark _)) (pw_and (pt_cmpR (op_eqNil (Nat.lt_of_le_of_lt (Nat.le_add_right _ 64) hr.units)) (pv 10) (pe_lstS pa_nil) (nomark _)) (pw_and1 (pt_cmpR (op_neTK (K := K) rfl (mon_sd K) (eq_sd G FL BL pass0) (hr.mono (by decide))) (pe_fn G.law_said (hr.mono (by decide)) pass0 (by rfl) (pa_cons (pv 6) pa_nil)) (pe_fn G.law_due hr pass0 (by rfl) (pa_cons (pv 6) pa_nil)) (nomark _))))))
          (pss_one (ps_ret pe_bl))
          pss_nil))))))))
      (pss_one (ps_if (pt_cmpR (op_neL mon_flat eqG_flat (hr.mono (by decide))) (pe_lc (own := [("_law_odd", 12)]) (g := gName 12) (tt := _) rfl sc_law.nd (pi_tup (pe_tupS (pa_cons pe_non (pa_cons pe_int (pa_cons pe_bl (pa_cons (pe_lstS (pa_cons pe_str pa_nil)) (pa_cons pe_dnewK pa_nil))))))) (blkOk_by (N := ["_law_script", "_law_index", "_law_source_here", "_law_turn", "_law_specs", "_law_signs", "_law_text", "_law_k", "_law_found", "_law_word_here", "_law_great", "_law_spec", "_law_odd"]) (sc := defScope s_law) (by decide +kernel)) (fun _ _ _ _ _ => pg_name (i := 12) sc_law.nd rfl (Or.inl rfl)) (fun _ _ _ _ _ => pts_one (pt_cmpR (op_neTK (K := K) (n := 0) rfl mon_flat eqG_flat (hr.mono (j := 1) (by decide))) (pe_fn G.law_said (hr.mono (by decide)) pass0 (by rfl) (pa_cons (pv 12) pa_nil)) (pe_tupS (pa_cons pe_str (pa_cons pe_int pa_nil))) (nomark _))) (fun _ _ _ _ _ => pe_int)) (pe_lstS pa_nil) (nomark _))
        (pss_one (ps_ret pe_bl))
        pss_nil)))))
    (pss_one (ps_ret (pe_and (pe_cmpR (op_eqG (rcG_tup mon_flat eqG_flat) (hr.mono (by decide))) (pe_fn G.law_said (hr.mono (by decide)) pass0 (by rfl) (pa_cons pe_str pa_nil)) (pe_tupS (pa_cons pe_str (pa_cons pe_int pa_nil))) (nomark _)) (pe_one (pe_cmpR (op_eqG (rcG_tup mon_flat eqG_flat) (hr.mono (by decide))) (pe_fn G.law_said (hr.mono (by decide)) pass0 (by rfl) (pa_cons pe_str pa_nil)) (pe_tupS (pa_cons pe_str (pa_cons pe_int pa_nil))) (nomark _))))))), ?_⟩
    obtain ⟨a, ns, rfl, hS, hl, k⟩ := h
    refine ⟨_, rfl, a, _, rfl, .inl hS, _, _, rfl, _, _, rfl, _, rfl, ?_, ?_, ?_⟩
    · split <;> split <;> omega
    · rw [List.length_map]
      split <;> split <;> omega
    refine for_range (lo := 0) (fun i σ J => ∃ v1 v2 v3 v4 v5 v6 v7 v8 v9 v10 v11 v12 : Option V, σ = [some (.ref a), v1, v2, v3, v4, v5, v6, v7, v8, v9, v10, v11, v12] ∧ Same H J) ⟨_, _, _, _, _, _, _, _, _, _, _, _, rfl, Same.refl _⟩ ?_ ?_
    · rintro i σ H1 hi ⟨v1, v2, v3, v4, v5, v6, v7, v8, v9, v10, v11, v12, rfl, X1⟩
      rw [List.length_map] at hi
      obtain ⟨hi1, hi3⟩ := idx_lt3 hi
      rw [Int.zero_add]
      obtain ⟨c, hc⟩ : ∃ c : Int, (ns.map V.int ++ [V.int 0])[i]? = some (.int c) := by
        obtain ⟨c, z⟩ : ∃ c, (ns ++ [(0 : Int)])[i]? = some c := ⟨_, List.getElem?_eq_getElem (by rw [List.length_append]; exact hi1)⟩
        refine ⟨c, ?_⟩
        have e : ns.map V.int ++ [V.int 0] = (ns ++ [(0 : Int)]).map V.int := by rw [List.map_append]; rfl
        rw [e, List.getElem?_map, z]
        rfl
      have hS1 := X1.seq hS
      refine ⟨_, rfl, by show 1 ≤ 1000; decide, fun p0 H0 hp0 S0 e0 => ⟨a, p0, _, _, rfl, rfl, S0.seq hS1, SqL.of e0, by rw [List.length_map, sizeLine_eq]; show ns.length + 1 ≤ 16777216; omega, fun p1 H2 hp1 S2 e1 => ⟨_, rfl, p1, _, _, _, rfl, rfl, SqL.of e1, atI_nat (j := i) hc, c, rfl, fun sa H4 hsa S4 st4 => ?_⟩⟩⟩
      have S14 := (S0.trans S2).trans S4
      have hsa1 : H1 sa = none := none_of (S0.trans S2) hsa
      have sane : ∀ {b : Addr} {o : HO}, H1 b = some o → b ≠ sa := fun e => ne_of_none e hsa1
      refine ⟨8, rfl, by decide, by decide, for_range (n := 8) (fun j σ J => ∃ v3 v4 v5 v6 v7 v8 v9 v10 v11 v12 : Option V, σ = [some (.ref a), some (.int (i : Nat)), some (.ref sa), v3, v4, v5, v6, v7, v8, v9, v10, v11, v12] ∧ StAt J sa ∧ Same H1 J) ⟨_, _, _, _, _, _, _, _, _, _, rfl, st4, S14⟩ ?_ ?_⟩
      · rintro j σ J hj ⟨v3, v4, v5, v6, v7, v8, v9, v10, v11, v12, rfl, stJ, SJ⟩
        rw [Int.zero_add]
        have lift : ∀ {J1 J2 : Hp}, Same H1 J1 → But sa J1 J2 → Same H1 J2 := fun S B b o e => B b o (sane e) (S b o e)
        -- the specs
        refine ⟨fun σ J => ∃ (ps pj : Addr) (vsp : List V) (ds : List FD) (js : List Str) (v6 v7 v8 v9 v10 v11 v12 : Option V), σ = [some (.ref a), some (.int (i : Nat)), some (.ref sa), some (.int (j : Nat)), some (.ref ps), some (.ref pj), v6, v7, v8, v9, v10, v11, v12] ∧ FlAt sa J ps pj vsp ds js ∧ StAt J sa ∧ Same H1 J, ?_, ?_⟩
        · exact ⟨_, rfl, sa, rfl, stJ, fun T ps pj vsp ds js J1 nT eT hF B1 st1 => ⟨T, _, rfl, SqT.of eT, rfl, _, _, rfl, _, _, rfl, rfl, ps, pj, vsp, ds, js, _, _, _, _, _, _, _, rfl, hF, st1, lift SJ B1⟩⟩
        rintro σ J1 ⟨ps, pj, vsp, ds, js, v6, v7, v8, v9, v10, v11, v12, rfl, hF, st1, SJ1⟩
        -- the text
        refine ⟨fun σ J => ∃ (t : Str) (v4 v5 v7 v8 v9 v10 v11 v12 : Option V), TxW 16 8 t ∧ σ = [some (.ref a), some (.int (i : Nat)), some (.ref sa), some (.int (j : Nat)), v4, v5, some (.str t), v7, v8, v9, v10, v11, v12] ∧ StAt J sa ∧ Same H1 J, ?_, ?_⟩
        · exact ⟨_, rfl, _, rfl, sa, ps, pj, vsp, ds, js, rfl, hF.eps, hF.sps, hF.epj, hF.len, fun d hd => (hF.dr d hd).wk.1, hF.jn, hF.few, fun J2 S2 => ⟨layT ds js, _, _, _, _, _, _, _, _, lay_txw hF.dr hF.jn hF.few, rfl, st1.same S2, SJ1.trans S2⟩⟩
        clear hF SJ1 st1
        rintro σ J1 ⟨t, v4, v5, v7, v8, v9, v10, v11, v12, hT, rfl, st1, SJ1⟩
        -- changes
        refine ⟨fun σ J => ∃ (t : Str) (v4 v5 v7 v8 v9 v10 v11 v12 : Option V), TxW 19 71 t ∧ σ = [some (.ref a), some (.int (i : Nat)), some (.ref sa), some (.int (j : Nat)), v4, v5, some (.str t), v7, v8, v9, v10, v11, v12] ∧ StAt J sa ∧ Same H1 J, ?_, ?_⟩
        · refine ⟨_, rfl, sa, 4, rfl, st1, by decide, by decide, fun d1 J2 d0 d4 B2 st2 => ⟨d1, rfl, by omega, by omega, for_range (n := d1.toNat) (fun m σ J => ∃ (t : Str) (v4 v5 v7 v8 v9 v10 v11 v12 : Option V), TxW (16 + m) (bn m) t ∧ σ = [some (.ref a), some (.int (i : Nat)), some (.ref sa), some (.int (j : Nat)), v4, v5, some (.str t), v7, v8, v9, v10, v11, v12] ∧ StAt J sa ∧ Same H1 J) ⟨t, _, _, _, _, _, _, _, _, hT, rfl, st2, lift SJ1 B2⟩ ?_ ?_⟩⟩
          · rintro m σ J3 hm ⟨t, v4, v5, v7, v8, v9, v10, v11, v12, hT, rfl, st3, SJ3⟩
            rw [Int.zero_add]
            have hb : 8 ≤ bn m ∧ bn m ≤ 40 := bn_le (by omega)
            exact ⟨_, rfl, _, rfl, sa, t, 16 + m, bn m, rfl, st3, hT, by omega, hb.1, hb.2, fun t' J4 hT' B4 st4 => ⟨t', _, _, _, _, _, _, _, _, hT', rfl, st4, lift SJ3 B4⟩⟩
          · rintro σ J3 ⟨t, v4, v5, v7, v8, v9, v10, v11, v12, hT, rfl, st3, SJ3⟩
            exact ⟨t, _, _, _, _, _, _, _, _, ⟨Nat.le_trans hT.few (by omega), fun w hw => (hT.wee w hw).mono (bn_71 (by omega))⟩, rfl, st3, SJ3⟩
        clear hT SJ1 st1
        rintro σ J1 ⟨t, v4, v5, v7, v8, v9, v10, v11, v12, hT, rfl, st1, SJ1⟩
        have hWe := hT.wee
        have hfew := hT.few
        have hmk : ∀ w ∈ blk t, (mkL (pcs w)).1.length < 30 := fun w hw => by
          have h1 := mkL_len3 (pcs w)
          have h2 := (hWe w hw).few
          omega
        have hlen : t.length ≤ 19 * 5752 := by
          have h1 := join_le (s := " ") (B := 5751) (by decide) (blk t) fun w hw => by
            have := (hWe w hw).len
            omega
          rw [blk_join] at h1
          exact Nat.le_trans h1 (Nat.mul_le_mul_right _ hfew)
        -- what the words are
        refine ⟨fun σ J => ∃ (fl : Addr) (vsF : List V) (v4 v5 v7 v9 v10 v11 v12 : Option V), σ = [some (.ref a), some (.int (i : Nat)), some (.ref sa), some (.int (j : Nat)), v4, v5, some (.str t), v7, some (.ref fl), v9, v10, v11, v12] ∧ J fl = some (.lst vsF) ∧ FdW fl J vsF (blk t) ∧ StAt J sa ∧ Same H1 J, ?_, ?_⟩
        · refine ⟨_, rfl, ⟨_, rfl⟩, t, " ", rfl, rfl, rfl, by rw [sizeLine_eq]; omega, fun wl hwl => ?_⟩
          have S2 : Same J1 (upd J1 wl (.lst ((Txt.split t " ").map V.str))) := same_upd hwl
          have eW : upd J1 wl (.lst ((Txt.split t " ").map V.str)) wl = some (.lst ((blk t).map V.str)) := upd_same
          generalize upd J1 wl (.lst ((Txt.split t " ").map V.str)) = J2 at S2 eW ⊢
          refine ⟨wl, rfl, ⟨_, SqL.of eW⟩, fun D hD => ?_⟩
          refine lc_list (K := K) (a := wl) (xs := (blk t).map V.str) (fun n J3 => ∃ vs, Same J2 J3 ∧ J3 D = some (.lst vs) ∧ FdW D J3 vs ((blk t).take n)) ⟨[], same_upd hD, upd_same, ⟨rfl, fun i v u a => by cases a⟩⟩ (fun n J3 _ ⟨_, S3, _⟩ => S3.seq (SqL.of eW)) ?_ ?_
          · rintro n v J3 hv ⟨vs, S3, eD, hF⟩
            rw [List.getElem?_map] at hv
            obtain ⟨u, hu, rfl⟩ := Option.map_eq_some_iff.mp hv
            have hum := hWe u (List.mem_of_getElem? hu)
            have hu30 := hmk u (List.mem_of_getElem? hu)
            have hn := (List.getElem?_eq_some_iff.mp hu).1
            have hvl := hF.1
            rw [List.length_take] at hvl
            have fin : ∀ (v : V) (J4 : Hp), Same J3 J4 → ((wB u = false ∧ v = .non) ∨ (wB u = true ∧ SIn D J4 v (Fw u).1 (Fw u).2)) → ∃ acc, J4 D = some (.lst acc) ∧ acc.length < sizeLine ∧ ∃ vs, Same J2 (upd J4 D (.lst (acc ++ [v]))) ∧ upd J4 D (.lst (acc ++ [v])) D = some (.lst vs) ∧ FdW D (upd J4 D (.lst (acc ++ [v]))) vs ((blk t).take (n + 1)) := fun v J4 S4 hk => by
              refine ⟨vs, S4 _ _ eD, by rw [sizeLine_eq]; omega, vs ++ [v], same_put (S3.trans S4) hD, upd_same, ?_⟩
              rw [take_snoc hu]
              exact ((hF.same S4).snoc hk).but (but_upd _ _ _)
            exact ⟨rfl, _, rfl, u, 71, rfl, hum, by decide, hu30, fun hw J4 S4 => fin _ _ S4 (.inl ⟨hw, rfl⟩), fun hw => ⟨(Fw u).1, (Fw u).2, (Fw_ok hum hw).mkE, (Fw_ok hum hw).wf, fun v J4 S4 hv => fin _ _ S4 (.inr ⟨hw, hv D (by rw [eD]; exact fun z => by cases z)⟩)⟩⟩
          · rintro J3 ⟨vs, S3, eD, hF⟩
            rw [List.length_map, List.take_length] at hF
            exact ⟨D, vs, _, _, _, _, _, _, _, rfl, eD, hF, (st1.same S2).same S3, (SJ1.trans S2).trans S3⟩
        rintro σ J2 ⟨fl, vsF, v4, v5, v7, v9, v10, v11, v12, rfl, eF, hFW, st2, SJ2⟩
        clear SJ1 st1
        have hfl := hFW.1
        -- those that are out of bounds
        refine ⟨fun σ J => ∃ (gl : Addr) (gs : List V) (v4 v5 v7 v9 v11 v12 : Option V), σ = [some (.ref a), some (.int (i : Nat)), some (.ref sa), some (.int (j : Nat)), v4, v5, some (.str t), v7, some (.ref fl), v9, some (.ref gl), v11, v12] ∧ J fl = some (.lst vsF) ∧ J gl = some (.lst gs) ∧ (gs.length = 0 → ∀ w ∈ blk t, wB w = true → bdB (Fw w).2 = true) ∧ StAt J sa ∧ Same H1 J, ?_, ?_⟩
        · refine ⟨_, rfl, fl, rfl, ⟨_, SqL.of eF⟩, fun D hD => ?_⟩
          refine lc_list (K := K) (a := fl) (xs := vsF) (fun n J3 => ∃ gs, Same J2 J3 ∧ J3 D = some (.lst gs) ∧ gs.length ≤ n ∧ (gs.length = 0 → ∀ (q : Nat) (w : Str), q < n → (blk t)[q]? = some w → wB w = true → bdB (Fw w).2 = true)) ⟨[], same_upd hD, upd_same, Nat.le_refl _, fun _ q w h => absurd h (Nat.not_lt_zero _)⟩ (fun n J3 _ ⟨_, S3, _⟩ => S3.seq (SqL.of eF)) ?_ ?_
          · rintro n v J3 hv ⟨gs, S3, eD, hgl, hgs⟩
            have hn := (List.getElem?_eq_some_iff.mp hv).1
            obtain ⟨u, hu⟩ : ∃ u, (blk t)[n]? = some u := ⟨_, List.getElem?_eq_getElem (by omega)⟩
            have hum := hWe u (List.mem_of_getElem? hu)
            have hu30 := hmk u (List.mem_of_getElem? hu)
            have pass : ∀ J4, Same J3 J4 → (wB u = true → bdB (Fw u).2 = true) → ∃ gs, Same J2 J4 ∧ J4 D = some (.lst gs) ∧ gs.length ≤ n + 1 ∧ (gs.length = 0 → ∀ (q : Nat) (w : Str), q < n + 1 → (blk t)[q]? = some w → wB w = true → bdB (Fw w).2 = true) := fun J4 S4 hk => by
              refine ⟨gs, S3.trans S4, S4 _ _ eD, by omega, fun z q w hq hw hb => ?_⟩
              rcases Nat.lt_succ_iff_lt_or_eq.mp hq with h | h
              · exact hgs z q w h hw hb
              · subst h
                rw [hu] at hw
                obtain rfl := Option.some.inj hw
                exact hk hb
            refine ⟨rfl, ?_⟩
            rcases hFW.2 n v u hv hu with ⟨hw, rfl⟩ | ⟨hw, hSI⟩
            · refine ⟨_, rfl, rfl, _, rfl, iteF (iteF ?_)⟩
              exact pass J3 (Same.refl _) fun z => by rw [hw] at z; cases z
            · obtain ⟨b, rfl⟩ := hSI.ref
              have fo := Fw_ok hum hw
              rw [fo.mkE] at hu30
              refine ⟨_, rfl, rfl, _, rfl, iteT ?_⟩
              refine ⟨_, rfl, fl, _, (Fw u).1, (Fw u).2, rfl, hSI.same S3, fo.wf, hu30, fun J4 S4 => ⟨_, rfl, ?_⟩⟩
              cases e : bdB (Fw u).2 with
              | true => exact iteF (pass J4 S4 fun _ => e)
              | false => exact iteT ⟨_, rfl, gs, S4 _ _ eD, by rw [sizeLine_eq]; omega, gs ++ [.ref b], same_put (S3.trans S4) hD, upd_same, by rw [List.length_append]; show gs.length + 1 ≤ n + 1; omega, fun z => by rw [List.length_append] at z; simp only [List.length_cons] at z; omega⟩
          · rintro J3 ⟨gs, S3, eD, hgl, hgs⟩
            refine ⟨D, gs, _, _, _, _, _, _, rfl, S3 _ _ eF, eD, fun z w hw hb => ?_, st2.same S3, SJ2.trans S3⟩
            obtain ⟨q, hq⟩ := List.mem_iff_getElem?.mp hw
            exact hgs z q w (by rw [hfl]; exact (List.getElem?_eq_some_iff.mp hq).1) hq hb
        clear SJ2 st2
        rintro σ J2 ⟨gl, gs, v4, v5, v7, v9, v11, v12, rfl, eF2, eG, hgs, st2, SJ2⟩
        refine ⟨_, rfl, fl, _, rfl, .inl (SqL.of eF2), _, _, rfl, rfl, _, rfl, ?_⟩
        refine ite2 (fun _ => ?_) (fun _ => ?_)
        rotate_left
        · exact iteF ⟨_, _, _, _, _, _, _, _, _, _, rfl, st2, SJ2⟩
        refine ⟨_, rfl, by show 0 ≤ 1000; decide, fun p3 J3 hp3 S3 e3 => ⟨gl, p3, gs, rfl, rfl, SqL.of (S3 _ _ eG), SqL.of e3, _, rfl, ?_⟩⟩
        refine ite2 (fun h2 => ?_) (fun _ => ?_)
        rotate_left
        · exact iteF ⟨_, _, _, _, _, _, _, _, _, _, rfl, st2.same S3, SJ2.trans S3⟩
        have hg0 : gs.length = 0 := of_decide_eq_true h2
        have hbd : rdBad (blk t) = none → ∀ f ∈ fsOf (blk t), BdP f.2 := fun hno f hf => by
          obtain ⟨u, hu, rfl⟩ := List.mem_map.mp hf
          obtain ⟨h1, h2⟩ := fws_wB hno hu
          exact bd_of (Fw_ok (hWe u h1) h2).wf (hgs hg0 u h1 h2)
        have sane2 : ∀ {J}, Same J2 J → J sa ≠ none := fun S => by
          obtain ⟨_, _, _, x, _⟩ := st2
          rw [S _ _ x]
          exact fun z => by cases z
        refine ⟨_, rfl, .str t, rfl, .inr ⟨t, 71, rfl, hWe, by decide, by omega, hbd, fun i1 hi1 T1 J4 S4 e4 => ?_, fun x1 hno hx1 T1 J4 S4 e4 => ?_, fun hno hx1 T1 L1 J4 S4 e4 hL1 => ?_⟩⟩
        · refine ⟨_, rfl, t, 71, sa, rfl, sane2 (S3.trans S4), hWe, by decide, hmk, by omega, hbd, fun i2 hi2 T2 J5 S5 e5 => ?_, fun x2 hno _ T2 J5 S5 e5 => ?_, fun hno _ T2 L2 J5 S5 e5 hL2 => ?_⟩
          · rw [hi1] at hi2
            obtain rfl := Option.some.inj hi2
            exact ⟨⟨T1, T2, _, _, rfl, rfl, SqT.of (S5 _ _ e4), SqT.of e5, prsI (prs1 _ _)⟩, fun J6 S6 => ⟨_, rfl, iteF ⟨_, _, _, _, _, _, _, _, _, _, rfl, (((st2.same S3).same S4).same S5).same S6, (((SJ2.trans S3).trans S4).trans S5).trans S6⟩⟩⟩
          · rw [hi1] at hno; cases hno
          · rw [hi1] at hno; cases hno
        · refine ⟨_, rfl, t, 71, sa, rfl, sane2 (S3.trans S4), hWe, by decide, hmk, by omega, hbd, fun i2 hi2 T2 J5 S5 e5 => ?_, fun x2 _ hx2 T2 J5 S5 e5 => ?_, fun _ hx2 T2 L2 J5 S5 e5 hL2 => ?_⟩
          · rw [hno] at hi2; cases hi2
          · rw [hx1] at hx2
            obtain rfl := Option.some.inj hx2
            exact ⟨⟨T1, T2, _, _, rfl, rfl, SqT.of (S5 _ _ e4), SqT.of e5, prsI (prs2 _ _)⟩, fun J6 S6 => ⟨_, rfl, iteF ⟨_, _, _, _, _, _, _, _, _, _, rfl, (((st2.same S3).same S4).same S5).same S6, (((SJ2.trans S3).trans S4).trans S5).trans S6⟩⟩⟩
          · rw [hx1] at hx2; cases hx2
        · refine ⟨_, rfl, t, 71, sa, rfl, sane2 (S3.trans S4), hWe, by decide, hmk, by omega, hbd, fun i2 hi2 T2 J5 S5 e5 => ?_, fun x2 _ hx2 T2 J5 S5 e5 => ?_, fun _ hx2 T2 L2 J5 S5 e5 hL2 => ?_⟩
          · rw [hno] at hi2; cases hi2
          · rw [hx1] at hx2; cases hx2
          · exact ⟨⟨T1, T2, _, _, rfl, rfl, SqT.of (S5 _ _ e4), SqT.of e5, prsL (hL1.same S5) hL2⟩, fun J6 S6 => ⟨_, rfl, iteF ⟨_, _, _, _, _, _, _, _, _, _, rfl, (((st2.same S3).same S4).same S5).same S6, (((SJ2.trans S3).trans S4).trans S5).trans S6⟩⟩⟩
      · rintro σ J ⟨v3, v4, v5, v6, v7, v8, v9, v10, v11, v12, rfl, stJ, SJ⟩
        refine ⟨by show 1 ≤ 1000; decide, fun p1 J1 hp1 S1 e1 => fun p2 hp2 => ?_⟩
        have S2 : Same J1 (upd J1 p2 (.dK [])) := same_upd hp2
        have e2 : upd J1 p2 (.dK []) p2 = some (.dK []) := upd_same
        generalize upd J1 p2 (.dK []) = J2 at S2 e2 ⊢
        refine ⟨by show 5 ≤ 1000; decide, fun pt J3 hpt S3 e3 => ?_⟩
        have SJ3 := ((SJ.trans S1).trans S2).trans S3
        refine ⟨pt, rfl, ⟨_, SqT.of e3⟩, fun D hD => ?_⟩
        refine lc_tup (K := K) (a := pt) (xs := [.non, .int 5, .bl true, .ref p1, .ref p2]) (fun n J4 => Same J3 J4 ∧ J4 D = some (.lst [])) ⟨same_upd hD, upd_same⟩ (fun n J4 _ ⟨S4, _⟩ => seqT_same S4 (SqT.of e3)) ?_ ?_
        · rintro n x J4 hx ⟨S4, eD⟩
          have hxm := List.mem_of_getElem? hx
          have hth : Thg J4 x ∧ isStr x = false := by
            simp only [List.mem_cons, List.not_mem_nil, or_false] at hxm
            rcases hxm with rfl | rfl | rfl | rfl | rfl
            · exact ⟨.inl rfl, rfl⟩
            · exact ⟨.inl rfl, rfl⟩
            · exact ⟨.inl rfl, rfl⟩
            · exact ⟨.inr ⟨p1, rfl, .inl ⟨_, S4 _ _ (S3 _ _ (S2 _ _ e1))⟩⟩, rfl⟩
            · exact ⟨.inr ⟨p2, rfl, .inr (.inr ⟨_, S4 _ _ (S3 _ _ e2)⟩)⟩, rfl⟩
          obtain ⟨T0, ty, k1, _⟩ := thg_ty (K := K) hth.1
          rw [hth.2] at k1
          refine ⟨rfl, _, rfl, x, rfl, .inl ⟨T0, ty, kit_ty k1, fun T1 J5 S5 e5 => ?_⟩⟩
          refine ⟨by show 2 ≤ 1000; decide, fun T2 J6 _ S6 e6 => ⟨⟨T1, T2, _, _, rfl, rfl, SqT.of (S6 _ _ e5), SqT.of e6, prs1 _ _⟩, fun J7 S7 => ⟨_, rfl, iteF ⟨((S4.trans S5).trans S6).trans S7, S7 _ _ (S6 _ _ (S5 _ _ eD))⟩⟩⟩⟩
        · rintro J4 ⟨S4, eD⟩
          refine ⟨by show 0 ≤ 1000; decide, fun p5 J5 _ S5 e5 => ⟨⟨D, p5, [], [], rfl, rfl, S5 _ _ eD, e5, .nil⟩, fun J6 S6 => ⟨_, rfl, iteF ⟨_, _, _, _, _, _, _, _, _, _, _, _, rfl, (((X1.trans SJ3).trans S4).trans S5).trans S6⟩⟩⟩⟩
    · rintro σ J ⟨v1, v2, v3, v4, v5, v6, v7, v8, v9, v10, v11, v12, rfl, XJ⟩
      have w0 : ∀ w ∈ blk "", Wee 4 w := fun w hw => wee_lit (ends_mem.1 w hw)
      have w1 : ∀ w ∈ blk "fixed:1  fixed:1", Wee 4 w := fun w hw => wee_lit (ends_mem.2 w hw)
      refine ⟨.str "", rfl, .inr ⟨"", 4, rfl, w0, by decide, by decide +kernel, fun z => (by rw [ends_txt.1] at z; cases z), fun i1 hi1 T1 J1 S1 e1 => ?_, fun x z => (by rw [ends_txt.1] at z; cases z), fun z => (by rw [ends_txt.1] at z; cases z)⟩⟩
      rw [ends_txt.1] at hi1
      obtain rfl := Option.some.inj hi1
      refine ⟨by show 2 ≤ 1000; decide, fun T2 J2 _ S2 e2 => ⟨⟨T1, T2, _, _, rfl, rfl, SqT.of (S2 _ _ e1), SqT.of e2, prs1 _ _⟩, fun J3 S3 => ⟨_, rfl, iteT ?_⟩⟩⟩
      refine ⟨.str "fixed:1  fixed:1", rfl, .inr ⟨"fixed:1  fixed:1", 4, rfl, w1, by decide, by decide +kernel, fun z => (by rw [ends_txt.2] at z; cases z), fun i1 hi1 T3 J4 S4 e4 => ?_, fun x z => (by rw [ends_txt.2] at z; cases z), fun z => (by rw [ends_txt.2] at z; cases z)⟩⟩
      rw [ends_txt.2] at hi1
      obtain rfl := Option.some.inj hi1
      exact ⟨by show 2 ≤ 1000; decide, fun T4 J5 _ S5 e5 => ⟨⟨T3, T4, _, _, rfl, rfl, SqT.of (S5 _ _ e4), SqT.of e5, prs1 _ _⟩, fun J6 S6 => k J6⟩⟩

end
end L2.K79

set_option Elab.async false
set_option linter.all false
set_option maxRecDepth 100000
set_option maxHeartbeats 4000000
namespace L2.K79
open PySem PySem.W PySem.Spec PySem.Calls PyProof.Rows L2.Jk

theorem facts {P : Program} {w : World} {K : Frag} {h : Heap} {mg : Str → Option Value} {base : Heap} (X : K.In h) (G : h.Ns mainGlobals mg) (c : He.SaysD fa fn K) (m : ex K = true) :
    GL P w K mg base := by
  obtain ⟨mT, m⟩ := Bool.and_eq_true_iff.mp m
  obtain ⟨w1, mT⟩ := Bool.and_eq_true_iff.mp mT
  obtain ⟨w2, mT⟩ := Bool.and_eq_true_iff.mp mT
  obtain ⟨w3, mT⟩ := Bool.and_eq_true_iff.mp mT
  obtain ⟨w4, w5⟩ := Bool.and_eq_true_iff.mp mT
  obtain ⟨mN, m⟩ := Bool.and_eq_true_iff.mp m
  obtain ⟨y1, mN⟩ := Bool.and_eq_true_iff.mp mN
  obtain ⟨y2, mN⟩ := Bool.and_eq_true_iff.mp mN
  obtain ⟨y3, y4⟩ := Bool.and_eq_true_iff.mp mN
  obtain ⟨m, m1⟩ := Bool.and_eq_true_iff.mp m
  obtain ⟨m0, m7⟩ := Bool.and_eq_true_iff.mp m
  obtain ⟨z1, m0⟩ := Bool.and_eq_true_iff.mp m0
  obtain ⟨z2, m0⟩ := Bool.and_eq_true_iff.mp m0
  obtain ⟨z3, m0⟩ := Bool.and_eq_true_iff.mp m0
  obtain ⟨z4, m0⟩ := Bool.and_eq_true_iff.mp m0
  obtain ⟨z5, z6⟩ := Bool.and_eq_true_iff.mp m0
  have more7 : ∀ i, i < 7 → KC K (ca K i) ∧ (∀ T ∈ (["NoneType", "tuple", "list"] : List String), subIn K (.ref (ca K i)) (.type T) = some false) ∧ ∀ j, j < 7 → notFirst K (ca K i) (.ref (ca K j)) = true ∧ (ca K i = ca K j ↔ i = j) := fun i hi => by
    have y := List.all_eq_true.mp m7 i (List.mem_range.mpr hi)
    obtain ⟨y1, y⟩ := Bool.and_eq_true_iff.mp y
    obtain ⟨y2, y⟩ := Bool.and_eq_true_iff.mp y
    obtain ⟨y3, y4⟩ := Bool.and_eq_true_iff.mp y
    obtain ⟨x1, y1⟩ := Bool.and_eq_true_iff.mp y1
    obtain ⟨x2, y1⟩ := Bool.and_eq_true_iff.mp y1
    obtain ⟨x3, y1⟩ := Bool.and_eq_true_iff.mp y1
    obtain ⟨x4, x5⟩ := Bool.and_eq_true_iff.mp y1
    refine ⟨⟨He.eqO_ok x1, of_decide_eq_true x2, x3, eqcB_ok x4, x5⟩, fun T hT => of_decide_eq_true (List.all_eq_true.mp y2 T hT), fun j hj => ?_⟩
    obtain ⟨w1, w2⟩ := Bool.and_eq_true_iff.mp (List.all_eq_true.mp y4 j (List.mem_range.mpr hj))
    exact ⟨w1, of_decide_eq_true w2⟩
  have more : ∀ i, i < 6 → (∀ T ∈ (["NoneType", "str", "int", "bool", "tuple", "list"] : List String), kitOne K (.type T) (.ref (ca K i)) = some false) ∧ kitOne K (.ref (ca K i)) (.type "str") = some false ∧ ∀ j, j < 6 → kitOne K (.ref (ca K i)) (.ref (ca K j)) = some (decide (i = j)) := fun i hi => by
    have y := List.all_eq_true.mp m1 i (List.mem_range.mpr hi)
    obtain ⟨y1, y⟩ := Bool.and_eq_true_iff.mp y
    obtain ⟨y2, y3⟩ := Bool.and_eq_true_iff.mp y
    exact ⟨fun T hT => of_decide_eq_true (List.all_eq_true.mp y1 T hT), of_decide_eq_true y2, fun j hj => of_decide_eq_true (List.all_eq_true.mp y3 j (List.mem_range.mpr hj))⟩
  have X0 := errB_ok z1
  obtain ⟨fdbi, Fbi⟩ := c.def_ 0 (d := ⟨("BadField", some "__init__"), "__init__", "BadField.__init__", defArgs (inClass (top 3) 0), defBody (inClass (top 3) 0), defScope (inClass (top 3) 0), [], []⟩) rfl
  obtain ⟨fdbt, Fbt⟩ := c.def_ 1 (d := ⟨("BadField", some "told"), "told", "BadField.told", defArgs (inClass (top 3) 1), defBody (inClass (top 3) 1), defScope (inClass (top 3) 1), [], []⟩) rfl
  have eb : ErrAt P w K mg base "BadField" (BF K) ["what"] "refused badfield" := ⟨He.glo_ok X G (c.fact 1 (f := .glo "BadField") rfl), X0, ⟨He.eqO_ok z2, of_decide_eq_true z3⟩, ⟨fdbi, FunD.bindsN (ps := ["self", "what"]) Fbi (fun _ _ _ _ _ _ us hl => match us, hl with | [_, _], _ => rfl), ok_init1 Fbi (⟨rfl, rfl, rfl, by decide +kernel, rfl, by decide +kernel, by decide +kernel⟩ : FnScope ["self", "what"] ["self", "what"] (defScope (inClass (top 3) 0))) X0 rfl rfl (by decide +kernel) (by decide +kernel)⟩,
    ⟨fdbt, FunD.bindsN (ps := ["self"]) Fbt (fun _ _ _ _ _ _ us hl => match us, hl with | [_], _ => rfl), Fbt.kp, ok_told Fbt (⟨rfl, rfl, rfl, by decide +kernel, rfl, by decide +kernel, by decide +kernel⟩ : FnScope ["self"] ["self"] (defScope (inClass (top 3) 1)))⟩⟩
  have X1 := errB_ok y1
  obtain ⟨fdni, Fni⟩ := c.def_ 2 (d := ⟨("BadLayout", some "__init__"), "__init__", "BadLayout.__init__", defArgs (inClass (top 4) 0), defBody (inClass (top 4) 0), defScope (inClass (top 4) 0), [], []⟩) rfl
  obtain ⟨fdnt, Fnt⟩ := c.def_ 3 (d := ⟨("BadLayout", some "told"), "told", "BadLayout.told", defArgs (inClass (top 4) 1), defBody (inClass (top 4) 1), defScope (inClass (top 4) 1), [], []⟩) rfl
  have en : ErrAt P w K mg base "BadLayout" (BY K) ["what"] "refused badlayout" := ⟨He.glo_ok X G (c.fact 2 (f := .glo "BadLayout") rfl), X1, ⟨He.eqO_ok y2, of_decide_eq_true y3⟩, ⟨fdni, FunD.bindsN (ps := ["self", "what"]) Fni (fun _ _ _ _ _ _ us hl => match us, hl with | [_, _], _ => rfl), ok_init1 Fni (⟨rfl, rfl, rfl, by decide +kernel, rfl, by decide +kernel, by decide +kernel⟩ : FnScope ["self", "what"] ["self", "what"] (defScope (inClass (top 4) 0))) X1 rfl rfl (by decide +kernel) (by decide +kernel)⟩,
    ⟨fdnt, FunD.bindsN (ps := ["self"]) Fnt (fun _ _ _ _ _ _ us hl => match us, hl with | [_], _ => rfl), Fnt.kp, ok_told Fnt (⟨rfl, rfl, rfl, by decide +kernel, rfl, by decide +kernel, by decide +kernel⟩ : FnScope ["self"] ["self"] (defScope (inClass (top 4) 1)))⟩⟩
  have X2 := errB_ok w1
  obtain ⟨fdxi, Fxi⟩ := c.def_ 4 (d := ⟨("BadText", some "__init__"), "__init__", "BadText.__init__", defArgs (inClass (top 5) 0), defBody (inClass (top 5) 0), defScope (inClass (top 5) 0), [], []⟩) rfl
  obtain ⟨fdxt, Fxt⟩ := c.def_ 5 (d := ⟨("BadText", some "told"), "told", "BadText.told", defArgs (inClass (top 5) 1), defBody (inClass (top 5) 1), defScope (inClass (top 5) 1), [], []⟩) rfl
  have et : ErrAt P w K mg base "BadText" (BT K) ["place"] "refused badtext" := ⟨He.glo_ok X G (c.fact 3 (f := .glo "BadText") rfl), X2, ⟨He.eqO_ok w2, of_decide_eq_true w3⟩, ⟨fdxi, FunD.bindsN (ps := ["self", "place"]) Fxi (fun _ _ _ _ _ _ us hl => match us, hl with | [_, _], _ => rfl), ok_init1 Fxi (⟨rfl, rfl, rfl, by decide +kernel, rfl, by decide +kernel, by decide +kernel⟩ : FnScope ["self", "place"] ["self", "place"] (defScope (inClass (top 5) 0))) X2 rfl rfl (by decide +kernel) (by decide +kernel)⟩,
    ⟨fdxt, FunD.bindsN (ps := ["self"]) Fxt (fun _ _ _ _ _ _ us hl => match us, hl with | [_], _ => rfl), Fxt.kp, ok_told Fxt (⟨rfl, rfl, rfl, by decide +kernel, rfl, by decide +kernel, by decide +kernel⟩ : FnScope ["self"] ["self"] (defScope (inClass (top 5) 1)))⟩⟩
  have g0 : G0 P w K mg base := ⟨⟨He.free_ok X G (c.fact 54 (f := .free "abs") rfl), He.free_ok X G (c.fact 55 (f := .free "int") rfl), He.free_ok X G (c.fact 56 (f := .free "bool") rfl), He.free_ok X G (c.fact 57 (f := .free "isinstance") rfl), He.free_ok X G (c.fact 58 (f := .free "range") rfl), He.free_ok X G (c.fact 59 (f := .free "len") rfl), He.free_ok X G (c.fact 60 (f := .free "set") rfl), He.free_ok X G (c.fact 61 (f := .free "type") rfl), He.free_ok X G (c.fact 62 (f := .free "str") rfl), He.free_ok X G (c.fact 63 (f := .free "reversed") rfl), He.free_ok X G (c.fact 64 (f := .free "tuple") rfl), He.free_ok X G (c.fact 65 (f := .free "list") rfl), He.free_ok X G (c.fact 66 (f := .free "any") rfl), He.free_ok X G (c.fact 67 (f := .free "all") rfl)⟩, He.str_ok X G (c.fact 72 (f := .str "SIGNS" SG) rfl), He.str_ok X G (c.fact 73 (f := .str "DIGITS" DG) rfl), eb⟩
  obtain ⟨fdf1, Ff1⟩ := c.def_ 25 (d := ⟨("is_made_of", none), "is_made_of", "is_made_of", defArgs (top 11), defBody (top 11), defScope (top 11), [], []⟩) rfl
  have Af1 : FnAt P w K mg base CX0 1 "is_made_of" ["text", "signs"] _ := ⟨_, fdf1, He.glo_ok X G (c.fact 11 (f := .glo "is_made_of") rfl), Ff1.kp, ok_made_of Ff1 g0, FunD.bindsN (ps := ["text", "signs"]) Ff1 (fun _ _ _ _ _ _ us hl => match us, hl with | [_, _], _ => rfl)⟩
  obtain ⟨fdf2, Ff2⟩ := c.def_ 26 (d := ⟨("is_sign", none), "is_sign", "is_sign", defArgs (top 12), defBody (top 12), defScope (top 12), [], []⟩) rfl
  have Af2 : FnAt P w K mg base CX0 1 "is_sign" ["thing"] _ := ⟨_, fdf2, He.glo_ok X G (c.fact 12 (f := .glo "is_sign") rfl), Ff2.kp, ok_is_sign Ff2 g0, FunD.bindsN (ps := ["thing"]) Ff2 (fun _ _ _ _ _ _ us hl => match us, hl with | [_], _ => rfl)⟩
  obtain ⟨fdf3, Ff3⟩ := c.def_ 28 (d := ⟨("is_number", none), "is_number", "is_number", defArgs (top 15), defBody (top 15), defScope (top 15), [], []⟩) rfl
  have Af3 : FnAt P w K mg base CX0 1 "is_number" ["thing"] _ := ⟨_, fdf3, He.glo_ok X G (c.fact 14 (f := .glo "is_number") rfl), Ff3.kp, ok_is_number Ff3 g0, FunD.bindsN (ps := ["thing"]) Ff3 (fun _ _ _ _ _ _ us hl => match us, hl with | [_], _ => rfl)⟩
  obtain ⟨fdf4, Ff4⟩ := c.def_ 30 (d := ⟨("digits_of", none), "digits_of", "digits_of", defArgs (top 17), defBody (top 17), defScope (top 17), [], []⟩) rfl
  have Af4 : FnAt P w K mg base CX0 1 "digits_of" ["number"] _ := ⟨_, fdf4, He.glo_ok X G (c.fact 16 (f := .glo "digits_of") rfl), Ff4.kp, ok_digits_of Ff4 g0, FunD.bindsN (ps := ["number"]) Ff4 (fun _ _ _ _ _ _ us hl => match us, hl with | [_], _ => rfl)⟩
  have g1 : G1 P w K mg base := ⟨g0, Af1, Af2, Af3, Af4⟩
  obtain ⟨fdf5, Ff5⟩ := c.def_ 27 (d := ⟨("are_signs", none), "are_signs", "are_signs", defArgs (top 13), defBody (top 13), defScope (top 13), [], []⟩) rfl
  have Af5 : FnAt P w K mg base CX0 2 "are_signs" ["thing"] _ := ⟨_, fdf5, He.glo_ok X G (c.fact 13 (f := .glo "are_signs") rfl), Ff5.kp, ok_are_signs Ff5 g1, FunD.bindsN (ps := ["thing"]) Ff5 (fun _ _ _ _ _ _ us hl => match us, hl with | [_], _ => rfl)⟩
  have g2 : G2 P w K mg base := ⟨g1, Af5⟩
  obtain ⟨fdf6, Ff6⟩ := c.def_ 32 (d := ⟨("check_signs", none), "check_signs", "check_signs", defArgs (top 20), defBody (top 20), defScope (top 20), [], []⟩) rfl
  have Af6 : FnAt P w K mg base (L2.CX P w) 3 "check_signs" ["signs"] _ := ⟨_, fdf6, He.glo_ok X G (c.fact 18 (f := .glo "check_signs") rfl), Ff6.kp, ok_check_signs Ff6 g2, FunD.bindsN (ps := ["signs"]) Ff6 (fun _ _ _ _ _ _ us hl => match us, hl with | [_], _ => rfl)⟩
  obtain ⟨fdf7, Ff7⟩ := c.def_ 33 (d := ⟨("check_span", none), "check_span", "check_span", defArgs (top 21), defBody (top 21), defScope (top 21), [], []⟩) rfl
  have Af7 : FnAt P w K mg base (L2.CX P w) 3 "check_span" ["least", "most"] _ := ⟨_, fdf7, He.glo_ok X G (c.fact 19 (f := .glo "check_span") rfl), Ff7.kp, ok_check_span Ff7 g2, FunD.bindsN (ps := ["least", "most"]) Ff7 (fun _ _ _ _ _ _ us hl => match us, hl with | [_, _], _ => rfl)⟩
  obtain ⟨fdf8, Ff8⟩ := c.def_ 34 (d := ⟨("has_words_with", none), "has_words_with", "has_words_with", defArgs (top 22), defBody (top 22), defScope (top 22), [], []⟩) rfl
  have Af8 : FnAt P w K mg base CX0 1 "has_words_with" ["field", "sign"] _ := ⟨_, fdf8, He.glo_ok X G (c.fact 20 (f := .glo "has_words_with") rfl), Ff8.kp, ok_has_words Ff8 g0, FunD.bindsN (ps := ["field", "sign"]) Ff8 (fun _ _ _ _ _ _ us hl => match us, hl with | [_, _], _ => rfl)⟩
  have cWord : C0 K mg "Word" ["signs", "least", "most"] := ⟨He.glo_ok X G (c.fact 5 (f := .glo "Word") rfl), He.cls_ok (c.fact 76 (f := .cls "Word") rfl), (fun f hf => by
    rcases List.mem_cons.mp hf with rfl | hf
    · exact He.noat_ok (c.fact 78 (f := .noat "Word" "signs") rfl)
    rcases List.mem_cons.mp hf with rfl | hf
    · exact He.noat_ok (c.fact 79 (f := .noat "Word" "least") rfl)
    rcases List.mem_cons.mp hf with rfl | hf
    · exact He.noat_ok (c.fact 80 (f := .noat "Word" "most") rfl)
    cases hf)⟩
  have cNumber : C0 K mg "Number" ["least", "most"] := ⟨He.glo_ok X G (c.fact 6 (f := .glo "Number") rfl), He.cls_ok (c.fact 82 (f := .cls "Number") rfl), (fun f hf => by
    rcases List.mem_cons.mp hf with rfl | hf
    · exact He.noat_ok (c.fact 84 (f := .noat "Number" "least") rfl)
    rcases List.mem_cons.mp hf with rfl | hf
    · exact He.noat_ok (c.fact 85 (f := .noat "Number" "most") rfl)
    cases hf)⟩
  have cFixed : C0 K mg "Fixed" ["width"] := ⟨He.glo_ok X G (c.fact 7 (f := .glo "Fixed") rfl), He.cls_ok (c.fact 87 (f := .cls "Fixed") rfl), (fun f hf => by
    rcases List.mem_cons.mp hf with rfl | hf
    · exact He.noat_ok (c.fact 89 (f := .noat "Fixed" "width") rfl)
    cases hf)⟩
  have cListed : C0 K mg "Listed" ["texts"] := ⟨He.glo_ok X G (c.fact 8 (f := .glo "Listed") rfl), He.cls_ok (c.fact 91 (f := .cls "Listed") rfl), (fun f hf => by
    rcases List.mem_cons.mp hf with rfl | hf
    · exact He.noat_ok (c.fact 93 (f := .noat "Listed" "texts") rfl)
    cases hf)⟩
  have cEnded : C0 K mg "Ended" ["signs", "sign", "least", "most"] := ⟨He.glo_ok X G (c.fact 9 (f := .glo "Ended") rfl), He.cls_ok (c.fact 95 (f := .cls "Ended") rfl), (fun f hf => by
    rcases List.mem_cons.mp hf with rfl | hf
    · exact He.noat_ok (c.fact 97 (f := .noat "Ended" "signs") rfl)
    rcases List.mem_cons.mp hf with rfl | hf
    · exact He.noat_ok (c.fact 98 (f := .noat "Ended" "sign") rfl)
    rcases List.mem_cons.mp hf with rfl | hf
    · exact He.noat_ok (c.fact 99 (f := .noat "Ended" "least") rfl)
    rcases List.mem_cons.mp hf with rfl | hf
    · exact He.noat_ok (c.fact 100 (f := .noat "Ended" "most") rfl)
    cases hf)⟩
  have cMarked : C0 K mg "Marked" ["none", "mark", "field"] := ⟨He.glo_ok X G (c.fact 10 (f := .glo "Marked") rfl), He.cls_ok (c.fact 102 (f := .cls "Marked") rfl), (fun f hf => by
    rcases List.mem_cons.mp hf with rfl | hf
    · exact He.noat_ok (c.fact 104 (f := .noat "Marked" "none") rfl)
    rcases List.mem_cons.mp hf with rfl | hf
    · exact He.noat_ok (c.fact 105 (f := .noat "Marked" "mark") rfl)
    rcases List.mem_cons.mp hf with rfl | hf
    · exact He.noat_ok (c.fact 106 (f := .noat "Marked" "field") rfl)
    cases hf)⟩
  have cLayout : C0 K mg "Layout" ["fields", "joints"] := ⟨He.glo_ok X G (c.fact 4 (f := .glo "Layout") rfl), He.cls_ok (c.fact 107 (f := .cls "Layout") rfl), (fun f hf => by
    rcases List.mem_cons.mp hf with rfl | hf
    · exact He.noat_ok (c.fact 109 (f := .noat "Layout" "fields") rfl)
    rcases List.mem_cons.mp hf with rfl | hf
    · exact He.noat_ok (c.fact 110 (f := .noat "Layout" "joints") rfl)
    cases hf)⟩
  have g3 : G3 P w K mg base := ⟨g2, Af6, Af7, Af8, cWord, cNumber, cFixed, cListed, cEnded, cMarked⟩
  have mk0 : makesIn K (ca K 0) = true := (He.mkr_ok (c.fact 77 (f := .mkr "Word") rfl)).makes
  have mk1 : makesIn K (ca K 1) = true := (He.mkr_ok (c.fact 83 (f := .mkr "Number") rfl)).makes
  have mk2 : makesIn K (ca K 2) = true := (He.mkr_ok (c.fact 88 (f := .mkr "Fixed") rfl)).makes
  have mk3 : makesIn K (ca K 3) = true := (He.mkr_ok (c.fact 92 (f := .mkr "Listed") rfl)).makes
  have mk4 : makesIn K (ca K 4) = true := (He.mkr_ok (c.fact 96 (f := .mkr "Ended") rfl)).makes
  have mk5 : makesIn K (ca K 5) = true := (He.mkr_ok (c.fact 103 (f := .mkr "Marked") rfl)).makes
  have mk6 : makesIn K (ca K 6) = true := (He.mkr_ok (c.fact 108 (f := .mkr "Layout") rfl)).makes
  have mks : ∀ i, i < 7 → makesIn K (ca K i) = true := fun i hi => by
    have e : i = 0 ∨ i = 1 ∨ i = 2 ∨ i = 3 ∨ i = 4 ∨ i = 5 ∨ i = 6 := by omega
    rcases e with rfl | rfl | rfl | rfl | rfl | rfl | rfl
    · exact mk0
    · exact mk1
    · exact mk2
    · exact mk3
    · exact mk4
    · exact mk5
    · exact mk6
  have g4 : G4 P w K mg base := ⟨g3, fun i hi => (more7 i (by omega)).1, He.eqO_ok z5, of_decide_eq_true z6, fun i j hi hj => (more i hi).2.2 j hj, mks, fun i j hi hj => ((more7 i hi).2.2 j hj).2, fun j hj => (more j hj).1 _ (by decide), fun j hj => (more j hj).1 _ (by decide)⟩
  obtain ⟨fdhWord, FhWord⟩ := c.def_ 8 (d := ⟨("Word", some "has_sign"), "has_sign", "Word.has_sign", defArgs (inClass (top 23) 7), defBody (inClass (top 23) 7), defScope (inClass (top 23) 7), [], []⟩) rfl
  obtain ⟨fdeWord, FeWord⟩ := c.def_ 7 (d := ⟨("Word", some "__eq__"), "__eq__", "Word.__eq__", defArgs (inClass (top 23) 1), defBody (inClass (top 23) 1), defScope (inClass (top 23) 1), [], []⟩) rfl
  have hWord : HM P w K mg base 2 (ca K 0) "has_sign" ["self", "sign"] (spHasWord K) := ⟨He.meth_ok (c.fact 81 (f := .meth "Word" "has_sign") rfl), fdhWord, ok_Word_has FhWord g3, FunD.bindsN (ps := ["self", "sign"]) FhWord (fun _ _ _ _ _ _ us hl => match us, hl with | [_, _], _ => rfl)⟩
  have eWord : EQ P w K mg base (ca K 0) (spEqWord K) := ⟨fdeWord, ok_Word_eq FeWord g4, FunD.bindsN (ps := ["self", "other"]) FeWord (fun _ _ _ _ _ _ us hl => match us, hl with | [_, _], _ => rfl)⟩
  obtain ⟨fdhNumber, FhNumber⟩ := c.def_ 11 (d := ⟨("Number", some "has_sign"), "has_sign", "Number.has_sign", defArgs (inClass (top 24) 7), defBody (inClass (top 24) 7), defScope (inClass (top 24) 7), [], []⟩) rfl
  obtain ⟨fdeNumber, FeNumber⟩ := c.def_ 10 (d := ⟨("Number", some "__eq__"), "__eq__", "Number.__eq__", defArgs (inClass (top 24) 1), defBody (inClass (top 24) 1), defScope (inClass (top 24) 1), [], []⟩) rfl
  have hNumber : HM P w K mg base 2 (ca K 1) "has_sign" ["self", "sign"] (spHasNumber K) := ⟨He.meth_ok (c.fact 86 (f := .meth "Number" "has_sign") rfl), fdhNumber, ok_Number_has FhNumber g3, FunD.bindsN (ps := ["self", "sign"]) FhNumber (fun _ _ _ _ _ _ us hl => match us, hl with | [_, _], _ => rfl)⟩
  have eNumber : EQ P w K mg base (ca K 1) (spEqNumber K) := ⟨fdeNumber, ok_Number_eq FeNumber g4, FunD.bindsN (ps := ["self", "other"]) FeNumber (fun _ _ _ _ _ _ us hl => match us, hl with | [_, _], _ => rfl)⟩
  obtain ⟨fdhFixed, FhFixed⟩ := c.def_ 14 (d := ⟨("Fixed", some "has_sign"), "has_sign", "Fixed.has_sign", defArgs (inClass (top 25) 7), defBody (inClass (top 25) 7), defScope (inClass (top 25) 7), [], []⟩) rfl
  obtain ⟨fdeFixed, FeFixed⟩ := c.def_ 13 (d := ⟨("Fixed", some "__eq__"), "__eq__", "Fixed.__eq__", defArgs (inClass (top 25) 1), defBody (inClass (top 25) 1), defScope (inClass (top 25) 1), [], []⟩) rfl
  have hFixed : HM P w K mg base 2 (ca K 2) "has_sign" ["self", "sign"] (spHasFixed K) := ⟨He.meth_ok (c.fact 90 (f := .meth "Fixed" "has_sign") rfl), fdhFixed, ok_Fixed_has FhFixed g3, FunD.bindsN (ps := ["self", "sign"]) FhFixed (fun _ _ _ _ _ _ us hl => match us, hl with | [_, _], _ => rfl)⟩
  have eFixed : EQ P w K mg base (ca K 2) (spEqFixed K) := ⟨fdeFixed, ok_Fixed_eq FeFixed g4, FunD.bindsN (ps := ["self", "other"]) FeFixed (fun _ _ _ _ _ _ us hl => match us, hl with | [_, _], _ => rfl)⟩
  obtain ⟨fdhListed, FhListed⟩ := c.def_ 17 (d := ⟨("Listed", some "has_sign"), "has_sign", "Listed.has_sign", defArgs (inClass (top 26) 7), defBody (inClass (top 26) 7), defScope (inClass (top 26) 7), [], []⟩) rfl
  obtain ⟨fdeListed, FeListed⟩ := c.def_ 16 (d := ⟨("Listed", some "__eq__"), "__eq__", "Listed.__eq__", defArgs (inClass (top 26) 1), defBody (inClass (top 26) 1), defScope (inClass (top 26) 1), [], []⟩) rfl
  have hListed : HM P w K mg base 2 (ca K 3) "has_sign" ["self", "sign"] (spHasListed K) := ⟨He.meth_ok (c.fact 94 (f := .meth "Listed" "has_sign") rfl), fdhListed, ok_Listed_has FhListed g3, FunD.bindsN (ps := ["self", "sign"]) FhListed (fun _ _ _ _ _ _ us hl => match us, hl with | [_, _], _ => rfl)⟩
  have eListed : EQ P w K mg base (ca K 3) (spEqListed K) := ⟨fdeListed, ok_Listed_eq FeListed g4, FunD.bindsN (ps := ["self", "other"]) FeListed (fun _ _ _ _ _ _ us hl => match us, hl with | [_, _], _ => rfl)⟩
  obtain ⟨fdhEnded, FhEnded⟩ := c.def_ 20 (d := ⟨("Ended", some "has_sign"), "has_sign", "Ended.has_sign", defArgs (inClass (top 27) 7), defBody (inClass (top 27) 7), defScope (inClass (top 27) 7), [], []⟩) rfl
  obtain ⟨fdeEnded, FeEnded⟩ := c.def_ 19 (d := ⟨("Ended", some "__eq__"), "__eq__", "Ended.__eq__", defArgs (inClass (top 27) 1), defBody (inClass (top 27) 1), defScope (inClass (top 27) 1), [], []⟩) rfl
  have hEnded : HM P w K mg base 2 (ca K 4) "has_sign" ["self", "sign"] (spHasEnded K) := ⟨He.meth_ok (c.fact 101 (f := .meth "Ended" "has_sign") rfl), fdhEnded, ok_Ended_has FhEnded g3, FunD.bindsN (ps := ["self", "sign"]) FhEnded (fun _ _ _ _ _ _ us hl => match us, hl with | [_, _], _ => rfl)⟩
  have eEnded : EQ P w K mg base (ca K 4) (spEqEnded K) := ⟨fdeEnded, ok_Ended_eq FeEnded g4, FunD.bindsN (ps := ["self", "other"]) FeEnded (fun _ _ _ _ _ _ us hl => match us, hl with | [_, _], _ => rfl)⟩
  have g5 : G5 P w K mg base := ⟨g4, hWord, eWord, hNumber, eNumber, hFixed, eFixed, hListed, eListed, hEnded, eEnded⟩
  have q0 : Q0 P w K mg base := ⟨g5, en, He.str_ok X G (c.fact 74 (f := .str "LOW" "!") rfl), He.str_ok X G (c.fact 75 (f := .str "HIGH" "~") rfl), cLayout, fun T hT j hj => (more j hj).1 T hT⟩
  obtain ⟨fds1, Fs1⟩ := c.def_ 35 (d := ⟨("is_sequence", none), "is_sequence", "is_sequence", defArgs (top 30), defBody (top 30), defScope (top 30), [], []⟩) rfl
  have As1 : FnAt P w K mg base CX0 1 "is_sequence" ["thing"] _ := ⟨_, fds1, He.glo_ok X G (c.fact 21 (f := .glo "is_sequence") rfl), Fs1.kp, ok_is_sequence Fs1 q0, FunD.bindsN (ps := ["thing"]) Fs1 (fun _ _ _ _ _ _ us hl => match us, hl with | [_], _ => rfl)⟩
  have q1 : Q1 P w K mg base := ⟨q0, As1⟩
  obtain ⟨fds2, Fs2⟩ := c.def_ 36 (d := ⟨("check_fields", none), "check_fields", "check_fields", defArgs (top 31), defBody (top 31), defScope (top 31), [], []⟩) rfl
  have As2 : FnAt P w K mg base (L2.CX P w) 3 "check_fields" ["fields"] _ := ⟨_, fds2, He.glo_ok X G (c.fact 22 (f := .glo "check_fields") rfl), Fs2.kp, ok_check_fields Fs2 q1, FunD.bindsN (ps := ["fields"]) Fs2 (fun _ _ _ _ _ _ us hl => match us, hl with | [_], _ => rfl)⟩
  have q2 : Q2 P w K mg base := ⟨q1, As2⟩
  obtain ⟨fds3, Fs3⟩ := c.def_ 37 (d := ⟨("is_joint", none), "is_joint", "is_joint", defArgs (top 32), defBody (top 32), defScope (top 32), [], []⟩) rfl
  have As3 : FnAt P w K mg base CX0 1 "is_joint" ["thing"] _ := ⟨_, fds3, He.glo_ok X G (c.fact 23 (f := .glo "is_joint") rfl), Fs3.kp, ok_is_joint Fs3 q0, FunD.bindsN (ps := ["thing"]) Fs3 (fun _ _ _ _ _ _ us hl => match us, hl with | [_], _ => rfl)⟩
  have q3 : Q3 P w K mg base := ⟨q2, As3⟩
  obtain ⟨fdiLa, FiLa⟩ := c.def_ 23 (d := ⟨("Layout", some "__init__"), "__init__", "Layout.__init__", defArgs (inClass (top 33) 0), defBody (inClass (top 33) 0), defScope (inClass (top 33) 0), [], []⟩) rfl
  obtain ⟨fdeLa, FeLa⟩ := c.def_ 24 (d := ⟨("Layout", some "__eq__"), "__eq__", "Layout.__eq__", defArgs (inClass (top 33) 1), defBody (inClass (top 33) 1), defScope (inClass (top 33) 1), [], []⟩) rfl
  obtain ⟨fdeMa, FeMa⟩ := c.def_ 22 (d := ⟨("Marked", some "__eq__"), "__eq__", "Marked.__eq__", defArgs (inClass (top 28) 1), defBody (inClass (top 28) 1), defScope (inClass (top 28) 1), [], []⟩) rfl
  have q4 : Q4 P w K mg base := ⟨q3, ⟨fdeMa, ok_Marked_eq FeMa g5, FunD.bindsN (ps := ["self", "other"]) FeMa (fun _ _ _ _ _ _ us hl => match us, hl with | [_, _], _ => rfl)⟩, fun i j hi hj => ((more7 i hi).2.2 j hj).1, fun i hi => (more7 i hi).1.eq⟩
  have kLay : ClsAt P w K mg base (L2.CX P w) 4 "Layout" (LA K) ["self", "fields", "joints"] (spLay K) := ⟨cLayout.mgC, cLayout.cl, He.mkr_ok (c.fact 108 (f := .mkr "Layout") rfl), fdiLa, ok_Layout_init FiLa q3, FunD.bindsN (ps := ["self", "fields", "joints"]) FiLa (fun _ _ _ _ _ _ us hl => match us, hl with | [_, _, _], _ => rfl)⟩
  obtain ⟨fdr1, Fr1⟩ := c.def_ 47 (d := ⟨("_law_source", none), "_law_source", "_law_source", defArgs (top 45), defBody (top 45), defScope (top 45), [], []⟩) rfl
  have Ar1 : FnAt P w K mg base CX0 1 "_law_source" ["_law_cell"] _ := ⟨_, fdr1, He.glo_ok X G (c.fact 33 (f := .glo "_law_source") rfl), Fr1.kp, ok_source Fr1 g0.toBl, FunD.bindsN (ps := ["_law_cell"]) Fr1 (fun _ _ _ _ _ _ us hl => match us, hl with | [_], _ => rfl)⟩
  obtain ⟨fdr2, Fr2⟩ := c.def_ 48 (d := ⟨("_law_draw", none), "_law_draw", "_law_draw", defArgs (top 46), defBody (top 46), defScope (top 46), [], []⟩) rfl
  have Ar2 : FnAt P w K mg base CX0 1 "_law_draw" ["_law_source_here", "_law_many"] _ := ⟨_, fdr2, He.glo_ok X G (c.fact 34 (f := .glo "_law_draw") rfl), Fr2.kp, ok_draw Fr2 g0.toBl, FunD.bindsN (ps := ["_law_source_here", "_law_many"]) Fr2 (fun _ _ _ _ _ _ us hl => match us, hl with | [_, _], _ => rfl)⟩
  obtain ⟨fdn1, Fn1⟩ := c.def_ 31 (d := ⟨("number_of", none), "number_of", "number_of", defArgs (top 18), defBody (top 18), defScope (top 18), [], []⟩) rfl
  have An1 : FnAt P w K mg base CX0 1 "number_of" ["digits"] _ := ⟨_, fdn1, He.glo_ok X G (c.fact 17 (f := .glo "number_of") rfl), Fn1.kp, ok_number_of Fn1 g0, FunD.bindsN (ps := ["digits"]) Fn1 (fun _ _ _ _ _ _ us hl => match us, hl with | [_], _ => rfl)⟩
  obtain ⟨fdn2, Fn2⟩ := c.def_ 29 (d := ⟨("is_numeral", none), "is_numeral", "is_numeral", defArgs (top 16), defBody (top 16), defScope (top 16), [], []⟩) rfl
  have An2 : FnAt P w K mg base CX0 2 "is_numeral" ["text"] _ := ⟨_, fdn2, He.glo_ok X G (c.fact 15 (f := .glo "is_numeral") rfl), Fn2.kp, ok_is_numeral Fn2 g1, FunD.bindsN (ps := ["text"]) Fn2 (fun _ _ _ _ _ _ us hl => match us, hl with | [_], _ => rfl)⟩
  have nn1 : N1 P w K mg base := ⟨q4, An1, An2⟩
  obtain ⟨fdn3, Fn3⟩ := c.def_ 43 (d := ⟨("is_short_numeral", none), "is_short_numeral", "is_short_numeral", defArgs (top 40), defBody (top 40), defScope (top 40), [], []⟩) rfl
  have An3 : FnAt P w K mg base CX0 3 "is_short_numeral" ["text"] _ := ⟨_, fdn3, He.glo_ok X G (c.fact 29 (f := .glo "is_short_numeral") rfl), Fn3.kp, ok_is_short_numeral Fn3 nn1, FunD.bindsN (ps := ["text"]) Fn3 (fun _ _ _ _ _ _ us hl => match us, hl with | [_], _ => rfl)⟩
  obtain ⟨fdn4, Fn4⟩ := c.def_ 46 (d := ⟨("most_in", none), "most_in", "most_in", defArgs (top 43), defBody (top 43), defScope (top 43), [], []⟩) rfl
  have An4 : FnAt P w K mg base CX0 2 "most_in" ["text"] _ := ⟨_, fdn4, He.glo_ok X G (c.fact 32 (f := .glo "most_in") rfl), Fn4.kp, ok_most_in Fn4 nn1, FunD.bindsN (ps := ["text"]) Fn4 (fun _ _ _ _ _ _ us hl => match us, hl with | [_], _ => rfl)⟩
  obtain ⟨fdn5, Fn5⟩ := c.def_ 41 (d := ⟨("are_free", none), "are_free", "are_free", defArgs (top 38), defBody (top 38), defScope (top 38), [], []⟩) rfl
  have An5 : FnAt P w K mg base CX0 1 "are_free" ["texts"] _ := ⟨_, fdn5, He.glo_ok X G (c.fact 27 (f := .glo "are_free") rfl), Fn5.kp, ok_are_free Fn5 g5, FunD.bindsN (ps := ["texts"]) Fn5 (fun _ _ _ _ _ _ us hl => match us, hl with | [_], _ => rfl)⟩
  have nn2 : N2 P w K mg base := ⟨nn1, An3, An4, An5⟩
  obtain ⟨fdn7, Fn7⟩ := c.def_ 42 (d := ⟨("are_spans", none), "are_spans", "are_spans", defArgs (top 39), defBody (top 39), defScope (top 39), [], []⟩) rfl
  have An7 : FnAt P w K mg base CX0 4 "are_spans" ["texts"] _ := ⟨_, fdn7, He.glo_ok X G (c.fact 28 (f := .glo "are_spans") rfl), Fn7.kp, ok_are_spans Fn7 nn2, FunD.bindsN (ps := ["texts"]) Fn7 (fun _ _ _ _ _ _ us hl => match us, hl with | [_], _ => rfl)⟩
  have nn3 : N3 P w K mg base := ⟨nn2, An7⟩
  obtain ⟨fdn8, Fn8⟩ := c.def_ 39 (d := ⟨("parts_of", none), "parts_of", "parts_of", defArgs (top 36), defBody (top 36), defScope (top 36), [], []⟩) rfl
  have An8 : FnAt P w K mg base CX0 1 "parts_of" ["word"] _ := ⟨_, fdn8, He.glo_ok X G (c.fact 25 (f := .glo "parts_of") rfl), Fn8.kp, ok_parts_of Fn8 nn2, FunD.bindsN (ps := ["word"]) Fn8 (fun _ _ _ _ _ _ us hl => match us, hl with | [_], _ => rfl)⟩
  have nn4 : N4 P w K mg base := ⟨nn3, An8⟩
  obtain ⟨fdn9, Fn9⟩ := c.def_ 40 (d := ⟨("is_field_word", none), "is_field_word", "is_field_word", defArgs (top 37), defBody (top 37), defScope (top 37), [], []⟩) rfl
  have An9 : FnAt P w K mg base CX0 5 "is_field_word" ["word"] _ := ⟨_, fdn9, He.glo_ok X G (c.fact 26 (f := .glo "is_field_word") rfl), Fn9.kp, ok_is_field_word Fn9 nn4, FunD.bindsN (ps := ["word"]) Fn9 (fun _ _ _ _ _ _ us hl => match us, hl with | [_], _ => rfl)⟩
  obtain ⟨fdiWord, FiWord⟩ := c.def_ 6 (d := ⟨("Word", some "__init__"), "__init__", "Word.__init__", defArgs (inClass (top 23) 0), defBody (inClass (top 23) 0), defScope (inClass (top 23) 0), [], []⟩) rfl
  have kWord : ClsAt P w K mg base (L2.CX P w) 4 "Word" (ca K 0) ["self", "signs", "least", "most"] (spWord K) := ⟨cWord.mgC, cWord.cl, He.mkr_ok (c.fact 77 (f := .mkr "Word") rfl), fdiWord, ok_Word_init FiWord g3, FunD.bindsN (ps := ["self", "signs", "least", "most"]) FiWord (fun _ _ _ _ _ _ us hl => match us, hl with | [_, _, _, _], _ => rfl)⟩
  obtain ⟨fdiNumber, FiNumber⟩ := c.def_ 9 (d := ⟨("Number", some "__init__"), "__init__", "Number.__init__", defArgs (inClass (top 24) 0), defBody (inClass (top 24) 0), defScope (inClass (top 24) 0), [], []⟩) rfl
  have kNumber : ClsAt P w K mg base (L2.CX P w) 4 "Number" (ca K 1) ["self", "least", "most"] (spNumber K) := ⟨cNumber.mgC, cNumber.cl, He.mkr_ok (c.fact 83 (f := .mkr "Number") rfl), fdiNumber, ok_Number_init FiNumber g3, FunD.bindsN (ps := ["self", "least", "most"]) FiNumber (fun _ _ _ _ _ _ us hl => match us, hl with | [_, _, _], _ => rfl)⟩
  obtain ⟨fdiFixed, FiFixed⟩ := c.def_ 12 (d := ⟨("Fixed", some "__init__"), "__init__", "Fixed.__init__", defArgs (inClass (top 25) 0), defBody (inClass (top 25) 0), defScope (inClass (top 25) 0), [], []⟩) rfl
  have kFixed : ClsAt P w K mg base (L2.CX P w) 4 "Fixed" (ca K 2) ["self", "width"] (spFixed K) := ⟨cFixed.mgC, cFixed.cl, He.mkr_ok (c.fact 88 (f := .mkr "Fixed") rfl), fdiFixed, ok_Fixed_init FiFixed g3, FunD.bindsN (ps := ["self", "width"]) FiFixed (fun _ _ _ _ _ _ us hl => match us, hl with | [_, _], _ => rfl)⟩
  obtain ⟨fdiListed, FiListed⟩ := c.def_ 15 (d := ⟨("Listed", some "__init__"), "__init__", "Listed.__init__", defArgs (inClass (top 26) 0), defBody (inClass (top 26) 0), defScope (inClass (top 26) 0), [], []⟩) rfl
  have kListed : ClsAt P w K mg base (L2.CX P w) 4 "Listed" (ca K 3) ["self", "texts"] (spListed K) := ⟨cListed.mgC, cListed.cl, He.mkr_ok (c.fact 92 (f := .mkr "Listed") rfl), fdiListed, ok_Listed_init FiListed g3, FunD.bindsN (ps := ["self", "texts"]) FiListed (fun _ _ _ _ _ _ us hl => match us, hl with | [_, _], _ => rfl)⟩
  obtain ⟨fdiEnded, FiEnded⟩ := c.def_ 18 (d := ⟨("Ended", some "__init__"), "__init__", "Ended.__init__", defArgs (inClass (top 27) 0), defBody (inClass (top 27) 0), defScope (inClass (top 27) 0), [], []⟩) rfl
  have kEnded : ClsAt P w K mg base (L2.CX P w) 4 "Ended" (ca K 4) ["self", "signs", "sign", "least", "most"] (spEnded K) := ⟨cEnded.mgC, cEnded.cl, He.mkr_ok (c.fact 96 (f := .mkr "Ended") rfl), fdiEnded, ok_Ended_init FiEnded g3, FunD.bindsN (ps := ["self", "signs", "sign", "least", "most"]) FiEnded (fun _ _ _ _ _ _ us hl => match us, hl with | [_, _, _, _, _], _ => rfl)⟩
  obtain ⟨fdiMarked, FiMarked⟩ := c.def_ 21 (d := ⟨("Marked", some "__init__"), "__init__", "Marked.__init__", defArgs (inClass (top 28) 0), defBody (inClass (top 28) 0), defScope (inClass (top 28) 0), [], []⟩) rfl
  have kMarked : ClsAt P w K mg base (L2.CX P w) 4 "Marked" (ca K 5) ["self", "none", "mark", "field"] (spMarked K) := ⟨cMarked.mgC, cMarked.cl, He.mkr_ok (c.fact 103 (f := .mkr "Marked") rfl), fdiMarked, ok_Marked_init FiMarked g5, FunD.bindsN (ps := ["self", "none", "mark", "field"]) FiMarked (fun _ _ _ _ _ _ us hl => match us, hl with | [_, _, _, _], _ => rfl)⟩
  have nn6 : N6 P w K mg base := ⟨nn4, An9, kLay, kWord, kNumber, kFixed, kListed, kEnded, kMarked, et⟩
  obtain ⟨fdp1, Fp1⟩ := c.def_ 45 (d := ⟨("plain_field", none), "plain_field", "plain_field", defArgs (top 42), defBody (top 42), defScope (top 42), [], []⟩) rfl
  have Ap1 : FnAt P w K mg base (L2.CX P w) 6 "plain_field" ["parts"] _ := ⟨_, fdp1, He.glo_ok X G (c.fact 31 (f := .glo "plain_field") rfl), Fp1.kp, ok_plain_field Fp1 nn6, FunD.bindsN (ps := ["parts"]) Fp1 (fun _ _ _ _ _ _ us hl => match us, hl with | [_], _ => rfl)⟩
  have nn7 : N7 P w K mg base := ⟨nn6, Ap1⟩
  obtain ⟨fdp2, Fp2⟩ := c.def_ 44 (d := ⟨("field_in", none), "field_in", "field_in", defArgs (top 41), defBody (top 41), defScope (top 41), [], []⟩) rfl
  have Ap2 : FnAt P w K mg base (L2.CX P w) 7 "field_in" ["word"] _ := ⟨_, fdp2, He.glo_ok X G (c.fact 30 (f := .glo "field_in") rfl), Fp2.kp, ok_field_in Fp2 nn7, FunD.bindsN (ps := ["word"]) Fp2 (fun _ _ _ _ _ _ us hl => match us, hl with | [_], _ => rfl)⟩
  have nn8 : N8 P w K mg base := ⟨nn7, Ap2, He.free_ok X G (c.fact 71 (f := .free "enumerate") rfl)⟩
  obtain ⟨fdp3, Fp3⟩ := c.def_ 38 (d := ⟨("read_layout", none), "read_layout", "read_layout", defArgs (top 35), defBody (top 35), defScope (top 35), [], []⟩) rfl
  have Ap3 : FnAt P w K mg base (L2.CX P w) 8 "read_layout" ["text"] _ := ⟨_, fdp3, He.glo_ok X G (c.fact 24 (f := .glo "read_layout") rfl), Fp3.kp, ok_read_layout Fp3 nn8, FunD.bindsN (ps := ["text"]) Fp3 (fun _ _ _ _ _ _ us hl => match us, hl with | [_], _ => rfl)⟩
  have gr0 : GR0 P w K mg base := ⟨nn8, Ar2⟩
  obtain ⟨fdr3, Fr3⟩ := c.def_ 49 (d := ⟨("_law_pick", none), "_law_pick", "_law_pick", defArgs (top 47), defBody (top 47), defScope (top 47), [], []⟩) rfl
  have Ar3 : FnAt P w K mg base CX0 2 "_law_pick" ["_law_source_here", "_law_items"] _ := ⟨_, fdr3, He.glo_ok X G (c.fact 35 (f := .glo "_law_pick") rfl), Fr3.kp, ok_law_pick Fr3 gr0, FunD.bindsN (ps := ["_law_source_here", "_law_items"]) Fr3 (fun _ _ _ _ _ _ us hl => match us, hl with | [_, _], _ => rfl)⟩
  have g6 : G6 P w K mg base := ⟨gr0, Ar3⟩
  obtain ⟨fdmd, Fmd⟩ := c.def_ 50 (d := ⟨("_law_made", none), "_law_made", "_law_made", defArgs (top 48), defBody (top 48), defScope (top 48), [], []⟩) rfl
  have gmd := He.glo_ok X G (c.fact 36 (f := .glo "_law_made") rfl)
  have bmd := FunD.bindsN (ps := ["_law_spec"]) Fmd (fun _ _ _ _ _ _ us hl => match us, hl with | [_], _ => rfl)
  have md0 : FnAt P w K mg base CX0 (0 + 5) "_law_made" ["_law_spec"] (spMd K 0) := ⟨_, fdmd, gmd, Fmd.kp, fn_never.imp fun vs H Q E h => (by obtain ⟨_, _, d, _, _, _, hd, _⟩ := h; exact absurd hd (Nat.not_lt_zero _)), bmd⟩
  have stepmd : ∀ n, FnAt P w K mg base CX0 (n + 5) "_law_made" ["_law_spec"] (spMd K n) → FnAt P w K mg base CX0 ((n + 1) + 5) "_law_made" ["_law_spec"] (spMd K (n + 1)) := fun n A => ⟨_, fdmd, gmd, Fmd.kp, (ok_law_made Fmd g6 A).mono (by omega), bmd⟩
  have md2 := stepmd 1 (stepmd 0 md0)
  obtain ⟨fdt3, Ft3⟩ := c.def_ 51 (d := ⟨("_law_shuffled", none), "_law_shuffled", "_law_shuffled", defArgs (top 49), defBody (top 49), defScope (top 49), [], []⟩) rfl
  have At3 : FnAt P w K mg base CX0 2 "_law_shuffled" ["_law_source_here", "_law_items"] _ := ⟨_, fdt3, He.glo_ok X G (c.fact 37 (f := .glo "_law_shuffled") rfl), Ft3.kp, ok_law_shuffled Ft3 g6, FunD.bindsN (ps := ["_law_source_here", "_law_items"]) Ft3 (fun _ _ _ _ _ _ us hl => match us, hl with | [_, _], _ => rfl)⟩
  have gm : GM P w K mg base := ⟨g6, At3⟩
  obtain ⟨fdfa, Ffa⟩ := c.def_ 52 (d := ⟨("_law_far", none), "_law_far", "_law_far", defArgs (top 50), defBody (top 50), defScope (top 50), [], []⟩) rfl
  have gfa := He.glo_ok X G (c.fact 38 (f := .glo "_law_far") rfl)
  have bfa := FunD.bindsN (ps := ["_law_source_here", "_law_is_inner"]) Ffa (fun _ _ _ _ _ _ us hl => match us, hl with | [_, _], _ => rfl)
  have fa0 : FnAt P w K mg base CX0 (0 + 2) "_law_far" ["_law_source_here", "_law_is_inner"] (spFar 0) := ⟨_, fdfa, gfa, Ffa.kp, fn_never.imp fun vs H Q E h => (by obtain ⟨_, b, _, _, hd, _⟩ := h; cases b <;> exact absurd hd (by decide)), bfa⟩
  have stepfa : ∀ n, FnAt P w K mg base CX0 (n + 2) "_law_far" ["_law_source_here", "_law_is_inner"] (spFar n) → FnAt P w K mg base CX0 ((n + 1) + 2) "_law_far" ["_law_source_here", "_law_is_inner"] (spFar (n + 1)) := fun n A => ⟨_, fdfa, gfa, Ffa.kp, (ok_law_far Ffa gm A).mono (by omega), bfa⟩
  have fa2 := stepfa 1 (stepfa 0 fa0)
  have gn : GN P w K mg base := ⟨gm, fa2⟩
  obtain ⟨fdlw, Flw⟩ := c.def_ 54 (d := ⟨("_law_word", none), "_law_word", "_law_word", defArgs (top 52), defBody (top 52), defScope (top 52), [], []⟩) rfl
  have glw := He.glo_ok X G (c.fact 40 (f := .glo "_law_word") rfl)
  have blw := FunD.bindsN (ps := ["_law_spec"]) Flw (fun _ _ _ _ _ _ us hl => match us, hl with | [_], _ => rfl)
  have lw0 : FnAt P w K mg base CX0 0 "_law_word" ["_law_spec"] (spLwd 0) := ⟨_, fdlw, glw, Flw.kp, fn_never.imp fun vs H Q E h => (by obtain ⟨_, _, d, _, _, _, hd, _⟩ := h; exact absurd hd (Nat.not_lt_zero _)), blw⟩
  have steplw : ∀ n, FnAt P w K mg base CX0 n "_law_word" ["_law_spec"] (spLwd n) → FnAt P w K mg base CX0 (n + 1) "_law_word" ["_law_spec"] (spLwd (n + 1)) := fun n A => ⟨_, fdlw, glw, Flw.kp, (ok_law_word Flw gn A).mono (by omega), blw⟩
  have lw2 := steplw 1 (steplw 0 lw0)
  have go : GO P w K mg base := ⟨gn, He.free_ok X G (c.fact 70 (f := .free "zip") rfl), lw2⟩
  obtain ⟨fdt5, Ft5⟩ := c.def_ 53 (d := ⟨("_law_far_layout", none), "_law_far_layout", "_law_far_layout", defArgs (top 51), defBody (top 51), defScope (top 51), [], []⟩) rfl
  have At5 : FnAt P w K mg base CX0 5 "_law_far_layout" ["_law_source_here", "_law_most"] _ := ⟨_, fdt5, He.glo_ok X G (c.fact 39 (f := .glo "_law_far_layout") rfl), Ft5.kp, ok_law_far_layout Ft5 gn, FunD.bindsN (ps := ["_law_source_here", "_law_most"]) Ft5 (fun _ _ _ _ _ _ us hl => match us, hl with | [_, _], _ => rfl)⟩
  obtain ⟨fdt6, Ft6⟩ := c.def_ 55 (d := ⟨("_law_layout_text", none), "_law_layout_text", "_law_layout_text", defArgs (top 53), defBody (top 53), defScope (top 53), [], []⟩) rfl
  have At6 : FnAt P w K mg base CX0 3 "_law_layout_text" ["_law_specs", "_law_joints"] _ := ⟨_, fdt6, He.glo_ok X G (c.fact 41 (f := .glo "_law_layout_text") rfl), Ft6.kp, ok_law_layout_text Ft6 go, FunD.bindsN (ps := ["_law_specs", "_law_joints"]) Ft6 (fun _ _ _ _ _ _ us hl => match us, hl with | [_, _], _ => rfl)⟩
  obtain ⟨fdl1, Fl1⟩ := c.def_ 56 (d := ⟨("_law_is_number", none), "_law_is_number", "_law_is_number", defArgs (top 54), defBody (top 54), defScope (top 54), [], []⟩) rfl
  have Al1 : FnAt P w K mg base CX0 2 "_law_is_number" ["_law_text"] _ := ⟨_, fdl1, He.glo_ok X G (c.fact 42 (f := .glo "_law_is_number") rfl), Fl1.kp, ok_law_is_number Fl1 go, FunD.bindsN (ps := ["_law_text"]) Fl1 (fun _ _ _ _ _ _ us hl => match us, hl with | [_], _ => rfl)⟩
  obtain ⟨fdl2, Fl2⟩ := c.def_ 59 (d := ⟨("_law_is_string", none), "_law_is_string", "_law_is_string", defArgs (top 57), defBody (top 57), defScope (top 57), [], []⟩) rfl
  have Al2 : FnAt P w K mg base CX0 1 "_law_is_string" ["_law_text"] _ := ⟨_, fdl2, He.glo_ok X G (c.fact 45 (f := .glo "_law_is_string") rfl), Fl2.kp, ok_law_is_string Fl2 go, FunD.bindsN (ps := ["_law_text"]) Fl2 (fun _ _ _ _ _ _ us hl => match us, hl with | [_], _ => rfl)⟩
  obtain ⟨fdl3, Fl3⟩ := c.def_ 60 (d := ⟨("_law_signs_in", none), "_law_signs_in", "_law_signs_in", defArgs (top 58), defBody (top 58), defScope (top 58), [], []⟩) rfl
  have Al3 : FnAt P w K mg base CX0 1 "_law_signs_in" ["_law_spec"] _ := ⟨_, fdl3, He.glo_ok X G (c.fact 46 (f := .glo "_law_signs_in") rfl), Fl3.kp, ok_law_signs_in Fl3 go, FunD.bindsN (ps := ["_law_spec"]) Fl3 (fun _ _ _ _ _ _ us hl => match us, hl with | [_], _ => rfl)⟩
  have gis : Gis P w K mg base := ⟨go, Al1⟩
  obtain ⟨fdl4, Fl4⟩ := c.def_ 57 (d := ⟨("_law_bounds", none), "_law_bounds", "_law_bounds", defArgs (top 55), defBody (top 55), defScope (top 55), [], []⟩) rfl
  have Al4 : FnAt P w K mg base CX0 3 "_law_bounds" ["_law_least", "_law_most"] _ := ⟨_, fdl4, He.glo_ok X G (c.fact 43 (f := .glo "_law_bounds") rfl), Fl4.kp, ok_law_bounds Fl4 gis, FunD.bindsN (ps := ["_law_least", "_law_most"]) Fl4 (fun _ _ _ _ _ _ us hl => match us, hl with | [_, _], _ => rfl)⟩
  have jso : Gso P w K mg base := ⟨gis, Al4⟩
  have jrf : Grf P w K mg base := ⟨jso, Al2, Al3⟩
  have jbd : Gbd P w K mg base := ⟨jrf, He.free_ok X G (c.fact 69 (f := .free "max") rfl)⟩
  obtain ⟨fdso, Fso⟩ := c.def_ 58 (d := ⟨("_law_spec_of", none), "_law_spec_of", "_law_spec_of", defArgs (top 56), defBody (top 56), defScope (top 56), [], []⟩) rfl
  have gso := He.glo_ok X G (c.fact 44 (f := .glo "_law_spec_of") rfl)
  have bso := FunD.bindsN (ps := ["_law_word_here"]) Fso (fun _ _ _ _ _ _ us hl => match us, hl with | [_], _ => rfl)
  have so0 : FnAt P w K mg base CX0 (0 + 4) "_law_spec_of" ["_law_word_here"] (spSo 0) := ⟨_, fdso, gso, Fso.kp, fn_never.imp fun vs H Q E h => (by obtain ⟨_, _, _, _, _, hd, _⟩ := h; exact absurd hd (Nat.not_lt_zero _)), bso⟩
  have stepso : ∀ n, FnAt P w K mg base CX0 (n + 4) "_law_spec_of" ["_law_word_here"] (spSo n) → FnAt P w K mg base CX0 ((n + 1) + 4) "_law_spec_of" ["_law_word_here"] (spSo (n + 1)) := fun n A => ⟨_, fdso, gso, Fso.kp, (ok_law_spec_of Fso A jso).mono (by omega), bso⟩
  have so30 : FnAt P w K mg base CX0 (30 + 4) "_law_spec_of" ["_law_word_here"] (spSo 30) := Nat.rec (motive := fun n => FnAt P w K mg base CX0 (n + 4) "_law_spec_of" ["_law_word_here"] (spSo n)) so0 stepso 30
  obtain ⟨fdrf, Frf⟩ := c.def_ 61 (d := ⟨("_law_refusal", none), "_law_refusal", "_law_refusal", defArgs (top 59), defBody (top 59), defScope (top 59), [], []⟩) rfl
  have grf := He.glo_ok X G (c.fact 47 (f := .glo "_law_refusal") rfl)
  have brf := FunD.bindsN (ps := ["_law_spec"]) Frf (fun _ _ _ _ _ _ us hl => match us, hl with | [_], _ => rfl)
  have rf0 : FnAt P w K mg base CX0 (0 + 1) "_law_refusal" ["_law_spec"] (spRf 0) := ⟨_, fdrf, grf, Frf.kp, fn_never.imp fun vs H Q E h => (by obtain ⟨_, _, _, _, _, _, _, _, _, hd, _⟩ := h; exact absurd hd (Nat.not_lt_zero _)), brf⟩
  have steprf : ∀ n, FnAt P w K mg base CX0 (n + 1) "_law_refusal" ["_law_spec"] (spRf n) → FnAt P w K mg base CX0 ((n + 1) + 1) "_law_refusal" ["_law_spec"] (spRf (n + 1)) := fun n A => ⟨_, fdrf, grf, Frf.kp, (ok_law_refusal Frf A jrf).mono (by omega), brf⟩
  have rf30 : FnAt P w K mg base CX0 (30 + 1) "_law_refusal" ["_law_spec"] (spRf 30) := Nat.rec (motive := fun n => FnAt P w K mg base CX0 (n + 1) "_law_refusal" ["_law_spec"] (spRf n)) rf0 steprf 30
  obtain ⟨fdbd, Fbd⟩ := c.def_ 62 (d := ⟨("_law_is_bounded", none), "_law_is_bounded", "_law_is_bounded", defArgs (top 60), defBody (top 60), defScope (top 60), [], []⟩) rfl
  have gbd := He.glo_ok X G (c.fact 48 (f := .glo "_law_is_bounded") rfl)
  have bbd := FunD.bindsN (ps := ["_law_spec"]) Fbd (fun _ _ _ _ _ _ us hl => match us, hl with | [_], _ => rfl)
  have bd0 : FnAt P w K mg base CX0 0 "_law_is_bounded" ["_law_spec"] (spBn 0) := ⟨_, fdbd, gbd, Fbd.kp, fn_never.imp fun vs H Q E h => (by obtain ⟨_, _, _, _, _, _, _, hd, _⟩ := h; exact absurd hd (Nat.not_lt_zero _)), bbd⟩
  have stepbd : ∀ n, FnAt P w K mg base CX0 n "_law_is_bounded" ["_law_spec"] (spBn n) → FnAt P w K mg base CX0 (n + 1) "_law_is_bounded" ["_law_spec"] (spBn (n + 1)) := fun n A => ⟨_, fdbd, gbd, Fbd.kp, (ok_law_is_bounded Fbd A jbd).mono (by omega), bbd⟩
  have bd30 : FnAt P w K mg base CX0 30 "_law_is_bounded" ["_law_spec"] (spBn 30) := Nat.rec (motive := fun n => FnAt P w K mg base CX0 n "_law_is_bounded" ["_law_spec"] (spBn n)) bd0 stepbd 30
  have gdu : Gdu P w K mg base := ⟨jbd, so30, rf30, md2⟩
  obtain ⟨fdl5, Fl5⟩ := c.def_ 63 (d := ⟨("_law_due", none), "_law_due", "_law_due", defArgs (top 61), defBody (top 61), defScope (top 61), [], []⟩) rfl
  have Al5 : FnAt P w K mg base CX0 41 "_law_due" ["_law_text"] _ := ⟨_, fdl5, He.glo_ok X G (c.fact 49 (f := .glo "_law_due") rfl), Fl5.kp, ok_law_due Fl5 gdu, FunD.bindsN (ps := ["_law_text"]) Fl5 (fun _ _ _ _ _ _ us hl => match us, hl with | [_], _ => rfl)⟩
  have gsd : Gsd P w K mg base := ⟨gdu, Ap3, of_decide_eq_true w4, of_decide_eq_true z4, of_decide_eq_true w5, He.glo_ok X G (c.fact 0 (f := .glo "JointError") rfl)⟩
  obtain ⟨fdl6, Fl6⟩ := c.def_ 64 (d := ⟨("_law_said", none), "_law_said", "_law_said", defArgs (top 62), defBody (top 62), defScope (top 62), [], []⟩) rfl
  have Al6 : FnAt P w K mg base CX0 9 "_law_said" ["_law_text"] _ := ⟨_, fdl6, He.glo_ok X G (c.fact 50 (f := .glo "_law_said") rfl), Fl6.kp, ok_law_said Fl6 gsd, FunD.bindsN (ps := ["_law_text"]) Fl6 (fun _ _ _ _ _ _ us hl => match us, hl with | [_], _ => rfl)⟩
  obtain ⟨fdl7, Fl7⟩ := c.def_ 65 (d := ⟨("_law_bent_word", none), "_law_bent_word", "_law_bent_word", defArgs (top 63), defBody (top 63), defScope (top 63), [], []⟩) rfl
  have Al7 : FnAt P w K mg base CX0 3 "_law_bent_word" ["_law_source_here", "_law_word_here"] _ := ⟨_, fdl7, He.glo_ok X G (c.fact 51 (f := .glo "_law_bent_word") rfl), Fl7.kp, ok_law_bent_word Fl7 gsd, FunD.bindsN (ps := ["_law_source_here", "_law_word_here"]) Fl7 (fun _ _ _ _ _ _ us hl => match us, hl with | [_, _], _ => rfl)⟩
  have gbt : Gbt P w K mg base := ⟨gsd, Al7⟩
  obtain ⟨fdl8, Fl8⟩ := c.def_ 66 (d := ⟨("_law_bent", none), "_law_bent", "_law_bent", defArgs (top 64), defBody (top 64), defScope (top 64), [], []⟩) rfl
  have Al8 : FnAt P w K mg base CX0 4 "_law_bent" ["_law_source_here", "_law_text"] _ := ⟨_, fdl8, He.glo_ok X G (c.fact 52 (f := .glo "_law_bent") rfl), Fl8.kp, ok_law_bent Fl8 gbt, FunD.bindsN (ps := ["_law_source_here", "_law_text"]) Fl8 (fun _ _ _ _ _ _ us hl => match us, hl with | [_, _], _ => rfl)⟩
  exact ⟨gbt, Ar1, At5, At6, Al8, bd30, Al5, Al6, ⟨fdeLa, ok_Layout_eq FeLa q4, FunD.bindsN (ps := ["self", "other"]) FeLa (fun _ _ _ _ _ _ us hl => match us, hl with | [_, _], _ => rfl)⟩, (more7 6 (by decide)).1, He.free_ok X G (c.fact 68 (f := .free "min") rfl)⟩

end L2.K79
open PySem PySem.W PySem.Calls PyProof.Rows
set_option maxRecDepth 100000 in
set_option maxHeartbeats 0 in
theorem PySem.Challenge.cw_jointkeys_k79_texts_that_are_no_layouts_holds : PySem.Challenge.rw_jointkeys_k79_texts_that_are_no_layouts.Holds := by
  w_on; o_law
  refine HandSHeadRun.head_any (r := OpenLaw.row PySem.Challenge.rw_jointkeys_k79_texts_that_are_no_layouts) (q := view (OpenLaw.row PySem.Challenge.rw_jointkeys_k79_texts_that_are_no_layouts).prog [65]) (H := L2.K79.hk) (ob := L2.K79.ob) (M := 8000) (loose := L2.K79.names) (d := HandSHeadRun.topDef (OpenLaw.row PySem.Challenge.rw_jointkeys_k79_texts_that_are_no_layouts).prog 65) (kwd := []) L2.K79.ob_eq
    (by kernel_rfl) (fun s => by kernel_rfl) L2.K79.run (by kernel_rfl) (by kernel_rfl) (by kernel_rfl) (by rfl) (by first | assumption | decide +kernel) (by decide +kernel) ⟨rfl, rfl, rfl, rfl, rfl, by decide +kernel⟩ ?hw ?hc
  case hw => w_witness2
  case hc =>
    refine L2.walk_ofE (l := PySem.Challenge.rw_jointkeys_k79_texts_that_are_no_layouts) (n := 63) (k := 42) (x := "_law_script") (CX := L2.CX0) rfl (by decide) (by kernel_rfl) ⟨rfl, by decide, by decide⟩ ?F (fun _ _ _ _ z => z)
    intro w mg fa h Y G hmg0
    obtain ⟨K, KX, c⟩ := Y
    have hmg : mg ("law" : PySem.Str) = some (.ref fa) := by
      have e : (HandSHeadRun.topDef (OpenLaw.row PySem.Challenge.rw_jointkeys_k79_texts_that_are_no_layouts).prog 65).name = ("law" : PySem.Str) := by kernel_rfl
      rw [← e]
      exact hmg0
    obtain ⟨fd, F⟩ := c.1.d.def_ 67 (d := ⟨("law", none), "law", "law", L2.defArgs L2.K79.s_law, L2.defBody L2.K79.s_law, L2.defScope L2.K79.s_law, [], []⟩) rfl
    have e := hmg.symm.trans (He.glo_ok KX G (c.1.d.fact 53 (f := .glo "law") rfl))
    cases e
    have b := L2.FunD.bindsA (ps := ["_law_script"]) F fun _ _ _ _ _ _ us hl => match us, hl with | [_], _ => rfl
    exact ⟨K, fd, L2.K79.spLaw K, KX, fun s v => b s [v] rfl, fun H a ns hl _ hS => ⟨a, ns, rfl, hS, hl, fun _ => rfl⟩, fun base XB _ => L2.K79.ok_law F (L2.K79.facts KX G c.1.d c.2)⟩
#print axioms PySem.Challenge.cw_jointkeys_k79_texts_that_are_no_layouts_holds
