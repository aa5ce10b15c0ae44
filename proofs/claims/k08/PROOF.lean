import PyProof.Rows.All
import Wide.All
import OpenK.AllK
import Wide.FinOn
import HandS.ForMost
import HandS.ForExc
import HandS.ExcInit
import HandS.ExcIs
import HandS.ExcField
import HandS.IsInst
import KE.KStateDown
import HandS.Defaults
import HandS.Head0
import HandS.Head1
import HandS.Head2
import HandS.Head3
import HandS.Head4
import HandS.HeadEnd
import HandS.HeadHook1
import HandS.HeadHook2
import HandS.HeadHook3
import HandS.HeadHook4
import HandS.Walk
import HandS.OwnEq
import PyProof.InstNe
import HandS.HeadWalk
import HandS.Text
import KE.KIntText
import PyProof.Rows.Digits
import KE.IntTextLaws
import PyProof.WalksS
import PyProof.StrWalks
import PyProof.EnumMake
import PyProof.Rows.SetFrom
import PyProof.SetKind
import HandS.Strs
import HandS.Rev
import HandS.Zip
import PyProof.JoinWalk
import PyProof.ListStr
import HandS.ExcOwn
import HandS.WordsExc
import HandS.StrMore
import PyProof.StrOps2
import KE.SortKeyHeap
import HandS.Lambda
import HandS.SortKw
import HandS.ExcValue
import HandS.Codes
import HandS.Sort
import PyProof.ListRange
import KE.DatumOrd
import HandS.TupAny
import HandS.MakeKwOnly
import PySem.Challenge.RW_jointkeys_k08_arguments_by_their_names
set_option Elab.async false
set_option linter.all false
set_option maxRecDepth 100000
set_option maxHeartbeats 4000000
/-! Own exceptions as plain values: made, their fields read, their methods called, isinstance asked of them. -/
namespace L2.Jk
open PySem PySem.W PySem.Spec PySem.Calls PyProof.Rows

/-- what an own error class says of itself, for its instances as values -/
structure ErrC (K : Frag) (C : Addr) : Prop where
  ox : OexC K C
  xf : XfC K C
  kk : findIn K (.ref C) "__class__" = some (some (.builtin "object.__class__"))
  kn : specialIn K (.builtin "object.__class__") "__get__" = some (some (.builtin "getset_descriptor.__get__"))
  kt : takesIn K (.builtin "object.__class__") = some true
  km : mroIn K C (.type "object") = some true

section
variable {prog : Program} {w : World} {A : Around} {E : Value → Shared → Prop} {s : Shared} {K : Frag} {e C f : Addr} {oe od : Obj}

/-- e.__class__ of an error with a dict of its own -/
theorem err_class {Q : Option Value → Shared → Prop} (T : ErrC K C) (X : K.In s.heap) (I : InstAt s.heap e oe C (some od)) (h : Q (some (.ref C)) { s with toks := s.toks + 1 }) :
    wpAny (model prog w) A (getAttr? (.ref e) "__class__") Q E s := by
  obtain ⟨cd, hcd, _⟩ := any_some T.xf.hdC
  have look := findObj_data (od := od) (show (clsIn K C).isSome = true by rw [hcd]; rfl) T.kk T.kn T.kt
  obtain ⟨hp, gn, dr, tk, os⟩ := s
  have lt := I.type (M := model prog w)
  have lg := looks_findIn (M := model prog w) X T.xf.ga
  have lh := looks_findIn (M := model prog w) X T.xf.gg
  have lf := looks_find (M := model prog w) X I look
  have inB : Looks (model prog w) hp (isInstance (.ref e) (.type "BaseException")) true := lt.andThen (looks_subIn X T.xf.exC)
  have n2 : (Value.builtin "BaseException.__getattribute__" == Value.builtin "object.__getattribute__") = false := by decide +kernel
  have n1 : (onTheHeap (Value.ref C) && Value.builtin "BaseException.__getattribute__" == Value.builtin "object.__getattribute__") = false := by rw [n2] <;> rfl
  unfold getAttr? getAttrBy? getAttrBy
  refine wpAny_bind (wpAny_mkText (wpAny_bind (wpAny_attempt (wpAny_holding (wpAny_bind (lt.at (wpAny_bind (lg.at ?_))))))))
  show wpAny _ _ (if (onTheHeap (Value.ref C) && Value.builtin "BaseException.__getattribute__" == Value.builtin "object.__getattribute__") = true then _ else _) _ _ _
  rw [n1, if_neg Bool.false_ne_true]
  unfold getAttrByItsOwn hookBefore
  refine wpAny_bind ?_
  rw [if_pos (show onTheHeap (Value.ref C) = true from rfl)]
  refine lh.at (wpAny_bind (wpAny_attempt (wpAny_holding ?_)))
  unfold callGetattribute
  rw [show (false && onTheHeap (Value.builtin "BaseException.__getattribute__")) = false from rfl, if_neg Bool.false_ne_true]
  unfold boundAndCalled
  rw [PySem.F.excAttr_ValueError.ga.bind (.ref e)]
  refine wpAny_bind (wpAny_pure ?_)
  show wpAny _ _ (call (.builtin "BaseException.__getattribute__") [.ref e, .str "__class__" tk]) _ _ _
  refine wpAny_call (codeAny_call_builtin PySem.F.excAttr_ValueError.ga.plain PySem.F.entry_bexc_ga ?_)
  refine @check_slot (model prog w) _ _ ⟨hp, gn, dr, tk + 1, os⟩ "BaseException.__getattribute__" "BaseException" "__getattribute__" (.ref e) [.str "__class__" tk] [] _
    (by decide +kernel) (by decide +kernel) inB (PySem.F.args_bexc_ga (.ref e) (.str "__class__" tk)) ?_
  unfold Builtin.«object.__getattribute__»
  refine wpAny_bind (wpAny_of_eq (a := ((Value.ref e : Value), [Value.str "__class__" tk])) (by first | rfl | (simp only [slotArgs]; rfl)) ?_)
  refine wpAny_bind (wpAny_pure (wpAny_bind (lt.at (wpAny_bind (lf.at ?_)))))
  show wpAny _ _ (holding [Value.builtin "object.__class__"] (call (.builtin "getset_descriptor.__get__") [.builtin "object.__class__", .ref e, .ref C]) >>= ret) _ _ _
  refine wpAny_bind (wpAny_holding (wpAny_call (class_get (s := ⟨hp, gn, dr, tk + 1, os⟩) (ox := oe) (od := some od) X I T.km ?_)))
  refine wpAny_pure ?_
  show wpAny _ _ (handedOut (.ref C)) _ _ _
  rw [handedOut_of (v := .ref C) rfl]
  first
    | exact wpAny_pure (wpAny_pure h)
    | exact wpAny_pure h
    | exact wpAny_pure (wpAny_bind (wpAny_pure (wpAny_pure h)))
/-- isinstance may be asked of it -/
theorem err_kit (T : ErrC K C) : KitX K (.ref e) (.ref C) (fun h => ∃ o d, InstAt h e o C (some d)) where
  ty := fun _ _ _ ⟨_, _, I⟩ => I.type
  it := fun _ _ X _ => by
    obtain ⟨cd, hc, _⟩ := any_some T.xf.hdC
    unfold clsIn at hc
    split at hc
    · rename_i ho
      intro _ _ _ _ k q
      unfold isType loadHead
      exact wpAny_bind (wpAny_loadPart (k _ _ (X _ _ ho)) (wpAny_pure q))
    · cases hc
  ne := fun h tp dd its n sl X htp => by
    obtain ⟨cd, hc, _⟩ := any_some T.xf.hdC
    refine Bool.eq_false_iff.mpr fun q => ?_
    have z : C = tp := Value.ref.inj (beq_iff_eq.mp q)
    subst z
    unfold clsIn at hc
    split at hc
    · rename_i ho
      have y := (X _ _ ho).symm.trans htp
      cases y
    · cases hc
  ca := fun X ⟨_, _, I⟩ k => err_class T X I k

/-- the method of an error, found in its class -/
theorem err_meth {name : Str} {pl : Sem Bool} {Q : Value × List Value → Shared → Prop} (T : ErrC K C) (X : K.In s.heap) (I : InstAt s.heap e oe C (some od))
    (hf : findIn K (.ref C) name = some (some (.ref f))) (ht : isFn K (.ref f) = true) (hs : shadowIn (some od) name = some false) (h : Q (.ref f, [.ref e]) s) :
    wpAny (model prog w) A (getMethod (.ref e) name pl) Q E s := by
  have cn : Manifest.canonical "BaseException.__getattribute__" = "object.__getattribute__" := by first | kernel_rfl | decide +kernel
  obtain ⟨r, ra, rb⟩ := Option.map_eq_some_iff.mp hs
  have dd := I.dict
  unfold getMethod specialOf
  refine wpAny_bind (wpAny_bind (I.type.here ((looks_findIn X T.xf.ga).here ?_)))
  dsimp only
  rw [cn, if_neg (by decide)]
  refine wpAny_bind (wpAny_bind (I.type.here ((looks_findIn X T.xf.gg).here ?_)))
  refine wpAny_bind (wpAny_bind (I.type.here ((looks_findIn X hf).here (wpAny_bind ((looks_typeIn X (beq_iff_eq.mp ht)).here ?_)))))
  rw [if_neg (by decide +kernel)]
  refine wpAny_bind (wpAny_loadPart I.at_ ?_)
  cases q : oe.dict with
  | none => exact wpAny_bind (wpAny_rule (wpAny_pure h))
  | some dx =>
    rw [q] at dd
    refine wpAny_bind (wpAny_bind (wpAny_loadPart dd ?_))
    rw [nsLook_of ra]
    refine wpAny_pure ?_
    rw [rb]
    exact wpAny_bind (wpAny_rule (wpAny_pure h))
end

section
variable {X : Cx} {pins : List (Addr × Obj)} {σ : St} {H : Hp} {s : Shared} {C a d : Addr} {fs : List (Str × V)}
/-- an error as the heap holds it -/
theorem err_at (I : Inv X pins σ H s) (ha : H a = some (exo a C (some d))) (hd : H d = some (exd d fs)) :
    ∃ o od mA, InstAt s.heap a o C (some od) ∧ s.heap.Ns1 d mA ∧ (∀ f, RelO (fs.lookup f) (mA f)) ∧ s.heap.get? d = some od ∧ ∀ f, lookIn f od = some (mA f) := by
  obtain ⟨t1, ho⟩ := exo_at I.hok ha
  obtain ⟨mA, hn, r⟩ := exd_at I.hok hd
  obtain ⟨od, hod, hl⟩ := lookIn_ns hn
  exact ⟨_, od, mA, ⟨ho, rfl, rfl, hod⟩, hn, r, hod, hl⟩
/-- e.f of an error -/
def tEf (K : Frag) (f : Str) (te : TE) : TE := fun σ H Q => te σ H fun x H1 => ∃ (a C d : Addr) (fs : List (Str × V)) (v : V), x = .ref a ∧ ErrC K C ∧ findIn K (.ref C) f = some none ∧
  H1 a = some (exo a C (some d)) ∧ H1 d = some (exd d fs) ∧ fs.lookup f = some v ∧ Q v H1
theorem pe_ef {e : Expr} {te : TE} {pos : Pos} {n : Str} (he : PE X e te) (hb : attributeBase e n X.env (eval e X.env) = eval e X.env := by rfl) :
    PE X (.Attribute e n pos) (tEf X.K n te) := by
  refine ⟨fun pins s σ H Q I h => ?_⟩
  refine attr_of hb (thn (he.run pins s σ H _ I h) fun u s1 hh => ?_)
  obtain ⟨x, H1, I1, rx, a, C, d, fs, v, ex, T, hno, ha, hd, l, q⟩ := hh
  subst ex
  obtain rfl : u = Value.ref a := rx
  obtain ⟨o, od, mA, J, hn, r, hod, hl⟩ := err_at I1 ha hd
  obtain ⟨u, hu, ru⟩ := RelO.some_of (v := v) (o := mA n) (by rw [← l]; exact r n)
  exact HandSPX.exc_get I1.kIn J T.xf.ga T.xf.gg T.xf.exC (findObj_own T.xf.hdC hno rfl (by rw [hl, hu])) (handed_of ru) ⟨v, H1, I1.tok _, ru, q⟩
/-- what a def promises, met when it is called: which def it is shows in the heap -/
def Does (X : Cx) (CX : CXT) (f : Addr) (vs : List V) (H : Hp) (Q : VK) (E : XK) : Prop :=
  ∃ (k : Nat) (fd : FuncData) (ps : List Str) (sp : Sp), keepIn X.K (.ref f) = true ∧ FnOk X.prog X.w X.K X.mg X.base CX k f fd ps sp ∧ Room k X.A ∧ Binds X.K fd ps [] ∧ sp vs H Q E
/-- e.m() of an error -/
def tEm0 (X : Cx) (CX : CXT) (m : Str) (E : XK) (te : TE) : TE := fun σ H Q => te σ H fun x H1 => ∃ (a C d f : Addr) (fs : List (Str × V)), x = .ref a ∧ ErrC X.K C ∧
  H1 a = some (exo a C (some d)) ∧ H1 d = some (exd d fs) ∧ fs.lookup m = none ∧ findIn X.K (.ref C) m = some (some (.ref f)) ∧ isFn X.K (.ref f) = true ∧ Does X CX f [.ref a] H1 Q E
theorem pe_em0 {CX : CXT} {E : XK} {o : Expr} {m : Str} {ta : TE} {apos pos : Pos} {pl : Sem Bool} (he : PE X o ta) (hx : Passes CX X E)
    (ht : eval (.Call (.Attribute o m apos) [] [] pos) X.env = (do
      let ov ← eval o X.env
      standAt apos.atName
      let (f, first) ← holding [ov] (getMethod ov m pl)
      callWith pos f first (backTo pos (starEach [] X.env)) (backToKw pos (keywordEach [] X.env))) := by rfl) :
    PE X (.Call (.Attribute o m apos) [] [] pos) (tEm0 X CX m E ta) := by
  refine ⟨fun pins s σ H Q I h => ?_⟩
  refine methodCall_KW (pl := pl) (thn (he.run pins s σ H _ I h) fun u s1 hh => ?_) ht
  obtain ⟨x, H1, I1, rx, a, C, d, f, fs, ex, T, ha, hd, l, hf, hfn, k, fd, ps, sp, kp, F, hr, hb, q⟩ := hh
  subst ex
  obtain rfl : u = Value.ref a := rx
  obtain ⟨o, od, mA, J, hn, r, hod, hl⟩ := err_at I1 ha hd
  have hno : mA m = none := RelO.none_of (by rw [← l]; exact r m)
  refine err_meth T I1.kIn J hf hfn (by show (lookIn m od).map _ = _; rw [hl, hno]; rfl) ?_
  exact callWith_K0 (first := [.ref a]) I1.kIn kp (run_fn (us := [.ref a]) (vs := [.ref a]) F hr hb .nil hx I1 (.cons rfl .nil) q)
/-- C(e, ..), an own error made and kept -/
def tMkE (C : Addr) (sp : Sp) (ta : TA) : TE := fun σ H Q => ta σ H fun vs H1 => vs.length ≤ 1000 ∧ ∀ a, H1 a = none → sp (.ref a :: vs) (upd H1 a (exo a C none)) (fun v H2 => v = .non ∧ Q (.ref a) H2) (fun _ _ _ => False)
theorem run_mkE {CX : CXT} {fI : Addr} {k : Nat} {fd : FuncData} {ps : List Str} {sp : Sp} {us : List Value} {vs : List V} {Q : VK} (T : OexC X.K C) (iC : findIn X.K (.ref C) "__init__" = some (some (.ref fI))) (tI : typeIn X.K (.ref fI) = some (.type "function"))
    (F1 : FnOk X.prog X.w X.K X.mg X.base CX k fI fd ps sp) (hr : Room (k + 1) X.A) (hb : Binds X.K fd ps []) (hx : Passes CX X (fun _ _ _ => False)) (I1 : Inv X pins σ H s) (r1 : Vals vs us) (hz : vs.length ≤ 1000)
    (q1 : ∀ a, H a = none → sp (.ref a :: vs) (upd H a (exo a C none)) (fun v H2 => v = .non ∧ Q (.ref a) H2) (fun _ _ _ => False)) :
    wpAny (model X.prog X.w) X.A (call (.ref C) us) (EP X pins σ Q) X.xe s := by
  obtain ⟨nm, q, N, bs, bm, sn, sub, ab, col, dd, k0, k1, k2, k3, k5, hC, hbm⟩ := T.cls
  obtain ⟨hp, g, dr, tk, os⟩ := s
  have sz : hp.objs.size ≤ hp.objs.size + 1 := Nat.le_succ _
  have fresh : H (hp.objs.size + 1) = none := I1.hok.fresh sz
  have pr := q1 (hp.objs.size + 1) fresh
  have keep : ∀ b o, hp.get? b = some o → ((hp.push (kdv_tup us)).push (HandSPX.excO C hp.objs.size)).get? b = some o := fun b o e => Heap.get?_push_of_some _ (Heap.get?_push_of_some _ e)
  have there : ((hp.push (kdv_tup us)).push (HandSPX.excO C hp.objs.size)).get? (hp.objs.size + 1) = some (HandSPX.excO C hp.objs.size) := by heap_get
  have I2 : Inv X pins σ (upd H (hp.objs.size + 1) (exo (hp.objs.size + 1) C none)) ⟨(hp.push (kdv_tup us)).push (HandSPX.excO C hp.objs.size), g, dr, tk, os⟩ :=
    I1.laid (t' := tk) (a := hp.objs.size + 1) (o := exo (hp.objs.size + 1) C none) (h' := (hp.push (kdv_tup us)).push (HandSPX.excO C hp.objs.size)) keep sz (exo_ok there)
  have r2 : Vals (V.ref (hp.objs.size + 1) :: vs) (Value.ref (hp.objs.size + 1) :: us) := .cons rfl r1
  have hl : (Value.ref (hp.objs.size + 1) :: us ++ []).length = ps.length := by
    rw [List.append_nil, ← r2.length]
    exact F1.len _ _ _ _ pr
  have hus : us.length ≤ sizeLine := by
    rw [← Paired.length r1, sizeLine_eq]
    omega
  have hb' := hb ⟨(hp.push (kdv_tup us)).push (HandSPX.excO C hp.objs.size), g, dr, tk, os⟩ (Value.ref (hp.objs.size + 1) :: us) I2.kIn hl
  rw [List.append_nil] at hb'
  refine wpAny_call (HandSPX.call_own F.excBase_ValueError (fun Y => HandSPX.refsVE_contains Y bm hbm) (I1.kIn _ _ hC) (looks_findIn I1.kIn iC) (fun self => bind_fn I1.kIn self tI) hus
    (codeAny_mono (F1.run _ X.stack _ _ ⟨Value.ref (hp.objs.size + 1) :: us, []⟩ (Value.ref (hp.objs.size + 1) :: us) _ _ (fun _ _ _ => False) (hr.make C us []) (I2.env0.make C us []) hb' r2 pr) fun r s' hq' => ?_))
  cases r with
  | error er => exact hx pins σ _ _ er s' I2 hq'
  | ok fl =>
    cases fl with
    | ret u =>
      obtain ⟨v, H2, I3, rv, ev, q3⟩ := I2.after hq'
      subst ev
      -- nothing was tracked at the new place
      exact ⟨rv, ⟨V.ref (hp.objs.size + 1), H2, I3, rfl, q3⟩⟩
    | next => exact False.elim hq'
    | brk => exact False.elim hq'
    | cont => exact False.elim hq'
theorem pe_mkE {CX : CXT} {x : Str} {fI : Addr} {k : Nat} {fd : FuncData} {ps : List Str} {sp : Sp} {e : Expr} {es : List Expr} {ta : TA} {p pos : Pos} (T : OexC X.K C) (iC : findIn X.K (.ref C) "__init__" = some (some (.ref fI))) (tI : typeIn X.K (.ref fI) = some (.type "function"))
    (F1 : FnOk X.prog X.w X.K X.mg X.base CX k fI fd ps sp) (hr : Room (k + 1) X.A) (hb : Binds X.K fd ps []) (hx : Passes CX X (fun _ _ _ => False)) (hg : Gl X x) (hm : X.mg x = some (.ref C)) (ha : PA X (e :: es) ta)
    (hdb : (x == ("__debug__" : Str)) = false := by decide) (he : starEach (e :: es) X.env = (false, eval e X.env) :: starEach es X.env := by rfl) (hpl : (backTo pos (starEach es X.env)).any (·.1) = false := by rfl) :
    PE X (.Call (.Name x p) (e :: es) [] pos) (tMkE C sp ta) := by
  refine ⟨fun pins s σ H Q I h => ?_⟩
  refine wpAny_Call_Name_kw (ld_glob I hg hm ?_ hdb)
  refine callWith_K (h₀ := X.base) I.ok.mod.kin T.kC (thn (ha.run pos pins s σ H _ I h) fun us s1 ⟨vs, H1, I1, r1, hz, q1⟩ => ⟨I1.kIn, ?_⟩) he hpl
  exact run_mkE T iC tI F1 hr hb hx I1 r1 hz q1
/-- a value's type, an error's too -/
inductive TyE (K : Frag) (H : Hp) : V → Value → Prop where
  | x {x : V} {t : Value} (h : TyX K H x t) : TyE K H x t
  | err {a C d : Addr} {fs : List (Str × V)} (T : ErrC K C) (ha : H a = some (exo a C (some d))) (hd : H d = some (exd d fs)) : TyE K H (.ref a) (.ref C)
theorem kit_ofE {x : V} {u t : Value} (I : Inv X pins σ H s) (rx : RelV x u) (ty : TyE X.K H x t) : ∃ P : Heap → Prop, KitX X.K u t P ∧ P s.heap ∧ u ≠ .builtin "__main__.__loader__#opaque" := by
  cases ty with
  | x h => exact kit_of I rx h
  | err T ha hd =>
    cases (show u = Value.ref _ from rx)
    obtain ⟨o, od, mA, J, _⟩ := err_at I ha hd
    exact ⟨_, err_kit T, ⟨o, od, J⟩, fun z => nomatch z⟩
def rIe (K : Frag) : List V → Hp → VK → Prop := fun xs H Q => ∃ (x c : V) (t u : Value) (b : Bool), xs = [x, c] ∧ ClsV c u ∧ TyE K H x t ∧ kitOne K t u = some b ∧ Q (.bl b) H
def rIeT (K : Frag) : List V → Hp → VK → Prop := fun xs H Q => ∃ (x : V) (tp : Addr) (cs : List V) (t : Value) (us : List Value) (b : Bool), xs = [x, .ref tp] ∧ H tp = some (.tup cs) ∧ Paired ClsV cs us ∧ TyE K H x t ∧ kitAny K t us = some b ∧ Q (.bl b) H
theorem call_ie : CallR X (.builtin "isinstance") (rIe X.K) := by
  intro pins s σ H xs us Q I r h
  obtain ⟨x, c, t, u, b, rfl, k, ty, e, q⟩ := h
  obtain ⟨u1, u2, rfl, r1, r2⟩ := vals2 r
  obtain rfl := k.eq r2
  obtain ⟨P, Z, p, hx⟩ := kit_ofE I r1 ty
  exact kia_one Z I.kIn p e hx fun tk => ⟨.bl b, H, I.tok tk, rfl, q⟩
theorem call_ieT : CallR X (.builtin "isinstance") (rIeT X.K) := by
  intro pins s σ H xs us Q I r h
  obtain ⟨x, tp, cs, t, ws, b, rfl, hT, k, ty, e, q⟩ := h
  obtain ⟨u1, u2, rfl, r1, r2⟩ := vals2 r
  cases (show u2 = Value.ref tp from r2)
  obtain ⟨P, Z, p, hx⟩ := kit_ofE I r1 ty
  obtain ⟨_, its, rv, o, h1, h2, n, h3⟩ := (show ObjOk X.prog X.w H s.heap tp (.tup cs) from I.hok tp _ hT)
  obtain rfl := ClsV.all k rv
  obtain ⟨oc, od, dt, sl⟩ := o
  dsimp only at h2 h3
  subst h2 h3
  exact kia_tup Z I.kIn p h1 e hx fun tk => ⟨.bl b, H, I.tok tk, rfl, q⟩
end
end L2.Jk

set_option Elab.async false
set_option linter.all false
set_option maxRecDepth 100000
set_option maxHeartbeats 4000000
/-! Defs and error classes as the head tells them; calls of them. -/
namespace L2.Jk
open PySem PySem.W PySem.Spec PySem.Calls PyProof.Rows

/-! ### what the head says of an error class, by one Bool -/
def oexB (K : Frag) (C : Addr) : Bool := (match K.lookup C with
  | some ⟨.type "type", _, .cls cd, sl⟩ => (match cd.mro, sl.toList with
    | .ref D :: bm, [_, _, _, _, some (.builtin n), _] => decide (D = C) && (decide (n = "ValueError.__new__") && (HandSPX.refsVE bm && (cd.hasDict && !cd.hasDel)))
    | _, _ => false)
  | _ => false) && (He.eqO (findIn K (.ref C) "__setattr__") (some (some (.builtin "object.__setattr__"))) && (decide (subIn K (.ref C) (.type "BaseException") = some true) &&
    (decide (typeIn K (.ref C) = some (.type "type")) && keepIn K (.ref C))))
theorem oexB_ok {K : Frag} {C : Addr} (h : oexB K C = true) : OexC K C := by
  obtain ⟨h1, h⟩ := Bool.and_eq_true_iff.mp h
  obtain ⟨h2, h⟩ := Bool.and_eq_true_iff.mp h
  obtain ⟨h3, h⟩ := Bool.and_eq_true_iff.mp h
  obtain ⟨h4, h5⟩ := Bool.and_eq_true_iff.mp h
  refine ⟨?_, He.eqO_ok h2, of_decide_eq_true h3, of_decide_eq_true h4, h5⟩
  split at h1
  · rename_i dd cd sl ho
    split at h1
    · rename_i D bm k0 k1 k2 k3 n k5 hm hs
      obtain ⟨a1, h1⟩ := Bool.and_eq_true_iff.mp h1
      obtain ⟨a2, h1⟩ := Bool.and_eq_true_iff.mp h1
      obtain ⟨a3, h1⟩ := Bool.and_eq_true_iff.mp h1
      obtain ⟨a4, a5⟩ := Bool.and_eq_true_iff.mp h1
      obtain rfl := of_decide_eq_true a1
      obtain rfl := of_decide_eq_true a2
      obtain ⟨nm, bs, mro, ns, qn, hd, sn, sub, ab, col, del⟩ := cd
      dsimp only at hm a4 a5
      subst hm
      subst a4
      obtain rfl : del = false := by cases del <;> first | rfl | cases a5
      have e : sl = #[k0, k1, k2, k3, some (.builtin "ValueError.__new__"), k5] := by
        obtain ⟨l⟩ := sl
        dsimp only at hs
        rw [hs]
      subst e
      exact ⟨nm, qn, ns, bs, bm, sn, sub, ab, col, dd, k0, k1, k2, k3, k5, ho, a3⟩
    · cases h1
  · cases h1
def errB (K : Frag) (C : Addr) (fs ms : List Str) : Bool := oexB K C && (xfB K C && (He.eqO (findIn K (.ref C) "__class__") (some (some (.builtin "object.__class__"))) &&
  (He.eqO (specialIn K (.builtin "object.__class__") "__get__") (some (some (.builtin "getset_descriptor.__get__"))) && (decide (takesIn K (.builtin "object.__class__") = some true) && (decide (mroIn K C (.type "object") = some true) &&
  ((fs.all fun f => He.eqO (findIn K (.ref C) f) (some none)) && ((ms.all fun m => He.eqO (findIn K (.ref C) m) (some (some (.ref (He.ma K C m)))) && isFn K (.ref (He.ma K C m))))))))))
structure ErrX (K : Frag) (C : Addr) (fs ms : List Str) : Prop where
  ec : ErrC K C
  no : ∀ f ∈ fs, findIn K (.ref C) f = some none
  me : ∀ m ∈ ms, findIn K (.ref C) m = some (some (.ref (He.ma K C m))) ∧ isFn K (.ref (He.ma K C m)) = true
theorem errB_ok {K : Frag} {C : Addr} {fs ms : List Str} (h : errB K C fs ms = true) : ErrX K C fs ms := by
  obtain ⟨h1, h⟩ := Bool.and_eq_true_iff.mp h
  obtain ⟨h2, h⟩ := Bool.and_eq_true_iff.mp h
  obtain ⟨h3, h⟩ := Bool.and_eq_true_iff.mp h
  obtain ⟨h4, h⟩ := Bool.and_eq_true_iff.mp h
  obtain ⟨h5, h⟩ := Bool.and_eq_true_iff.mp h
  obtain ⟨h6, h⟩ := Bool.and_eq_true_iff.mp h
  obtain ⟨h7, h8⟩ := Bool.and_eq_true_iff.mp h
  refine ⟨⟨oexB_ok h1, xfB_ok h2, He.eqO_ok h3, He.eqO_ok h4, of_decide_eq_true h5, of_decide_eq_true h6⟩, fun f hf => He.eqO_ok (List.all_eq_true.mp h7 f hf), fun m hm => ?_⟩
  obtain ⟨a, b⟩ := Bool.and_eq_true_iff.mp (List.all_eq_true.mp h8 m hm)
  exact ⟨He.eqO_ok a, b⟩

/-! ### a def of the module, called by its name -/
structure FnAt (P : Program) (w : World) (K : Frag) (mg : Str → Option Value) (base : Heap) (CX : CXT) (k : Nat) (x : Str) (ps : List Str) (sp : Sp) : Prop where
  ex : ∃ (f : Addr) (fd : FuncData), mg x = some (.ref f) ∧ keepIn K (.ref f) = true ∧ FnOk P w K mg base CX k f fd ps sp ∧ Binds K fd ps []
section
variable {X : Cx} {CX : CXT} {k : Nat} {x : Str} {ps : List Str} {sp : Sp} {E : XK} {e : Expr} {es : List Expr} {t : TA} {p pos : Pos}
theorem pe_fn (G : FnAt X.prog X.w X.K X.mg X.base CX k x ps sp) (hr : Room k X.A) (hx : Passes CX X E) (hg : Gl X x) (ha : PA X (e :: es) t)
    (hdb : (x == ("__debug__" : Str)) = false := by decide) (he : starEach (e :: es) X.env = (false, eval e X.env) :: starEach es X.env := by rfl) (hpl : (backTo pos (starEach es X.env)).any (·.1) = false := by rfl) :
    PE X (.Call (.Name x p) (e :: es) [] pos) (tCall sp [] E t) := by
  obtain ⟨f, fd, hm, kp, F, hb⟩ := G.ex
  exact pe_call F hr hg hm kp hb .nil hx ha hdb he hpl
end
/-! ### an error class, its instances as values -/
/-- at a: an error of the class at C, its dict at d holds fs -/
def mkE (H : Hp) (a C d : Addr) (fs : List (Str × V)) : Hp := upd (upd H d (exd d fs)) a (exo a C (some d))
/-- __init__(self, f): self.f = f -/
def spI1 (C : Addr) (f : Str) : Sp := fun vs H Q _ => ∃ (a : Addr) (v : V), vs = [.ref a, v] ∧ H a = some (exo a C none) ∧ ∀ d, H d = none → d ≠ a → Q .non (mkE H a C d [(f, v)])
def spI2 (C : Addr) (f g : Str) : Sp := fun vs H Q _ => ∃ (a : Addr) (v u : V), vs = [.ref a, v, u] ∧ H a = some (exo a C none) ∧ ∀ d, H d = none → d ≠ a → Q .non (mkE H a C d [(g, u), (f, v)])
def spS (z : Str) : Sp := fun vs H Q _ => ∃ v, vs = [v] ∧ Q (.str z) H
theorem mkE_new {H : Hp} {a C d : Addr} {fs : List (Str × V)} (ne : d ≠ a) : mkE (upd H a (exo a C none)) a C d fs = mkE H a C d fs := by
  funext b
  unfold mkE
  by_cases h : b = a
  · rw [h, upd_same, upd_same]
  · rw [upd_ne h, upd_ne h]
    by_cases h2 : b = d
    · rw [h2, upd_same, upd_same]
    · rw [upd_ne h2, upd_ne h2, upd_ne h]
/-- an error as a value -/
def ErrV (H : Hp) (v : V) (C : Addr) (fs : List (Str × V)) : Prop := ∃ a d, v = .ref a ∧ H a = some (exo a C (some d)) ∧ H d = some (exd d fs)
theorem ErrV.same {H H' : Hp} {v : V} {C : Addr} {fs : List (Str × V)} (h : ErrV H v C fs) (s : Same H H') : ErrV H' v C fs := by
  obtain ⟨a, d, e, h1, h2⟩ := h
  exact ⟨a, d, e, s _ _ h1, s _ _ h2⟩
theorem mkE_same {H : Hp} {a C d : Addr} {fs : List (Str × V)} (ha : H a = none) (hd : H d = none) : Same H (mkE H a C d fs) := fun b o e => by
  unfold mkE
  rw [upd_ne (ne_of_none e ha), upd_ne (ne_of_none e hd)]
  exact e
theorem mkE_err {H : Hp} {a C d : Addr} {fs : List (Str × V)} (ne : d ≠ a) : ErrV (mkE H a C d fs) (.ref a) C fs :=
  ⟨a, d, rfl, upd_same, by unfold mkE; rw [upd_ne ne, upd_same]⟩
def IniOk (P : Program) (w : World) (K : Frag) (mg : Str → Option Value) (base : Heap) (C : Addr) (fs : List Str) (fd : FuncData) : Prop := match fs with
  | [f] => FnOk P w K mg base CX0 1 (He.ma K C "__init__") fd ["self", f] (spI1 C f)
  | [f, g] => FnOk P w K mg base CX0 1 (He.ma K C "__init__") fd ["self", f, g] (spI2 C f g)
  | _ => False
/-- the class x, its __init__ (f or f, g), its told -/
structure ErrAt (P : Program) (w : World) (K : Frag) (mg : Str → Option Value) (base : Heap) (x : Str) (C : Addr) (fs : List Str) (z : Str) : Prop where
  mgC : mg x = some (.ref C)
  ex : ErrX K C fs ["told"]
  ini : findIn K (.ref C) "__init__" = some (some (.ref (He.ma K C "__init__"))) ∧ typeIn K (.ref (He.ma K C "__init__")) = some (.type "function")
  iok : ∃ fd, Binds K fd ("self" :: fs) [] ∧ IniOk P w K mg base C fs fd
  tok : ∃ fd, Binds K fd ["self"] [] ∧ keepIn K (.ref (He.ma K C "told")) = true ∧ FnOk P w K mg base CX0 1 (He.ma K C "told") fd ["self"] (spS z)
/-- the fields of an error that is made, as its dict holds them -/
def fldE : List Str → List V → List (Str × V)
  | [f], [v] => [(f, v)]
  | [f, g], [v, u] => [(g, u), (f, v)]
  | _, _ => []
def tErr (C : Addr) (fs : List Str) (ta : TA) : TE := fun σ H Q => ta σ H fun vs H1 => vs.length = fs.length ∧ ∀ v H2, Same H1 H2 → ErrV H2 v C (fldE fs vs) → Q v H2
section
variable {X : Cx} {x z : Str} {C : Addr} {fs : List Str} {e : Expr} {es : List Expr} {ta : TA} {p pos : Pos}
theorem pe_err (T : ErrAt X.prog X.w X.K X.mg X.base x C fs z) (hr : Room 2 X.A) (hx : Passes CX0 X (fun _ _ _ => False)) (hg : Gl X x) (ha : PA X (e :: es) ta)
    (hdb : (x == ("__debug__" : Str)) = false := by decide) (he : starEach (e :: es) X.env = (false, eval e X.env) :: starEach es X.env := by rfl) (hpl : (backTo pos (starEach es X.env)).any (·.1) = false := by rfl) :
    PE X (.Call (.Name x p) (e :: es) [] pos) (tErr C fs ta) := by
  obtain ⟨fd, hb, iok⟩ := T.iok
  refine ⟨fun pins s σ H Q I h => ?_⟩
  refine wpAny_Call_Name_kw (ld_glob I hg T.mgC ?_ hdb)
  refine callWith_K (h₀ := X.base) I.ok.mod.kin T.ex.ec.ox.kC (thn (ha.run pos pins s σ H _ I h) fun us s1 ⟨vs, H1, I1, r1, hz, q1⟩ => ⟨I1.kIn, ?_⟩) he hpl
  have ox := T.ex.ec.ox
  have i1 := T.ini.1
  have i2 := T.ini.2
  clear T
  match fs, vs, iok, hz, hb, q1 with
  | [f], [v], iok, _, hb, q1 =>
    exact run_mkE ox i1 i2 iok hr hb hx I1 r1 (by show 1 ≤ 1000; decide) fun a ha1 => ⟨a, v, rfl, upd_same, fun d hd ne => ⟨rfl, by
      rw [upd_ne ne] at hd
      rw [mkE_new ne]
      exact q1 _ _ (mkE_same ha1 hd) (mkE_err ne)⟩⟩
  | [f, g], [v, u], iok, _, hb, q1 =>
    exact run_mkE ox i1 i2 iok hr hb hx I1 r1 (by show 2 ≤ 1000; decide) fun a ha1 => ⟨a, v, u, rfl, upd_same, fun d hd ne => ⟨rfl, by
      rw [upd_ne ne] at hd
      rw [mkE_new ne]
      exact q1 _ _ (mkE_same ha1 hd) (mkE_err ne)⟩⟩
end

/-! ### the bodies of such a class's methods -/
section
variable {P : Program} {w : World} {K : Frag} {mg : Str → Option Value} {base : Heap} {x qual f g z : Str} {pa : Arguments} {sc : Scope} {dvs : List V} {kws : List (Str × V)} {fA : Addr} {fd : FuncData} {C : Addr} {p1 p2 p3 p4 q1 q2 q3 q4 : Pos} {j : Nat}
theorem ok_told {kk} (F : FunD K x qual pa [.Return (some (.Constant (.str z) kk p1)) p2] sc dvs kws fA fd) (S : FnScope ["self"] ["self"] sc) : FnOk P w K mg base CX0 1 fA fd ["self"] (spS z) := by
  refine F.ok S (fun vs H Q E h => ?_) (fun cdv A outer s H vs Q E hr h => ⟨_, PSs.nox (pss_one (ps_ret pe_str)), ?_⟩)
  · obtain ⟨v, rfl, _⟩ := h
    rfl
  · obtain ⟨v, rfl, q⟩ := h
    exact q
theorem ok_init1 (F : FunD K x qual pa [.Assign [.Attribute (.Name "self" p1) f p2] (.Name f p3) p4] sc dvs kws fA fd) (S : FnScope ["self", f] ["self", f] sc) (T : ErrX K C [f] ["told"])
    (ls : sc.names.lookup ("self" : Str) = some NameKind.local) (lf : sc.names.lookup f = some NameKind.local) (d1 : (f == ("__debug__" : Str)) = false) (d2 : (f == ("__classdict__" : Str)) = false) : FnOk P w K mg base CX0 1 fA fd ["self", f] (spI1 C f) := by
  refine F.ok S (fun vs H Q E h => ?_) (fun cdv A outer s H vs Q E hr h => ⟨_, PSs.nox (pss_one (ps_ost (pe_var (i := 0) rfl (.inl ls)) (pe_var (i := 1) rfl (.inl lf) d1 d2))), ?_⟩)
  · obtain ⟨a, v, rfl, _⟩ := h
    rfl
  · obtain ⟨a, v, rfl, ha, q⟩ := h
    exact ⟨_, rfl, _, rfl, a, C, rfl, T.ec.ox, T.no f (List.mem_singleton_self _), .inl ⟨ha, q⟩⟩
theorem ok_init2 (F : FunD K x qual pa [.Assign [.Attribute (.Name "self" p1) f p2] (.Name f p3) p4, .Assign [.Attribute (.Name "self" q1) g q2] (.Name g q3) q4] sc dvs kws fA fd) (S : FnScope ["self", f, g] ["self", f, g] sc) (T : ErrX K C [f, g] ["told"])
    (ls : sc.names.lookup ("self" : Str) = some NameKind.local) (lf : sc.names.lookup f = some NameKind.local) (d1 : (f == ("__debug__" : Str)) = false) (d2 : (f == ("__classdict__" : Str)) = false)
    (lg : sc.names.lookup g = some NameKind.local) (d3 : (g == ("__debug__" : Str)) = false) (d4 : (g == ("__classdict__" : Str)) = false) : FnOk P w K mg base CX0 1 fA fd ["self", f, g] (spI2 C f g) := by
  refine F.ok S (fun vs H Q E h => ?_) (fun cdv A outer s H vs Q E hr h => ⟨_, PSs.nox (pss_cons (ps_ost (pe_var (i := 0) rfl (.inl ls)) (pe_var (i := 1) rfl (.inl lf) d1 d2))
    (pss_one (ps_ost (pe_var (i := 0) rfl (.inl ls)) (pe_var (i := 2) rfl (.inl lg) d3 d4)))), ?_⟩)
  · obtain ⟨a, v, u, rfl, _⟩ := h
    rfl
  · obtain ⟨a, v, u, rfl, ha, q⟩ := h
    refine ⟨_, rfl, _, rfl, a, C, rfl, T.ec.ox, T.no f (List.mem_cons_self ..), .inl ⟨ha, fun d hd ne => ?_⟩⟩
    refine ⟨_, rfl, _, rfl, a, C, rfl, T.ec.ox, T.no g (List.mem_cons_of_mem _ (List.mem_singleton_self _)), .inr ⟨d, _, upd_same, by rw [upd_ne ne, upd_same], by show 1 ≤ 900; decide, ?_⟩⟩
    have z := q d hd ne
    have e : mkE H a C d [(g, u), (f, v)] = upd (upd (upd H d (exd d [(f, v)])) a (exo a C (some d))) d (exd d [(g, u), (f, v)]) := by
      funext b
      unfold mkE
      by_cases h1 : b = a
      · rw [h1, upd_same, upd_ne (Ne.symm ne), upd_same]
      · by_cases h2 : b = d
        · rw [h2, upd_ne ne, upd_same, upd_same]
        · rw [upd_ne h1, upd_ne h2, upd_ne h2, upd_ne h1, upd_ne h2]
    rw [e] at z
    exact z
end
end L2.Jk

set_option Elab.async false
set_option linter.all false
set_option maxRecDepth 100000
set_option maxHeartbeats 4000000
/-! A few operations over lists that may be read only; displays whose heap behind is not told but for what is new. -/
namespace L2.Jk
open PySem PySem.W PySem.Spec PySem.Calls PyProof.Rows

section
variable {X : Cx}
/-- xs + ys, whatever lists they are -/
def rCatS (K : Frag) : R2 := fun x y H Q => ∃ l b xs zs, x = .ref l ∧ y = .ref b ∧ SqL K H l xs ∧ SqL K H b zs ∧ xs.length + zs.length ≤ sizeLine ∧ ∀ p H', H p = none → Same H H' → H' p = some (.lst (xs ++ zs)) → Q (.ref p) H'
theorem op_catS : OpR X (binaryOp .Add) (rCatS X.K) := by
  intro pins s σ H x y v u Q I rx ry h
  obtain ⟨l, b, xs, zs, rfl, rfl, hl, hb, hz, q⟩ := h
  cases rx
  cases ry
  obtain ⟨i1, r1, ⟨o1, n1, g1, c1, d1, e1⟩, z1⟩ := I.list hl
  obtain ⟨i2, r2, ⟨o2, n2, g2, c2, d2, e2⟩, z2⟩ := I.list hb
  obtain ⟨k1, f1, t1, s1⟩ := o1
  obtain ⟨k2, f2, t2, s2⟩ := o2
  dsimp only at c1 d1 e1 c2 d2 e2
  subst c1 d1 e1 c2 d2 e2
  have hs : i1.length + i2.length ≤ sizeLine := by rw [← r1.length, ← r2.length]; exact hz
  refine concat_meets ⟨_, g1, rfl⟩ ⟨_, g2, rfl⟩ noFill_list_add seq_list_add PySem.F.slot_list_add PySem.F.entry_list_add (PySem.F.args_list_add_2 _ _)
    (list_addW l b i1.toArray i2.toArray n1 n2 none none s1 s2 (by simpa using hs)) ⟨g1, g2, ?_⟩
  rw [show i1.toArray ++ i2.toArray = (i1 ++ i2).toArray by simp]
  refine ⟨.ref _, _, I.lnew (t' := s.toks) (r1.append r2) (by rw [List.length_append]; exact hz), rfl, q _ _ I.fresh (fun c o z => ?_) upd_same⟩
  rw [upd_ne (ne_of_none z I.fresh)]
  exact z
/-- a display: where it stands is new, all else as before -/
def tLstS (t : TA) : TE := fun σ H Q => t σ H fun xs H1 => xs.length ≤ 1000 ∧ ∀ p H', H1 p = none → Same H1 H' → H' p = some (.lst xs) → Q (.ref p) H'
def tTupS (t : TA) : TE := fun σ H Q => t σ H fun xs H1 => xs.length ≤ 1000 ∧ ∀ p H', H1 p = none → Same H1 H' → H' p = some (.tup xs) → Q (.ref p) H'
theorem same_upd {H : Hp} {p : Addr} {o : HO} (h : H p = none) : Same H (upd H p o) := fun c u z => by
  rw [upd_ne (ne_of_none z h)]
  exact z
theorem pe_lstS {es : List Expr} {t : TA} {pos : Pos} (ha : PA X es t) : PE X (.List es pos) (tLstS t) := by
  constructor
  intro pins s σ H Q I h
  refine wpAny_List_spliced (thn (ha.run pos pins s σ H _ I h) fun us s1 ⟨xs, H1, I1, r, z, q⟩ => ?_)
  have z' := Nat.le_of_lt (small1000 z)
  have n : H1 s1.heap.objs.size = none := I1.fresh
  exact ⟨by rw [← r.length]; exact z', .ref s1.heap.objs.size, _, I1.lnew (t' := s1.toks) r z', rfl, q _ _ n (same_upd n) upd_same⟩
theorem pe_tupS {es : List Expr} {t : TA} {pos : Pos} {k} (ha : PA X es t) : PE X (.Tuple es k pos) (tTupS t) := by
  constructor
  intro pins s σ H Q I h
  refine wpAny_Tuple_spliced (thn (ha.run pos pins s σ H _ I h) fun us s1 ⟨xs, H1, I1, r, z, q⟩ => ?_)
  have z' := Nat.le_of_lt (small1000 z)
  have n : H1 s1.heap.objs.size = none := I1.fresh
  refine ⟨by rw [← r.length]; exact z', .ref s1.heap.objs.size, _, I1.laid (t' := s1.toks) (o := .tup xs) (fun b u e => Heap.get?_push_of_some _ e) (Nat.le_refl _) ?_, rfl, q _ _ n (same_upd n) upd_same⟩
  exact ⟨z', us, r, IsTup.new _ _⟩
/-- xs[lo:hi] of a list -/
def rSlS (K : Frag) : V → Option Int → Option Int → Hp → VK → Prop := fun x lo hi H Q => ∃ a xs, x = .ref a ∧ SqL K H a xs ∧ ∀ p H', H p = none → Same H H' → H' p = some (.lst (cutV xs lo hi)) → Q (.ref p) H'
theorem sl_listS : SlR X (rSlS X.K) := by
  intro pins s σ H x v vl vu lo hi sl Q I rx hs pl pu h
  obtain ⟨a, xs, e, hx, q⟩ := h
  exact sl_list pins s σ H x v vl vu lo hi sl Q I rx hs pl pu ⟨a, xs, e, hx, fun p hp => q p _ hp (same_upd hp) upd_same⟩
end
/-- what may change at one place alone -/
def But (a : Addr) (H H' : Hp) : Prop := ∀ c o, c ≠ a → H c = some o → H' c = some o
theorem But.of_same {a : Addr} {H H' : Hp} (s : Same H H') : But a H H' := fun c o _ h => s c o h
theorem But.refl (a : Addr) (H : Hp) : But a H H := fun _ _ _ h => h
theorem But.trans {a : Addr} {H H1 H2 : Hp} (x : But a H H1) (y : But a H1 H2) : But a H H2 := fun c o n h => y c o n (x c o n h)
theorem but_upd (H : Hp) (a : Addr) (o : HO) : But a H (upd H a o) := fun c u n h => by
  rw [upd_ne n]
  exact h
/-! ### data stays -/
theorem SqT.same {K : Frag} {H H' : Hp} {a : Addr} {xs : List V} (e : Same H H') (h : SqT K H a xs) : SqT K H' a xs := by
  rcases h with (h | ⟨o, h⟩) | h
  · exact .inl (.inl (e _ _ h))
  · exact .inl (.inr ⟨o, e _ _ h⟩)
  · exact .inr h
/-- a class or a def of the module, a built-in type, as a value -/
theorem pe_gref {X : Cx} {x : Str} {a : Addr} {pos : Pos} (hg : Gl X x) (hm : X.mg x = some (.ref a)) (hd : (x == ("__debug__" : Str)) = false := by decide) : PE X (.Name x pos) (tC (.ref a)) := pe_glob (v := .ref a) hg hm rfl hd
theorem pe_bty {X : Cx} {x : Str} {n : String} {pos : Pos} (hg : Gl X x) (hm : X.mg x = none) (hv : bootBuiltins x = some (.type n)) (hn : x ≠ "__name__" := by decide) (hd : (x == ("__debug__" : Str)) = false := by decide) : PE X (.Name x pos) (tC (.ty n)) :=
  pe_bltn (v := .ty n) hg hm hv rfl hn hd
/-! ### a new list that a comprehension fills: fm i is what it holds behind i turns -/
def LcP (H1 : Hp) (D : Addr) (fm : Nat → List V) (i : Nat) (H : Hp) : Prop := Same H1 H ∧ H1 D = none ∧ H D = some (.lst (fm i)) ∧ (fm i).length ≤ i
theorem LcP.start {H1 : Hp} {D : Addr} {fm : Nat → List V} (h : H1 D = none) (e : fm 0 = []) : LcP H1 D fm 0 (upd H1 D (.lst [])) :=
  ⟨same_upd h, h, by rw [upd_same, e], by rw [e]; exact Nat.le_refl _⟩
theorem LcP.put {H1 H H4 : Hp} {D : Addr} {fm : Nat → List V} {i : Nat} {y : V} (p : LcP H1 D fm i H) (s : Same H H4) (e : fm (i + 1) = fm i ++ [y]) (hi : i < 10000) :
    ∃ acc, H4 D = some (.lst acc) ∧ acc.length < sizeLine ∧ LcP H1 D fm (i + 1) (upd H4 D (.lst (acc ++ [y]))) := by
  obtain ⟨s0, n, d, l⟩ := p
  refine ⟨fm i, s _ _ d, ?_, fun c o z => ?_, n, by rw [upd_same, e], by rw [e, List.length_append, List.length_singleton]; omega⟩
  · rw [sizeLine_eq]
    omega
  · rw [upd_ne (ne_of_none z n)]
    exact s _ _ (s0 _ _ z)
theorem LcP.pass {H1 H H4 : Hp} {D : Addr} {fm : Nat → List V} {i : Nat} (p : LcP H1 D fm i H) (s : Same H H4) (e : fm (i + 1) = fm i) : LcP H1 D fm (i + 1) H4 := by
  obtain ⟨s0, n, d, l⟩ := p
  exact ⟨s0.trans s, n, by rw [e]; exact s _ _ d, by rw [e]; omega⟩
/-! ### data that stays where one place alone changes -/
def Per (a : Addr) (K : Frag) (H : Hp) (x : V) (d : PyData) : Prop := ∀ H', But a H H' → Dp K H' x d
theorem Per.but {a : Addr} {K : Frag} {H H1 : Hp} {x : V} {d : PyData} (p : Per a K H x d) (b : But a H H1) : Per a K H1 x d := fun H' b' => p H' (b.trans b')
theorem Per.same {a : Addr} {K : Frag} {H H1 : Hp} {x : V} {d : PyData} (p : Per a K H x d) (s : Same H H1) : Per a K H1 x d := p.but (But.of_same s)
theorem Per.dp {a : Addr} {K : Frag} {H : Hp} {x : V} {d : PyData} (p : Per a K H x d) : Dp K H x d := p H (But.refl a H)
theorem Per.lst {a p : Addr} {K : Frag} {H : Hp} {xs : List V} {ds : List PyData} (ne : p ≠ a) (h : H p = some (.lst xs)) (q : ∀ H', But a H H' → DpAll K H' xs ds) : Per a K H (.ref p) (.list ds) :=
  fun H' b => .lst (SqL.of (b _ _ ne h)) (q H' b)
theorem Per.tup {a p : Addr} {K : Frag} {H : Hp} {xs : List V} {ds : List PyData} (ne : p ≠ a) (h : H p = some (.tup xs)) (q : ∀ H', But a H H' → DpAll K H' xs ds) : Per a K H (.ref p) (.tuple ds) :=
  fun H' b => .tup (SqT.of (b _ _ ne h)) (q H' b)
theorem dp_one {K : Frag} {H : Hp} {p : Addr} {x : V} {d : PyData} (h : H p = some (.lst [x])) (q : Dp K H x d) : Dp K H (.ref p) (.list [d]) := .lst (SqL.of h) (.cons q .nil)
theorem dp_two {K : Frag} {H : Hp} {p : Addr} {x y : V} {d e : PyData} (h : H p = some (.lst [x, y])) (q : Dp K H x d) (r : Dp K H y e) : Dp K H (.ref p) (.list [d, e]) := .lst (SqL.of h) (.cons q (.cons r .nil))
theorem eqv_same {d : PyData} (h : SeqAt.shaped d = true) : PyData.eqv d d = true := SeqAt.eqv_refl d (SeqAt.canLay_of_shaped h)
theorem ne_new {H : Hp} {a b : Addr} {o : HO} (h : H a = some o) (n : H b = none) : b ≠ a := Ne.symm (ne_of_none h n)
end L2.Jk

set_option Elab.async false
set_option linter.all false
set_option maxRecDepth 100000
set_option maxHeartbeats 4000000
/-! == and != of instances by the text's own __eq__, whatever it answers. -/
namespace L2.Jk
open PySem PySem.W PySem.Spec PySem.Calls PyProof.Rows

/-! ### what the head says of a class with an own __eq__ and no __ne__, by one Bool -/
def eqcB (K : Frag) (C : Addr) : Bool := He.eqO (findIn K (.ref C) "__eq__") (some (some (.ref (He.ma K C "__eq__")))) && (isFn K (.ref (He.ma K C "__eq__")) && (match K.lookup C with
  | some ⟨.type "type", _, .cls cd, sl⟩ => (match cd.mro, sl.toList with
    | .ref D :: bm, [_, _, _, _, some (.builtin _), _] => decide (D = C) && (decide (bm = [.type "object"]) && (!cd.hasDel && (nsOkIn K cd.ns && (decide (nsIn K cd.ns "__eq__" = some (some (.ref (He.ma K C "__eq__")))) && decide (nsIn K cd.ns "__ne__" = some none)))))
    | _, _ => false)
  | _ => false))
structure EqcC (K : Frag) (C : Addr) : Prop where
  find : findIn K (.ref C) "__eq__" = some (some (.ref (He.ma K C "__eq__")))
  fn : isFn K (.ref (He.ma K C "__eq__")) = true
  cls : ∃ nm q N bs hdct sn sub ab col dd k0 k1 k2 k3 k5 nid, K.lookup C = some (excClassObj nm q C N bs [.type "object"] hdct sn sub ab col dd k0 k1 k2 k3 k5 nid) ∧ nsOkIn K N = true ∧
    nsIn K N "__eq__" = some (some (.ref (He.ma K C "__eq__"))) ∧ nsIn K N "__ne__" = some none
theorem eqcB_ok {K : Frag} {C : Addr} (h : eqcB K C = true) : EqcC K C := by
  obtain ⟨h1, h⟩ := Bool.and_eq_true_iff.mp h
  obtain ⟨h2, h3⟩ := Bool.and_eq_true_iff.mp h
  refine ⟨He.eqO_ok h1, h2, ?_⟩
  split at h3
  · rename_i dd cd sl ho
    split at h3
    · rename_i D bm k0 k1 k2 k3 n k5 hm hs
      obtain ⟨a1, h3⟩ := Bool.and_eq_true_iff.mp h3
      obtain ⟨a2, h3⟩ := Bool.and_eq_true_iff.mp h3
      obtain ⟨a3, h3⟩ := Bool.and_eq_true_iff.mp h3
      obtain ⟨a4, h3⟩ := Bool.and_eq_true_iff.mp h3
      obtain ⟨a5, a6⟩ := Bool.and_eq_true_iff.mp h3
      obtain rfl := of_decide_eq_true a1
      obtain rfl := of_decide_eq_true a2
      obtain ⟨nm, bs, mro, ns, qn, hd, sn, sub, ab, col, del⟩ := cd
      dsimp only at hm a3 a4 a5 a6
      subst hm
      obtain rfl : del = false := by cases del <;> first | rfl | cases a3
      have e : sl = #[k0, k1, k2, k3, some (.builtin n), k5] := by
        obtain ⟨l⟩ := sl
        dsimp only at hs
        rw [hs]
      subst e
      exact ⟨nm, qn, ns, bs, hd, sn, sub, ab, col, dd, k0, k1, k2, k3, k5, n, ho, a4, of_decide_eq_true a5, of_decide_eq_true a6⟩
    · cases h3
  · cases h3

section
variable {X : Cx} {CX : CXT} {E : XK}
/-- x == y, x an instance with an own __eq__: what that answers -/
def rEqO (X : Cx) (CX : CXT) (E : XK) : R2 := fun x y H Q => ∃ (a C dx : Addr) (fs : List (Str × V)) (t : Value), x = .ref a ∧ H a = some (.ins C dx fs) ∧ EqcC X.K C ∧ TyE X.K H y t ∧ notFirst X.K C t = true ∧
  Does X CX (He.ma X.K C "__eq__") [x, y] H (fun v H' => ∃ b, v = .bl b ∧ Q (.bl b) H') E
theorem op_eqO (hx : Passes CX X E) : OpR X (compareOp .Eq) (rEqO X CX E) := by
  intro pins s σ H x y v u Q I rx ry h
  obtain ⟨a, C, dx, fs, t, rfl, ha, T, ty, nf, k, fd, ps, sp, kp, F, hr, hb, q⟩ := h
  cases rx
  obtain ⟨mA, J, _⟩ := ins_get I.hok ha
  obtain ⟨od, J, _⟩ := J.look
  obtain ⟨m, hF⟩ := I.fr
  obtain ⟨P, Z, p, _⟩ := kit_ofE I ry ty
  have hty : Looks (model X.prog X.w) s.heap (typeOf u) t := Z.ty _ _ I.kIn p
  show wpAny (model X.prog X.w) X.A (richCompare .Eq (.ref a) u) (EP X pins σ Q) X.xe s
  refine cmp_K (op := .Eq) (tb := t) hr.units0 hF I.ok.mod.kin J hty nf T.find T.fn ?_
  refine wpAny_mono (run_fn (us := [.ref a, u]) (vs := [.ref a, y]) F hr hb .nil hx I (.cons rfl (.cons ry .nil)) q) (fun z s' hz => ?_) fun _ _ e => e
  obtain ⟨v', H', I', r', b, rfl, q'⟩ := hz
  obtain rfl : z = Value.bool b := r'
  exact ⟨.bl b, H', I', rfl, q'⟩
theorem ns_at_of {K : Frag} {h : Heap} {N : Addr} {mN : Str → Option Value} {n : Str} {v : Value} (X : K.In h) (G : h.Ns N mN) (e : nsIn K N n = some (some v)) : mN n = some v := by
  obtain ⟨o, es, ep, ho, hd, _, hf⟩ := G
  unfold nsIn at e
  split at e
  · rename_i q
    have z := X _ _ q
    rw [ho] at z
    cases z
    cases hd
    split at e
    · rename_i en he
      have ev : en.val = v := Option.some.inj (Option.some.inj e)
      rw [← hf]
      unfold nsFind findBy
      rw [← Array.find?_toList, he]
      exact congrArg some ev
    · split at e <;> cases e
  · cases e
/-- a call below a builtin -/
theorem run_in1 {k : Nat} {f : Addr} {fd : FuncData} {ps : List Str} {sp : Sp} {pins : List (Addr × Obj)} {σ : St} {H : Hp} {s : Shared} {Q : VK} {us : List Value} {vs : List V} (F : FnOk X.prog X.w X.K X.mg X.base CX k f fd ps sp) (hr : Room k X.A.in1)
    (hb : Binds X.K fd ps []) (hx : Passes CX X E) (I : Inv X pins σ H s) (r : Vals vs us) (h : sp vs H Q E) : wpAny (model X.prog X.w) X.A.in1 (call (.ref f) us) (EP X pins σ Q) X.xe s := by
  have hl : us.length = ps.length := by rw [← r.length]; exact F.len _ _ _ _ h
  have hb' := hb s us I.kIn (by rw [List.append_nil]; exact hl)
  rw [List.append_nil] at hb'
  refine wpAny_call (codeAny_mono (F.run X.A.in1 X.stack s H ⟨us, []⟩ us vs Q E hr I.env0.in1 hb' r h) fun r s' hq => ?_)
  cases r with
  | error e => exact hx pins σ H s e s' I hq
  | ok fl =>
    cases fl with
    | ret u => exact I.after hq
    | next => exact False.elim hq
    | brk => exact False.elim hq
    | cont => exact False.elim hq
/-- x != y, both instances of the class at C -/
def rNeO (X : Cx) (CX : CXT) (E : XK) : R2 := fun x y H Q => ∃ (a b C dx dy : Addr) (fs gs : List (Str × V)), x = .ref a ∧ y = .ref b ∧ H a = some (.ins C dx fs) ∧ H b = some (.ins C dy gs) ∧ EqcC X.K C ∧
  ∃ (k : Nat) (fd : FuncData) (ps : List Str) (sp : Sp), keepIn X.K (.ref (He.ma X.K C "__eq__")) = true ∧ FnOk X.prog X.w X.K X.mg X.base CX k (He.ma X.K C "__eq__") fd ps sp ∧ Room (k + 1) X.A ∧ Binds X.K fd ps [] ∧ sp [x, y] H (fun v H' => ∃ b, v = .bl b ∧ Q (.bl !b) H') E
theorem op_neO (hx : Passes CX X E) : OpR X (compareOp .NotEq) (rNeO X CX E) := by
  intro pins s σ H x y v u Q I rx ry h
  obtain ⟨a, b, C, dx, dy, fs, gs, rfl, rfl, ha, hb', T, k, fd, ps, sp, kp, G, hr, hb, q⟩ := h
  cases rx
  cases ry
  obtain ⟨mA, J, _⟩ := ins_get I.hok ha
  obtain ⟨mB, J', _⟩ := ins_get I.hok hb'
  obtain ⟨od, J, _⟩ := J.look
  obtain ⟨od', J', _⟩ := J'.look
  obtain ⟨nm, qn, N, bs, hdct, sn, sub, ab, col, dd, k0, k1, k2, k3, k5, nid, hC, ok, ne1, ne2⟩ := T.cls
  have hn : s.heap.Ns N (s.heap.nsMap N) := .of_isNs (isNs_of_in I.kIn ok)
  obtain ⟨of, hof, hcl⟩ := Option.map_eq_some_iff.mp (show (X.K.lookup (He.ma X.K C "__eq__")).map (·.cls) = some (.type "function") from beq_iff_eq.mp T.fn)
  have own : s.heap.OwnEqNoNe a C (He.ma X.K C "__eq__") "object" [.type "object"] := ⟨_, of, nm, qn, N, bs, hdct, sn, sub, ab, col, dd, k0, k1, k2, k3, k5, nid, _, _, J.at_, rfl, I.kIn _ _ hC, hn, ns_at_of I.kIn hn ne1,
    I.kIn _ _ hof, hcl, F.cmp_object.mro, F.cmp_object.eq.lookup, ns_none_of I.kIn hn ne2⟩
  obtain ⟨hp, g, d, tk, os⟩ := s
  refine compareOp_ne_ownEq F.cmp_object own J'.at_ rfl (by have := hr.units; omega) ?_
  refine wpAny_mono (run_in1 (us := [.ref a, .ref b]) (vs := [.ref a, .ref b]) G hr.in1 hb hx I (.cons rfl (.cons rfl .nil)) q) (fun z s' hz => ?_) fun _ _ e => e
  obtain ⟨v', H', I', r', b', rfl, q'⟩ := hz
  obtain rfl : z = Value.bool b' := r'
  exact ⟨b', rfl, .bl !b', H', I', rfl, q'⟩
end
end L2.Jk

set_option Elab.async false
set_option linter.all false
set_option maxRecDepth 100000
set_option maxHeartbeats 4000000
/-! A hook that walks the heap by layers, and casts out doubles by one number's bits. -/
namespace L2.Jk
open PySem PySem.W
def bitOn (m a : Nat) : Bool := Nat.beq (Nat.land (Nat.shiftRight m a) 1) 1
/-- what is not seen yet, and what is seen then -/
def freshD : List Nat → Nat → List Nat → List Nat × Nat
  | [], m, acc => (acc, m)
  | a :: r, m, acc => match bitOn m a with
    | true => freshD r m acc
    | false => freshD r (Nat.lor m (Nat.shiftLeft 1 a)) (a :: acc)
def refsAll (g : Nat → Option Obj) : List Nat → List Nat
  | [] => []
  | a :: r => match g a with
    | some o => He.refsD o ++ refsAll g r
    | none => refsAll g r
def layers (g : Nat → Option Obj) : Nat → List Nat → Nat → List Nat
  | 0, fr, _ => fr
  | n + 1, fr, m => match freshD (refsAll g fr) m [] with
    | (nw, m2) => fr ++ layers g n nw m2
def selL (n : Nat) (g : Nat → Option Obj) : List Nat := layers g n [mainGlobals] (Nat.shiftLeft 1 mainGlobals)
def obsK (fa : List He.Fa) (fn : List He.DefD) (ts : List He.Tab) (tf : List He.Defn) (ex : Frag → Bool) (g : Nat → Option Obj) (K : Frag) : He.AlX := (He.obsT fa fn ts K, ex K && He.tabsB g tf K)
def obsL (n : Nat) (fa : List He.Fa) (fn : List He.DefD) (ts : List He.Tab) (tf : List He.Defn) (ex : Frag → Bool) (g : Nat → Option Obj) : He.AlX := obsK fa fn ts tf ex g (He.frT g (selL n g))
theorem saysL_of {n : Nat} {fa : List He.Fa} {fn : List He.DefD} {ts : List He.Tab} {tf : List He.Defn} {ex : Frag → Bool} {w : World} {h : Heap}
    (e : obsL n fa fn ts tf ex h.get? = He.valX fn ts w) : He.SaysX fa fn ts tf ex w h (He.frT h.get? (selL n h.get?)) := by
  have e1 := congrArg (fun z => z.fst) e
  have e2 : (ex (He.frT h.get? (selL n h.get?)) && He.tabsB h.get? tf (He.frT h.get? (selL n h.get?))) = true := congrArg (fun z => z.snd) e
  obtain ⟨h1, h2⟩ := Bool.and_eq_true_iff.mp e2
  have key : ∀ p ∈ tf, codeHdIn (He.frT h.get? (selL n h.get?)) (He.cT (He.frT h.get? (selL n h.get?)) p).fst (He.cT (He.frT h.get? (selL n h.get?)) p).snd = true ∧ ∃ o, h.get? (He.cT (He.frT h.get? (selL n h.get?)) p).snd = some o ∧ He.emptyTab o = true := fun p hp => by
    have hh := List.all_eq_true.mp h2 p hp
    obtain ⟨h3, h4⟩ := Bool.and_eq_true_iff.mp hh
    refine ⟨h3, ?_⟩
    cases q : h.get? (He.cT (He.frT h.get? (selL n h.get?)) p).snd with
    | none => rw [q] at h4; cases h4
    | some o => rw [q] at h4; exact ⟨o, rfl, h4⟩
  exact { t := e1, more := h1, hd := fun p hp => (key p hp).1, out := fun p hp => by
            obtain ⟨_, o, q, z⟩ := key p hp
            exact He.frT_none q z, empty := fun p hp => by
            obtain ⟨_, o, q, z⟩ := key p hp
            rw [q, He.emptyTab_eq z] }
def hookL (n : Nat) (fa : List He.Fa) (fn : List He.DefD) (ts : List He.Tab) (tf : List He.Defn) (ex : Frag → Bool) : Hook where
  α := He.AlX
  obs := fun s => obsL n fa fn ts tf ex s.heap.get?
  val := fun w => He.valX fn ts w
  says := fun w h => ∃ K, K.In h ∧ He.SaysX fa fn ts tf ex w h K
  of := fun w s e => ⟨_, He.frT_in, saysL_of e⟩
  keeps := fun w h h' ⟨K, hK, c⟩ k => ⟨K, Frag.In.keeps hK k, { t := c.t, more := c.more, hd := c.hd, out := c.out, empty := fun p hp => k _ _ (c.empty p hp) }⟩
theorem obsL_eq {n : Nat} {fa : List He.Fa} {fn : List He.DefD} {ts : List He.Tab} {tf : List He.Defn} {ex : Frag → Bool} {g : Nat → Option Obj} {s : Shared}
    (hg : ∀ a, g a = s.heap.get? a) : obsL n fa fn ts tf ex g = (hookL n fa fn ts tf ex).obs s := by
  have e : g = s.heap.get? := funext hg
  rw [e]
  rfl
end L2.Jk

set_option Elab.async false
set_option linter.all false
set_option maxRecDepth 100000
set_option maxHeartbeats 4000000
/-! int(text) of up to 4,300 digits, where the interpreter's limit on digits stands as it was. -/
namespace L2.Jk
open PySem PySem.W PySem.Spec PySem.Calls PySem.NumText PyProof.Rows PySem.W.KIN

theorem wp_textW {M : Model} {A : Around} {E : Value → Shared → Prop} {s : Shared} {Q : Value → Shared → Prop} {v : Value} {text : List Nat} {n : Int}
    (hd : s.heap.NoDigits) (hs : ¬ (text.takeWhile (· != 0)).length ≤ 640) (hr : (int_private% "readNumeral") 4300 10 (text.takeWhile (· != 0)) = (int_private% "Numeral.value") n)
    (ha : ((text.takeWhile (· != 0)).length == text.length) = true) (h : Q (.int n s.toks) { s with toks := s.toks + 1 }) :
    wpAny M A ((int_private% "intFromText") v text 10) Q E s := by
  obtain ⟨mc, hns, hnone⟩ := hd
  have key : wpAny M A (Builtin.intMaxStrDigits) (fun l s' => l = 4300 ∧ s' = s) E s := by
    unfold Builtin.intMaxStrDigits
    refine wpAny_bind (wpAny_nsGet hns ?_)
    rw [hnone]
    exact wpAny_pure ⟨rfl, rfl⟩
  obtain ⟨hp, g, d, tk, os⟩ := s
  show wpAny M A (do
    let limit ← if (text.takeWhile (· != 0)).length ≤ 640 then pure 0 else Builtin.intMaxStrDigits
    _) Q E _
  rw [if_neg hs]
  refine wpAny_bind (wpAny_mono key ?_ (fun _ _ x => x))
  rintro l s' ⟨rfl, rfl⟩
  dsimp only
  rw [hr]
  repeat (any_goals (first
    | assumption
    | (with_reducible refine wpAny_ite_true ha ?_)
    | wp_step))

set_option maxHeartbeats 4000000 in
theorem meets_textW {x : PySem.Str} {u : Tok} {n : Int} (hl : ¬ (numSeenOf x).length ≤ 640) (hl2 : x.length ≤ sizeLine) (hn : PySem.intText? x = some n) :
    Meets (Builtin.«int.__new__» ⟨[.type "int", .str x u], []⟩) (fun A R s => s.heap.NoDigits ∧ R (.ok (.ret (.int n s.toks))) { s with toks := s.toks + 1 }) :=
  .of_wp fun prog w A R s h => by
    have hr : (int_private% "readNumeral") 4300 10 (numSeenOf x) = (int_private% "Numeral.value") n ∧ ((numSeenOf x).length == (numTextOf x).length) = true := by
      rcases read4300 x hl2 with ⟨m, h1, h2, h3⟩ | ⟨h1, _⟩
      · rw [hn] at h1
        injection h1 with h1
        subst h1
        exact ⟨h3, h2⟩
      · rw [hn] at h1
        cases h1
    obtain ⟨hd, h⟩ := h
    have hd2 := Hid.mk hd
    obtain ⟨hp, g, d, tk, os⟩ := s
    have f1 := F.conv_sub_int
    have f2 := F.madeHere_int
    have f3 := str_int
    have f4 := str_idx
    have f5 := str_trunc
    have f6 : typeOf (.str x u) = pure (.type "str") := rfl
    have hk := Hid.mk (And.intro hl hr)
    clear hr hl hl2 hn hd
    repeat (any_goals (first
      | assumption
      | ((with_reducible show wpAny _ _ ((int_private% "intFromText") _ _ _) _ _ _); refine wp_textW hd2.out hk.out.1 hk.out.2.1 hk.out.2.2 ?_)
      | wp_step))
    all_goals first | exact ⟨_, rfl, h⟩ | skip
theorem call_textW {prog : Program} {w : World} {A : Around} {E : Value → Shared → Prop} {s : Shared} {Q : Value → Shared → Prop} {x : PySem.Str} {t : Tok} {n : Int} (hd : s.heap.NoDigits) (hn : PySem.intText? x = some n) (hl : x.length ≤ 640 ∨ (¬ (numSeenOf x).length ≤ 640 ∧ x.length ≤ 4300))
    (h : Q (.int n s.toks) { s with toks := s.toks + 1 }) : wpAny (model prog w) A (call (.type "int") [.str x t]) Q E s := by
  rcases hl with hl | ⟨hs, hl⟩
  · exact PySem.W.KIN.call_text hn hl h
  · exact call_int_1 (meets_textW hs (by rw [sizeLine_eq]; omega) hn) ⟨hd, rfl, h⟩
/-- a text that int() takes: short, or all of it digits -/
def IntOk (a : Str) : Prop := a.length ≤ 640 ∨ ((¬ (numSeenOf a).length ≤ 640) ∧ a.length ≤ 4300)
theorem intOk_digits {a : Str} (h : ∀ c ∈ a.cps.toList, c = 45 ∨ (48 ≤ c ∧ c ≤ 57)) (hl : a.length ≤ 4300) : IntOk a := by
  by_cases k : a.length ≤ 640
  · exact .inl k
  · refine .inr ⟨?_, hl⟩
    rw [(numText_signs h).2, Array.length_toList]
    exact k
theorem call_int_strW {X : Cx} (hd : X.base.NoDigits) : CallR X (.type "int") (fun xs H Q => ∃ a n, xs = [.str a] ∧ PySem.intText? a = some n ∧ IntOk a ∧ Q (.int n) H) := by
  intro pins s σ H xs us Q I rs h
  obtain ⟨a, n, rfl, hn, hl, h⟩ := h
  cases rs with
  | cons r1 rs =>
    cases rs
    obtain ⟨t, rfl⟩ := r1
    exact call_textW (hd.keeps I.bk) hn hl ⟨.int n, H, I.tok _, ⟨_, rfl⟩, h⟩
/-- what the head tells of the interpreter's own table -/
def digB (K : Frag) : Bool := match K.lookup cStatics with
  | some o => (match o.data with
    | .dict es _ => es.toList.all fun e => match e.key with
      | .str n _ => decide (n ≠ ("sys.int_max_str_digits" : Str))
      | _ => false
    | _ => false)
  | none => false
theorem noDigits_of {K : Frag} {base : Heap} (X : K.In base) (h : digB K = true) : base.NoDigits := by
  unfold digB at h
  split at h
  · rename_i o ho
    split at h
    · rename_i es ep hd
      have key : ∀ e ∈ es, ∃ n t, e.key = .str n t ∧ n ≠ ("sys.int_max_str_digits" : Str) := fun e he => by
        have k := List.all_eq_true.mp h e (by simpa using he)
        split at k
        · rename_i n t ek
          exact ⟨n, t, ek, of_decide_eq_true k⟩
        · cases k
      refine ⟨fun n => nsFind es n, ⟨o, es, ep, X _ _ ho, hd, fun e he => ?_, fun _ => rfl⟩, ?_⟩
      · obtain ⟨n, t, ek, _⟩ := key e he
        exact ⟨n, t, ek⟩
      · show nsFind es "sys.int_max_str_digits" = none
        unfold nsFind findBy
        have z : es.find? (fun e => e.key.isStr "sys.int_max_str_digits") = none := by
          rw [Array.find?_eq_none]
          intro e he
          obtain ⟨n, t, ek, ne⟩ := key e he
          rw [ek]
          simpa [Value.isStr] using ne
        rw [z]
        rfl
    · cases h
  · cases h
/-! ### a head whose facts see the interpreter's own table, too -/
def obsS (n : Nat) (fa : List He.Fa) (fn : List He.DefD) (ex : Frag → Bool) (g : Addr → Option Obj) : He.AlX := (He.obsT fa fn [] (He.frT g (He.asD g n ++ [cStatics])), ex (He.frT g (He.asD g n ++ [cStatics])))
def hookS (n : Nat) (fa : List He.Fa) (fn : List He.DefD) (ex : Frag → Bool) : PySem.W.Hook where
  α := He.AlX
  obs := fun s => obsS n fa fn ex s.heap.get?
  val := fun w => He.valX fn [] w
  says := fun w h => ∃ K : Frag, K.In h ∧ He.SaysT fa fn [] w K ∧ ex K = true
  of := fun _ _ e => ⟨_, He.frT_in, congrArg (fun z : He.AlX => z.1) e, congrArg (fun z : He.AlX => z.2) e⟩
  keeps := fun _ _ _ ⟨K, hK, c, m⟩ k => ⟨K, Frag.In.keeps hK k, c, m⟩
theorem obsS_eq {n : Nat} {fa : List He.Fa} {fn : List He.DefD} {ex : Frag → Bool} {g : Addr → Option Obj} {s : Shared} (h : ∀ a, g a = s.heap.get? a) : obsS n fa fn ex g = (hookS n fa fn ex).obs s := by
  have e : g = s.heap.get? := funext h
  rw [e] <;> rfl
end L2.Jk

set_option Elab.async false
set_option linter.all false
set_option maxRecDepth 100000
set_option maxHeartbeats 0
namespace L2.K08
open PySem PySem.W PySem.Spec PySem.Calls PyProof.Rows L2.Jk

def top (i : Nat) : Stmt := PySem.Challenge.pw_jointkeys_k08_arguments_by_their_names.main.body.getD i (.Pass ⟨0, 0, 0, 0⟩)
def SG : Str := "-./0123456789ABCDEFGHIJKLMNOPQRSTUVWXYZ_abcdefghijklmnopqrstuvwxyz"
def DG : Str := "0123456789"
abbrev BF (K : Frag) : Addr := He.ga K "BadField"
abbrev NV (K : Frag) : Addr := He.ga K "NoValue"
def cname : Nat → Str
  | 0 => "Word"
  | 1 => "Number"
  | 2 => "Fixed"
  | 3 => "Listed"
  | 4 => "Ended"
  | 5 => "Marked"
  | _ => ""
abbrev ca (K : Frag) (i : Nat) : Addr := He.ga K (cname i)
def fn : List He.DefD := [⟨("BadField", some "__init__"), "__init__", "BadField.__init__", defArgs (inClass (top 2) 0), defBody (inClass (top 2) 0), defScope (inClass (top 2) 0), [], []⟩,
  ⟨("BadField", some "told"), "told", "BadField.told", defArgs (inClass (top 2) 1), defBody (inClass (top 2) 1), defScope (inClass (top 2) 1), [], []⟩,
  ⟨("BadLayout", some "__init__"), "__init__", "BadLayout.__init__", defArgs (inClass (top 5) 0), defBody (inClass (top 5) 0), defScope (inClass (top 5) 0), [], []⟩,
  ⟨("BadLayout", some "told"), "told", "BadLayout.told", defArgs (inClass (top 5) 1), defBody (inClass (top 5) 1), defScope (inClass (top 5) 1), [], []⟩,
  ⟨("NoValue", some "__init__"), "__init__", "NoValue.__init__", defArgs (inClass (top 3) 0), defBody (inClass (top 3) 0), defScope (inClass (top 3) 0), [], []⟩,
  ⟨("NoValue", some "told"), "told", "NoValue.told", defArgs (inClass (top 3) 1), defBody (inClass (top 3) 1), defScope (inClass (top 3) 1), [], []⟩,
  ⟨("NoText", some "__init__"), "__init__", "NoText.__init__", defArgs (inClass (top 4) 0), defBody (inClass (top 4) 0), defScope (inClass (top 4) 0), [], []⟩,
  ⟨("NoText", some "told"), "told", "NoText.told", defArgs (inClass (top 4) 1), defBody (inClass (top 4) 1), defScope (inClass (top 4) 1), [], []⟩,
  ⟨("NoRow", some "__init__"), "__init__", "NoRow.__init__", defArgs (inClass (top 6) 0), defBody (inClass (top 6) 0), defScope (inClass (top 6) 0), [], []⟩,
  ⟨("NoRow", some "told"), "told", "NoRow.told", defArgs (inClass (top 6) 1), defBody (inClass (top 6) 1), defScope (inClass (top 6) 1), [], []⟩,
  ⟨("NoPlace", some "__init__"), "__init__", "NoPlace.__init__", defArgs (inClass (top 11) 0), defBody (inClass (top 11) 0), defScope (inClass (top 11) 0), [], []⟩,
  ⟨("NoPlace", some "told"), "told", "NoPlace.told", defArgs (inClass (top 11) 1), defBody (inClass (top 11) 1), defScope (inClass (top 11) 1), [], []⟩,
  ⟨("BadText", some "__init__"), "__init__", "BadText.__init__", defArgs (inClass (top 14) 0), defBody (inClass (top 14) 0), defScope (inClass (top 14) 0), [], []⟩,
  ⟨("BadText", some "told"), "told", "BadText.told", defArgs (inClass (top 14) 1), defBody (inClass (top 14) 1), defScope (inClass (top 14) 1), [], []⟩,
  ⟨("Large", some "__init__"), "__init__", "Large.__init__", defArgs (inClass (top 7) 0), defBody (inClass (top 7) 0), defScope (inClass (top 7) 0), [], []⟩,
  ⟨("Large", some "told"), "told", "Large.told", defArgs (inClass (top 7) 1), defBody (inClass (top 7) 1), defScope (inClass (top 7) 1), [], []⟩,
  ⟨("NoJoint", some "__init__"), "__init__", "NoJoint.__init__", defArgs (inClass (top 8) 0), defBody (inClass (top 8) 0), defScope (inClass (top 8) 0), [], []⟩,
  ⟨("NoJoint", some "told"), "told", "NoJoint.told", defArgs (inClass (top 8) 1), defBody (inClass (top 8) 1), defScope (inClass (top 8) 1), [], []⟩,
  ⟨("NotWhole", some "__init__"), "__init__", "NotWhole.__init__", defArgs (inClass (top 9) 0), defBody (inClass (top 9) 0), defScope (inClass (top 9) 0), [], []⟩,
  ⟨("NotWhole", some "told"), "told", "NotWhole.told", defArgs (inClass (top 9) 1), defBody (inClass (top 9) 1), defScope (inClass (top 9) 1), [], []⟩,
  ⟨("Hopeless", some "__init__"), "__init__", "Hopeless.__init__", defArgs (inClass (top 10) 0), defBody (inClass (top 10) 0), defScope (inClass (top 10) 0), [], []⟩,
  ⟨("Hopeless", some "told"), "told", "Hopeless.told", defArgs (inClass (top 10) 1), defBody (inClass (top 10) 1), defScope (inClass (top 10) 1), [], []⟩,
  ⟨("Unbounded", some "__init__"), "__init__", "Unbounded.__init__", defArgs (inClass (top 12) 0), defBody (inClass (top 12) 0), defScope (inClass (top 12) 0), [], []⟩,
  ⟨("Unbounded", some "told"), "told", "Unbounded.told", defArgs (inClass (top 12) 1), defBody (inClass (top 12) 1), defScope (inClass (top 12) 1), [], []⟩,
  ⟨("Clash", some "__init__"), "__init__", "Clash.__init__", defArgs (inClass (top 13) 0), defBody (inClass (top 13) 0), defScope (inClass (top 13) 0), [], []⟩,
  ⟨("Clash", some "told"), "told", "Clash.told", defArgs (inClass (top 13) 1), defBody (inClass (top 13) 1), defScope (inClass (top 13) 1), [], []⟩,
  ⟨("Word", some "__init__"), "__init__", "Word.__init__", defArgs (inClass (top 33) 0), defBody (inClass (top 33) 0), defScope (inClass (top 33) 0), [], []⟩,
  ⟨("Word", some "__eq__"), "__eq__", "Word.__eq__", defArgs (inClass (top 33) 1), defBody (inClass (top 33) 1), defScope (inClass (top 33) 1), [], []⟩,
  ⟨("Word", some "has_sign"), "has_sign", "Word.has_sign", defArgs (inClass (top 33) 7), defBody (inClass (top 33) 7), defScope (inClass (top 33) 7), [], []⟩,
  ⟨("Word", some "has_value"), "has_value", "Word.has_value", defArgs (inClass (top 33) 2), defBody (inClass (top 33) 2), defScope (inClass (top 33) 2), [], []⟩,
  ⟨("Word", some "text_for"), "text_for", "Word.text_for", defArgs (inClass (top 33) 3), defBody (inClass (top 33) 3), defScope (inClass (top 33) 3), [], []⟩,
  ⟨("Word", some "has_text"), "has_text", "Word.has_text", defArgs (inClass (top 33) 4), defBody (inClass (top 33) 4), defScope (inClass (top 33) 4), [], []⟩,
  ⟨("Word", some "value_for"), "value_for", "Word.value_for", defArgs (inClass (top 33) 5), defBody (inClass (top 33) 5), defScope (inClass (top 33) 5), [], []⟩,
  ⟨("Word", some "puts_before"), "puts_before", "Word.puts_before", defArgs (inClass (top 33) 6), defBody (inClass (top 33) 6), defScope (inClass (top 33) 6), [], []⟩,
  ⟨("Number", some "__init__"), "__init__", "Number.__init__", defArgs (inClass (top 34) 0), defBody (inClass (top 34) 0), defScope (inClass (top 34) 0), [], []⟩,
  ⟨("Number", some "__eq__"), "__eq__", "Number.__eq__", defArgs (inClass (top 34) 1), defBody (inClass (top 34) 1), defScope (inClass (top 34) 1), [], []⟩,
  ⟨("Number", some "has_sign"), "has_sign", "Number.has_sign", defArgs (inClass (top 34) 7), defBody (inClass (top 34) 7), defScope (inClass (top 34) 7), [], []⟩,
  ⟨("Number", some "has_value"), "has_value", "Number.has_value", defArgs (inClass (top 34) 2), defBody (inClass (top 34) 2), defScope (inClass (top 34) 2), [], []⟩,
  ⟨("Number", some "text_for"), "text_for", "Number.text_for", defArgs (inClass (top 34) 3), defBody (inClass (top 34) 3), defScope (inClass (top 34) 3), [], []⟩,
  ⟨("Number", some "has_text"), "has_text", "Number.has_text", defArgs (inClass (top 34) 4), defBody (inClass (top 34) 4), defScope (inClass (top 34) 4), [], []⟩,
  ⟨("Number", some "value_for"), "value_for", "Number.value_for", defArgs (inClass (top 34) 5), defBody (inClass (top 34) 5), defScope (inClass (top 34) 5), [], []⟩,
  ⟨("Number", some "puts_before"), "puts_before", "Number.puts_before", defArgs (inClass (top 34) 6), defBody (inClass (top 34) 6), defScope (inClass (top 34) 6), [], []⟩,
  ⟨("Fixed", some "__init__"), "__init__", "Fixed.__init__", defArgs (inClass (top 35) 0), defBody (inClass (top 35) 0), defScope (inClass (top 35) 0), [], []⟩,
  ⟨("Fixed", some "__eq__"), "__eq__", "Fixed.__eq__", defArgs (inClass (top 35) 1), defBody (inClass (top 35) 1), defScope (inClass (top 35) 1), [], []⟩,
  ⟨("Fixed", some "has_sign"), "has_sign", "Fixed.has_sign", defArgs (inClass (top 35) 7), defBody (inClass (top 35) 7), defScope (inClass (top 35) 7), [], []⟩,
  ⟨("Fixed", some "has_value"), "has_value", "Fixed.has_value", defArgs (inClass (top 35) 2), defBody (inClass (top 35) 2), defScope (inClass (top 35) 2), [], []⟩,
  ⟨("Fixed", some "text_for"), "text_for", "Fixed.text_for", defArgs (inClass (top 35) 3), defBody (inClass (top 35) 3), defScope (inClass (top 35) 3), [], []⟩,
  ⟨("Fixed", some "has_text"), "has_text", "Fixed.has_text", defArgs (inClass (top 35) 4), defBody (inClass (top 35) 4), defScope (inClass (top 35) 4), [], []⟩,
  ⟨("Fixed", some "value_for"), "value_for", "Fixed.value_for", defArgs (inClass (top 35) 5), defBody (inClass (top 35) 5), defScope (inClass (top 35) 5), [], []⟩,
  ⟨("Fixed", some "puts_before"), "puts_before", "Fixed.puts_before", defArgs (inClass (top 35) 6), defBody (inClass (top 35) 6), defScope (inClass (top 35) 6), [], []⟩,
  ⟨("Listed", some "__init__"), "__init__", "Listed.__init__", defArgs (inClass (top 36) 0), defBody (inClass (top 36) 0), defScope (inClass (top 36) 0), [], []⟩,
  ⟨("Listed", some "__eq__"), "__eq__", "Listed.__eq__", defArgs (inClass (top 36) 1), defBody (inClass (top 36) 1), defScope (inClass (top 36) 1), [], []⟩,
  ⟨("Listed", some "has_sign"), "has_sign", "Listed.has_sign", defArgs (inClass (top 36) 7), defBody (inClass (top 36) 7), defScope (inClass (top 36) 7), [], []⟩,
  ⟨("Listed", some "has_value"), "has_value", "Listed.has_value", defArgs (inClass (top 36) 2), defBody (inClass (top 36) 2), defScope (inClass (top 36) 2), [], []⟩,
  ⟨("Listed", some "text_for"), "text_for", "Listed.text_for", defArgs (inClass (top 36) 3), defBody (inClass (top 36) 3), defScope (inClass (top 36) 3), [], []⟩,
  ⟨("Listed", some "has_text"), "has_text", "Listed.has_text", defArgs (inClass (top 36) 4), defBody (inClass (top 36) 4), defScope (inClass (top 36) 4), [], []⟩,
  ⟨("Listed", some "value_for"), "value_for", "Listed.value_for", defArgs (inClass (top 36) 5), defBody (inClass (top 36) 5), defScope (inClass (top 36) 5), [], []⟩,
  ⟨("Listed", some "puts_before"), "puts_before", "Listed.puts_before", defArgs (inClass (top 36) 6), defBody (inClass (top 36) 6), defScope (inClass (top 36) 6), [], []⟩,
  ⟨("Ended", some "__init__"), "__init__", "Ended.__init__", defArgs (inClass (top 37) 0), defBody (inClass (top 37) 0), defScope (inClass (top 37) 0), [], []⟩,
  ⟨("Ended", some "__eq__"), "__eq__", "Ended.__eq__", defArgs (inClass (top 37) 1), defBody (inClass (top 37) 1), defScope (inClass (top 37) 1), [], []⟩,
  ⟨("Ended", some "has_sign"), "has_sign", "Ended.has_sign", defArgs (inClass (top 37) 7), defBody (inClass (top 37) 7), defScope (inClass (top 37) 7), [], []⟩,
  ⟨("Ended", some "has_value"), "has_value", "Ended.has_value", defArgs (inClass (top 37) 2), defBody (inClass (top 37) 2), defScope (inClass (top 37) 2), [], []⟩,
  ⟨("Ended", some "text_for"), "text_for", "Ended.text_for", defArgs (inClass (top 37) 3), defBody (inClass (top 37) 3), defScope (inClass (top 37) 3), [], []⟩,
  ⟨("Ended", some "has_text"), "has_text", "Ended.has_text", defArgs (inClass (top 37) 4), defBody (inClass (top 37) 4), defScope (inClass (top 37) 4), [], []⟩,
  ⟨("Ended", some "value_for"), "value_for", "Ended.value_for", defArgs (inClass (top 37) 5), defBody (inClass (top 37) 5), defScope (inClass (top 37) 5), [], []⟩,
  ⟨("Ended", some "puts_before"), "puts_before", "Ended.puts_before", defArgs (inClass (top 37) 6), defBody (inClass (top 37) 6), defScope (inClass (top 37) 6), [], []⟩,
  ⟨("Marked", some "__init__"), "__init__", "Marked.__init__", defArgs (inClass (top 38) 0), defBody (inClass (top 38) 0), defScope (inClass (top 38) 0), [], []⟩,
  ⟨("Marked", some "__eq__"), "__eq__", "Marked.__eq__", defArgs (inClass (top 38) 1), defBody (inClass (top 38) 1), defScope (inClass (top 38) 1), [], []⟩,
  ⟨("Marked", some "has_value"), "has_value", "Marked.has_value", defArgs (inClass (top 38) 2), defBody (inClass (top 38) 2), defScope (inClass (top 38) 2), [], []⟩,
  ⟨("Marked", some "text_for"), "text_for", "Marked.text_for", defArgs (inClass (top 38) 3), defBody (inClass (top 38) 3), defScope (inClass (top 38) 3), [], []⟩,
  ⟨("Marked", some "has_text"), "has_text", "Marked.has_text", defArgs (inClass (top 38) 4), defBody (inClass (top 38) 4), defScope (inClass (top 38) 4), [], []⟩,
  ⟨("Marked", some "value_for"), "value_for", "Marked.value_for", defArgs (inClass (top 38) 5), defBody (inClass (top 38) 5), defScope (inClass (top 38) 5), [], []⟩,
  ⟨("Marked", some "puts_before"), "puts_before", "Marked.puts_before", defArgs (inClass (top 38) 6), defBody (inClass (top 38) 6), defScope (inClass (top 38) 6), [], []⟩,
  ⟨("is_made_of", none), "is_made_of", "is_made_of", defArgs (top 18), defBody (top 18), defScope (top 18), [], []⟩,
  ⟨("is_sign", none), "is_sign", "is_sign", defArgs (top 19), defBody (top 19), defScope (top 19), [], []⟩,
  ⟨("are_signs", none), "are_signs", "are_signs", defArgs (top 20), defBody (top 20), defScope (top 20), [], []⟩,
  ⟨("is_number", none), "is_number", "is_number", defArgs (top 22), defBody (top 22), defScope (top 22), [], []⟩,
  ⟨("is_numeral", none), "is_numeral", "is_numeral", defArgs (top 23), defBody (top 23), defScope (top 23), [], []⟩,
  ⟨("digits_of", none), "digits_of", "digits_of", defArgs (top 24), defBody (top 24), defScope (top 24), [], []⟩,
  ⟨("number_of", none), "number_of", "number_of", defArgs (top 25), defBody (top 25), defScope (top 25), [], []⟩,
  ⟨("greatest_of", none), "greatest_of", "greatest_of", defArgs (top 26), defBody (top 26), defScope (top 26), [], []⟩,
  ⟨("check_signs", none), "check_signs", "check_signs", defArgs (top 28), defBody (top 28), defScope (top 28), [], []⟩,
  ⟨("check_span", none), "check_span", "check_span", defArgs (top 29), defBody (top 29), defScope (top 29), [], []⟩,
  ⟨("is_within", none), "is_within", "is_within", defArgs (top 30), defBody (top 30), defScope (top 30), [], []⟩,
  ⟨("is_word_of", none), "is_word_of", "is_word_of", defArgs (top 31), defBody (top 31), defScope (top 31), [], []⟩,
  ⟨("has_words_with", none), "has_words_with", "has_words_with", defArgs (top 32), defBody (top 32), defScope (top 32), [], []⟩,
  ⟨("check_value", none), "check_value", "check_value", defArgs (top 39), defBody (top 39), defScope (top 39), [], []⟩,
  ⟨("text_of", none), "text_of", "text_of", defArgs (top 40), defBody (top 40), defScope (top 40), [], []⟩,
  ⟨("value_of", none), "value_of", "value_of", defArgs (top 41), defBody (top 41), defScope (top 41), [], []⟩,
  ⟨("is_before", none), "is_before", "is_before", defArgs (top 42), defBody (top 42), defScope (top 42), [], []⟩,
  ⟨("least_texts", none), "least_texts", "least_texts", defArgs (top 44), defBody (top 44), defScope (top 44), [], []⟩,
  ⟨("shorter_first", none), "shorter_first", "shorter_first", defArgs (top 45), defBody (top 45), defScope (top 45), [], []⟩,
  ⟨("least_numbers", none), "least_numbers", "least_numbers", defArgs (top 46), defBody (top 46), defScope (top 46), [], []⟩,
  ⟨("least_words", none), "least_words", "least_words", defArgs (top 47), defBody (top 47), defScope (top 47), [], []⟩,
  ⟨("longer_words", none), "longer_words", "longer_words", defArgs (top 48), defBody (top 48), defScope (top 48), [], []⟩,
  ⟨("has_beginnings_first", none), "has_beginnings_first", "has_beginnings_first", defArgs (top 49), defBody (top 49), defScope (top 49), [], []⟩,
  ⟨("is_whole", none), "is_whole", "is_whole", defArgs (top 50), defBody (top 50), defScope (top 50), [], []⟩,
  ⟨("has_whole_ends", none), "has_whole_ends", "has_whole_ends", defArgs (top 51), defBody (top 51), defScope (top 51), [], []⟩,
  ⟨("begins_with_one", none), "begins_with_one", "begins_with_one", defArgs (top 52), defBody (top 52), defScope (top 52), [], []⟩,
  ⟨("_law_state", none), "_law_state", "_law_state", defArgs (top 54), defBody (top 54), defScope (top 54), [], []⟩,
  ⟨("_law_digit", none), "_law_digit", "_law_digit", defArgs (top 55), defBody (top 55), defScope (top 55), [], []⟩,
  ⟨("_law_errors_right", none), "_law_errors_right", "_law_errors_right", defArgs (top 56), defBody (top 56), defScope (top 56), [], []⟩,
  ⟨("_law_fields", none), "_law_fields", "_law_fields", defArgs (top 57), defBody (top 57), defScope (top 57), [], []⟩,
  ⟨("_law_kept_right", none), "_law_kept_right", "_law_kept_right", defArgs (top 58), defBody (top 58), defScope (top 58), [], []⟩,
  ⟨("_law_calls_right", none), "_law_calls_right", "_law_calls_right", defArgs (top 59), defBody (top 59), defScope (top 59), [], []⟩,
  ⟨("law", none), "law", "law", defArgs (top 60), defBody (top 60), defScope (top 60), [], []⟩]

def fa : List He.Fa := [.glo "JointError", .glo "BadField", .glo "BadLayout", .glo "NoValue", .glo "NoText", .glo "NoRow", .glo "NoPlace", .glo "BadText", .glo "Large", .glo "NoJoint", .glo "NotWhole", .glo "Hopeless", .glo "Unbounded", .glo "Clash", .glo "Word", .glo "Number", .glo "Fixed", .glo "Listed", .glo "Ended", .glo "Marked", .glo "is_made_of", .glo "is_sign", .glo "are_signs", .glo "is_number", .glo "is_numeral", .glo "digits_of", .glo "number_of", .glo "greatest_of", .glo "check_signs", .glo "check_span", .glo "is_within", .glo "is_word_of", .glo "has_words_with", .glo "check_value", .glo "text_of", .glo "value_of", .glo "is_before", .glo "least_texts", .glo "shorter_first", .glo "least_numbers", .glo "least_words", .glo "longer_words", .glo "has_beginnings_first", .glo "is_whole", .glo "has_whole_ends", .glo "begins_with_one", .glo "_law_state", .glo "_law_digit", .glo "_law_errors_right", .glo "_law_fields", .glo "_law_kept_right", .glo "_law_calls_right", .glo "law", .free "abs", .free "int", .free "bool", .free "isinstance", .free "range", .free "len", .free "set", .free "type", .free "str", .free "reversed", .free "tuple", .free "list", .free "any", .free "all", .free "sorted", .free "min", .str "SIGNS" SG, .str "DIGITS" DG, .cls "Word", .mkr "Word", .noat "Word" "signs", .noat "Word" "least", .noat "Word" "most", .meth "Word" "has_sign", .meth "Word" "has_value", .meth "Word" "text_for", .meth "Word" "has_text", .meth "Word" "value_for", .meth "Word" "puts_before", .cls "Number", .mkr "Number", .noat "Number" "least", .noat "Number" "most", .meth "Number" "has_sign", .meth "Number" "has_value", .meth "Number" "text_for", .meth "Number" "has_text", .meth "Number" "value_for", .meth "Number" "puts_before", .cls "Fixed", .mkr "Fixed", .noat "Fixed" "width", .meth "Fixed" "has_sign", .meth "Fixed" "has_value", .meth "Fixed" "text_for", .meth "Fixed" "has_text", .meth "Fixed" "value_for", .meth "Fixed" "puts_before", .cls "Listed", .mkr "Listed", .noat "Listed" "texts", .meth "Listed" "has_sign", .meth "Listed" "has_value", .meth "Listed" "text_for", .meth "Listed" "has_text", .meth "Listed" "value_for", .meth "Listed" "puts_before", .cls "Ended", .mkr "Ended", .noat "Ended" "signs", .noat "Ended" "sign", .noat "Ended" "least", .noat "Ended" "most", .meth "Ended" "has_sign", .meth "Ended" "has_value", .meth "Ended" "text_for", .meth "Ended" "has_text", .meth "Ended" "value_for", .meth "Ended" "puts_before", .cls "Marked", .mkr "Marked", .noat "Marked" "none", .noat "Marked" "mark", .noat "Marked" "field", .meth "Marked" "has_value", .meth "Marked" "text_for", .meth "Marked" "has_text", .meth "Marked" "value_for", .meth "Marked" "puts_before"]

def kcB (K : Frag) (C : Addr) : Bool := He.eqO (findIn K (.ref C) "__class__") (some (some (.builtin "object.__class__"))) && (decide (mroIn K C (.type "object") = some true) && (notFirst K C (.type "tuple") && (eqcB K C && keepIn K (.ref (He.ma K C "__eq__")))))
def erL : List (Str × List Str) := [("BadField", ["what"]), ("BadLayout", ["what"]), ("NoValue", ["value"]), ("NoText", ["text"]), ("NoRow", ["place"]), ("NoPlace", ["place"]), ("BadText", ["place"]), ("Large", ["count"]), ("NoJoint", ["k"]), ("NotWhole", ["index"]), ("Hopeless", ["index"]), ("Unbounded", ["index"]), ("Clash", ["one", "other"])]
def exE (K : Frag) : Bool := erL.all fun e => errB K (He.ga K e.1) e.2 ["told"] && (He.eqO (findIn K (.ref (He.ga K e.1)) "__init__") (some (some (.ref (He.ma K (He.ga K e.1) "__init__")))) && (decide (typeIn K (.ref (He.ma K (He.ga K e.1) "__init__")) = some (.type "function")) && decide (exmOne K (.ref (He.ga K e.1)) (.ref (He.ga K e.1)) = some true)))
def ex (K : Frag) : Bool := exE K && ((errB K (BF K) ["what"] ["told"] && (He.eqO (findIn K (.ref (BF K)) "__init__") (some (some (.ref (He.ma K (BF K) "__init__")))) && (decide (typeIn K (.ref (He.ma K (BF K) "__init__")) = some (.type "function")) &&
  (decide (exmOne K (.ref (BF K)) (.ref (BF K)) = some true) && (He.eqO (specialIn K (.builtin "object.__class__") "__get__") (some (some (.builtin "getset_descriptor.__get__"))) && decide (takesIn K (.builtin "object.__class__") = some true)))))) &&
  (List.range 6).all fun i => kcB K (ca K i) && (decide (kitOne K (.type "NoneType") (.ref (ca K i)) = some false) && (decide (kitOne K (.type "str") (.ref (ca K i)) = some false) && (decide (kitOne K (.ref (ca K i)) (.type "str") = some false) &&
  (List.range 6).all fun j => decide (kitOne K (.ref (ca K i)) (.ref (ca K j)) = some (decide (i = j)))))))
abbrev R : PySem.W.OpenRow := PySem.W.OpenLaw.row PySem.Challenge.rw_jointkeys_k08_arguments_by_their_names
abbrev hk : PySem.W.Hook := hookL 4 fa fn [] [("shorter_first", none)] ex
def ob (s : PySem.W.SharedT) : He.AlX := obsL 4 fa fn [] [("shorter_first", none)] ex (HandSHeadRun.getT s)
theorem ob_eq (s : PySem.W.SharedT) : ob s = hk.obs s.abs := obsL_eq (HandSHeadRun.getT_eq s)
def names : List PySem.Str := (["__name__", "JointError", "BadField", "NoValue", "NoText", "BadLayout", "NoRow", "Large", "NoJoint", "NotWhole", "Hopeless", "NoPlace", "Unbounded", "Clash", "BadText", "SIGNS", "DIGITS", "is_made_of", "is_sign", "are_signs", "is_number", "is_numeral", "digits_of", "number_of", "greatest_of", "check_signs", "check_span", "is_within", "is_word_of", "has_words_with"] : List PySem.Str) ++ (["Word", "Number", "Fixed", "Listed", "Ended", "Marked", "check_value", "text_of", "value_of", "is_before", "least_texts", "shorter_first", "least_numbers", "least_words", "longer_words", "has_beginnings_first", "is_whole", "has_whole_ends", "begins_with_one", "_law_state", "_law_digit", "_law_errors_right", "_law_fields", "_law_kept_right", "_law_calls_right"] : List PySem.Str)
theorem run (w : World) : HandSHeadRun.RunEq R (PySem.W.view R.prog [60]) hk ob 8000 names w := by
  intro os
  kernel_rfl
end L2.K08

set_option Elab.async false
set_option linter.all false
set_option maxRecDepth 100000
set_option maxHeartbeats 4000000
/-! set(..) of texts: how many members it has. -/
namespace L2.Jk
open PySem PySem.W PySem.Spec PySem.Calls PyProof.Rows

/-- how many of the first i are new -/
def newS (ks : Nat → Str) : Nat → Nat
  | 0 => 0
  | i + 1 => if (List.range i).any (fun j => ks j == ks i) then newS ks i else newS ks i + 1
theorem newS_le (ks : Nat → Str) : ∀ i, newS ks i ≤ i
  | 0 => Nat.le_refl _
  | i + 1 => by
    have := newS_le ks i
    unfold newS
    split <;> omega
section
variable {prog : Program} {w : World} {A : Around} {R : Result → Shared → Prop} {I : Addr} {fp wr : List Addr} {G : Array GenState → Array GenState → Prop} {n : Nat} {P : Nat → Value → Prop} {Z : Nat → Shared → Prop}
/-- what the set holds behind i items -/
def HeldS (prog : Program) (w : World) (h : Heap) (S : Addr) (ks : Nat → Str) (i : Nat) : Prop := h.SetOf (PySem.strKind prog w) S (fun k => (List.range i).any fun j => ks j == k) (newS ks i)
theorem HeldS.at {h h' : Heap} {S : Addr} {ks : Nat → Str} {i : Nat} (H : HeldS prog w h S ks i) (k : ∀ o, h.get? S = some o → h'.get? S = some o) : HeldS prog w h' S ks i := by
  obtain ⟨o, es, ep, t, ho, r⟩ := H
  exact ⟨o, es, ep, t, k o ho, r⟩
theorem set_loop (W : WalksS prog w A.in1 I fp wr G n P Z) (S : Addr) (hS : S ∉ fp) (ks : Nat → Str) (hn : n + 1 < scanBound) (hv : ∀ i v, P i v → ∃ t, v = .str (ks i) t) :
    ∀ (k i : Nat) (s : Shared), n - i = k → i ≤ n → Z i s → HeldS prog w s.heap S ks i →
      (∀ s', Moved (S :: wr) G s s' → HeldS prog w s'.heap S ks n → R (.ok (.ret .none)) s') → codeAny (model prog w) A (.builtin "set.update.loop" ⟨[.ref S, .ref I], []⟩) R s := by
  have sw : S ∉ wr := fun z => hS (W.sub _ z)
  have up : ∀ b ∈ wr, b ∈ S :: wr := fun b z => List.mem_cons_of_mem _ z
  intro k
  induction k with
  | zero =>
    intro i s hk hi hz H hR
    obtain rfl : i = n := by omega
    refine codeAny_builtin PyProof.Rows.F.entry_set_update_loop ?_
    rw [Around.under_plainId PyProof.Rows.F.plain_set_update_loop _]
    show wpAny _ A.in1 (pyNext (.ref I) >>= _) _ _ s
    refine wpAny_bind (W.done s _ _ hz fun s' m => ?_)
    show wpAny _ A.in1 (ret Value.none) _ _ s'
    exact wpAny_pure (hR s' (m.mono up) (H.at fun o e => m.heap S o sw e))
  | succ k ih =>
    intro i s hk hi hz H hR
    have lt : i < n := by omega
    refine codeAny_builtin PyProof.Rows.F.entry_set_update_loop ?_
    rw [Around.under_plainId PyProof.Rows.F.plain_set_update_loop _]
    show wpAny _ A.in1 (pyNext (.ref I) >>= _) _ _ s
    refine wpAny_bind (W.item i s _ _ lt hz fun v s' hp hz' m => ?_)
    obtain ⟨t, rfl⟩ := hv i v hp
    have H' : HeldS prog w s'.heap S ks i := H.at fun o e => m.heap S o sw e
    show wpAny _ A.in1 (holding [Value.str (ks i) t] (setAdd S (.str (ks i) t)) >>= _) _ _ s'
    refine wpAny_bind (wpAny_holding ?_)
    unfold setAdd
    refine wpAny_holding (wpAny_bind ((PySem.strKind prog w).pyHash (k := ks i) (strKind_is _ _ _ _) ?_))
    have few := newS_le ks i
    refine wpAny_setAddHashed_of (knd := PySem.strKind prog w) (s := { s' with toks := s'.toks + 1 }) (strKind_is _ _ _ _) rfl H' (by omega) fun h' sb H2 => ?_
    have H3 : HeldS prog w h' S ks (i + 1) := by
      refine PyProof.Rows.SetOf_congr H2 (fun q => ?_) ?_
      · show ((List.range i).any (fun j => ks j == q) || decide (q = ks i)) = (List.range (i + 1)).any fun j => ks j == q
        rw [List.range_succ, List.any_append]
        congr 1
        by_cases e : q = ks i
        · subst e
          simp
        · have e2 : (ks i == q) = false := beq_eq_false_iff_ne.mpr fun z => e z.symm
          simp [e, e2]
      · show (if (List.range i).any (fun j => ks j == ks i) = true then newS ks i else newS ks i + 1) = newS ks (i + 1)
        rfl
    refine wpAny_pure ⟨plainId_quiet PyProof.Rows.F.plain_set_update_loop _, ih (i + 1) _ (by omega) lt (W.frame _ s' _ _ hz' (Nat.le_succ _) fun b hb o e => ?_) H3 fun s2 m2 H4 => ?_⟩
    · rw [sb.2 b (fun z : b = S => hS (z ▸ hb))]
      exact e
    · refine hR s2 (Moved.trans W.gtrans ((m.mono up).then_heap (Nat.le_succ _) fun b o hb e => ?_) m2) H4
      rw [sb.2 b (fun z : b = S => hb (z ▸ List.mem_cons_self))]
      exact e
end
theorem sign_at {x : Str} {i : Nat} {v : Value} (z : SignAt x i v) : ∃ t, v = .str ⟨#[x.cps.getD i 0]⟩ t := by
  obtain ⟨c, t, h, e⟩ := z
  refine ⟨t, ?_⟩
  subst e
  rw [Array.getD_eq_getD_getElem?, h]
  rfl
end L2.Jk

set_option Elab.async false
set_option linter.all false
set_option maxRecDepth 100000
set_option maxHeartbeats 8000000
namespace L2.Jk
open PySem PySem.W PySem.Spec PySem.Calls PyProof.Rows
section
variable {prog : Program} {w : World} {A : Around} {E : Value → Shared → Prop} {s : Shared}
set_option maxHeartbeats 8000000 in
theorem set_callStr {x : Str} {tk0 : Tok} {Q : Value → Shared → Prop} (hh : A.handled = none)  (hn : x.cps.size + 1 < scanBound)
    (h : ∀ (h' : Heap) (tk : Nat), HeldS prog w h' s.heap.objs.size (fun i => ⟨#[x.cps.getD i 0]⟩) (x.cps.size) → (∀ b o, b < s.heap.objs.size → s.heap.get? b = some o → h'.get? b = some o) → Q (.ref s.heap.objs.size) { s with heap := h', toks := tk }) :
    wpAny (model prog w) A (call (.type "set") [(.str x tk0)]) Q E s := by
  obtain ⟨c, tl, hmro⟩ := PySem.F.called_set.mro
  have c1 := PySem.F.called_set.made
  have c2 := PySem.F.called_set.sub
  refine wpAny_call (codeAny_of_tree ?_)
  show wpAny _ _ (callAny (.type "set") _) _ _ _
  refine wpAny_pure ⟨Code.quiet_builtin _ (by decide +kernel), codeAny_builtin PySem.F.entry_type_call ?_⟩
  rw [Around.under_plain (weight_type_call_type "set" [(.str x tk0)] []) rfl]
  have c3 := PySem.F.called_set.notType
  have c4 := PySem.F.called_set.canCreate
  have c5 := PySem.F.typeCall_set_1 (.str x tk0)
  repeat (any_goals (first | assumption | wp_step))
  refine codeAny_mono (code_set_new_1 (.str x tk0) (E := E) (Q₁ := fun ob s₁ => ∃ led : Bool, ob = .ref s.heap.objs.size ∧ s₁ = { s with heap := s.heap.push { cls := .type "set", dict := none, data := .set #[] 0 (.fresh 0 0 led) } }) fun led => ⟨led, rfl, rfl⟩) fun r s₁ hr => ?_
  cases r with
  | error e => exact hr
  | ok fl =>
    cases fl with
    | ret ob =>
      obtain ⟨led, rfl, rfl⟩ := hr
      have hS : (s.heap.push { cls := .type "set", dict := none, data := .set #[] 0 (.fresh 0 0 led) }).get? s.heap.objs.size = some { cls := .type "set", dict := none, data := .set #[] 0 (.fresh 0 0 led) } := Heap.get?_push_size _ rfl
      have hT : Shared.TypeIs { s with heap := s.heap.push { cls := .type "set", dict := none, data := .set #[] 0 (.fresh 0 0 led) } } (.ref s.heap.objs.size) "set" := ⟨_, hS, rfl⟩
      have c6 := PySem.F.called_set.init.lookup
      have c7 := PySem.F.called_set.init.bind (.ref s.heap.objs.size)
      repeat (any_goals (first | assumption | wp_step))
      refine codeAny_mono (codeAny_call_builtin (R := wants (fun r s₂ => r = .none ∧ ∃ h' tk, s₂ = { s with heap := h', toks := tk } ∧ HeldS prog w h' s.heap.objs.size (fun i => ⟨#[x.cps.getD i 0]⟩) (x.cps.size) ∧
          (∀ b o, b < s.heap.objs.size → s.heap.get? b = some o → h'.get? b = some o)) E) PySem.F.called_set.init.plain PySem.F.entry_set_init (check_set_init_1 hT ?_)) fun r₂ s₂ hr₂ => ?_
      · have a1 := PySem.F.sub_str_set
        have a2 := PySem.F.sub_str_frozenset
        have a3 : (Value.type "str" == Value.type "dict") = false := by decide
        unfold Builtin.«set.__init__» noKeywords Builtin.Frozenset.updateFrom
        generalize hPI : pyIter = PI
        wp_walk
        subst hPI
        refine wpAny_pyIter_strU ?_
        refine wpAny_bind (wpAny_runValue ?_)
        have sf : s.heap.objs.size ∉ [(s.heap.push { cls := .type "set", dict := none, data := .set #[] 0 (.fresh 0 0 led) }).objs.size] := by
          rw [Heap.size_push]
          simp only [List.mem_cons, List.mem_singleton, List.not_mem_nil, or_false, not_or]
          exact Nat.ne_of_lt (Nat.lt_succ_self _)
        have h3 : A.in1.in1.in1.handled = none := by simp [hh]
        have sv : ∀ i v, SignAt x i v → ∃ t, v = .str ⟨#[x.cps.getD i 0]⟩ t := fun i v z => sign_at z
        have got : ∀ T, ((s.heap.push { cls := .type "set", dict := none, data := .set #[] 0 (.fresh 0 0 led) }).push { cls := .type T, data := .fields #[.str x tk0, .int 0 0] }).IsStrIter (s.heap.push { cls := .type "set", dict := none, data := .set #[] 0 (.fresh 0 0 led) }).objs.size T x tk0 0 := fun T => ⟨_, Heap.get?_push_size _ rfl, rfl, rfl⟩
        cases ha : x.cps.all (· < 128) with
        | false =>
          rw [show strIterType x = "str_iterator" by unfold strIterType; rw [ha]; rfl]
          refine set_loop ((Walks.strWide h3 _ x tk0).toS) s.heap.objs.size sf _ hn sv (x.cps.size - 0) 0 _ (by omega) (Nat.zero_le _) (got _) (PyProof.Rows.SetOf_congr ((PyProof.Rows.setObjOf_fresh (knd := PySem.strKind prog w) led).setOf (Heap.get?_push_of_some _ hS) (by unfold scanBound; omega)) (fun _ => rfl) rfl) ?hR
          case hR =>
            intro s' m H'
            obtain ⟨h', g', d', tk', os'⟩ := s'
            obtain rfl : g' = s.gens := m.gens
            obtain rfl : d' = s.drawn := m.drawn
            obtain rfl : os' = s.os := m.os
            show wpAny _ _ _ _ _ _
            refine wpAny_pure ?_
            show wpAny _ _ (ret Value.none) _ _ _
            refine wpAny_pure ⟨rfl, h', tk', rfl, H', fun b o hb e => ?_⟩
            have b1 : b ≠ s.heap.objs.size := Nat.ne_of_lt hb
            have b2 : b ≠ (s.heap.push { cls := .type "set", dict := none, data := .set #[] 0 (.fresh 0 0 led) }).objs.size := by
              rw [Heap.size_push]
              exact Nat.ne_of_lt (Nat.lt_succ_of_lt hb)
            exact m.heap b o (by simp only [List.mem_cons, List.mem_singleton, List.not_mem_nil, or_false, not_or]; exact ⟨b1, b2⟩) (Heap.get?_push_of_some _ (Heap.get?_push_of_some _ e))
        | true =>
          rw [show strIterType x = "str_ascii_iterator" by unfold strIterType; rw [ha]; rfl]
          refine set_loop ((Walks.strAscii h3 _ x tk0).toS) s.heap.objs.size sf _ hn sv (x.cps.size - 0) 0 _ (by omega) (Nat.zero_le _) (got _) (PyProof.Rows.SetOf_congr ((PyProof.Rows.setObjOf_fresh (knd := PySem.strKind prog w) led).setOf (Heap.get?_push_of_some _ hS) (by unfold scanBound; omega)) (fun _ => rfl) rfl) ?hR
          case hR =>
            intro s' m H'
            obtain ⟨h', g', d', tk', os'⟩ := s'
            obtain rfl : g' = s.gens := m.gens
            obtain rfl : d' = s.drawn := m.drawn
            obtain rfl : os' = s.os := m.os
            show wpAny _ _ _ _ _ _
            refine wpAny_pure ?_
            show wpAny _ _ (ret Value.none) _ _ _
            refine wpAny_pure ⟨rfl, h', tk', rfl, H', fun b o hb e => ?_⟩
            have b1 : b ≠ s.heap.objs.size := Nat.ne_of_lt hb
            have b2 : b ≠ (s.heap.push { cls := .type "set", dict := none, data := .set #[] 0 (.fresh 0 0 led) }).objs.size := by
              rw [Heap.size_push]
              exact Nat.ne_of_lt (Nat.lt_succ_of_lt hb)
            exact m.heap b o (by simp only [List.mem_cons, List.mem_singleton, List.not_mem_nil, or_false, not_or]; exact ⟨b1, b2⟩) (Heap.get?_push_of_some _ (Heap.get?_push_of_some _ e))

      · cases r₂ with
        | error e => exact hr₂
        | ok f2 =>
          cases f2 with
          | ret r =>
            obtain ⟨rfl, h', tk, rfl, H', k'⟩ := hr₂
            repeat (any_goals (first | assumption | wp_step))
            exact h _ _ H' k'
          | _ => exact hr₂.elim
    | _ => exact hr.elim
end
end L2.Jk

set_option Elab.async false
set_option linter.all false
set_option maxRecDepth 100000
set_option maxHeartbeats 8000000
namespace L2.Jk
open PySem PySem.W PySem.Spec PySem.Calls PyProof.Rows
section
variable {prog : Program} {w : World} {A : Around} {E : Value → Shared → Prop} {s : Shared}
set_option maxHeartbeats 8000000 in
theorem set_callList {l : Addr} {its : Array Value} {ks : Nat → Str} {Q : Value → Shared → Prop} (hh : A.handled = none) (hl : s.heap.IsList l its) (hk : ∀ i v, its[i]? = some v → ∃ t : Tok, v = Value.str (ks i) t) (hn : its.size + 1 < scanBound)
    (h : ∀ (h' : Heap) (tk : Nat), HeldS prog w h' s.heap.objs.size (ks) (its.size) → (∀ b o, b < s.heap.objs.size → s.heap.get? b = some o → h'.get? b = some o) → Q (.ref s.heap.objs.size) { s with heap := h', toks := tk }) :
    wpAny (model prog w) A (call (.type "set") [(.ref l)]) Q E s := by
  obtain ⟨c, tl, hmro⟩ := PySem.F.called_set.mro
  have c1 := PySem.F.called_set.made
  have c2 := PySem.F.called_set.sub
  refine wpAny_call (codeAny_of_tree ?_)
  show wpAny _ _ (callAny (.type "set") _) _ _ _
  refine wpAny_pure ⟨Code.quiet_builtin _ (by decide +kernel), codeAny_builtin PySem.F.entry_type_call ?_⟩
  rw [Around.under_plain (weight_type_call_type "set" [(.ref l)] []) rfl]
  have c3 := PySem.F.called_set.notType
  have c4 := PySem.F.called_set.canCreate
  have c5 := PySem.F.typeCall_set_1 (.ref l)
  repeat (any_goals (first | assumption | wp_step))
  refine codeAny_mono (code_set_new_1 (.ref l) (E := E) (Q₁ := fun ob s₁ => ∃ led : Bool, ob = .ref s.heap.objs.size ∧ s₁ = { s with heap := s.heap.push { cls := .type "set", dict := none, data := .set #[] 0 (.fresh 0 0 led) } }) fun led => ⟨led, rfl, rfl⟩) fun r s₁ hr => ?_
  cases r with
  | error e => exact hr
  | ok fl =>
    cases fl with
    | ret ob =>
      obtain ⟨led, rfl, rfl⟩ := hr
      have hS : (s.heap.push { cls := .type "set", dict := none, data := .set #[] 0 (.fresh 0 0 led) }).get? s.heap.objs.size = some { cls := .type "set", dict := none, data := .set #[] 0 (.fresh 0 0 led) } := Heap.get?_push_size _ rfl
      have hT : Shared.TypeIs { s with heap := s.heap.push { cls := .type "set", dict := none, data := .set #[] 0 (.fresh 0 0 led) } } (.ref s.heap.objs.size) "set" := ⟨_, hS, rfl⟩
      have c6 := PySem.F.called_set.init.lookup
      have c7 := PySem.F.called_set.init.bind (.ref s.heap.objs.size)
      repeat (any_goals (first | assumption | wp_step))
      refine codeAny_mono (codeAny_call_builtin (R := wants (fun r s₂ => r = .none ∧ ∃ h' tk, s₂ = { s with heap := h', toks := tk } ∧ HeldS prog w h' s.heap.objs.size (ks) (its.size) ∧
          (∀ b o, b < s.heap.objs.size → s.heap.get? b = some o → h'.get? b = some o)) E) PySem.F.called_set.init.plain PySem.F.entry_set_init (check_set_init_1 hT ?_)) fun r₂ s₂ hr₂ => ?_
      · obtain ⟨⟨oc, od, odt, osl⟩, hol, hcl, nl, hdl⟩ := id hl
        dsimp only at hcl hdl
        subst hcl; subst hdl
        have old := Heap.get?_push_of_some ({ cls := .type "set", dict := none, data := .set #[] 0 (.fresh 0 0 led) } : Obj) hol
        have a1 := PySem.F.sub_list_set
        have a2 := PySem.F.sub_list_frozenset
        have a3 : (Value.type "list" == Value.type "dict") = false := by decide
        have hl1 : (s.heap.push { cls := .type "set", dict := none, data := .set #[] 0 (.fresh 0 0 led) }).IsList l its := ⟨_, old, rfl, nl, rfl⟩
        unfold Builtin.«set.__init__» noKeywords Builtin.Frozenset.updateFrom
        generalize hPI : pyIter = PI
        wp_walk
        subst hPI
        refine wpAny_pyIter_list hl1 ?_
        refine wpAny_bind (wpAny_runValue ?_)
        have h3 : A.in1.in1.in1.handled = none := by simp [hh]
        have nI : l ≠ (s.heap.push { cls := .type "set", dict := none, data := .set #[] 0 (.fresh 0 0 led) }).objs.size := by
          rw [Heap.size_push]
          exact Nat.ne_of_lt (Nat.lt_succ_of_lt (Heap.lt_size hol))
        have sf : s.heap.objs.size ∉ [(s.heap.push { cls := .type "set", dict := none, data := .set #[] 0 (.fresh 0 0 led) }).objs.size, l] := by
          rw [Heap.size_push]
          simp only [List.mem_cons, List.mem_singleton, List.not_mem_nil, or_false, not_or]
          exact ⟨Nat.ne_of_lt (Nat.lt_succ_self _), Nat.ne_of_gt (Heap.lt_size hol)⟩
        refine set_loop ((Walks.list h3 _ l nI its).toS) s.heap.objs.size sf ks hn (fun i v z => hk i v z) (its.size - 0) 0 _ (by omega) (Nat.zero_le _) ⟨⟨_, Heap.get?_push_size _ rfl, rfl, rfl⟩, (hl1.push _)⟩ (PyProof.Rows.SetOf_congr ((PyProof.Rows.setObjOf_fresh (knd := PySem.strKind prog w) led).setOf (Heap.get?_push_of_some _ hS) (by unfold scanBound; omega)) (fun _ => rfl) rfl) ?hR
        case hR =>
          intro s' m H'
          obtain ⟨h', g', d', tk', os'⟩ := s'
          obtain rfl : g' = s.gens := m.gens
          obtain rfl : d' = s.drawn := m.drawn
          obtain rfl : os' = s.os := m.os
          show wpAny _ _ _ _ _ _
          refine wpAny_pure ?_
          show wpAny _ _ (ret Value.none) _ _ _
          refine wpAny_pure ⟨rfl, h', tk', rfl, H', fun b o hb e => ?_⟩
          have b1 : b ≠ s.heap.objs.size := Nat.ne_of_lt hb
          have b2 : b ≠ (s.heap.push { cls := .type "set", dict := none, data := .set #[] 0 (.fresh 0 0 led) }).objs.size := by
            rw [Heap.size_push]
            exact Nat.ne_of_lt (Nat.lt_succ_of_lt hb)
          exact m.heap b o (by simp only [List.mem_cons, List.mem_singleton, List.not_mem_nil, or_false, not_or]; exact ⟨b1, b2⟩) (Heap.get?_push_of_some _ (Heap.get?_push_of_some _ e))

      · cases r₂ with
        | error e => exact hr₂
        | ok f2 =>
          cases f2 with
          | ret r =>
            obtain ⟨rfl, h', tk, rfl, H', k'⟩ := hr₂
            repeat (any_goals (first | assumption | wp_step))
            exact h _ _ H' k'
          | _ => exact hr₂.elim
    | _ => exact hr.elim
end
end L2.Jk

set_option Elab.async false
set_option linter.all false
set_option maxRecDepth 100000
set_option maxHeartbeats 8000000
namespace L2.Jk
open PySem PySem.W PySem.Spec PySem.Calls PyProof.Rows
section
variable {prog : Program} {w : World} {A : Around} {E : Value → Shared → Prop} {s : Shared}
set_option maxHeartbeats 8000000 in
theorem set_callTup {l : Addr} {its : Array Value} {ks : Nat → Str} {Q : Value → Shared → Prop} (hh : A.handled = none) (hl : s.heap.IsTuple l its) (hk : ∀ i v, its[i]? = some v → ∃ t : Tok, v = Value.str (ks i) t) (hn : its.size + 1 < scanBound)
    (h : ∀ (h' : Heap) (tk : Nat), HeldS prog w h' s.heap.objs.size (ks) (its.size) → (∀ b o, b < s.heap.objs.size → s.heap.get? b = some o → h'.get? b = some o) → Q (.ref s.heap.objs.size) { s with heap := h', toks := tk }) :
    wpAny (model prog w) A (call (.type "set") [(.ref l)]) Q E s := by
  obtain ⟨c, tl, hmro⟩ := PySem.F.called_set.mro
  have c1 := PySem.F.called_set.made
  have c2 := PySem.F.called_set.sub
  refine wpAny_call (codeAny_of_tree ?_)
  show wpAny _ _ (callAny (.type "set") _) _ _ _
  refine wpAny_pure ⟨Code.quiet_builtin _ (by decide +kernel), codeAny_builtin PySem.F.entry_type_call ?_⟩
  rw [Around.under_plain (weight_type_call_type "set" [(.ref l)] []) rfl]
  have c3 := PySem.F.called_set.notType
  have c4 := PySem.F.called_set.canCreate
  have c5 := PySem.F.typeCall_set_1 (.ref l)
  repeat (any_goals (first | assumption | wp_step))
  refine codeAny_mono (code_set_new_1 (.ref l) (E := E) (Q₁ := fun ob s₁ => ∃ led : Bool, ob = .ref s.heap.objs.size ∧ s₁ = { s with heap := s.heap.push { cls := .type "set", dict := none, data := .set #[] 0 (.fresh 0 0 led) } }) fun led => ⟨led, rfl, rfl⟩) fun r s₁ hr => ?_
  cases r with
  | error e => exact hr
  | ok fl =>
    cases fl with
    | ret ob =>
      obtain ⟨led, rfl, rfl⟩ := hr
      have hS : (s.heap.push { cls := .type "set", dict := none, data := .set #[] 0 (.fresh 0 0 led) }).get? s.heap.objs.size = some { cls := .type "set", dict := none, data := .set #[] 0 (.fresh 0 0 led) } := Heap.get?_push_size _ rfl
      have hT : Shared.TypeIs { s with heap := s.heap.push { cls := .type "set", dict := none, data := .set #[] 0 (.fresh 0 0 led) } } (.ref s.heap.objs.size) "set" := ⟨_, hS, rfl⟩
      have c6 := PySem.F.called_set.init.lookup
      have c7 := PySem.F.called_set.init.bind (.ref s.heap.objs.size)
      repeat (any_goals (first | assumption | wp_step))
      refine codeAny_mono (codeAny_call_builtin (R := wants (fun r s₂ => r = .none ∧ ∃ h' tk, s₂ = { s with heap := h', toks := tk } ∧ HeldS prog w h' s.heap.objs.size (ks) (its.size) ∧
          (∀ b o, b < s.heap.objs.size → s.heap.get? b = some o → h'.get? b = some o)) E) PySem.F.called_set.init.plain PySem.F.entry_set_init (check_set_init_1 hT ?_)) fun r₂ s₂ hr₂ => ?_
      · obtain ⟨⟨oc, od, odt, osl⟩, hol, hcl, nl, hdl⟩ := id hl
        dsimp only at hcl hdl
        subst hcl; subst hdl
        have old := Heap.get?_push_of_some ({ cls := .type "set", dict := none, data := .set #[] 0 (.fresh 0 0 led) } : Obj) hol
        have a1 := PySem.F.sub_tuple_set
        have a2 := PySem.F.sub_tuple_frozenset
        have a3 : (Value.type "tuple" == Value.type "dict") = false := by decide
        have hl1 : (s.heap.push { cls := .type "set", dict := none, data := .set #[] 0 (.fresh 0 0 led) }).IsTuple l its := ⟨_, old, rfl, nl, rfl⟩
        unfold Builtin.«set.__init__» noKeywords Builtin.Frozenset.updateFrom
        generalize hPI : pyIter = PI
        wp_walk
        subst hPI
        refine wpAny_pyIter_tuple hl1 ?_
        refine wpAny_bind (wpAny_runValue ?_)
        have h3 : A.in1.in1.in1.handled = none := by simp [hh]
        have nI : l ≠ (s.heap.push { cls := .type "set", dict := none, data := .set #[] 0 (.fresh 0 0 led) }).objs.size := by
          rw [Heap.size_push]
          exact Nat.ne_of_lt (Nat.lt_succ_of_lt (Heap.lt_size hol))
        have sf : s.heap.objs.size ∉ [(s.heap.push { cls := .type "set", dict := none, data := .set #[] 0 (.fresh 0 0 led) }).objs.size, l] := by
          rw [Heap.size_push]
          simp only [List.mem_cons, List.mem_singleton, List.not_mem_nil, or_false, not_or]
          exact ⟨Nat.ne_of_lt (Nat.lt_succ_self _), Nat.ne_of_gt (Heap.lt_size hol)⟩
        refine set_loop ((Walks.tuple h3 _ l nI its).toS) s.heap.objs.size sf ks hn (fun i v z => hk i v z) (its.size - 0) 0 _ (by omega) (Nat.zero_le _) ⟨⟨_, Heap.get?_push_size _ rfl, rfl, rfl⟩, (hl1.push _)⟩ (PyProof.Rows.SetOf_congr ((PyProof.Rows.setObjOf_fresh (knd := PySem.strKind prog w) led).setOf (Heap.get?_push_of_some _ hS) (by unfold scanBound; omega)) (fun _ => rfl) rfl) ?hR
        case hR =>
          intro s' m H'
          obtain ⟨h', g', d', tk', os'⟩ := s'
          obtain rfl : g' = s.gens := m.gens
          obtain rfl : d' = s.drawn := m.drawn
          obtain rfl : os' = s.os := m.os
          show wpAny _ _ _ _ _ _
          refine wpAny_pure ?_
          show wpAny _ _ (ret Value.none) _ _ _
          refine wpAny_pure ⟨rfl, h', tk', rfl, H', fun b o hb e => ?_⟩
          have b1 : b ≠ s.heap.objs.size := Nat.ne_of_lt hb
          have b2 : b ≠ (s.heap.push { cls := .type "set", dict := none, data := .set #[] 0 (.fresh 0 0 led) }).objs.size := by
            rw [Heap.size_push]
            exact Nat.ne_of_lt (Nat.lt_succ_of_lt hb)
          exact m.heap b o (by simp only [List.mem_cons, List.mem_singleton, List.not_mem_nil, or_false, not_or]; exact ⟨b1, b2⟩) (Heap.get?_push_of_some _ (Heap.get?_push_of_some _ e))

      · cases r₂ with
        | error e => exact hr₂
        | ok f2 =>
          cases f2 with
          | ret r =>
            obtain ⟨rfl, h', tk, rfl, H', k'⟩ := hr₂
            repeat (any_goals (first | assumption | wp_step))
            exact h _ _ H' k'
          | _ => exact hr₂.elim
    | _ => exact hr.elim
end
end L2.Jk

set_option Elab.async false
set_option linter.all false
set_option maxRecDepth 100000
set_option maxHeartbeats 4000000
/-! != of two tuples that are equal item by item, instances with an own __eq__ among the items. -/
namespace L2.Jk
open PySem PySem.W PySem.Spec PySem.Calls PyProof.Rows PySem.SeqAt
open AutoSeq1 (wpAny_loadPart')

section
variable {prog : Program} {w : World} {A : Around} {R : Result → Shared → Prop} {E : Value → Shared → Prop} {s : Shared}
theorem tup_ne_same (l b : Addr) (its jts : Array Value) (n n2 : Nat) (dd dd2 : Option Addr) (sl sl2 : Array (Option Value)) (hsz : its.size = jts.size) (J : Nat → Shared → Prop)
    (turn : ∀ i (h1 : i < its.size) (h2 : i < jts.size) s, J i s → wpAny (model prog w) A.in1 (eqBool its[i] jts[i]) (fun r s' => r = true ∧ J (i + 1) s') (fun e s' => R (.error e) s') s)
    (fin : ∀ s, J its.size s → R (.ok (.ret (.bool false))) s) (hl : s.heap.get? l = some { cls := .type "tuple", dict := dd, data := .seq its n, slots := sl }) (hb : s.heap.get? b = some { cls := .type "tuple", dict := dd2, data := .seq jts n2, slots := sl2 })
    (h : J 0 s) : wpAny (model prog w) A.in1 (Builtin.«tuple.__ne__» ⟨[.ref l, .ref b], []⟩) (GQ.FinOf prog w A R) (fun e s' => R (.error e) s') s := by
  have f2 := AutoSeq1.sub_tuple_tuple
  have len : (its.toList.zip jts.toList).length = its.size := by simp [hsz]
  have h0 := h
  obtain ⟨hp, g, d, tk, os⟩ := s
  wp_walk using wpAny_loadPart' hl, wpAny_loadPart' hb, wpAny_forIn_list _ (fun rest b s' => b.1 = none ∧ ∃ i, rest = (its.toList.zip jts.toList).drop i ∧ i ≤ its.size ∧ J i s') _
  case turn =>
    rintro ⟨y, x⟩ rest b s' ⟨hb', i, hz, hi, hJ⟩
    have lt : i < (its.toList.zip jts.toList).length := by
      refine Nat.lt_of_not_le fun z => ?_
      rw [List.drop_of_length_le z] at hz
      cases hz
    have h1 : i < its.size := len ▸ lt
    have h2 : i < jts.size := hsz ▸ h1
    rw [List.drop_eq_getElem_cons lt] at hz
    obtain ⟨e1, e2⟩ := List.cons.inj hz
    obtain rfl : y = its[i] := by simpa using congrArg Prod.fst e1
    obtain rfl : x = jts[i] := by simpa using congrArg Prod.snd e1
    refine wpAny_bind (wpAny_mono (turn i h1 h2 s' hJ) (fun r s2 q2 => ?_) fun _ _ x => x)
    obtain ⟨rfl, q2⟩ := q2
    wp_walk
    exact ⟨rfl, i + 1, e2, h1, q2⟩
  case fin =>
    rintro ⟨b1, b2⟩ s' ⟨hb', i, hz, hi, hJ⟩
    dsimp only at hb'
    subst hb'
    have ge : its.size ≤ i := by
      refine Nat.le_of_not_lt fun z => ?_
      rw [List.drop_eq_getElem_cons (by rw [len]; exact z)] at hz
      cases hz
    obtain rfl : i = its.size := by omega
    have hR := fin s' hJ
    wp_walk
    simpa [Builtin.Tuple.tupleCompareSizes, hsz] using hR
  case h => exact ⟨rfl, 0, rfl, Nat.zero_le _, h0⟩
theorem tup_ne_rich {l b : Addr} {its jts : Array Value} {Q : Value → Shared → Prop} (hsz : its.size = jts.size) (hu : A.units < cLine) (J : Nat → Shared → Prop) (hl : s.heap.IsTuple l its) (hb : s.heap.IsTuple b jts)
    (turn : ∀ i (h1 : i < its.size) (h2 : i < jts.size) s, J i s → wpAny (model prog w) A.in1 (eqBool its[i] jts[i]) (fun r s' => r = true ∧ J (i + 1) s') E s)
    (fin : ∀ s, J its.size s → Q (.bool false) s) (h : J 0 s) : wpAny (model prog w) A (richCompare .NotEq (.ref l) (.ref b)) Q E s := by
  obtain ⟨⟨c1, d1, t1, s1⟩, g1, k1, n1, e1⟩ := id hl
  obtain ⟨⟨c2, d2, t2, s2⟩, g2, k2, n2, e2⟩ := id hb
  dsimp only at k1 e1 k2 e2
  subst k1 e1 k2 e2
  refine wpAny_richCompare_same_room (op := .NotEq) ⟨_, g1, rfl⟩ ⟨_, g2, rfl⟩ PySem.F.slot_tuple_ne (GQ.call_here PySem.F.slot_tuple_ne ⟨_, g1, rfl⟩ PySem.F.entry_tuple_ne (PySem.F.args_tuple_ne_2 _ _) ?_) hu
  exact tup_ne_same (R := wants (fun v s' => v ≠ .notImplemented ∧ Q v s') E) l b its jts n1 n2 d1 d2 s1 s2 hsz J turn (fun s' q => ⟨(fun x => nomatch x), fin s' q⟩) g1 g2 h
end
section
variable {X : Cx} {n : Nat} {D : Eqv}
/-- t != u of two tuples whose items D says to be equal -/
def rNeT (X : Cx) (D : Eqv) : R2 := fun x y H Q => DTup X.K D x y H ∧ ∀ H', Same H H' → Q (.bl false) H'
theorem op_neT (hD : Mon D) (h : EqG X n D) (hr : Room (n + 1) X.A) : OpR X (compareOp .NotEq) (rNeT X D) := by
  intro pins s σ H x y v u Q I rx ry hq
  obtain ⟨⟨a, b, xs, ys, rfl, rfl, ha, hb, p⟩, q⟩ := hq
  cases rx
  cases ry
  obtain ⟨its, r, e, z⟩ := I.tuple ha
  obtain ⟨jts, r2, e2, z2⟩ := I.tuple hb
  have hsz : its.toArray.size = jts.toArray.size := by rw [List.size_toArray, List.size_toArray, ← r.length, ← r2.length]; exact p.1
  show wpAny (model X.prog X.w) X.A (richCompare .NotEq (.ref a) (.ref b)) (EP X pins σ Q) X.xe s
  refine tup_ne_rich hsz hr.units0 (fun _ s' => LoopI X pins σ H s') e e2 (fun i h1 h2 s' k => turnG hD h ⟨hr, rfl⟩ p r r2 i h1 h2 s' k) (fun s' k => ?_) ⟨H, I, Ext.rfl'⟩
  obtain ⟨H', I', x⟩ := k
  exact ⟨.bl false, H', I', rfl, q H' x⟩
end
end L2.Jk

set_option Elab.async false
set_option linter.all false
set_option maxRecDepth 100000
set_option maxHeartbeats 4000000
/-! ''.join(reversed(xs)), list(text), len(set(..)), type(x) is type(y). -/
namespace L2.Jk
open PySem PySem.W PySem.Spec PySem.Calls PyProof.Rows

theorem paired_of {α β : Type} {F : α → β → Prop} : ∀ {xs : List α} {ys : List β}, xs.length = ys.length → (∀ (i : Nat) x y, xs[i]? = some x → ys[i]? = some y → F x y) → Paired F xs ys
  | [], [], _, _ => .nil
  | [], _ :: _, e, _ => by cases e
  | _ :: _, [], e, _ => by cases e
  | x :: xs, y :: ys, e, h => .cons (h 0 x y rfl rfl) (paired_of (Nat.succ.inj e) fun i a b h1 h2 => h (i + 1) a b h1 h2)
section
variable {X : Cx}
/-! ### list(text) -/
/-- its signs, one text each -/
def signsV (z : Str) : List V := (List.range z.cps.size).map fun i => V.str ⟨#[z.cps.getD i 0]⟩
theorem call_listStr (hc : X.calm = true) : CallR X (.type "list") (fun xs H Q => ∃ z : Str, xs = [.str z] ∧ z.cps.size ≤ 1000 ∧ ∀ p H', H p = none → Same H H' → H' p = some (.lst (signsV z)) → Q (.ref p) H') := by
  intro pins s σ H xs us Q I r h
  obtain ⟨z, rfl, hz, q⟩ := h
  obtain ⟨u, rfl, t, rfl⟩ := vals1 r
  have hz' : z.cps.size ≤ sizeLine := by rw [sizeLine_eq]; omega
  refine call_list_str (I.ok.hd hc) z t (fun h' tk acc c k hp ha => ?_) hz'
  obtain ⟨al, ai⟩ := ha
  have vs : Vals (signsV z) acc.toList := by
    refine paired_of (show (signsV z).length = acc.toList.length by
      have e : acc.toList.length = acc.size := Array.length_toList
      rw [e, al]
      simp [signsV]) fun i x v hx hv => ?_
    have hi : i < z.cps.size := by
      have := (List.getElem?_eq_some_iff.mp hx).1
      simpa [signsV] using this
    obtain ⟨t', e⟩ := sign_at (ai i v (by rw [← Array.getElem?_toList]; exact hv))
    subst e
    have e2 : x = V.str ⟨#[z.cps.getD i 0]⟩ := by
      unfold signsV at hx
      rw [List.getElem?_map, List.getElem?_range hi] at hx
      exact (Option.some.inj hx).symm
    subst e2
    exact ⟨t', rfl⟩
  have n := I.fresh
  refine ⟨.ref s.heap.objs.size, _, I.laid (t' := tk) (h' := h') (o := .lst (signsV z)) k (Nat.le_refl _) ⟨?_, acc.toList, c, vs, by simpa using hp⟩, rfl, q _ _ n (same_upd n) upd_same⟩
  simp only [signsV, List.length_map, List.length_range]
  exact hz'
/-! ### len(set(..)) -/
def tLenSetStr (te : TE) : TE := fun σ H Q => te σ H fun x H1 => ∃ z : Str, x = .str z ∧ z.cps.size ≤ 4000 ∧ Q (.int (newS (fun i => ⟨#[z.cps.getD i 0]⟩) z.cps.size : Nat)) H1
theorem held_len {h : Heap} {S : Addr} {ks : Nat → Str} {i : Nat} {A : Around} {E : Value → Shared → Prop} {Q : Value → Shared → Prop} {s : Shared} (H : HeldS X.prog X.w s.heap S ks i) (hi : i ≤ 4000)
    (q : ∀ tk, Q (.int (newS ks i : Nat) tk) { s with toks := tk + 1 }) : wpAny (model X.prog X.w) A (call (.builtin "len") [.ref S]) Q E s := by
  have few := newS_le ks i
  obtain ⟨o, es, ep, t, ho, hex, hd, _, _, _, hf, hn⟩ := H
  exact call_len_set ho hex hd hf (by rw [hn]; omega) (by rw [hn]; exact q _)
theorem pe_lenSetStr {a : Expr} {ta : TE} {p p2 q pos : Pos} (hc : X.calm = true) (hg : Gl X "len") (hm : X.mg "len" = none) (hg2 : Gl X "set") (hm2 : X.mg "set" = none) (ha : PE X a ta)
    (na : starEach [a] X.env = (false, eval a X.env) :: starEach [] X.env := by rfl) : PE X (.Call (.Name "len" p) [.Call (.Name "set" p2) [a] [] q] [] pos) (tLenSetStr ta) := by
  constructor
  intro pins s σ H Q I h
  refine Call_ (ld_blt I hg hm boot_len (PyProof.Rows.callWith_builtin1 (PyProof.Rows.args_cons ?_ rfl) rfl rfl))
  refine Call_ (ld_blt I hg2 hm2 boot_set (PyProof.Rows.callWith_type1 (PyProof.Rows.args_cons (thn (ha.run pins s σ H _ I h) fun v s1 ⟨x, H1, I1, r1, z, ex, hz, q1⟩ => PyProof.Rows.args_nil ?_) na) na rfl))
  subst ex
  obtain ⟨t, rfl⟩ := r1
  refine set_callStr (I1.ok.hd hc) (by unfold scanBound; omega) fun h' tk hS hk => PyProof.Rows.args_nil ?_
  have I2 : Inv X pins σ H1 { s1 with heap := h', toks := tk } := I1.kept fun b o e => hk b o (Heap.lt_size e) e
  exact held_len (h := h') (s := { s1 with heap := h', toks := tk }) hS hz fun tk' => ⟨.int _, H1, I2.tok _, ⟨_, rfl⟩, q1⟩
/-- .. of a list or a tuple of texts -/
def tLenSetSeq (K : Frag) (te : TE) : TE := fun σ H Q => te σ H fun x H1 => ∃ (l : Addr) (ys : List Str), x = .ref l ∧ (SqL K H1 l (ys.map V.str) ∨ SqT K H1 l (ys.map V.str)) ∧ ys.length ≤ 4000 ∧ Q (.int (newS (fun i => ys.getD i Str.empty) ys.length : Nat)) H1
theorem strs_get {ys : List Str} {us : List Value} (r : Vals (ys.map V.str) us) (i : Nat) (v : Value) (h : us.toArray[i]? = some v) : ∃ t : Tok, v = Value.str (ys.getD i Str.empty) t := by
  have h' : us[i]? = some v := by simpa using h
  have lt : i < ys.length := by
    have := (List.getElem?_eq_some_iff.mp h').1
    rw [← r.length, List.length_map] at this
    exact this
  obtain ⟨u, hu, ru⟩ := r.get (i := i) (x := V.str (ys.getD i Str.empty)) (by rw [List.getElem?_map, List.getElem?_eq_getElem lt, List.getD_eq_getElem?_getD, List.getElem?_eq_getElem lt]; rfl)
  rw [h'] at hu
  cases hu
  exact ru
theorem pe_lenSetSeq {a : Expr} {ta : TE} {p p2 q pos : Pos} (hc : X.calm = true) (hg : Gl X "len") (hm : X.mg "len" = none) (hg2 : Gl X "set") (hm2 : X.mg "set" = none) (ha : PE X a ta)
    (na : starEach [a] X.env = (false, eval a X.env) :: starEach [] X.env := by rfl) : PE X (.Call (.Name "len" p) [.Call (.Name "set" p2) [a] [] q] [] pos) (tLenSetSeq X.K ta) := by
  constructor
  intro pins s σ H Q I h
  refine Call_ (ld_blt I hg hm boot_len (PyProof.Rows.callWith_builtin1 (PyProof.Rows.args_cons ?_ rfl) rfl rfl))
  refine Call_ (ld_blt I hg2 hm2 boot_set (PyProof.Rows.callWith_type1 (PyProof.Rows.args_cons (thn (ha.run pins s σ H _ I h) fun v s1 ⟨x, H1, I1, r1, l, ys, ex, hq, hz, q1⟩ => PyProof.Rows.args_nil ?_) na) na rfl))
  subst ex
  cases r1
  have fin : ∀ (its : List Value), Vals (ys.map V.str) its → ∀ (h' : Heap) (tk : Nat), HeldS X.prog X.w h' s1.heap.objs.size (fun i => ys.getD i Str.empty) its.toArray.size → (∀ b o, b < s1.heap.objs.size → s1.heap.get? b = some o → h'.get? b = some o) →
      wpAny (model X.prog X.w) X.A (spliced (backTo pos (starEach [] X.env))) (fun vs s₂ => wpAny (model X.prog X.w) X.A (call (.builtin "len") (Value.ref s1.heap.objs.size :: vs)) (EP X pins σ Q) X.xe s₂) X.xe { s1 with heap := h', toks := tk } := fun its r h' tk hS hk => by
    have hl : its.toArray.size = ys.length := by rw [List.size_toArray, ← r.length, List.length_map]
    rw [hl] at hS
    have I2 : Inv X pins σ H1 { s1 with heap := h', toks := tk } := I1.kept fun b o e => hk b o (Heap.lt_size e) e
    exact PyProof.Rows.args_nil (held_len (h := h') (s := { s1 with heap := h', toks := tk }) hS hz fun tk' => ⟨.int _, H1, I2.tok _, ⟨_, rfl⟩, q1⟩)
  rcases hq with hq | hq
  · obtain ⟨its, r, pl, _⟩ := I1.list hq
    have hl : its.toArray.size = ys.length := by rw [List.size_toArray, ← r.length, List.length_map]
    exact set_callList (I1.ok.hd hc) pl.isList (strs_get r) (by unfold scanBound; omega) fun h' tk hS hk => fin its r h' tk hS hk
  · obtain ⟨its, r, pl, _⟩ := I1.tuple hq
    have hl : its.toArray.size = ys.length := by rw [List.size_toArray, ← r.length, List.length_map]
    exact set_callTup (I1.ok.hd hc) pl (strs_get r) (by unfold scanBound; omega) fun h' tk hS hk => fin its r h' tk hS hk
/-! ### type(x) is type(y) -/
def rTyA (X : Cx) : List V → Hp → VK → Prop := fun xs H Q => ∃ x, xs = [x] ∧ ((∃ a C dx fs, x = .ref a ∧ H a = some (.ins C dx fs) ∧ Q (.ref C) H) ∨ ∃ T, RZ.Ty4 H x T ∧ Q (.ty T) H)
theorem call_tyA : CallR X (.type "type") (rTyA X) := by
  intro pins s σ H xs us Q I r h
  obtain ⟨x, rfl, h | h⟩ := h
  · obtain ⟨a, C, dx, fs, rfl, ha, q⟩ := h
    exact cr_type pins s σ H _ us Q I r ⟨a, C, dx, fs, rfl, ha, q⟩
  · obtain ⟨T, t, q⟩ := h
    exact RZ.call_type4 pins s σ H _ us Q I r ⟨x, T, rfl, t, q⟩
def rIsA (X : Cx) : R2 := fun x y H Q => ∃ a, x = .ref a ∧ ((∃ b, y = .ref b ∧ (a = b ∨ (makesIn X.K a = true ∧ makesIn X.K b = true)) ∧ Q (.bl (decide (a = b))) H) ∨ ∃ T, y = .ty T ∧ Q (.bl false) H)
theorem op_isA : OpR X (compareOp .Is) (rIsA X) := by
  intro pins s σ H x y v u Q I rx ry h
  obtain ⟨a, rfl, h | h⟩ := h
  · obtain ⟨b, rfl, hab, q⟩ := h
    exact op_is_cls pins s σ H _ _ v u Q I rx ry ⟨a, b, rfl, rfl, hab, q⟩
  · obtain ⟨T, rfl, q⟩ := h
    cases rx
    cases ry
    show wpAny _ _ (do return Value.bool (← isSame (.ref a) (.type T))) _ _ _
    exact wpAny_bind (wpAny_of_eq (a := false) rfl (wpAny_pure ⟨.bl false, H, I, rfl, q⟩))
/-! ### ''.join(reversed(xs)) -/
def tJoinRev (K : Frag) (to te : TE) : TE := fun σ H Q => to σ H fun o H0 => ∃ z : Str, o = .str z ∧ te σ H0 fun v H1 => ∃ (a : Addr) (ys : List Str), v = .ref a ∧ SqL K H1 a (ys.map V.str) ∧ JoinOk z ys.reverse = true ∧ Q (.str (Txt.join z ys.reverse)) H1
theorem strs_pairs : ∀ {ys : List Str} {us : List Value}, Vals (ys.map V.str) us → ∃ l : List (Str × Tok), strValues l = us ∧ l.map (·.1) = ys
  | [], _, .nil => ⟨[], rfl, rfl⟩
  | y :: ys, _, .cons r t => by
    obtain ⟨k, rfl⟩ := r
    obtain ⟨l, e1, e2⟩ := strs_pairs t
    exact ⟨(y, k) :: l, by rw [← e1]; rfl, by rw [← e2]; rfl⟩
theorem joined_tail (z : Str) : ∀ l : List (Str × Tok), Builtin.Str.tooLong ((l.map (·.1)).toArray.foldl (· + ·.length + z.length) 0) = false → Gives (joinTail z (strValues l)) (joinMade z l)
  | [], h => gives_joinTail z [] h
  | [p], h => gives_joinTail z [p] h
  | p :: q :: r, h => gives_joinTail z (p :: q :: r) h
theorem pe_joinRev {o e : Expr} {to te : TE} {apos p2 pos2 cpos : Pos} (hc : X.calm = true) (hg2 : Gl X "reversed") (hm2 : X.mg "reversed" = none) (ho : PE X o to) (he : PE X e te)
    (hbase : attributeBase o "join" X.env (eval o X.env) = eval o X.env := by rfl)
    (hfew : ((backTo cpos (starEach [Expr.Call (.Name "reversed" p2) [e] [] pos2] X.env)).all (fun x => !x.1) && (backToKw cpos (keywordEach [] X.env)).all (fun x => x.1.isSome)
      && decide ([Expr.Call (.Name "reversed" p2) [e] [] pos2].length + ([] : List Keyword).length + (if ([] : List Keyword).isEmpty then 0 else 1) < 30)) = true := by rfl)
    (hline : (apos.endLine == cpos.line) = true := by rfl) (hs : starEach [e] X.env = (false, eval e X.env) :: starEach [] X.env := by rfl)
    (hs2 : starEach [Expr.Call (.Name "reversed" p2) [e] [] pos2] X.env = (false, eval (.Call (.Name "reversed" p2) [e] [] pos2) X.env) :: starEach [] X.env := by rfl) :
    PE X (.Call (.Attribute o "join" apos) [.Call (.Name "reversed" p2) [e] [] pos2] [] cpos) (tJoinRev X.K to te) := by
  constructor
  intro pins s σ H Q I h
  refine wpAny_Call_method_late hbase hfew hline rfl (thn (ho.run pins s σ H _ I h) fun v s1 ⟨x, H0, I0, r0, z, ex, q0⟩ => ?_)
  subst ex
  obtain ⟨t, rfl⟩ := r0
  refine ⟨"str", "str.join", PySem.F.plainAttrs_str, PySem.F.slot_str_join, PySem.F.type_str_join, typeIs_str _ _ _, (fun a e => nomatch e), ?_⟩
  refine Calls.callWith_builtin (by rw [hs2]; rfl) ?_
  rw [hs2]
  refine Calls.evalArgs_plain (Calls.spliced_cons ?_)
  refine Call_ (ld_blt I0 hg2 hm2 PyProof.Rows.boot_reversed (PyProof.Rows.callWith_type1 (PyProof.Rows.args_cons (thn (he.run pins s1 σ H0 _ I0 q0) fun u s2 ⟨y, H1, I1, r1, a, ys, ey, hq, ok, q1⟩ => PyProof.Rows.args_nil ?_) hs) hs rfl))
  subst ey
  obtain rfl : u = Value.ref a := r1
  obtain ⟨its, rv, pl, hz⟩ := I1.list hq
  refine call_reversed_list pl.isList (Calls.spliced_nil ?_)
  have k0 : ∀ b o, s2.heap.get? b = some o → (s2.heap.push (revObj a ((its.toArray.size : Int) - 1))).get? b = some o := fun b o e => Heap.get?_push_of_some _ e
  have I2 : Inv X pins σ H1 { s2 with heap := s2.heap.push (revObj a ((its.toArray.size : Int) - 1)) } := I1.kept (t' := s2.toks) k0
  obtain ⟨f0, f1, f2, f3, f4, f5⟩ := I1.fpOk (H' := H1) (b := s2.heap.objs.size) (Nat.le_refl _) (I1.hok.fresh (Nat.le_refl _))
  have hl := pl.isList
  obtain ⟨ol, hol, _⟩ := id hl
  have ne : a ≠ s2.heap.objs.size := Nat.ne_of_lt (Heap.lt_size hol)
  have sm : its.toArray.size ≤ sizeLine := by rw [List.size_toArray, ← rv.length]; exact hz
  have hit : (s2.heap.push (revObj a ((its.toArray.size : Int) - 1))).IsRevIter s2.heap.objs.size a ((its.toArray.size : Int) - 1) := ⟨_, Heap.get?_push_size _ rfl, rfl, rfl⟩
  refine wpAny_call (codeAny_call_builtin F.slot_str_join.plain F.entry_str_join (F.slot_str_join.check _ _ _ _ _ _ _ _ (typeIs_str _ _ _) (F.args_str_join_2 _ _) ?_))
  show wpAny _ _ (Builtin.«str.join» ⟨[.str z t, .ref s2.heap.objs.size], []⟩) _ _ _
  rw [join_tree_other]
  refine wpAny_bind (wpAny_typeOf hit.typeIs ?_)
  show wpAny _ X.A.in1 ((pyIter (.ref s2.heap.objs.size)).tryCatch _ >>= fun it => collect it >>= fun items => joinTail z items) _ _ _
  refine wpAny_bind (wpAny_tryCatch (wpAny_pyIter_revIter hit ?_))
  refine wpAny_bind (RT.collect_rev (I1.ok.hd hc) hit (hl.push _) ne sm fun h' tk acc hk hi => ?_)
  have I3 : Inv X pins σ H1 { s2 with heap := h', toks := tk } := I2.turned (t' := tk) (fun b o hb e => hk b o hb e) f0 f1 f3 f4 f5
  have rr := RT.vals_rev rv hi
  rw [← List.map_reverse] at rr
  obtain ⟨l, el, em⟩ := strs_pairs rr
  rw [← el]
  have fit : Builtin.Str.tooLong ((l.map (·.1)).toArray.foldl (· + ·.length + z.length) 0) = false := by
    rw [em]
    unfold JoinOk at ok
    rwa [Bool.not_eq_true'] at ok
  have g : Gives (joinTail z (strValues l)) (joinMade z l) := joined_tail z l fit
  refine g X.prog X.w X.A (wants (EP X pins σ Q) X.xe) _ (post_join l ⟨?_, fun t' k => ?_⟩)
  · exact joinFit_length fit
  · rw [em]
    exact ⟨.str _, H1, I3.tok k, ⟨t', rfl⟩, q1⟩
end
end L2.Jk

set_option Elab.async false
set_option linter.all false
set_option maxRecDepth 100000
set_option maxHeartbeats 4000000
/-! Errors raised, instances made where their __init__ may raise, isinstance of flat values. -/
namespace L2.Jk
open PySem PySem.W PySem.Spec PySem.Calls PyProof.Rows

section
variable {X : Cx} {CX : CXT} {k : Nat} {x : Str} {ps : List Str} {sp : Sp} {e : Expr} {es : List Expr} {t : TA} {p pos : Pos} {W : WX}
theorem pe_fnS (G : FnAt X.prog X.w X.K X.mg X.base CX k x ps sp) (hr : Room k X.A) {E : St → XK} (hx : ∀ σ, PassesAt CX X σ (E σ)) (hg : Gl X x) (ha : PA X (e :: es) t)
    (hdb : (x == ("__debug__" : Str)) = false := by decide) (he : starEach (e :: es) X.env = (false, eval e X.env) :: starEach es X.env := by rfl) (hpl : (backTo pos (starEach es X.env)).any (·.1) = false := by rfl) :
    PE X (.Call (.Name x p) (e :: es) [] pos) (tCallS sp E t) := by
  obtain ⟨f, fd, hm, kp, F, hb⟩ := G.ex
  exact pe_callS F hr hg hm kp hb hx ha hdb he hpl
/-! ### an error that is raised -/
def tMkErr (C : Addr) (fs : List Str) (ta : TA) : St → Hp → XK → Prop := fun σ H Q => ta σ H fun vs H1 => vs.length = fs.length ∧ ∀ d H2, H1 d = none → Same H1 H2 → H2 d = some (.xd (fldE fs vs)) → Q (.ref C) (some d) H2
theorem same_raise {H : Hp} {a C d : Addr} {fs : List (Str × V)} (ha : H a = none) (hd : H d = none) (ne : d ≠ a) : Same H (upd (del (mkE H a C d fs) a) d (.xd fs)) := fun b o e => by
  have n1 := ne_of_none e ha
  have n2 := ne_of_none e hd
  rw [upd_ne n2, del_ne n1]
  unfold mkE
  rw [upd_ne n1, upd_ne n2]
  exact e
end
/-- what is wished of an error C(v) that is raised at H -/
def RaiseE (C : Addr) (f : Str) (v : V) (H : Hp) (Q : XK) : Prop := ∀ d H2, H d = none → Same H H2 → H2 d = some (.xd [(f, v)]) → Q (.ref C) (some d) H2
theorem mkO_1 {C : Addr} {f : Str} {v : V} {H : Hp} {Q : XK} (q : RaiseE C f v H Q) : ([v] : List V).length ≤ 1000 ∧ ∀ a, H a = none → spI1 C f (.ref a :: ([v] ++ [])) (upd H a (exo a C none))
    (fun u H2 => u = .non ∧ ∃ (d : Addr) (fs : List (Str × V)), H2 a = some (exo a C (some d)) ∧ H2 d = some (exd d fs) ∧ H d = none ∧ Q (.ref C) (some d) (upd (del H2 a) d (.xd fs))) (fun _ _ _ => False) := by
  refine ⟨by show 1 ≤ 1000; decide, fun a ha => ⟨a, v, rfl, upd_same, fun d hd ne => ⟨rfl, d, [(f, v)], ?_, ?_, ?_, ?_⟩⟩⟩
  · rw [mkE_new ne]
    exact upd_same
  · rw [mkE_new ne]
    unfold mkE
    rw [upd_ne ne, upd_same]
  · rw [upd_ne ne] at hd
    exact hd
  · rw [mkE_new ne]
    rw [upd_ne ne] at hd
    exact q d _ hd (same_raise ha hd ne) upd_same
section
variable {X : Cx} {x : Str} {e : Expr} {es : List Expr} {ta : TA} {p pos : Pos}
/-- raise C(e), C an error of one field -/
theorem pmk_1 {C : Addr} {f z : Str} (T : ErrAt X.prog X.w X.K X.mg X.base x C [f] z) (hr : Room 2 X.A) (hg : Gl X x) (ha : PA X (e :: es) ta)
    (hdb : (x == ("__debug__" : Str)) = false := by decide) (he : starEach (e :: es) X.env = (false, eval e X.env) :: starEach es X.env := by rfl) (hpl : (backTo pos (starEach es X.env)).any (·.1) = false := by rfl) :
    PMk X (.Call (.Name x p) (e :: es) [] pos) (tMkO C (spI1 C f) [] ta) := by
  obtain ⟨fd, hb, iok⟩ := T.iok
  exact pmk_oex (X := X) (ta := ta) T.ex.ec.ox T.ini.1 T.ini.2 iok hr hb .nil pass0 hg T.mgC ha hdb he hpl
/-! ### an instance made by a class whose __init__ may raise -/
structure ClsAt (P : Program) (w : World) (K : Frag) (mg : Str → Option Value) (base : Heap) (CX : CXT) (k : Nat) (x : Str) (C : Addr) (ps : List Str) (sp : Sp) : Prop where
  mgC : mg x = some (.ref C)
  cl : Cls K C
  mkr : Mk K C (He.ma K C "__init__")
  ok : ∃ fd, FnOk P w K mg base CX k (He.ma K C "__init__") fd ps sp ∧ Binds K fd ps []
def tNewS (C : Addr) (sp : Sp) (E : St → XK) (t : TA) : TE := fun σ H Q => t σ H fun vs H1 => ∀ a dx, H1 a = none → H1 dx = none → dx ≠ a → sp (.ref a :: vs) (upd (upd H1 dx (.own a)) a (.ins C dx [])) (fun v H2 => v = .non ∧ Q (.ref a) H2) (E σ)
theorem pe_newS {CX : CXT} {k : Nat} {C : Addr} {ps : List Str} {sp : Sp} {E : St → XK} (G : ClsAt X.prog X.w X.K X.mg X.base CX k x C ps sp) (hr : Room (k + 1) X.A) (hx : ∀ σ, PassesAt CX X σ (E σ)) (hg : Gl X x) (ha : PA X (e :: es) ta)
    (hdb : (x == ("__debug__" : Str)) = false := by decide) (he : starEach (e :: es) X.env = (false, eval e X.env) :: starEach es X.env := by rfl) (hpl : (backTo pos (starEach es X.env)).any (·.1) = false := by rfl) :
    PE X (.Call (.Name x p) (e :: es) [] pos) (tNewS C sp E ta) := by
  obtain ⟨fd, F, hb⟩ := G.ok
  have M := G.mkr
  constructor
  intro pins s σ H Q I h
  refine wpAny_Call_Name_kw (ld_glob I hg G.mgC ?_ hdb)
  refine callWith_K (h₀ := X.base) I.ok.mod.kin M.kp (thn (ha.run pos pins s σ H _ I h) fun us s1 ⟨vs, H1, I1, r, q⟩ => ⟨I1.kIn, ?_⟩) he hpl
  show wpAny _ _ (call (.ref C) us) _ _ _
  have pr := q (s1.heap.objs.size + 1) s1.heap.objs.size (I1.hok.fresh (Nat.le_succ _)) I1.fresh (Nat.ne_of_lt (Nat.lt_succ_self _))
  have I2 := Inv.made (C := C) I1
  have r2 : Vals (V.ref (s1.heap.objs.size + 1) :: vs) (Value.ref (s1.heap.objs.size + 1) :: us) := .cons rfl r
  have hl : (Value.ref (s1.heap.objs.size + 1) :: us).length = ps.length := by
    rw [← r2.length]
    exact F.len _ _ _ _ pr
  have hb' := hb _ (Value.ref (s1.heap.objs.size + 1) :: us) I2.kIn (by rw [List.append_nil]; exact hl)
  rw [List.append_nil] at hb'
  refine wpAny_call (make_map (f := He.ma X.K C "__init__") I1.kIn M.makes M.init (beq_iff_eq.mp M.fn) (codeAny_mono (F.run _ X.stack _ _ ⟨Value.ref (s1.heap.objs.size + 1) :: us, []⟩ (Value.ref (s1.heap.objs.size + 1) :: us) _ _ (E σ) (hr.make C us [])
    (I2.env0.make C us []) hb' r2 pr) fun r s' hq' => ?_))
  cases r with
  | error er => exact hx σ pins _ _ er s' I2 hq'
  | ok fl =>
    cases fl with
    | ret u =>
      obtain ⟨v, H', I3, rv, ev, q3⟩ := I2.after hq'
      subst ev
      exact ⟨rv, ⟨V.ref (s1.heap.objs.size + 1), H', I3, rfl, q3⟩⟩
    | next => exact False.elim hq'
    | brk => exact False.elim hq'
    | cont => exact False.elim hq'
end
/-! ### isinstance of flat values against built-in types -/
def tyN : V → String
  | .non => "NoneType"
  | .bl _ => "bool"
  | .int _ => "int"
  | .str _ => "str"
  | _ => ""
theorem flat_ty {K : Frag} {H : Hp} {v : V} (h : flatV v = true) : TyE K H v (.type (tyN v)) := by
  cases v with
  | non => exact .x (.base .non)
  | bl b => exact .x (.base (.bl b))
  | int i => exact .x (.base (.int i))
  | str z => exact .x (.base (.str z))
  | _ => cases h
def isStr : V → Bool
  | .str _ => true
  | _ => false
/-- an int or a bool -/
def isInt : V → Bool
  | .int _ => true
  | .bl _ => true
  | _ => false
def isBl : V → Bool
  | .bl _ => true
  | _ => false
theorem kit_str {v : V} (h : flatV v = true) : kitB (tyN v) "str" = some (isStr v) := by
  cases v with
  | non => show kitB "NoneType" "str" = some false; decide +kernel
  | bl b => show kitB "bool" "str" = some false; decide +kernel
  | int i => show kitB "int" "str" = some false; decide +kernel
  | str z => show kitB "str" "str" = some true; decide +kernel
  | _ => cases h
theorem kit_int {v : V} (h : flatV v = true) : kitB (tyN v) "int" = some (isInt v) := by
  cases v with
  | non => show kitB "NoneType" "int" = some false; decide +kernel
  | bl b => show kitB "bool" "int" = some true; decide +kernel
  | int i => show kitB "int" "int" = some true; decide +kernel
  | str z => show kitB "str" "int" = some false; decide +kernel
  | _ => cases h
theorem kit_bool {v : V} (h : flatV v = true) : kitB (tyN v) "bool" = some (isBl v) := by
  cases v with
  | non => show kitB "NoneType" "bool" = some false; decide +kernel
  | bl b => show kitB "bool" "bool" = some true; decide +kernel
  | int i => show kitB "int" "bool" = some false; decide +kernel
  | str z => show kitB "str" "bool" = some false; decide +kernel
  | _ => cases h
theorem ie_of {K : Frag} {H : Hp} {v : V} {S T : String} {b : Bool} {Q : VK} (ty : TyE K H v (.type S)) (k : kitB S T = some b) (q : Q (.bl b) H) : rIe K [v, .ty T] H Q :=
  ⟨v, .ty T, .type S, .type T, b, rfl, .ty T, ty, kit_ty k, q⟩
end L2.Jk

set_option Elab.async false
set_option linter.all false
set_option maxRecDepth 100000
set_option maxHeartbeats 4000000
/-! A comprehension over a text; a method of an instance whose class shows in the heap; what happens to an error that is raised in a make. -/
namespace L2.Jk
open PySem PySem.W PySem.Spec PySem.Calls PyProof.Rows

theorem lc_str {x : Str} {g : TG} {tt : TT} {te : TE} {vs : List Nat} {σ : St} {H1 : Hp} {D : Addr} {Qd : Hp → Prop} (Pv : Nat → Hp → Prop) (h0 : Pv 0 (upd H1 D (.lst [])))
    (hs : ∀ (i c : Nat) H, x.cps[i]? = some c → Pv i H → g (.str ⟨#[c]⟩) (wipe σ vs) H fun σ2 H2 => wipe σ2 vs = wipe σ vs ∧ tt σ2 H2 fun b H3 =>
      if b = true then te σ2 H3 fun y H4 => ∃ acc, H4 D = some (.lst acc) ∧ acc.length < sizeLine ∧ Pv (i + 1) (upd H4 D (.lst (acc ++ [y]))) else Pv (i + 1) H3) (hd : ∀ H, Pv x.cps.size H → Qd H) :
    ∃ W : Nat → Nat → Hp → Prop, (∃ m, W 0 m (upd H1 D (.lst []))) ∧ ∀ i m H, W i m H →
      ((Its x).stop i H ∧ Qd H) ∨ ((Its x).go i H ∧ ∃ Nx : Hp → Prop, (∀ H', Nx H' → ∃ m', m' < m ∧ W (i + 1) m' H') ∧ ∀ y H', (Its x).yld i H y H' → g y (wipe σ vs) H' fun σ2 H2 => wipe σ2 vs = wipe σ vs ∧ tt σ2 H2 fun b H3 =>
        if b = true then te σ2 H3 fun y H4 => ∃ acc, H4 D = some (.lst acc) ∧ acc.length < sizeLine ∧ Nx (upd H4 D (.lst (acc ++ [y]))) else Nx H3) := by
  refine ⟨fun i m H => m = x.cps.size - i ∧ i ≤ x.cps.size ∧ Pv i H, ⟨x.cps.size, by simp, Nat.zero_le _, h0⟩, ?_⟩
  rintro i m H ⟨rfl, hi, p⟩
  by_cases hlt : i < x.cps.size
  · refine .inr ⟨hlt, Pv (i + 1), fun H' p' => ⟨x.cps.size - (i + 1), by omega, rfl, hlt, p'⟩, fun y H' z => ?_⟩
    obtain ⟨e, c, hc, ev⟩ := z
    subst e ev
    exact hs i c _ hc p
  · have e : i = x.cps.size := by omega
    subst e
    exact .inl ⟨Nat.le_refl _, hd H p⟩
/-- o.m(e, ..), the class of o as the heap has it -/
def tMethD (X : Cx) (CX : CXT) (m : Str) (E : XK) (ta : TE) (t : TA) : TE := fun σ H Q => ta σ H fun x H1 => ∃ (a C dx f : Addr) (fs : List (Str × V)) (k : Nat) (fd : FuncData) (ps : List Str) (sp : Sp), x = .ref a ∧ H1 a = some (.ins C dx fs) ∧ fs.lookup m = none ∧
  Cls X.K C ∧ Meth X.K C m f ∧ FnOk X.prog X.w X.K X.mg X.base CX k f fd ps sp ∧ Room k X.A ∧ Binds X.K fd ps [] ∧ t σ H1 fun vs H2 => sp (x :: vs) H2 Q E
section
variable {X : Cx} {CX : CXT} {E : XK} {o e : Expr} {es : List Expr} {m : Str} {ta : TE} {t : TA} {apos pos : Pos}
theorem pe_methD {pl : Sem Bool} (he : PE X o ta) (hx : Passes CX X E) (ha : PA X (e :: es) t)
    (hst : starEach (e :: es) X.env = (false, eval e X.env) :: starEach es X.env := by rfl) (hpl : (backTo pos (starEach es X.env)).any (·.1) = false := by rfl)
    (ht : eval (.Call (.Attribute o m apos) (e :: es) [] pos) X.env = (do
      let ov ← eval o X.env
      standAt apos.atName
      let (f, first) ← holding [ov] (getMethod ov m pl)
      callWith pos f first (backTo pos (starEach (e :: es) X.env)) (backToKw pos (keywordEach [] X.env))) := by rfl) :
    PE X (.Call (.Attribute o m apos) (e :: es) [] pos) (tMethD X CX m E ta t) := by
  refine ⟨fun pins s σ H Q I h => ?_⟩
  refine PySem.W.methodCall_KW (pl := pl) (thn (he.run pins s σ H _ I h) fun u s1 hh => ?_) ht
  obtain ⟨x, H1, I1, rx, a, C, dx, f, fs, k, fd, ps, sp, ex, ea, l, c, hm, F, hr, hb, q⟩ := hh
  subst ex
  obtain rfl : u = Value.ref a := rx
  refine getmeth_ok I1 ea c hm l ?_
  refine PySem.W.callWith_K (first := [.ref a]) (h₀ := X.base) I.ok.mod.kin hm.kp (thn (ha.run pos pins s1 σ H1 _ I1 q) fun us s2 ⟨vs, H2, I2, r, q2⟩ => ⟨I2.kIn, ?_⟩) hst hpl
  have q2' : sp (V.ref a :: (vs ++ [])) H2 Q E := by rw [List.append_nil]; exact q2
  exact run_fn (us := .ref a :: us) (vs := .ref a :: vs) (dvs := []) (ds := []) F hr hb .nil hx I2 (.cons rfl r) q2'
end
/-- a call that the reading never comes to -/
theorem fn_never {P : Program} {w : World} {K : Frag} {mg : Str → Option Value} {base : Heap} {CX : CXT} {k : Nat} {f : Addr} {fd : FuncData} {ps : List Str} : FnOk P w K mg base CX k f fd ps (fun _ _ _ _ => False) where
  len := fun _ _ _ _ h => False.elim h
  run := fun _ _ _ _ _ _ _ _ _ _ _ _ _ h => False.elim h
theorem same_new {H : Hp} {a dx C : Addr} {fs : List (Str × V)} (ha : H a = none) (hd : H dx = none) : Same H (upd (upd H dx (.own a)) a (.ins C dx fs)) := fun b o e => by
  rw [upd_ne (ne_of_none e ha), upd_ne (ne_of_none e hd)]
  exact e
theorem same_put {H H1 : Hp} {p : Addr} {o : HO} (S : Same H H1) (n : H p = none) : Same H (upd H1 p o) := fun b u e => by
  rw [upd_ne (ne_of_none e n)]
  exact S b u e
end L2.Jk

set_option Elab.async false
set_option linter.all false
set_option maxRecDepth 100000
set_option maxHeartbeats 4000000
/-! The things that are drawn, and what is told of them. -/
namespace L2.K08
open PySem PySem.W PySem.Spec PySem.Calls PyProof.Rows L2.Jk

def sM : List V := [.str "ba", .str "ab"]
def nM : List V := [.int 0, .int 1, .int 2, .int 3, .int 4, .int 5, .int 6, .int 7, .non]
def hM : List V := nM
def wM : List V := [.int 4, .int 5, .int 6, .int 7]
def eM : List V := [.str "Z"]
def mM : List V := [.str "N", .str "m"]
def xM : List V := [.str "b", .str "", .str "ba"]
def mQ : List V := mM
def vM : List V := sM ++ (eM ++ (mQ ++ xM))
/-- what the texts of a listed field are drawn from -/
inductive LX where
  | lst (xs : List V)
  | tup (xs : List V)
  | val (v : V)
  deriving DecidableEq
def lM : List LX := [.lst [.str "b", .str "", .str "ba"], .tup [.str "b", .str "", .str "ba"]]

/-- text.strip(signs) == '' -/
def madeB (a b : Str) : Bool := decide (V.str (Txt.stripChars a b) = V.str "")
/-- c in z, c one sign -/
def inB (c z : Str) : Bool := decide (c.cps.getD 0 0 ∈ z.cps.toList)
def isSignB : V → Bool
  | .str z => (z.length == 1) && inB z SG
  | _ => false
def areB : V → Bool
  | .str z => madeB z SG
  | _ => false
def sgB : V → Bool
  | .str z => z.cps.toList.all fun c => decide (c ∈ SG.cps.toList)
  | _ => false
def numB : V → Bool
  | .int _ => true
  | _ => false
def lenV : V → Nat
  | .str z => z.length
  | _ => 0
/-- signs that stand twice -/
def twB : V → Bool
  | .str z => decide ((newS (fun i => ⟨#[z.cps.getD i 0]⟩) z.cps.size : Nat) < z.length)
  | _ => false
def sBad (v : V) : Bool := !areB v || (decide (v = .str "") || twB v)
def ltV : V → V → Bool
  | .int a, .int b => decide (a < b)
  | _, _ => false
def bDue (l m : V) : Option Str :=
  if (!numB l || ltV l (.int 0)) = true then some "least" else if (!decide (m = .non) && (!numB m || ltV m l)) = true then some "most" else none
def wDue (w : V) : Option Str := if (!numB w || ltV w (.int 1)) = true then some "width" else none
/-- the texts of a list, if all are texts of signs -/
def strV : V → Str
  | .str z => z
  | _ => ""
def xsBad (xs : List V) : Bool := !xs.all areB || decide ((newS (fun i => (xs.map strV).getD i Str.empty) (xs.map strV).length : Nat) < xs.length)
def lxDue : LX → Option Str
  | .val _ => some "texts"
  | .lst xs => if (decide (xs.length = 0) || xsBad xs) = true then some "texts" else none
  | .tup xs => if (decide (xs.length = 0) || xsBad xs) = true then some "texts" else none
def eDue (s e l m : V) : Option Str :=
  if sBad s = true then some "signs" else if (!isSignB e || inB (strV e) (strV s)) = true then some "sign" else bDue l m
def oDue (s l m : V) : Option Str := if sBad s = true then some "signs" else bDue l m
inductive PD where
  | word (s l m : V)
  | number (l m : V)
  | fixed (w : V)
  | listed (x : LX)
  | ended (s e l m : V)
def PD.due : PD → Option Str
  | .word s l m => oDue s l m
  | .number l m => bDue l m
  | .fixed w => wDue w
  | .listed x => lxDue x
  | .ended s e l m => eDue s e l m
def PD.In : PD → Prop
  | .word s l m => s ∈ sM ∧ l ∈ nM ∧ m ∈ nM
  | .number l m => l ∈ nM ∧ m ∈ hM
  | .fixed w => w ∈ wM
  | .listed x => x ∈ lM
  | .ended s e l m => s ∈ sM ∧ e ∈ eM ∧ l ∈ nM ∧ m ∈ nM
/-- has a sign: what the program asks -/
def dg (n : Int) : Str := Txt.join "" [(toString n : Str)]
def wwB (s m : V) (c : Str) : Bool := inB c (strV s) && !decide (m = .int 0)
def intV : V → Int
  | .int i => i
  | _ => 0
def LX.els : LX → List V
  | .lst xs => xs
  | .tup xs => xs
  | .val _ => []
def PD.has (c : Str) : PD → Bool
  | .word s _ m => wwB s m c
  | .number l m => if (decide (m = .non) || decide (9 ≤ intV m - intV l)) = true then inB c DG else (List.range (intV m + 1 - intV l).toNat).any fun (i : Nat) => inB c (dg (intV l + i))
  | .fixed _ => inB c DG
  | .listed x => x.els.any fun v => inB c (strV v)
  | .ended s e _ m => decide (V.str c = e) || wwB s m c
/-- the texts that hold all signs of a field, as the law has them -/
def PD.held : PD → Str
  | .word s _ m => if (decide (m = .non) || ltV (.int 0) m) = true then strV s else ""
  | .number l m => if (decide (m = .non) || decide (intV l + 10 ≤ intV m)) = true then DG else Txt.join "" ((List.range (intV m + 1 - intV l).toNat).map fun (i : Nat) => (toString (intV l + (i : Int)) : Str))
  | .fixed _ => DG
  | .listed x => Txt.join "" (x.els.map strV)
  | .ended s e _ m => (if (decide (m = .non) || ltV (.int 0) m) = true then strV s else "") ++ strV e
inductive OD where
  | val (v : V)
  | pl (d : PD)
  | mk (n m : V) (i : OD)
def iDue (n m : V) : OD → Option Str
  | .pl d => if (inB (strV n) d.held || inB (strV m) d.held) = true then some "field" else none
  | _ => some "field"
def OD.due : OD → Option Str
  | .val _ => none
  | .pl d => d.due
  | .mk n m i => if (!isSignB n) = true then some "none" else if (!isSignB m || decide (m = n)) = true then some "mark" else iDue n m i
def signs1 : List Str := ["N", "m", "a", "0", "-", "9", "P", "Q"]
theorem vM_facts : ∀ v ∈ vM, flatV v = true ∧ areB v = sgB v ∧ isSignB v = (sgB v && decide (lenV v = 1)) ∧ lenV v ≤ 20 := by decide +kernel
theorem one_sign : ∀ v ∈ vM, lenV v = 1 → v = .str ⟨#[(strV v).cps.getD 0 0]⟩ := by decide +kernel
theorem mM_signs : ∀ v ∈ mQ, isSignB v = true → strV v ∈ signs1 ∧ v = .str (strV v) := by decide +kernel
theorem mk_word : ∀ s ∈ sM, ∀ l ∈ nM, ∀ m ∈ nM, oDue s l m = none → ∀ c ∈ signs1, inB c (PD.held (.word s l m)) = PD.has c (.word s l m) := by decide +kernel
theorem mk_number : ∀ l ∈ nM, ∀ m ∈ hM, bDue l m = none → ∀ c ∈ signs1, inB c (PD.held (.number l m)) = PD.has c (.number l m) := by decide +kernel
theorem mk_listed : ∀ x ∈ lM, lxDue x = none → ∀ c ∈ signs1, inB c (PD.held (.listed x)) = PD.has c (.listed x) := by decide +kernel
theorem mk_ended : ∀ s ∈ sM, ∀ e ∈ eM, ∀ l ∈ nM, ∀ m ∈ nM, eDue s e l m = none → ∀ c ∈ signs1, inB c (PD.held (.ended s e l m)) = PD.has c (.ended s e l m) := by decide +kernel
end L2.K08

set_option Elab.async false
set_option linter.all false
set_option maxRecDepth 100000
set_option maxHeartbeats 4000000
namespace L2.K08
open PySem PySem.W PySem.Spec PySem.Calls PyProof.Rows L2.Jk



/-! ### the law's own numbers: a list of three -/
def StAt (H : Hp) (a : Addr) : Prop := ∃ p q r : Int, H a = some (.lst [.int p, .int q, .int r]) ∧ 0 ≤ p ∧ 0 ≤ q ∧ q < 2147483700 ∧ 0 ≤ r ∧ r < 2147483700
def spState : Sp := fun vs H Q _ => ∃ n : Int, vs = [.int n] ∧ ∀ a H', H a = none → Same H H' → StAt H' a → Q (.ref a) H'
def spDigit : Sp := fun vs H Q _ => ∃ (a : Addr) (b : Int), vs = [.ref a, .int b] ∧ StAt H a ∧ 0 < b ∧ b < 1073741824 ∧ ∀ d H', 0 ≤ d → d < b → But a H H' → StAt H' a → Q (.int d) H'
theorem state_line (n : Int) : 0 ≤ (if n < 0 then -n else n) * (if decide (10 ^ (18 : Int).toNat ≤ (if n < 0 then -n else n)) = true then 1 else 0) := by
  by_cases h : n < 0
  · simp only [if_pos h]
    split <;> omega
  · simp only [if_neg h]
    split <;> omega

structure Bl (mg : Str → Option Value) : Prop where
  abs : mg "abs" = none
  int : mg "int" = none
  bool : mg "bool" = none
  isinstance : mg "isinstance" = none
  range : mg "range" = none
  len : mg "len" = none
  set : mg "set" = none
  type : mg "type" = none
  str : mg "str" = none
  reversed : mg "reversed" = none
  tuple : mg "tuple" = none
  list : mg "list" = none
  any : mg "any" = none
  all : mg "all" = none

theorem bit_line (c : Prop) [Decidable c] : -(2 ^ 64) < (if c then (1 : Int) else 0) ∧ (if c then (1 : Int) else 0) < 2 ^ 64 := by
  split <;> exact ⟨by decide, by decide⟩
/-- the module's own names, the error class -/
structure G0 (P : Program) (w : World) (K : Frag) (mg : Str → Option Value) (base : Heap) : Prop extends Bl mg where
  sg : ∃ t, mg "SIGNS" = some (.str SG t)
  dgs : ∃ t, mg "DIGITS" = some (.str DG t)
  bf : ErrAt P w K mg base "BadField" (He.ga K "BadField") ["what"] "refused badfield"
section
variable {P : Program} {w : World} {K : Frag} {mg : Str → Option Value} {base : Heap} {f : Addr} {fd : FuncData}

abbrev s_state : Stmt := top 54
theorem sc_state : FnScope ["_law_source"] ["_law_source"] (defScope s_state) := ⟨rfl, rfl, rfl, by decide +kernel, rfl, by decide +kernel, by decide +kernel⟩

theorem ok_state (F : FunD K "_law_state" "_law_state" (defArgs s_state) (defBody s_state) (defScope s_state) [] [] f fd) (G : Bl mg) : FnOk P w K mg base CX0 1 f fd ["_law_source"] spState := by
  refine F.ok sc_state (fun vs H Q E h => ?_) (fun cdv A outer s H vs Q E hr h => ?_)
  · obtain ⟨n, rfl, _⟩ := h
    rfl
  · obtain ⟨n, rfl, q⟩ := h
    refine ⟨_, PSs.nox (pss_cons (ps_set (i := 0) sc_state.nd rfl (Or.inl rfl) (pe_callB call_abs (by rfl) G.abs (by decide +kernel) (pa_cons (pv 0) pa_nil)))
    (pss_one (ps_ret (pe_lstS (pa_cons (pe_op op_mul (pv 0) (pe_callTy call_int1 (by rfl) G.int (by decide +kernel) (pa_cons (pe_cmpR op_ge (pv 0) (pe_op op_pow pe_int pe_int) (nomark _)) pa_nil))) (pa_cons (pe_op op_add (pe_op op_mod (pe_callTy call_int1 (by rfl) G.int (by decide +kernel) (pa_cons (pv 0) pa_nil)) pe_int) pe_int) (pa_cons (pe_op op_mod (pe_callTy call_int1 (by rfl) G.int (by decide +kernel) (pa_cons (pv 0) pa_nil)) pe_int) pa_nil))))))), ?_⟩
    refine ⟨_, rfl, n, rfl, ?_⟩
    refine ⟨_, rfl, _, rfl, _, _, rfl, rfl, ⟨by decide, by decide, by decide⟩, _, _, rfl, rfl, .inr ⟨_, rfl, ?_⟩⟩
    refine ⟨_, _, rfl, rfl, .inr (bit_line _), _, rfl, .inl ⟨_, rfl, _, _, rfl, rfl, (by show (0 : Int) < 2147483629; decide), _, _, rfl, rfl, ?_⟩⟩
    refine ⟨_, rfl, .inl ⟨_, rfl, _, _, rfl, rfl, (by show (0 : Int) < 2147483587; decide), ?_⟩⟩
    refine ⟨by show 3 ≤ 1000; decide, fun p H' hp S e => q p H' hp S ⟨_, _, _, e, state_line n, ?_, ?_, ?_, ?_⟩⟩
    · have := Int.emod_nonneg (if n < 0 then -n else n) (show (2147483629 : Int) ≠ 0 by decide)
      omega
    · have := Int.emod_lt_of_pos (if n < 0 then -n else n) (show (0 : Int) < 2147483629 by decide)
      omega
    · exact Int.emod_nonneg _ (by decide)
    · have := Int.emod_lt_of_pos (if n < 0 then -n else n) (show (0 : Int) < 2147483587 by decide)
      omega

abbrev s_digit : Stmt := top 55
theorem sc_digit : FnScope ["_law_state_here", "_law_base", "_law_found", "_law_mixed"] ["_law_state_here", "_law_base"] (defScope s_digit) := ⟨rfl, rfl, rfl, by decide +kernel, rfl, by decide +kernel, by decide +kernel⟩

theorem ok_digit (F : FunD K "_law_digit" "_law_digit" (defArgs s_digit) (defBody s_digit) (defScope s_digit) [] [] f fd) (G : Bl mg) : FnOk P w K mg base CX0 1 f fd ["_law_state_here", "_law_base"] spDigit := by
  refine F.ok sc_digit (fun vs H Q E h => ?_) (fun cdv A outer s H vs Q E hr h => ?_)
  · obtain ⟨a, b, rfl, _⟩ := h
    rfl
  · obtain ⟨a, b, rfl, ⟨x, y, z, ha, hx, hy, hy2, hz, hz2⟩, hb, hb2, q⟩ := h
    refine ⟨_, PSs.nox (pss_cons (ps_if (pt_cmpR op_gt (pe_ix ix_list (pv 0) pe_int (fun _ _ => rfl)) pe_int (nomark _))
      (pss_cons (ps_set (i := 2) sc_digit.nd rfl (Or.inl rfl) (pe_op op_mod (pe_callTy call_int1 (by rfl) G.int (by decide +kernel) (pa_cons (pe_ix ix_list (pv 0) pe_int (fun _ _ => rfl)) pa_nil)) (pv 1)))
      (pss_cons (ps_asg (pe_op op_fdiv (pe_ix ix_list (pv 0) pe_int (fun _ _ => rfl)) (pv 1)) (pg_sub (pv 0) pe_int set_list))
      (pss_one (ps_ret (pv 2)))))
      pss_nil)
    (pss_cons (ps_set (i := 3) sc_digit.nd rfl (Or.inl rfl) (pe_op op_mul (pe_ix ix_list (pv 0) pe_int (fun _ _ => rfl)) (pe_op op_add (pe_op op_fdiv (pe_ix ix_list (pv 0) pe_int (fun _ _ => rfl)) pe_int) pe_int)))
    (pss_cons (ps_asg (pe_op op_add (pe_op op_mod (pe_callTy call_int1 (by rfl) G.int (by decide +kernel) (pa_cons (pe_op op_add (pv 3) (pe_ix ix_list (pv 0) pe_int (fun _ _ => rfl))) pa_nil)) pe_int) pe_int) (pg_sub (pv 0) pe_int set_list))
    (pss_one (ps_ret (pe_op op_mod (pe_callTy call_int1 (by rfl) G.int (by decide +kernel) (pa_cons (pe_op op_fdiv (pe_ix ix_list (pv 0) pe_int (fun _ _ => rfl)) pe_int) pa_nil)) (pv 1))))))), ?_⟩
    refine ⟨_, rfl, _, _, _, _, rfl, rfl, SqL.of ha, atI_nat (j := 0) rfl, _, _, rfl, rfl, _, rfl, ?_⟩
    refine ite2 (fun h0 => ?_) (fun h0 => ?_)
    · refine ⟨_, rfl, _, _, _, _, rfl, rfl, SqL.of ha, atI_nat (j := 0) rfl, .inl ⟨_, rfl, _, rfl, _, _, rfl, rfl, hb, ?_⟩⟩
      refine ⟨_, rfl, _, _, _, _, rfl, rfl, SqL.of ha, atI_nat (j := 0) rfl, _, rfl, _, _, rfl, rfl, ⟨hb, hb2⟩, ?_⟩
      refine ⟨_, rfl, _, _, _, 0, rfl, rfl, ha, rfl, ?_⟩
      refine ⟨_, rfl, q _ _ (Int.emod_nonneg _ (by omega)) (Int.emod_lt_of_pos _ hb) (but_upd _ _ _) ⟨_, _, _, upd_same, Int.ediv_nonneg hx (by omega), hy, hy2, hz, hz2⟩⟩
    · refine ⟨_, rfl, _, _, _, _, rfl, rfl, SqL.of ha, atI_nat (j := 1) rfl, _, rfl, _, _, _, _, rfl, rfl, SqL.of ha, atI_nat (j := 1) rfl, _, _, rfl, rfl, ⟨by decide, by decide⟩, _, _, rfl, rfl, _, _, rfl, rfl, .inl ⟨by omega, by omega⟩, ?_⟩
      refine ⟨_, rfl, _, rfl, _, _, _, _, rfl, rfl, SqL.of ha, atI_nat (j := 2) rfl, _, _, rfl, rfl, .inl ⟨_, rfl, _, _, rfl, rfl, (by show (0 : Int) < 2147483629; decide), _, _, rfl, rfl, ?_⟩⟩
      refine ⟨_, rfl, _, _, _, 1, rfl, rfl, ha, rfl, ?_⟩
      refine ⟨_, rfl, _, _, _, _, rfl, rfl, SqL.of upd_same, atI_nat (j := 1) rfl, _, _, rfl, rfl, ⟨by decide, by decide⟩, .inl ⟨_, rfl, _, rfl, _, _, rfl, rfl, hb, ?_⟩⟩
      have m1 := Int.emod_nonneg (y * (y / 1009 + 69621) + z) (show (2147483629 : Int) ≠ 0 by decide)
      have m2 := Int.emod_lt_of_pos (y * (y / 1009 + 69621) + z) (show (0 : Int) < 2147483629 by decide)
      exact q _ _ (Int.emod_nonneg _ (by omega)) (Int.emod_lt_of_pos _ hb) (but_upd _ _ _) ⟨_, _, _, upd_same, hx, by omega, by omega, hz, hz2⟩


theorem pe_sg {X : Cx} {x : Str} {z : Str} {pos : Pos} (h : ∃ t, X.mg x = some (.str z t)) (hg : Gl X x := by rfl) (hd : (x == ("__debug__" : Str)) = false := by decide) : PE X (.Name x pos) (tC (.str z)) := by
  obtain ⟨t, h⟩ := h
  exact pe_glob (v := .str z) hg h ⟨t, rfl⟩ hd

def spMade : Sp := fun vs H Q _ => ∃ a b : Str, vs = [.str a, .str b] ∧ a.length ≤ 1000 ∧ Q (.bl (madeB a b)) H
def spV (p : V → Bool) : Sp := fun vs H Q _ => ∃ v : V, vs = [v] ∧ v ∈ vM ∧ Q (.bl (p v)) H
def spNum : Sp := fun vs H Q _ => ∃ v : V, vs = [v] ∧ flatV v = true ∧ Q (.bl (numB v)) H
def spDig : Sp := fun vs H Q _ => ∃ n : Int, vs = [.int n] ∧ 0 ≤ n ∧ n < 32 ∧ ∀ H', Same H H' → Q (.str (dg n)) H'
theorem small_line (z : Str) (h : z.length ≤ 1000) : z.length ≤ sizeLine := by
  rw [sizeLine_eq]
  omega

abbrev s_made_of : Stmt := top 18
theorem sc_made_of : FnScope ["text", "signs"] ["text", "signs"] (defScope s_made_of) := ⟨rfl, rfl, rfl, by decide +kernel, rfl, by decide +kernel, by decide +kernel⟩

theorem ok_made_of (F : FunD K "is_made_of" "is_made_of" (defArgs s_made_of) (defBody s_made_of) (defScope s_made_of) [] [] f fd) (G : G0 P w K mg base) : FnOk P w K mg base CX0 1 f fd ["text", "signs"] spMade := by
  refine F.ok (CX := CX0) sc_made_of (fun vs H Q E h => ?_) (fun cdv A outer s H vs Q E hr h => ?_)
  · obtain ⟨a, b, rfl, _⟩ := h
    rfl
  · refine ⟨_, PSs.nox (pss_one (ps_ret (pe_cmpR op_eq (pe_bm PySem.F.plainAttrs_str PySem.F.slot_str_strip PySem.F.type_str_strip mt_stripChars (pv 0) (pa_cons (pv 1) pa_nil)) pe_str (nomark _)))), ?_⟩
    obtain ⟨a, b, rfl, hz, q⟩ := h
    exact ⟨_, rfl, rfl, _, rfl, a, b, rfl, rfl, small_line a hz, rfl, q⟩

abbrev s_is_sign : Stmt := top 19
theorem sc_is_sign : FnScope ["thing"] ["thing"] (defScope s_is_sign) := ⟨rfl, rfl, rfl, by decide +kernel, rfl, by decide +kernel, by decide +kernel⟩

theorem ok_is_sign (F : FunD K "is_sign" "is_sign" (defArgs s_is_sign) (defBody s_is_sign) (defScope s_is_sign) [] [] f fd) (G : G0 P w K mg base) : FnOk P w K mg base CX0 1 f fd ["thing"] (spV isSignB) := by
  refine F.ok (CX := CX0) sc_is_sign (fun vs H Q E h => ?_) (fun cdv A outer s H vs Q E hr h => ?_)
  · obtain ⟨v, rfl, _⟩ := h
    rfl
  · refine ⟨_, PSs.nox (pss_one (ps_ret (pe_and (pe_callB call_ie (by rfl) G.isinstance (by decide +kernel) (pa_cons (pv 0) (pa_cons (pe_bty (n := "str") (by rfl) G.str (by decide +kernel)) pa_nil))) (pe_and (pe_cmpR op_eq (pe_callB call_len_str (by rfl) G.len (by decide +kernel) (pa_cons (pv 0) pa_nil)) pe_int (nomark _)) (pe_one (pe_cmpR op_in_sign (pv 0) (pe_sg G.sg) (by rfl))))))), ?_⟩
    obtain ⟨v, rfl, hv, q⟩ := h
    obtain ⟨hf, _, _, hz⟩ := vM_facts v hv
    refine ⟨_, rfl, _, _, _, _, _, rfl, .ty _, flat_ty hf, kit_ty (kit_str hf), _, rfl, ?_⟩
    cases v with
    | str z =>
      refine iteT ⟨_, rfl, z, rfl, small_line z (Nat.le_trans hz (by decide)), rfl, _, rfl, ?_⟩
      refine ite2 (fun h1 => ?_) (fun h1 => ?_)
      · have h1' : z.length = 1 := by have := of_decide_eq_true h1; simp at this; omega
        have e := one_sign (.str z) hv h1'
        refine ⟨_, rfl, _, SG, e, rfl, ?_⟩
        have r : isSignB (.str z) = decide (z.cps.getD 0 0 ∈ SG.cps.toList) := by show ((z.length == 1) && inB z SG) = _; rw [h1']; rfl
        rw [r] at q
        exact q
      · have h1' : z.length ≠ 1 := fun e => h1 (by rw [e]; rfl)
        have r : isSignB (.str z) = false := by show ((z.length == 1) && inB z SG) = _; rw [beq_eq_false_iff_ne.mpr h1']; rfl
        rw [r] at q
        exact q
    | non => exact iteF q
    | bl b => exact iteF q
    | int i => exact iteF q
    | _ => cases hf

abbrev s_is_number : Stmt := top 22
theorem sc_is_number : FnScope ["thing"] ["thing"] (defScope s_is_number) := ⟨rfl, rfl, rfl, by decide +kernel, rfl, by decide +kernel, by decide +kernel⟩

theorem ok_is_number (F : FunD K "is_number" "is_number" (defArgs s_is_number) (defBody s_is_number) (defScope s_is_number) [] [] f fd) (G : G0 P w K mg base) : FnOk P w K mg base CX0 1 f fd ["thing"] spNum := by
  refine F.ok (CX := CX0) sc_is_number (fun vs H Q E h => ?_) (fun cdv A outer s H vs Q E hr h => ?_)
  · obtain ⟨v, rfl, _⟩ := h
    rfl
  · refine ⟨_, PSs.nox (pss_one (ps_ret (pe_and (pe_callB call_ie (by rfl) G.isinstance (by decide +kernel) (pa_cons (pv 0) (pa_cons (pe_bty (n := "int") (by rfl) G.int (by decide +kernel)) pa_nil))) (pe_one (pe_not (pe_callB call_ie (by rfl) G.isinstance (by decide +kernel) (pa_cons (pv 0) (pa_cons (pe_bty (n := "bool") (by rfl) G.bool (by decide +kernel)) pa_nil)))))))), ?_⟩
    obtain ⟨v, rfl, hf, q⟩ := h
    refine ⟨_, rfl, _, _, _, _, _, rfl, .ty _, flat_ty hf, kit_ty (kit_int hf), _, rfl, ?_⟩
    cases v with
    | non => exact iteF q
    | str z => exact iteF q
    | bl b => exact iteT ⟨_, rfl, _, _, _, _, _, rfl, .ty _, flat_ty hf, kit_ty (kit_bool hf), _, rfl, q⟩
    | int i => exact iteT ⟨_, rfl, _, _, _, _, _, rfl, .ty _, flat_ty hf, kit_ty (kit_bool hf), _, rfl, q⟩
    | _ => cases hf

theorem dg_ok : ∀ n ∈ List.range 32, JoinOk "" [(toString (n : Int) : Str)] = true := by decide +kernel
theorem dg_log : ∀ n ∈ List.range 32, (n : Int).natAbs.log2 < 1920 := by decide +kernel

abbrev s_digits_of : Stmt := top 24
theorem sc_digits_of : FnScope ["number", "limit", "pieces", "piece"] ["number"] (defScope s_digits_of) := ⟨rfl, rfl, rfl, by decide +kernel, rfl, by decide +kernel, by decide +kernel⟩

theorem ok_digits_of (F : FunD K "digits_of" "digits_of" (defArgs s_digits_of) (defBody s_digits_of) (defScope s_digits_of) [] [] f fd) (G : G0 P w K mg base) : FnOk P w K mg base CX0 1 f fd ["number"] spDig := by
  refine F.ok (CX := CX0) sc_digits_of (fun vs H Q E h => ?_) (fun cdv A outer s H vs Q E hr h => ?_)
  · obtain ⟨n, rfl, _⟩ := h
    rfl
  · refine ⟨_, PSs.nox (pss_cons (ps_set (i := 1) sc_digits_of.nd rfl (Or.inl rfl) (pe_op op_pow pe_int pe_int))
    (pss_cons (ps_set (i := 2) sc_digits_of.nd rfl (Or.inl rfl) (pe_lstS pa_nil))
    (pss_cons (ps_while PassesOwn.never (pt_cmpR op_ge (pv 0) (pv 1) (nomark _)) pss_never)
    (pss_cons (ps_expr (pe_bm PySem.F.plainAttrs_list PySem.F.slot_list_append PySem.F.type_list_append mt_append (pv 2) (pa_cons (pe_callTy call_str_int (by rfl) G.str (by decide +kernel) (pa_cons (pv 0) pa_nil)) pa_nil)))
    (pss_one (ps_ret (pe_joinRev rfl (by rfl) G.reversed pe_str (pv 2)))))))), ?_⟩
    obtain ⟨n, rfl, h0, h1, q⟩ := h
    obtain ⟨k, rfl⟩ : ∃ k : Nat, n = (k : Int) := ⟨n.toNat, by omega⟩
    have hk : k ∈ List.range 32 := List.mem_range.mpr (by omega)
    refine ⟨_, _, rfl, rfl, ⟨by decide, by decide, by decide⟩, ?_⟩
    refine ⟨by show 0 ≤ 1000; decide, fun p H1 hp S e => ?_⟩
    refine ⟨fun m σ' H' => m = 0 ∧ σ' = [some (.int (k : Int)), some (.int (10 ^ (64 : Int).toNat)), some (.ref p), none] ∧ H' = H1, ⟨0, rfl, rfl, rfl⟩, ?_⟩
    rintro m σ' H' ⟨rfl, rfl, rfl⟩
    refine ⟨_, rfl, _, rfl, _, _, rfl, rfl, _, rfl, ?_⟩
    refine ite2 (fun hf => ?_) (fun _ => ?_)
    · have z := of_decide_eq_true hf
      have e : (10 : Int) ^ (64 : Int).toNat = 10000000000000000000000000000000000000000000000000000000000000000 := by decide +kernel
      rw [e] at z
      omega
    refine ⟨_, rfl, .inl ⟨rfl, _, SqL.of e⟩, _, rfl, _, rfl, dg_log k hk, p, _, _, rfl, rfl, e, (by rw [sizeLine_eq]; decide), ?_⟩
    refine ⟨_, rfl, _, rfl, p, [(toString (k : Int) : Str)], rfl, SqL.of upd_same, dg_ok k hk, ?_⟩
    exact q _ (same_put S hp)

structure G1 (P : Program) (w : World) (K : Frag) (mg : Str → Option Value) (base : Heap) : Prop extends G0 P w K mg base where
  is_made_of : FnAt P w K mg base CX0 1 "is_made_of" ["text", "signs"] spMade
  is_sign : FnAt P w K mg base CX0 1 "is_sign" ["thing"] (spV isSignB)
  is_number : FnAt P w K mg base CX0 1 "is_number" ["thing"] spNum
  digits_of : FnAt P w K mg base CX0 1 "digits_of" ["number"] spDig

abbrev s_are_signs : Stmt := top 20
theorem sc_are_signs : FnScope ["thing"] ["thing"] (defScope s_are_signs) := ⟨rfl, rfl, rfl, by decide +kernel, rfl, by decide +kernel, by decide +kernel⟩

theorem ok_are_signs (F : FunD K "are_signs" "are_signs" (defArgs s_are_signs) (defBody s_are_signs) (defScope s_are_signs) [] [] f fd) (G : G1 P w K mg base) : FnOk P w K mg base CX0 2 f fd ["thing"] (spV areB) := by
  refine F.ok (CX := CX0) sc_are_signs (fun vs H Q E h => ?_) (fun cdv A outer s H vs Q E hr h => ?_)
  · obtain ⟨v, rfl, _⟩ := h
    rfl
  · refine ⟨_, PSs.nox (pss_one (ps_ret (pe_and (pe_callB call_ie (by rfl) G.isinstance (by decide +kernel) (pa_cons (pv 0) (pa_cons (pe_bty (n := "str") (by rfl) G.str (by decide +kernel)) pa_nil))) (pe_one (pe_fn G.is_made_of hr pass0 (by rfl) (pa_cons (pv 0) (pa_cons (pe_sg G.sg) pa_nil))))))), ?_⟩
    obtain ⟨v, rfl, hv, q⟩ := h
    obtain ⟨hf, _, _, hz⟩ := vM_facts v hv
    refine ⟨_, rfl, _, _, _, _, _, rfl, .ty _, flat_ty hf, kit_ty (kit_str hf), _, rfl, ?_⟩
    cases v with
    | str z => exact iteT ⟨_, rfl, z, SG, rfl, Nat.le_trans hz (by decide), q⟩
    | non => exact iteF q
    | bl b => exact iteF q
    | int i => exact iteF q
    | _ => cases hf

structure G2 (P : Program) (w : World) (K : Frag) (mg : Str → Option Value) (base : Heap) : Prop extends G1 P w K mg base where
  are_signs : FnAt P w K mg base CX0 2 "are_signs" ["thing"] (spV areB)
def spChkS (K : Frag) : Sp := fun vs H Q E => ∃ v : V, vs = [v] ∧ v ∈ sM ∧ (sBad v = false → Q .non H) ∧ (sBad v = true → RaiseE (BF K) "what" (.str "signs") H E)
def spChkB (K : Frag) : Sp := fun vs H Q E => ∃ l m : V, vs = [l, m] ∧ flatV l = true ∧ flatV m = true ∧ (bDue l m = none → Q .non H) ∧ (∀ z, bDue l m = some z → RaiseE (BF K) "what" (.str z) H E)
theorem sM_vM {v : V} (h : v ∈ sM) : v ∈ vM := List.mem_append_left _ h

abbrev s_check_signs : Stmt := top 28
theorem sc_check_signs : FnScope ["signs"] ["signs"] (defScope s_check_signs) := ⟨rfl, rfl, rfl, by decide +kernel, rfl, by decide +kernel, by decide +kernel⟩

theorem ok_check_signs (F : FunD K "check_signs" "check_signs" (defArgs s_check_signs) (defBody s_check_signs) (defScope s_check_signs) [] [] f fd) (G : G2 P w K mg base) : FnOk P w K mg base (L2.CX P w) 3 f fd ["signs"] (spChkS K) := by
  refine F.ok (CX := (L2.CX P w)) sc_check_signs (fun vs H Q E h => ?_) (fun cdv A outer s H vs Q E hr h => ?_)
  · obtain ⟨v, rfl, _⟩ := h
    rfl
  · have hr2 : Room 2 _ := hr
    refine ⟨_, (pss_one (ps_if (PW.pt (pw_or (pt_not (pt_val (pe_fn G.are_signs hr2 pass0 (by rfl) (pa_cons (pv 0) pa_nil)))) (pw_or (pt_cmpR op_eq (pv 0) pe_str (nomark _)) (pw_or1 (pt_cmpR op_lt (pe_lenSetStr rfl (by rfl) G.len (by rfl) G.set (pv 0)) (pe_callB call_len_str (by rfl) G.len (by decide +kernel) (pa_cons (pv 0) pa_nil)) (nomark _))))))
      (pss_one (ps_raise rfl (takes_of rfl rfl rfl rfl) (pmk_1 G.bf hr2 (by rfl) (pa_cons pe_str pa_nil))))
      pss_nil)), ?_⟩
    obtain ⟨v, rfl, hv, q1, q2⟩ := h
    obtain ⟨hf, _, _, hz⟩ := vM_facts v (sM_vM hv)
    refine ⟨_, rfl, v, rfl, sM_vM hv, _, rfl, ?_⟩
    have bad : ∀ h : sBad v = true, _ := fun h => mkO_1 (q2 h)
    show if (!areB v) = true then _ else _
    refine ite2 (fun h1 => bad (by show (!areB v || _) = true; rw [h1]; rfl)) (fun h1 => ?_)
    cases v with
    | str z =>
      refine ⟨_, rfl, rfl, _, rfl, ?_⟩
      refine ite2 (fun h2 => bad (by show (_ || (decide _ || _)) = true; rw [h2]; exact Bool.or_true _)) (fun h2 => ?_)
      refine ⟨_, rfl, z, rfl, Nat.le_trans hz (by decide), _, rfl, z, rfl, small_line z (Nat.le_trans hz (by decide)), _, _, rfl, rfl, _, rfl, ?_⟩
      refine ite2 (fun h3 => bad ?_) (fun h3 => q1 ?_)
      · have h4 : twB (.str z) = true := decide_eq_true (by have := of_decide_eq_true h3; omega)
        show (_ || (_ || twB (.str z))) = true
        rw [h4, Bool.or_true, Bool.or_true]
      · have h4 : twB (.str z) = false := decide_eq_false (fun h => h3 (decide_eq_true (by omega)))
        show (!areB (.str z) || (decide (V.str z = .str "") || twB (.str z))) = false
        rw [h4, Bool.eq_false_iff.mpr h1, Bool.eq_false_iff.mpr h2]
        rfl
    | _ => exact absurd rfl h1

abbrev s_check_span : Stmt := top 29
theorem sc_check_span : FnScope ["least", "most"] ["least", "most"] (defScope s_check_span) := ⟨rfl, rfl, rfl, by decide +kernel, rfl, by decide +kernel, by decide +kernel⟩

theorem ok_check_span (F : FunD K "check_span" "check_span" (defArgs s_check_span) (defBody s_check_span) (defScope s_check_span) [] [] f fd) (G : G2 P w K mg base) : FnOk P w K mg base (L2.CX P w) 3 f fd ["least", "most"] (spChkB K) := by
  refine F.ok (CX := (L2.CX P w)) sc_check_span (fun vs H Q E h => ?_) (fun cdv A outer s H vs Q E hr h => ?_)
  · obtain ⟨l, m, rfl, _⟩ := h
    rfl
  · have hr2 : Room 2 _ := hr
    refine ⟨_, (pss_cons (ps_if (PW.pt (pw_or (pt_not (pt_val (pe_fn G.is_number (hr2.mono (by decide)) pass0 (by rfl) (pa_cons (pv 0) pa_nil)))) (pw_or1 (pt_cmpR op_lt (pv 0) pe_int (nomark _)))))
      (pss_one (ps_raise rfl (takes_of rfl rfl rfl rfl) (pmk_1 G.bf hr2 (by rfl) (pa_cons pe_str pa_nil))))
      pss_nil)
    (pss_one (ps_if (PW.pt (pw_and (pt_cmpR op_notN (pv 1) pe_non (nomark _)) (pw_and1 (PW.pt (pw_or (pt_not (pt_val (pe_fn G.is_number (hr2.mono (by decide)) pass0 (by rfl) (pa_cons (pv 1) pa_nil)))) (pw_or1 (pt_cmpR op_lt (pv 1) (pv 0) (nomark _))))))))
      (pss_one (ps_raise rfl (takes_of rfl rfl rfl rfl) (pmk_1 G.bf hr2 (by rfl) (pa_cons pe_str pa_nil))))
      pss_nil))), ?_⟩
    obtain ⟨l, m, rfl, hl, hm, q1, q2⟩ := h
    refine ⟨_, rfl, l, rfl, hl, _, rfl, ?_⟩
    show if (!numB l) = true then _ else _
    refine ite2 (fun h1 => mkO_1 (q2 _ (by show (if (!numB l || _) = true then _ else _) = _; rw [h1]; rfl))) (fun h1 => ?_)
    cases l with
    | int i =>
      refine ⟨_, rfl, _, _, rfl, rfl, _, rfl, ?_⟩
      refine ite2 (fun h2 => mkO_1 (q2 _ (by show (if (_ || decide (i < 0)) = true then _ else _) = _; rw [h2]; rfl))) (fun h2 => ?_)
      refine ⟨_, rfl, rfl, _, rfl, ?_⟩
      have e0 : bDue (.int i) m = if (!decide (m = .non) && (!numB m || ltV m (.int i))) = true then (some "most" : Option Str) else none := by
        show (if (!true || decide (i < 0)) = true then _ else _) = _
        rw [Bool.eq_false_iff.mpr h2]
        rfl
      rw [e0] at q1 q2
      refine ite2 (fun h3 => ?_) (fun h3 => q1 (by rw [Bool.eq_false_iff.mpr h3]; rfl))
      refine ⟨_, rfl, m, rfl, hm, _, rfl, ?_⟩
      show if (!numB m) = true then _ else _
      refine ite2 (fun h4 => mkO_1 (q2 _ (by rw [h3, h4]; rfl))) (fun h4 => ?_)
      cases m with
      | int j =>
        refine ⟨_, rfl, _, rfl, _, _, rfl, rfl, _, rfl, ?_⟩
        refine ite2 (fun h5 => mkO_1 (q2 _ (by show (if (_ && (_ || decide (j < i))) = true then _ else _) = _; rw [h3, h5]; rfl))) (fun h5 => q1 (by show (if (_ && (!true || decide (j < i))) = true then _ else _) = _; rw [h3, Bool.eq_false_iff.mpr h5]; rfl))
      | _ => exact absurd rfl h4
    | _ => exact absurd rfl h1

def spHww (K : Frag) : Sp := fun vs H Q _ => ∃ (a C dx : Addr) (fs : List (Str × V)) (c : Nat) (z : Str) (m : V), vs = [.ref a, .str ⟨#[c]⟩] ∧ H a = some (.ins C dx fs) ∧ Cls K C ∧ NoAttr K C "signs" ∧ NoAttr K C "most" ∧ fs.lookup ("signs" : Str) = some (.str z) ∧ fs.lookup ("most" : Str) = some m ∧
  scal m (.int 0) = true ∧ Q (.bl (wwB (.str z) m ⟨#[c]⟩)) H

abbrev s_has_words : Stmt := top 32
theorem sc_has_words : FnScope ["field", "sign"] ["field", "sign"] (defScope s_has_words) := ⟨rfl, rfl, rfl, by decide +kernel, rfl, by decide +kernel, by decide +kernel⟩

theorem ok_has_words (F : FunD K "has_words_with" "has_words_with" (defArgs s_has_words) (defBody s_has_words) (defScope s_has_words) [] [] f fd) (G : G0 P w K mg base) : FnOk P w K mg base CX0 1 f fd ["field", "sign"] (spHww K) := by
  refine F.ok (CX := CX0) sc_has_words (fun vs H Q E h => ?_) (fun cdv A outer s H vs Q E hr h => ?_)
  · obtain ⟨a, C, dx, fs, c, z, m, rfl, _⟩ := h
    rfl
  · refine ⟨_, PSs.nox (pss_one (ps_ret (pe_and (pe_cmpR op_in_sign (pv 1) (pe_fld (pv 0) rfl) (by rfl)) (pe_one (pe_cmpR op_ne (pe_fld (pv 0) rfl) pe_int (nomark _)))))), ?_⟩
    obtain ⟨a, C, dx, fs, c, z, m, rfl, ha, hC, n1, n2, l1, l2, sc, q⟩ := h
    refine ⟨_, rfl, _, rfl, a, C, dx, fs, _, rfl, ha, hC, n1, l1, c, z, rfl, rfl, _, rfl, ?_⟩
    refine ite2 (fun h1 => ?_) (fun h1 => ?_)
    · refine ⟨_, rfl, a, C, dx, fs, _, rfl, ha, hC, n2, l2, sc, ?_⟩
      have e : wwB (.str z) m ⟨#[c]⟩ = !decide (m = .int 0) := by show (decide (c ∈ z.cps.toList) && _) = _; rw [h1]; rfl
      rw [e] at q
      exact q
    · have e : wwB (.str z) m ⟨#[c]⟩ = false := by show (decide (c ∈ z.cps.toList) && _) = _; rw [Bool.eq_false_iff.mpr h1]; rfl
      rw [e] at q
      exact q

end
end L2.K08

set_option Elab.async false
set_option linter.all false
set_option maxRecDepth 100000
set_option maxHeartbeats 4000000
/-! 'x' * n, n at least 1. -/
namespace L2.Jk
open PySem PySem.W PySem.Spec PySem.Calls PyProof.Rows
def repS (z : Str) (i : Int) : Str := ⟨(List.replicate i.toNat z.cps).foldl (· ++ ·) #[]⟩
/-- it may be done -/
def repOk (z : Str) (i : Int) : Bool := decide (1 ≤ i) && (decide (i < 1000) && (decide (z.length = 1) && (!Builtin.Str.tooLong (z.length * i.toNat) && decide ((repS z i).length ≤ 16777216))))
theorem op_mulStr {X : Cx} : OpR X (binaryOp .Mult) (fun x y H Q => ∃ (z : Str) (i : Int), x = .str z ∧ y = .int i ∧ repOk z i = true ∧ Q (.str (repS z i)) H) := by
  intro pins s σ H x y v u Q I rx ry h
  obtain ⟨z, i, rfl, rfl, ok, q⟩ := h
  obtain ⟨t, rfl⟩ := rx
  obtain ⟨t', rfl⟩ := ry
  obtain ⟨o1, ok⟩ := Bool.and_eq_true_iff.mp ok
  obtain ⟨o2, ok⟩ := Bool.and_eq_true_iff.mp ok
  obtain ⟨o3, ok⟩ := Bool.and_eq_true_iff.mp ok
  obtain ⟨o4, o5⟩ := Bool.and_eq_true_iff.mp ok
  replace o1 := of_decide_eq_true o1
  replace o2 := of_decide_eq_true o2
  replace o3 := of_decide_eq_true o3
  replace o5 := of_decide_eq_true o5
  have e1 : ¬ i < 1 := by omega
  by_cases h1 : i = 1
  · subst h1
    have er : repS z 1 = z := by
      obtain ⟨c⟩ := z
      show (⟨(List.replicate 1 c).foldl (· ++ ·) #[]⟩ : Str) = ⟨c⟩
      simp
    rw [er] at q
    refine P.mul_str (by decide) (fun _ h => absurd h (by simp)) (fun _ h => absurd h (by simp)) ?_
    rw [if_neg e1, if_pos (show ((1 : Int) == 1 || z.length == 0) = true from rfl)]
    exact ⟨.str z, H, I, ⟨t, rfl⟩, q⟩
  have e2 : (i == 1 || z.length == 0) = false := by
    rw [o3, show (i == 1) = false from beq_eq_false_iff_ne.mpr h1]
    rfl
  refine P.mul_str (by rw [decide_eq_false (by omega), decide_eq_false (by omega)]; rfl) (fun _ _ => ?_) (fun _ _ => by rwa [Bool.not_eq_true'] at o4) ?_
  · rw [o3]
    have h2 : (1 : Int) ≤ (2 ^ 63 - 1) / i := Int.le_ediv_of_mul_le (by omega) (by omega)
    omega
  · rw [if_neg e1, e2]
    exact ⟨by rw [sizeLine_eq]; exact o5, ⟨.str _, H, I.tok _, ⟨_, rfl⟩, q⟩⟩
end L2.Jk

set_option Elab.async false
set_option linter.all false
set_option maxRecDepth 100000
set_option maxHeartbeats 4000000
/-! Tuples of which it is known that they have no dict: made, their methods called. -/
namespace L2.Jk
open PySem PySem.W PySem.Spec PySem.Calls PyProof.Rows
/-- at t: a tuple of these items, an object without a dict -/
def TupZ (H : Hp) (t : Addr) (xs : List V) : Prop := ∃ o : Obj, o.cls = .type "tuple" ∧ o.dict = none ∧ H t = some (.frz o (.tup xs))
theorem TupZ.same {H H' : Hp} {t : Addr} {xs : List V} (S : Same H H') (h : TupZ H t xs) : TupZ H' t xs := by
  obtain ⟨o, c, d, e⟩ := h
  exact ⟨o, c, d, S _ _ e⟩
theorem TupZ.sq {K : Frag} {H : Hp} {t : Addr} {xs : List V} (h : TupZ H t xs) : SqT K H t xs := by
  obtain ⟨o, c, d, e⟩ := h
  exact .inl (.inr ⟨o, e⟩)
section
variable {X : Cx}
def rTupZ (K : Frag) : List V → Hp → VK → Prop := fun xs H Q => ∃ p ys, xs = [.ref p] ∧ ((SqL K H p ys ∧ ∀ l H', H l = none → Same H H' → TupZ H' l ys → Q (.ref l) H') ∨ (SqT K H p ys ∧ Q (.ref p) H))
theorem call_tupleZ : CallR X (.type "tuple") (rTupZ X.K) := by
  intro pins s σ H xs us Q I r h
  obtain ⟨p, ys, rfl, h⟩ := h
  obtain ⟨u, rfl, rx⟩ := vals1 r
  cases rx
  rcases h with ⟨hq, q⟩ | ⟨hq, q⟩
  · obtain ⟨its, r', pl, hz⟩ := I.list hq
    have hlen := r'.length
    refine call_tuple_list pl.isList (fun h' kp => ?_) (by simp only [List.size_toArray] <;> omega)
    have I1 : Inv X pins σ H { s with heap := h' } := I.kept (t' := s.toks) kp
    have I2 : Inv X pins σ (upd H h'.objs.size (.frz { cls := .type "tuple", data := .seq its.toArray } (.tup ys))) { s with heap := h'.push { cls := .type "tuple", data := .seq its.toArray } } :=
      I1.laid (t' := s.toks) (fun b o e => Heap.get?_push_of_some _ e) (Nat.le_refl _) ⟨Heap.get?_push_size _ rfl, show ObjOk X.prog X.w _ _ _ (.tup ys) from ⟨hz, its, r', IsTup.new _ _⟩⟩
    have n := I1.hok.fresh (a := h'.objs.size) (Nat.le_refl _)
    exact ⟨.ref h'.objs.size, _, I2, rfl, q _ _ n (same_upd n) ⟨_, rfl, rfl, upd_same⟩⟩
  · obtain ⟨its, r', pl, hz⟩ := I.tuple hq
    exact call_tuple_same pl ⟨.ref p, H, I, rfl, q⟩
/-- a tuple display -/
def tTupZ (t : TA) : TE := fun σ H Q => t σ H fun xs H1 => xs.length ≤ 1000 ∧ ∀ p H', H1 p = none → Same H1 H' → TupZ H' p xs → Q (.ref p) H'
theorem pe_tupZ {es : List Expr} {t : TA} {pos : Pos} {k} (ha : PA X es t) : PE X (.Tuple es k pos) (tTupZ t) := by
  constructor
  intro pins s σ H Q I h
  refine wpAny_Tuple_spliced (thn (ha.run pos pins s σ H _ I h) fun us s1 ⟨xs, H1, I1, r, z, q⟩ => ?_)
  have z' := Nat.le_of_lt (small1000 z)
  have n : H1 s1.heap.objs.size = none := I1.fresh
  refine ⟨by rw [← r.length]; exact z', .ref s1.heap.objs.size, _, I1.laid (t' := s1.toks) (o := .frz { cls := .type "tuple", data := .seq us.toArray } (.tup xs)) (fun b u e => Heap.get?_push_of_some _ e) (Nat.le_refl _) ?_, rfl, q _ _ n (same_upd n) ⟨_, rfl, rfl, upd_same⟩⟩
  exact ⟨Heap.get?_push_size _ rfl, z', us, r, IsTup.new _ _⟩
/-- o.m(e, ..) of such a tuple -/
def tBMZ (r : V → List V → Hp → VK → Prop) (to : TE) (t : TA) : TE := fun σ H Q => to σ H fun x H1 => (∃ p xs, x = .ref p ∧ TupZ H1 p xs) ∧ t σ H1 fun xs H2 => r x xs H2 Q
variable {o e : Expr} {es : List Expr} {to : TE} {t : TA} {name : Str} {apos cpos : Pos} {id : String} {r : V → List V → Hp → VK → Prop}
theorem pe_bmZ (slot : Slot "tuple" name id) (hty : typeOf (.builtin id) = pure (.type "method_descriptor")) (pa : PlainAttrs "tuple") (hm : MtR X id r) (ho : PE X o to) (ha : PA X (e :: es) t)
    (hbase : attributeBase o name X.env (eval o X.env) = eval o X.env := by rfl)
    (hfew : ((backTo cpos (starEach (e :: es) X.env)).all (fun x => !x.1) && (backToKw cpos (keywordEach [] X.env)).all (fun x => x.1.isSome)
      && decide ((e :: es).length + ([] : List Keyword).length + (if ([] : List Keyword).isEmpty then 0 else 1) < 30)) = true := by rfl)
    (hline : (apos.endLine == cpos.line) = true := by rfl) (hs : starEach (e :: es) X.env = (false, eval e X.env) :: starEach es X.env := by rfl) (hplain : (backTo cpos (starEach es X.env)).any (·.1) = false := by rfl) :
    PE X (.Call (.Attribute o name apos) (e :: es) [] cpos) (tBMZ r to t) := by
  refine ⟨fun pins s σ H Q I h => ?_⟩
  refine wpAny_Call_method_late hbase hfew hline rfl (thn (ho.run pins s σ H _ I h) fun v s1 ⟨x, H1, I1, r1, ⟨p, ys, ex, ob, hc, hd, hp⟩, q1⟩ => ?_)
  subst ex
  obtain rfl : v = Value.ref p := r1
  obtain ⟨hg, _⟩ := (show s1.heap.get? p = some ob ∧ ObjOk X.prog X.w H1 s1.heap p (.tup ys) from I1.hok p _ hp)
  refine ⟨"tuple", id, pa, slot, hty, ⟨ob, hg, hc⟩, (fun a e => by cases e; exact ⟨ob, hg, hd⟩), ?_⟩
  have hA := ha.run cpos pins s1 σ H1 _ I1 q1
  rw [hs] at hA ⊢
  refine Calls.callWith_builtin (by show (false || (backTo cpos (starEach es X.env)).any (·.1)) = false; rw [hplain] <;> rfl) (Calls.evalArgs_plain ?_)
  exact thn hA fun us s2 ⟨vs, H2, I2, r2, q2⟩ => hm pins s2 σ H2 (.ref p) vs (.ref p) us Q I2 rfl r2 q2
end
end L2.Jk

set_option Elab.async false
set_option linter.all false
set_option maxRecDepth 100000
set_option maxHeartbeats 4000000
namespace L2.K08
open PySem PySem.W PySem.Spec PySem.Calls PyProof.Rows L2.Jk
section
variable {P : Program} {w : World} {K : Frag} {mg : Str → Option Value} {base : Heap} {f : Addr} {fd : FuncData}

/-- a field class: its name, its attributes -/
structure C0 (K : Frag) (mg : Str → Option Value) (x : Str) (fs : List Str) : Prop where
  mgC : mg x = some (.ref (He.ga K x))
  cl : Cls K (He.ga K x)
  no : ∀ f ∈ fs, NoAttr K (He.ga K x) f

def fWord (s l m : V) : List (Str × V) := (putF "most" m (putF "least" l (putF "signs" s [])))
theorem lWord_signs {s l m : V} : (fWord s l m).lookup ("signs" : Str) = some s := by unfold fWord; rw [lookup_putF, if_neg (by decide +kernel)]; rw [lookup_putF, if_neg (by decide +kernel)]; rw [lookup_putF, if_pos rfl]
theorem lWord_least {s l m : V} : (fWord s l m).lookup ("least" : Str) = some l := by unfold fWord; rw [lookup_putF, if_neg (by decide +kernel)]; rw [lookup_putF, if_pos rfl]
theorem lWord_most {s l m : V} : (fWord s l m).lookup ("most" : Str) = some m := by unfold fWord; rw [lookup_putF, if_pos rfl]
theorem lWord_hs {s l m : V} : (fWord s l m).lookup ("has_sign" : Str) = none := by unfold fWord; rw [lookup_putF, if_neg (by decide +kernel)]; rw [lookup_putF, if_neg (by decide +kernel)]; rw [lookup_putF, if_neg (by decide +kernel)]; rfl
def fNumber (l m : V) : List (Str × V) := (putF "most" m (putF "least" l []))
theorem lNumber_least {l m : V} : (fNumber l m).lookup ("least" : Str) = some l := by unfold fNumber; rw [lookup_putF, if_neg (by decide +kernel)]; rw [lookup_putF, if_pos rfl]
theorem lNumber_most {l m : V} : (fNumber l m).lookup ("most" : Str) = some m := by unfold fNumber; rw [lookup_putF, if_pos rfl]
theorem lNumber_hs {l m : V} : (fNumber l m).lookup ("has_sign" : Str) = none := by unfold fNumber; rw [lookup_putF, if_neg (by decide +kernel)]; rw [lookup_putF, if_neg (by decide +kernel)]; rfl
def fFixed (w : V) : List (Str × V) := (putF "width" w [])
theorem lFixed_width {w : V} : (fFixed w).lookup ("width" : Str) = some w := by unfold fFixed; rw [lookup_putF, if_pos rfl]
theorem lFixed_hs {w : V} : (fFixed w).lookup ("has_sign" : Str) = none := by unfold fFixed; rw [lookup_putF, if_neg (by decide +kernel)]; rfl
def fListed (x : V) : List (Str × V) := (putF "texts" x [])
theorem lListed_texts {x : V} : (fListed x).lookup ("texts" : Str) = some x := by unfold fListed; rw [lookup_putF, if_pos rfl]
theorem lListed_hs {x : V} : (fListed x).lookup ("has_sign" : Str) = none := by unfold fListed; rw [lookup_putF, if_neg (by decide +kernel)]; rfl
def fEnded (s e l m : V) : List (Str × V) := (putF "most" m (putF "least" l (putF "sign" e (putF "signs" s []))))
theorem lEnded_signs {s e l m : V} : (fEnded s e l m).lookup ("signs" : Str) = some s := by unfold fEnded; rw [lookup_putF, if_neg (by decide +kernel)]; rw [lookup_putF, if_neg (by decide +kernel)]; rw [lookup_putF, if_neg (by decide +kernel)]; rw [lookup_putF, if_pos rfl]
theorem lEnded_sign {s e l m : V} : (fEnded s e l m).lookup ("sign" : Str) = some e := by unfold fEnded; rw [lookup_putF, if_neg (by decide +kernel)]; rw [lookup_putF, if_neg (by decide +kernel)]; rw [lookup_putF, if_pos rfl]
theorem lEnded_least {s e l m : V} : (fEnded s e l m).lookup ("least" : Str) = some l := by unfold fEnded; rw [lookup_putF, if_neg (by decide +kernel)]; rw [lookup_putF, if_pos rfl]
theorem lEnded_most {s e l m : V} : (fEnded s e l m).lookup ("most" : Str) = some m := by unfold fEnded; rw [lookup_putF, if_pos rfl]
theorem lEnded_hs {s e l m : V} : (fEnded s e l m).lookup ("has_sign" : Str) = none := by unfold fEnded; rw [lookup_putF, if_neg (by decide +kernel)]; rw [lookup_putF, if_neg (by decide +kernel)]; rw [lookup_putF, if_neg (by decide +kernel)]; rw [lookup_putF, if_neg (by decide +kernel)]; rfl
def fMarked (n k y : V) : List (Str × V) := (putF "field" y (putF "mark" k (putF "none" n [])))
theorem lMarked_none {n k y : V} : (fMarked n k y).lookup ("none" : Str) = some n := by unfold fMarked; rw [lookup_putF, if_neg (by decide +kernel)]; rw [lookup_putF, if_neg (by decide +kernel)]; rw [lookup_putF, if_pos rfl]
theorem lMarked_mark {n k y : V} : (fMarked n k y).lookup ("mark" : Str) = some k := by unfold fMarked; rw [lookup_putF, if_neg (by decide +kernel)]; rw [lookup_putF, if_pos rfl]
theorem lMarked_field {n k y : V} : (fMarked n k y).lookup ("field" : Str) = some y := by unfold fMarked; rw [lookup_putF, if_pos rfl]
theorem lMarked_hs {n k y : V} : (fMarked n k y).lookup ("has_sign" : Str) = none := by unfold fMarked; rw [lookup_putF, if_neg (by decide +kernel)]; rw [lookup_putF, if_neg (by decide +kernel)]; rw [lookup_putF, if_neg (by decide +kernel)]; rfl

/-- the field d stands at a -/
def FieldAt (K : Frag) (H : Hp) (a : Addr) : PD → Prop
  | .word s l m => ∃ dx, H a = some (.ins (He.ga K "Word") dx (fWord s l m))
  | .number l m => ∃ dx, H a = some (.ins (He.ga K "Number") dx (fNumber l m))
  | .fixed w => ∃ dx, H a = some (.ins (He.ga K "Fixed") dx (fFixed w))
  | .listed x => ∃ dx t, H a = some (.ins (He.ga K "Listed") dx (fListed (.ref t))) ∧ TupZ H t x.els
  | .ended s e l m => ∃ dx, H a = some (.ins (He.ga K "Ended") dx (fEnded s e l m))
theorem FieldAt.same {H H' : Hp} {a : Addr} (S : Same H H') : ∀ {d : PD}, FieldAt K H a d → FieldAt K H' a d
  | .word .., ⟨dx, h⟩ => ⟨dx, S _ _ h⟩
  | .number .., ⟨dx, h⟩ => ⟨dx, S _ _ h⟩
  | .fixed _, ⟨dx, h⟩ => ⟨dx, S _ _ h⟩
  | .listed _, ⟨dx, t, h, k⟩ => ⟨dx, t, S _ _ h, k.same S⟩
  | .ended .., ⟨dx, h⟩ => ⟨dx, S _ _ h⟩
/-- of values that are taken -/
theorem word_due : ∀ s ∈ sM, ∀ l ∈ nM, ∀ m ∈ nM, oDue s l m = none → s = .str (strV s) ∧ scal m (.int 0) = true ∧ (scal s s && (scal l l && scal m m)) = true := by decide +kernel
theorem num_due : ∀ l ∈ nM, ∀ m ∈ hM, bDue l m = none → l = .int (intV l) ∧ (m = .non ∨ m = .int (intV m)) ∧ 0 ≤ intV l ∧ intV l ≤ 12 ∧ 0 ≤ intV m ∧ (intV m ≤ 12 ∨ 110 ≤ intV m ∧ intV m ≤ 999999999) ∧ (scal l l && scal m m) = true := by decide +kernel
theorem fix_due : ∀ w ∈ wM, wDue w = none → scal w w = true := by decide +kernel
theorem lst_due : ∀ x ∈ lM, lxDue x = none → (∀ v ∈ x.els, v = .str (strV v)) ∧ x.els.length ≤ 10 ∧ x.els ≠ [] := by decide +kernel
theorem end_due : ∀ s ∈ sM, ∀ e ∈ eM, ∀ l ∈ nM, ∀ m ∈ nM, eDue s e l m = none → s = .str (strV s) ∧ e = .str ⟨#[(strV e).cps.getD 0 0]⟩ ∧ scal m (.int 0) = true ∧ (scal s s && (scal e e && (scal l l && scal m m))) = true := by decide +kernel
theorem nM_flat : ∀ v ∈ hM, flatV v = true := by decide +kernel
theorem wM_flat : ∀ v ∈ wM, flatV v = true := by decide +kernel
theorem nh {v : V} (h : v ∈ nM) : v ∈ hM := h
structure G3 (P : Program) (w : World) (K : Frag) (mg : Str → Option Value) (base : Heap) : Prop extends G2 P w K mg base where
  check_signs : FnAt P w K mg base (L2.CX P w) 3 "check_signs" ["signs"] (spChkS K)
  check_span : FnAt P w K mg base (L2.CX P w) 3 "check_span" ["least", "most"] (spChkB K)
  has_words_with : FnAt P w K mg base CX0 1 "has_words_with" ["field", "sign"] (spHww K)
  cWord : C0 K mg "Word" ["signs", "least", "most"]
  cNumber : C0 K mg "Number" ["least", "most"]
  cFixed : C0 K mg "Fixed" ["width"]
  cListed : C0 K mg "Listed" ["texts"]
  cEnded : C0 K mg "Ended" ["signs", "sign", "least", "most"]
  cMarked : C0 K mg "Marked" ["none", "mark", "field"]

def spWord (K : Frag) : Sp := fun vs H Q E => ∃ (a dx : Addr) (s l m : V), vs = [.ref a, s, l, m] ∧ H a = some (.ins (He.ga K "Word") dx []) ∧ s ∈ sM ∧ l ∈ nM ∧ m ∈ nM ∧ (oDue s l m = none → Q .non (upd H a (.ins (He.ga K "Word") dx (fWord s l m)))) ∧
  ∀ z, oDue s l m = some z → RaiseE (BF K) "what" (.str z) H E

abbrev s_Word_init : Stmt := inClass (top 33) 0
theorem sc_Word_init : FnScope ["self", "signs", "least", "most"] ["self", "signs", "least", "most"] (defScope s_Word_init) := ⟨rfl, rfl, rfl, by decide +kernel, rfl, by decide +kernel, by decide +kernel⟩

theorem ok_Word_init (F : FunD K "__init__" "Word.__init__" (defArgs s_Word_init) (defBody s_Word_init) (defScope s_Word_init) [] [] f fd) (G : G3 P w K mg base) : FnOk P w K mg base (L2.CX P w) 4 f fd ["self", "signs", "least", "most"] (spWord K) := by
  refine F.ok (CX := (L2.CX P w)) sc_Word_init (fun vs H Q E h => ?_) (fun cdv A outer s H vs Q E hr h => ?_)
  · obtain ⟨a, dx, s, l, m, rfl, _⟩ := h
    rfl
  · have hr3 : Room 3 _ := hr
    refine ⟨_, (pss_cons (ps_expr (pe_fnS G.check_signs hr3 (fun σ => passAt (takes_of rfl rfl rfl rfl) σ) (by rfl) (pa_cons (pv 1) pa_nil)))
    (pss_cons (ps_expr (pe_fnS G.check_span hr3 (fun σ => passAt (takes_of rfl rfl rfl rfl) σ) (by rfl) (pa_cons (pv 2) (pa_cons (pv 3) pa_nil))))
    (pss_cons (ps_fld (pv 0) (pv 1) rfl)
    (pss_cons (ps_fld (pv 0) (pv 2) rfl)
    (pss_one (ps_fld (pv 0) (pv 3) rfl)))))), ?_⟩
    obtain ⟨a, dx, s, l, m, rfl, ha, hs, hl, hm, q1, q2⟩ := h
    refine ⟨_, rfl, s, rfl, hs, fun e1 => ?_, fun e1 => q2 _ (by unfold oDue; rw [if_pos e1])⟩
    have e0 : oDue s l m = bDue l m := by unfold oDue; rw [e1]; rfl
    rw [e0] at q1 q2
    refine ⟨_, rfl, _, rfl, l, m, rfl, nM_flat l (nh hl), nM_flat m (nh hm), fun e2 => ?_, fun z e2 => q2 z e2⟩
    refine ⟨_, rfl, _, rfl, a, _, dx, _, rfl, ha, G.cWord.cl, G.cWord.no _ (by decide +kernel), (by show 0 < 1000; decide), _, rfl, _, rfl, a, _, dx, _, rfl, upd_same, G.cWord.cl, G.cWord.no _ (by decide +kernel), (by show 1 < 1000; decide), _, rfl, _, rfl, a, _, dx, _, rfl, upd_same, G.cWord.cl, G.cWord.no _ (by decide +kernel), (by show 2 < 1000; decide), ?_⟩
    have z := q1 e2
    show Q .non _
    rw [upd_upd, upd_upd]
    exact z

theorem pi_or {X : Cx} {tg e : Expr} {t1 t2 : TI} (h1 : PI X tg e t1) (h2 : PI X tg e t2) : PI X tg e (fun σ H R => t1 σ H R ∨ t2 σ H R) :=
  ⟨fun pins s σ H R I h => h.elim (h1.run pins s σ H R I) (h2.run pins s σ H R I)⟩
def spNumber (K : Frag) : Sp := fun vs H Q E => ∃ (a dx : Addr) (l m : V), vs = [.ref a, l, m] ∧ H a = some (.ins (He.ga K "Number") dx []) ∧ l ∈ nM ∧ m ∈ hM ∧ (bDue l m = none → Q .non (upd H a (.ins (He.ga K "Number") dx (fNumber l m)))) ∧
  ∀ z, bDue l m = some z → RaiseE (BF K) "what" (.str z) H E

abbrev s_Number_init : Stmt := inClass (top 34) 0
theorem sc_Number_init : FnScope ["self", "least", "most"] ["self", "least", "most"] (defScope s_Number_init) := ⟨rfl, rfl, rfl, by decide +kernel, rfl, by decide +kernel, by decide +kernel⟩

theorem ok_Number_init (F : FunD K "__init__" "Number.__init__" (defArgs s_Number_init) (defBody s_Number_init) (defScope s_Number_init) [] [] f fd) (G : G3 P w K mg base) : FnOk P w K mg base (L2.CX P w) 4 f fd ["self", "least", "most"] (spNumber K) := by
  refine F.ok (CX := (L2.CX P w)) sc_Number_init (fun vs H Q E h => ?_) (fun cdv A outer s H vs Q E hr h => ?_)
  · obtain ⟨a, dx, l, m, rfl, _⟩ := h
    rfl
  · have hr3 : Room 3 _ := hr
    refine ⟨_, (pss_cons (ps_expr (pe_fnS G.check_span hr3 (fun σ => passAt (takes_of rfl rfl rfl rfl) σ) (by rfl) (pa_cons (pv 1) (pa_cons (pv 2) pa_nil))))
    (pss_cons (ps_fld (pv 0) (pv 1) rfl)
    (pss_one (ps_fld (pv 0) (pv 2) rfl)))), ?_⟩
    obtain ⟨a, dx, l, m, rfl, ha, hl, hm, q1, q2⟩ := h
    refine ⟨_, rfl, _, rfl, l, m, rfl, nM_flat l (nh hl), nM_flat m hm, fun e2 => ?_, fun z e2 => q2 z e2⟩
    refine ⟨_, rfl, _, rfl, a, _, dx, _, rfl, ha, G.cNumber.cl, G.cNumber.no _ (by decide +kernel), (by show 0 < 1000; decide), _, rfl, _, rfl, a, _, dx, _, rfl, upd_same, G.cNumber.cl, G.cNumber.no _ (by decide +kernel), (by show 1 < 1000; decide), ?_⟩
    have z := q1 e2
    show Q .non _
    rw [upd_upd]
    exact z

def spFixed (K : Frag) : Sp := fun vs H Q E => ∃ (a dx : Addr) (v : V), vs = [.ref a, v] ∧ H a = some (.ins (He.ga K "Fixed") dx []) ∧ v ∈ wM ∧ (wDue v = none → Q .non (upd H a (.ins (He.ga K "Fixed") dx (fFixed v)))) ∧
  ∀ z, wDue v = some z → RaiseE (BF K) "what" (.str z) H E

abbrev s_Fixed_init : Stmt := inClass (top 35) 0
theorem sc_Fixed_init : FnScope ["self", "width"] ["self", "width"] (defScope s_Fixed_init) := ⟨rfl, rfl, rfl, by decide +kernel, rfl, by decide +kernel, by decide +kernel⟩

theorem ok_Fixed_init (F : FunD K "__init__" "Fixed.__init__" (defArgs s_Fixed_init) (defBody s_Fixed_init) (defScope s_Fixed_init) [] [] f fd) (G : G3 P w K mg base) : FnOk P w K mg base (L2.CX P w) 4 f fd ["self", "width"] (spFixed K) := by
  refine F.ok (CX := (L2.CX P w)) sc_Fixed_init (fun vs H Q E h => ?_) (fun cdv A outer s H vs Q E hr h => ?_)
  · obtain ⟨a, dx, v, rfl, _⟩ := h
    rfl
  · have hr3 : Room 3 _ := hr
    have hr2 : Room 2 _ := hr.mono (by decide)
    refine ⟨_, (pss_cons (ps_if (PW.pt (pw_or (pt_not (pt_val (pe_fn G.is_number (hr2.mono (by decide)) pass0 (by rfl) (pa_cons (pv 1) pa_nil)))) (pw_or1 (pt_cmpR op_lt (pv 1) pe_int (nomark _)))))
      (pss_one (ps_raise rfl (takes_of rfl rfl rfl rfl) (pmk_1 G.bf hr2 (by rfl) (pa_cons pe_str pa_nil))))
      pss_nil)
    (pss_one (ps_fld (pv 0) (pv 1) rfl))), ?_⟩
    obtain ⟨a, dx, v, rfl, ha, hv, q1, q2⟩ := h
    refine ⟨_, rfl, v, rfl, wM_flat v hv, _, rfl, ?_⟩
    show if (!numB v) = true then _ else _
    refine ite2 (fun h1 => mkO_1 (q2 _ (by show (if (!numB v || _) = true then _ else _) = _; rw [h1]; rfl))) (fun h1 => ?_)
    cases v with
    | int i =>
      refine ⟨_, rfl, _, _, rfl, rfl, _, rfl, ?_⟩
      refine ite2 (fun h2 => mkO_1 (q2 _ (by show (if (_ || decide (i < 1)) = true then _ else _) = _; rw [h2]; rfl))) (fun h2 => ?_)
      refine ⟨_, rfl, _, rfl, a, _, dx, _, rfl, ha, G.cFixed.cl, G.cFixed.no _ (by decide +kernel), (by show 0 < 1000; decide), q1 ?_⟩
      show (if (!true || decide (i < 1)) = true then _ else _) = _
      rw [Bool.eq_false_iff.mpr h2]
      rfl
    | _ => exact absurd rfl h1

/-- what is handed in as texts -/
def LXAt (H : Hp) (v : V) : LX → Prop
  | .lst xs => ∃ b, v = .ref b ∧ H b = some (.lst xs)
  | .tup xs => ∃ b, v = .ref b ∧ TupZ H b xs
  | .val u => v = u
theorem LXAt.same {H H' : Hp} {v : V} (S : Same H H') : ∀ {x : LX}, LXAt H v x → LXAt H' v x
  | .lst _, ⟨b, e, h⟩ => ⟨b, e, S _ _ h⟩
  | .tup _, ⟨b, e, h⟩ => ⟨b, e, h.same S⟩
  | .val _, e => e
theorem lM_vM : ∀ x ∈ lM, (∀ v ∈ x.els, v ∈ vM) ∧ x.els.length ≤ 10 := by decide +kernel
theorem lM_val : ∀ x ∈ lM, x = .val (.str "ab") ∨ x = .val .non ∨ (x = .lst x.els ∨ x = .tup x.els) := by decide +kernel
theorem all_str : ∀ xs : List V, xs.all areB = true → (xs.map strV).map V.str = xs
  | [], _ => rfl
  | v :: xs, h => by
    obtain ⟨h1, h2⟩ := Bool.and_eq_true_iff.mp (show (areB v && xs.all areB) = true from h)
    have e : V.str (strV v) = v := by cases v <;> first | rfl | cases h1
    show V.str (strV v) :: (xs.map strV).map V.str = v :: xs
    rw [e, all_str xs h2]
theorem raise_mono {C : Addr} {g : Str} {v : V} {H H1 : Hp} {E : XK} (S : Same H H1) (h : RaiseE C g v H E) : RaiseE C g v H1 E := fun d H2 hd S2 e => by
  refine h d H2 ?_ (S.trans S2) e
  cases q : H d with
  | none => rfl
  | some o => rw [S d o q] at hd; cases hd
def spListed (K : Frag) : Sp := fun vs H Q E => ∃ (a dx : Addr) (v : V) (x : LX), vs = [.ref a, v] ∧ H a = some (.ins (He.ga K "Listed") dx []) ∧ x ∈ lM ∧ LXAt H v x ∧
  (lxDue x = none → ∀ t H2, Same H H2 → TupZ H2 t x.els → Q .non (upd H2 a (.ins (He.ga K "Listed") dx (fListed (.ref t))))) ∧ ∀ z, lxDue x = some z → RaiseE (BF K) "what" (.str z) H E
theorem kit_LT (K : Frag) : kitAny K (.type "list") [.type "list", .type "tuple"] = some true ∧ kitAny K (.type "tuple") [.type "list", .type "tuple"] = some true ∧ kitAny K (.type "str") [.type "list", .type "tuple"] = some false ∧ kitAny K (.type "NoneType") [.type "list", .type "tuple"] = some false := by
  have k : ∀ {S T : String} {b : Bool}, kitB S T = some b → kitOne K (.type S) (.type T) = some b := fun h => kit_ty h
  refine ⟨?_, ?_, ?_, ?_⟩
  · exact kitAny_cons (b := true) (k (by decide +kernel)) (fun z => nomatch z) (fun _ => rfl)
  · exact kitAny_cons (b := false) (k (by decide +kernel)) (fun _ => kitAny_cons (b := true) (k (by decide +kernel)) (fun z => nomatch z) (fun _ => rfl)) (fun z => nomatch z)
  · exact kitAny_cons (b := false) (k (by decide +kernel)) (fun _ => kitAny_cons (b := false) (k (by decide +kernel)) (fun _ => kitAny_nil) (fun z => nomatch z)) (fun z => nomatch z)
  · exact kitAny_cons (b := false) (k (by decide +kernel)) (fun _ => kitAny_cons (b := false) (k (by decide +kernel)) (fun _ => kitAny_nil) (fun z => nomatch z)) (fun z => nomatch z)
theorem take_succ_map {α β : Type} (g : α → β) {xs : List α} {i : Nat} {x : α} (h : xs[i]? = some x) : (xs.take (i + 1)).map g = (xs.take i).map g ++ [g x] := by
  rw [List.take_add_one, h, List.map_append]
  rfl

abbrev s_Listed_init : Stmt := inClass (top 36) 0
theorem sc_Listed_init : FnScope ["self", "texts", "text"] ["self", "texts"] (defScope s_Listed_init) := ⟨rfl, rfl, rfl, by decide +kernel, rfl, by decide +kernel, by decide +kernel⟩

theorem ok_Listed_init (F : FunD K "__init__" "Listed.__init__" (defArgs s_Listed_init) (defBody s_Listed_init) (defScope s_Listed_init) [] [] f fd) (G : G3 P w K mg base) : FnOk P w K mg base (L2.CX P w) 4 f fd ["self", "texts"] (spListed K) := by
  refine F.ok (CX := (L2.CX P w)) sc_Listed_init (fun vs H Q E h => ?_) (fun cdv A outer s H vs Q E hr h => ?_)
  · obtain ⟨a, dx, v, x, rfl, _⟩ := h
    rfl
  · have hr3 : Room 3 _ := hr
    have hr2 : Room 2 _ := hr.mono (by decide)
    refine ⟨_, (pss_cons (ps_if (PW.pt (pw_or (pt_not (pt_val (pe_callB call_ieT (by rfl) G.isinstance (by decide +kernel) (pa_cons (pv 1) (pa_cons (pe_tupS (pa_cons (pe_bty (n := "list") (by rfl) G.list (by decide +kernel)) (pa_cons (pe_bty (n := "tuple") (by rfl) G.tuple (by decide +kernel)) pa_nil))) pa_nil))))) (pw_or1 (pt_cmpR op_eq (pe_callB call_len_seq (by rfl) G.len (by decide +kernel) (pa_cons (pv 1) pa_nil)) pe_int (nomark _)))))
      (pss_one (ps_raise rfl (takes_of rfl rfl rfl rfl) (pmk_1 G.bf hr2 (by rfl) (pa_cons pe_str pa_nil))))
      pss_nil)
    (pss_cons (ps_if (PW.pt (pw_or (pt_not (pt_val (pe_callB (cr_all rfl) (by rfl) G.all (by decide +kernel) (pa_cons (pe_lc (own := [("text", 2)]) (g := gName 2) (tt := tYes) rfl sc_Listed_init.nd (pi_or (pi_list (pv 1)) (pi_tup (pv 1))) (blkOk_by (N := ["self", "texts", "text"]) (sc := defScope s_Listed_init) (by decide +kernel)) (fun _ _ _ _ _ => pg_name (i := 2) sc_Listed_init.nd rfl (Or.inl rfl)) (fun _ _ _ _ _ => pts_nil) (fun _ _ _ _ _ => (pe_fn G.are_signs hr2 pass0 (by rfl) (pa_cons (pv 2) pa_nil)))) pa_nil)))) (pw_or1 (pt_cmpR op_lt (pe_lenSetSeq rfl (by rfl) G.len (by rfl) G.set (pv 1)) (pe_callB call_len_seq (by rfl) G.len (by decide +kernel) (pa_cons (pv 1) pa_nil)) (nomark _)))))
      (pss_one (ps_raise rfl (takes_of rfl rfl rfl rfl) (pmk_1 G.bf hr2 (by rfl) (pa_cons pe_str pa_nil))))
      pss_nil)
    (pss_one (ps_fld (pv 0) (pe_callTy call_tupleZ (by rfl) G.tuple (by decide +kernel) (pa_cons (pv 1) pa_nil)) rfl)))), ?_⟩
    obtain ⟨a, dx, v, x, rfl, ha, hx, hL, q1, q2⟩ := h
    obtain ⟨hv, hz⟩ := lM_vM x hx
    rcases lM_val x hx with e | e | e
    · subst e
      obtain rfl : v = .str "ab" := hL
      refine ⟨_, rfl, by show 2 ≤ 1000; decide, fun p0 H0 hp0 S0 e0 => ⟨_, p0, _, _, _, false, rfl, e0, .cons (.ty _) (.cons (.ty _) Paired.nil), .x (.base (.str _)), (kit_LT K).2.2.1, _, rfl, iteT (mkO_1 (raise_mono S0 (q2 _ rfl)))⟩⟩
    · subst e
      obtain rfl : v = .non := hL
      refine ⟨_, rfl, by show 2 ≤ 1000; decide, fun p0 H0 hp0 S0 e0 => ⟨_, p0, _, _, _, false, rfl, e0, .cons (.ty _) (.cons (.ty _) Paired.nil), .x (.base .non), (kit_LT K).2.2.2, _, rfl, iteT (mkO_1 (raise_mono S0 (q2 _ rfl)))⟩⟩
    · cases x with
      | val u => rcases e with e | e <;> cases e
      | lst xs =>
      obtain ⟨b, rfl, hb⟩ := hL
      have hz' : xs.length ≤ 10 := hz
      refine ⟨_, rfl, by show 2 ≤ 1000; decide, fun p0 H0 hp0 S0 e0 => ⟨_, p0, _, _, _, true, rfl, e0, .cons (.ty _) (.cons (.ty _) Paired.nil), .x (.base (.lst (S0 _ _ hb))), (kit_LT K).1, _, rfl, iteF ?_⟩⟩
      refine ⟨_, rfl, b, _, rfl, .inl (SqL.of (S0 _ _ hb)), rfl, _, rfl, ?_⟩
      refine ite2 (fun h1 => mkO_1 (raise_mono S0 (q2 _ (by show (if (decide (xs.length = 0) || _) = true then _ else _) = _; rw [show decide (xs.length = 0) = true from decide_eq_true (by have := of_decide_eq_true h1; simpa using this)]; rfl)))) (fun h1 => ?_)
      have n0 : decide (xs.length = 0) = false := decide_eq_false (fun z => h1 (decide_eq_true (by rw [z]; rfl)))
      have eD : lxDue (.lst xs) = if xsBad xs = true then (some "texts" : Option Str) else none := by
        show (if (decide (xs.length = 0) || xsBad xs) = true then _ else _) = _
        rw [n0]
        rfl
      rw [eD] at q1 q2
      refine .inl ⟨_, rfl, b, rfl, ⟨_, SqL.of (S0 _ _ hb)⟩, fun D hD => ?_⟩
      refine lc_list (K := K) (a := b) (xs := xs) (LcP H0 D fun n => (xs.take n).map fun v => V.bl (areB v)) (LcP.start hD rfl) (fun i J hi p => SqL.of (p.1 _ _ (S0 _ _ hb))) ?_ ?_
      · intro i v J hx p
        refine ⟨rfl, _, rfl, v, rfl, hv v (List.mem_of_getElem? hx), p.put (Same.refl _) (take_succ_map _ hx) ?_⟩
        have := (List.getElem?_eq_some_iff.mp hx).1
        omega
      · rintro J ⟨S1, _, eJ, _⟩
        have eJ2 : J D = some (.lst ((xs.map areB).map V.bl)) := by rw [eJ]; show some (HO.lst ((xs.take xs.length).map fun v => V.bl (areB v))) = _; rw [List.take_length, List.map_map]; rfl
        refine ⟨D, xs.map areB, rfl, SqL.of eJ2, _, rfl, ?_⟩
        have ea : (xs.map areB).all id = xs.all areB := by rw [List.all_map]; rfl
        rw [ea]
        show if (!xs.all areB) = true then _ else _
        have S2 : Same H J := S0.trans S1
        refine ite2 (fun h2 => mkO_1 (raise_mono S2 (q2 _ (by unfold xsBad; rw [h2]; rfl)))) (fun h2 => ?_)
        have h2' : xs.all areB = true := by cases z : xs.all areB with | true => rfl | false => exact absurd (by rw [z]; rfl) h2
        refine ⟨_, rfl, b, xs.map strV, rfl, .inl (by rw [all_str xs h2']; exact SqL.of (S2 _ _ hb)), by rw [List.length_map]; omega, _, rfl, b, _, rfl, .inl (SqL.of (S2 _ _ hb)), _, _, rfl, rfl, _, rfl, ?_⟩
        refine ite2 (fun h3 => mkO_1 (raise_mono S2 (q2 _ ?_))) (fun h3 => ?_)
        · unfold xsBad
          rw [show decide ((newS (fun i => (xs.map strV).getD i Str.empty) (xs.map strV).length : Nat) < xs.length) = true from decide_eq_true (by have := of_decide_eq_true h3; omega), Bool.or_true]
          rfl
        · have q1' := q1 (by unfold xsBad; rw [h2', show decide ((newS (fun i => (xs.map strV).getD i Str.empty) (xs.map strV).length : Nat) < xs.length) = false from decide_eq_false (fun z => h3 (decide_eq_true (by omega)))]; rfl)
          refine ⟨_, rfl, b, xs, rfl, .inl ⟨SqL.of (S2 _ _ hb), fun t H3 ht S3 tz => ?_⟩⟩
          refine ⟨_, rfl, a, _, dx, _, rfl, S3 _ _ (S2 _ _ ha), G.cListed.cl, G.cListed.no _ (by decide +kernel), (by show 0 < 1000; decide), ?_⟩
          exact q1' t _ (S2.trans S3) tz
      | tup xs =>
      obtain ⟨b, rfl, hb⟩ := hL
      have hz' : xs.length ≤ 10 := hz
      refine ⟨_, rfl, by show 2 ≤ 1000; decide, fun p0 H0 hp0 S0 e0 => ⟨_, p0, _, _, _, true, rfl, e0, .cons (.ty _) (.cons (.ty _) Paired.nil), .x (.fTuple (hb.same S0).choose_spec.2.2), (kit_LT K).2.1, _, rfl, iteF ?_⟩⟩
      refine ⟨_, rfl, b, _, rfl, .inr ((hb.same S0).sq), rfl, _, rfl, ?_⟩
      refine ite2 (fun h1 => mkO_1 (raise_mono S0 (q2 _ (by show (if (decide (xs.length = 0) || _) = true then _ else _) = _; rw [show decide (xs.length = 0) = true from decide_eq_true (by have := of_decide_eq_true h1; simpa using this)]; rfl)))) (fun h1 => ?_)
      have n0 : decide (xs.length = 0) = false := decide_eq_false (fun z => h1 (decide_eq_true (by rw [z]; rfl)))
      have eD : lxDue (.tup xs) = if xsBad xs = true then (some "texts" : Option Str) else none := by
        show (if (decide (xs.length = 0) || xsBad xs) = true then _ else _) = _
        rw [n0]
        rfl
      rw [eD] at q1 q2
      refine .inr ⟨_, rfl, b, rfl, ⟨_, (hb.same S0).sq⟩, fun D hD => ?_⟩
      refine lc_tup (K := K) (a := b) (xs := xs) (LcP H0 D fun n => (xs.take n).map fun v => V.bl (areB v)) (LcP.start hD rfl) (fun i J hi p => ((hb.same S0).same p.1).sq) ?_ ?_
      · intro i v J hx p
        refine ⟨rfl, _, rfl, v, rfl, hv v (List.mem_of_getElem? hx), p.put (Same.refl _) (take_succ_map _ hx) ?_⟩
        have := (List.getElem?_eq_some_iff.mp hx).1
        omega
      · rintro J ⟨S1, _, eJ, _⟩
        have eJ2 : J D = some (.lst ((xs.map areB).map V.bl)) := by rw [eJ]; show some (HO.lst ((xs.take xs.length).map fun v => V.bl (areB v))) = _; rw [List.take_length, List.map_map]; rfl
        refine ⟨D, xs.map areB, rfl, SqL.of eJ2, _, rfl, ?_⟩
        have ea : (xs.map areB).all id = xs.all areB := by rw [List.all_map]; rfl
        rw [ea]
        show if (!xs.all areB) = true then _ else _
        have S2 : Same H J := S0.trans S1
        refine ite2 (fun h2 => mkO_1 (raise_mono S2 (q2 _ (by unfold xsBad; rw [h2]; rfl)))) (fun h2 => ?_)
        have h2' : xs.all areB = true := by cases z : xs.all areB with | true => rfl | false => exact absurd (by rw [z]; rfl) h2
        refine ⟨_, rfl, b, xs.map strV, rfl, .inr (by rw [all_str xs h2']; exact (hb.same S2).sq), by rw [List.length_map]; omega, _, rfl, b, _, rfl, .inr ((hb.same S2).sq), _, _, rfl, rfl, _, rfl, ?_⟩
        refine ite2 (fun h3 => mkO_1 (raise_mono S2 (q2 _ ?_))) (fun h3 => ?_)
        · unfold xsBad
          rw [show decide ((newS (fun i => (xs.map strV).getD i Str.empty) (xs.map strV).length : Nat) < xs.length) = true from decide_eq_true (by have := of_decide_eq_true h3; omega), Bool.or_true]
          rfl
        · have q1' := q1 (by unfold xsBad; rw [h2', show decide ((newS (fun i => (xs.map strV).getD i Str.empty) (xs.map strV).length : Nat) < xs.length) = false from decide_eq_false (fun z => h3 (decide_eq_true (by omega)))]; rfl)
          refine ⟨_, rfl, b, xs, rfl, .inr ⟨(hb.same S2).sq, ?_⟩⟩
          refine ⟨_, rfl, a, _, dx, _, rfl, S2 _ _ ha, G.cListed.cl, G.cListed.no _ (by decide +kernel), (by show 0 < 1000; decide), ?_⟩
          exact q1' b _ S2 (hb.same S2)


def spEnded (K : Frag) : Sp := fun vs H Q E => ∃ (a dx : Addr) (s e l m : V), vs = [.ref a, s, e, l, m] ∧ H a = some (.ins (He.ga K "Ended") dx []) ∧ s ∈ sM ∧ e ∈ eM ∧ l ∈ nM ∧ m ∈ nM ∧ (eDue s e l m = none → Q .non (upd H a (.ins (He.ga K "Ended") dx (fEnded s e l m)))) ∧
  ∀ z, eDue s e l m = some z → RaiseE (BF K) "what" (.str z) H E
theorem eM_vM {v : V} (h : v ∈ eM) : v ∈ vM := List.mem_append_right _ (List.mem_append_left _ h)
theorem eM_one : ∀ e ∈ eM, isSignB e = true → e = .str ⟨#[(strV e).cps.getD 0 0]⟩ := by decide +kernel
theorem sM_str : ∀ s ∈ sM, sBad s = false → s = .str (strV s) := by decide +kernel

abbrev s_Ended_init : Stmt := inClass (top 37) 0
theorem sc_Ended_init : FnScope ["self", "signs", "sign", "least", "most"] ["self", "signs", "sign", "least", "most"] (defScope s_Ended_init) := ⟨rfl, rfl, rfl, by decide +kernel, rfl, by decide +kernel, by decide +kernel⟩

theorem ok_Ended_init (F : FunD K "__init__" "Ended.__init__" (defArgs s_Ended_init) (defBody s_Ended_init) (defScope s_Ended_init) [] [] f fd) (G : G3 P w K mg base) : FnOk P w K mg base (L2.CX P w) 4 f fd ["self", "signs", "sign", "least", "most"] (spEnded K) := by
  refine F.ok (CX := (L2.CX P w)) sc_Ended_init (fun vs H Q E h => ?_) (fun cdv A outer s H vs Q E hr h => ?_)
  · obtain ⟨a, dx, s, e, l, m, rfl, _⟩ := h
    rfl
  · have hr3 : Room 3 _ := hr
    have hr2 : Room 2 _ := hr.mono (by decide)
    refine ⟨_, (pss_cons (ps_expr (pe_fnS G.check_signs hr3 (fun σ => passAt (takes_of rfl rfl rfl rfl) σ) (by rfl) (pa_cons (pv 1) pa_nil)))
    (pss_cons (ps_if (PW.pt (pw_or (pt_not (pt_val (pe_fn G.is_sign (hr2.mono (by decide)) pass0 (by rfl) (pa_cons (pv 2) pa_nil)))) (pw_or1 (pt_cmpR op_in_sign (pv 2) (pv 1) (by rfl)))))
      (pss_one (ps_raise rfl (takes_of rfl rfl rfl rfl) (pmk_1 G.bf hr2 (by rfl) (pa_cons pe_str pa_nil))))
      pss_nil)
    (pss_cons (ps_expr (pe_fnS G.check_span hr3 (fun σ => passAt (takes_of rfl rfl rfl rfl) σ) (by rfl) (pa_cons (pv 3) (pa_cons (pv 4) pa_nil))))
    (pss_cons (ps_fld (pv 0) (pv 1) rfl)
    (pss_cons (ps_fld (pv 0) (pv 2) rfl)
    (pss_cons (ps_fld (pv 0) (pv 3) rfl)
    (pss_one (ps_fld (pv 0) (pv 4) rfl)))))))), ?_⟩
    obtain ⟨a, dx, s, e, l, m, rfl, ha, hs, he, hl, hm, q1, q2⟩ := h
    refine ⟨_, rfl, s, rfl, hs, fun e1 => ?_, fun e1 => q2 _ (by unfold eDue; rw [if_pos e1])⟩
    have e0 : eDue s e l m = if (!isSignB e || inB (strV e) (strV s)) = true then (some "sign" : Option Str) else bDue l m := by unfold eDue; rw [e1]; rfl
    rw [e0] at q1 q2
    refine ⟨_, rfl, e, rfl, eM_vM he, _, rfl, ?_⟩
    show if (!isSignB e) = true then _ else _
    refine ite2 (fun h1 => mkO_1 (q2 _ (by rw [h1]; rfl))) (fun h1 => ?_)
    have h1' : isSignB e = true := by cases z : isSignB e with | true => rfl | false => exact absurd (by rw [z]; rfl) h1
    refine ⟨_, rfl, _, rfl, _, strV s, eM_one e he h1', sM_str s hs e1, _, rfl, ?_⟩
    show if inB (strV e) (strV s) = true then _ else _
    refine ite2 (fun h2 => mkO_1 (q2 _ (by rw [h2, Bool.or_true]; rfl))) (fun h2 => ?_)
    have h2' : inB (strV e) (strV s) = false := Bool.eq_false_iff.mpr h2
    rw [h1', h2'] at q1 q2
    refine ⟨_, rfl, _, rfl, l, m, rfl, nM_flat l (nh hl), nM_flat m (nh hm), fun e2 => ?_, fun z e2 => q2 z e2⟩
    refine ⟨_, rfl, _, rfl, a, _, dx, _, rfl, ha, G.cEnded.cl, G.cEnded.no _ (by decide +kernel), (by show 0 < 1000; decide), _, rfl, _, rfl, a, _, dx, _, rfl, upd_same, G.cEnded.cl, G.cEnded.no _ (by decide +kernel), (by show 1 < 1000; decide), _, rfl, _, rfl, a, _, dx, _, rfl, upd_same, G.cEnded.cl, G.cEnded.no _ (by decide +kernel), (by show 2 < 1000; decide), _, rfl, _, rfl, a, _, dx, _, rfl, upd_same, G.cEnded.cl, G.cEnded.no _ (by decide +kernel), (by show 3 < 1000; decide), ?_⟩
    have z := q1 e2
    show Q .non _
    rw [upd_upd, upd_upd, upd_upd]
    exact z

def spHasWord (K : Frag) : Sp := fun vs H Q _ => ∃ (a : Addr) (c : Nat) (s l m : V), vs = [.ref a, .str ⟨#[c]⟩] ∧ FieldAt K H a (.word s l m) ∧ PD.In (.word s l m) ∧ PD.due (.word s l m) = none ∧ ∀ H', Same H H' → Q (.bl (PD.has ⟨#[c]⟩ (.word s l m))) H'

def spHasNumber (K : Frag) : Sp := fun vs H Q _ => ∃ (a : Addr) (c : Nat) (l m : V), vs = [.ref a, .str ⟨#[c]⟩] ∧ FieldAt K H a (.number l m) ∧ PD.In (.number l m) ∧ PD.due (.number l m) = none ∧ ∀ H', Same H H' → Q (.bl (PD.has ⟨#[c]⟩ (.number l m))) H'

def spHasFixed (K : Frag) : Sp := fun vs H Q _ => ∃ (a : Addr) (c : Nat) (v : V), vs = [.ref a, .str ⟨#[c]⟩] ∧ FieldAt K H a (.fixed v) ∧ PD.In (.fixed v) ∧ PD.due (.fixed v) = none ∧ ∀ H', Same H H' → Q (.bl (PD.has ⟨#[c]⟩ (.fixed v))) H'

def spHasListed (K : Frag) : Sp := fun vs H Q _ => ∃ (a : Addr) (c : Nat) (x : LX), vs = [.ref a, .str ⟨#[c]⟩] ∧ FieldAt K H a (.listed x) ∧ PD.In (.listed x) ∧ PD.due (.listed x) = none ∧ ∀ H', Same H H' → Q (.bl (PD.has ⟨#[c]⟩ (.listed x))) H'

def spHasEnded (K : Frag) : Sp := fun vs H Q _ => ∃ (a : Addr) (c : Nat) (s e l m : V), vs = [.ref a, .str ⟨#[c]⟩] ∧ FieldAt K H a (.ended s e l m) ∧ PD.In (.ended s e l m) ∧ PD.due (.ended s e l m) = none ∧ ∀ H', Same H H' → Q (.bl (PD.has ⟨#[c]⟩ (.ended s e l m))) H'

abbrev s_Word_has : Stmt := inClass (top 33) 7
theorem sc_Word_has : FnScope ["self", "sign"] ["self", "sign"] (defScope s_Word_has) := ⟨rfl, rfl, rfl, by decide +kernel, rfl, by decide +kernel, by decide +kernel⟩

theorem ok_Word_has (F : FunD K "has_sign" "Word.has_sign" (defArgs s_Word_has) (defBody s_Word_has) (defScope s_Word_has) [] [] f fd) (G : G3 P w K mg base) : FnOk P w K mg base CX0 2 f fd ["self", "sign"] (spHasWord K) := by
  refine F.ok (CX := CX0) sc_Word_has (fun vs H Q E h => ?_) (fun cdv A outer s H vs Q E hr h => ?_)
  · obtain ⟨a, c, s, l, m, rfl, _⟩ := h
    rfl
  · refine ⟨_, PSs.nox (pss_one (ps_ret (pe_fn G.has_words_with hr pass0 (by rfl) (pa_cons (pv 0) (pa_cons (pv 1) pa_nil))))), ?_⟩
    obtain ⟨a, c, s, l, m, rfl, ⟨dx, ha⟩, ⟨hs, hl, hm⟩, hd, q⟩ := h
    obtain ⟨es, sc, _⟩ := word_due s hs l hl m hm hd
    rw [es] at ha q
    exact ⟨_, rfl, _, rfl, a, _, dx, _, c, strV s, m, rfl, ha, G.cWord.cl, G.cWord.no _ (by decide +kernel), G.cWord.no _ (by decide +kernel), lWord_signs, lWord_most, sc, q _ (Same.refl _)⟩

abbrev s_Fixed_has : Stmt := inClass (top 35) 7
theorem sc_Fixed_has : FnScope ["self", "sign"] ["self", "sign"] (defScope s_Fixed_has) := ⟨rfl, rfl, rfl, by decide +kernel, rfl, by decide +kernel, by decide +kernel⟩

theorem ok_Fixed_has (F : FunD K "has_sign" "Fixed.has_sign" (defArgs s_Fixed_has) (defBody s_Fixed_has) (defScope s_Fixed_has) [] [] f fd) (G : G3 P w K mg base) : FnOk P w K mg base CX0 2 f fd ["self", "sign"] (spHasFixed K) := by
  refine F.ok (CX := CX0) sc_Fixed_has (fun vs H Q E h => ?_) (fun cdv A outer s H vs Q E hr h => ?_)
  · obtain ⟨a, c, v, rfl, _⟩ := h
    rfl
  · refine ⟨_, PSs.nox (pss_one (ps_ret (pe_cmpR op_in_sign (pv 1) (pe_sg G.dgs) (by rfl)))), ?_⟩
    obtain ⟨a, c, v, rfl, hf, _, _, q⟩ := h
    exact ⟨_, rfl, c, DG, rfl, rfl, q _ (Same.refl _)⟩

abbrev s_Ended_has : Stmt := inClass (top 37) 7
theorem sc_Ended_has : FnScope ["self", "sign"] ["self", "sign"] (defScope s_Ended_has) := ⟨rfl, rfl, rfl, by decide +kernel, rfl, by decide +kernel, by decide +kernel⟩

theorem ok_Ended_has (F : FunD K "has_sign" "Ended.has_sign" (defArgs s_Ended_has) (defBody s_Ended_has) (defScope s_Ended_has) [] [] f fd) (G : G3 P w K mg base) : FnOk P w K mg base CX0 2 f fd ["self", "sign"] (spHasEnded K) := by
  refine F.ok (CX := CX0) sc_Ended_has (fun vs H Q E h => ?_) (fun cdv A outer s H vs Q E hr h => ?_)
  · obtain ⟨a, c, s, e, l, m, rfl, _⟩ := h
    rfl
  · refine ⟨_, PSs.nox (pss_one (ps_ret (pe_or (pe_cmpR op_eq (pv 1) (pe_fld (pv 0) rfl) (nomark _)) (pe_one (pe_fn G.has_words_with hr pass0 (by rfl) (pa_cons (pv 0) (pa_cons (pv 1) pa_nil))))))), ?_⟩
    obtain ⟨a, c, s, e, l, m, rfl, ⟨dx, ha⟩, ⟨hs, he, hl, hm⟩, hd, q⟩ := h
    obtain ⟨es, ee, sc, _⟩ := end_due s hs e he l hl m hm hd
    have q0 := q _ (Same.refl _)
    refine ⟨_, rfl, _, rfl, a, _, dx, _, _, rfl, ha, G.cEnded.cl, G.cEnded.no _ (by decide +kernel), lEnded_sign, (by rw [ee]; rfl), _, rfl, ?_⟩
    refine ite2 (fun h1 => ?_) (fun h1 => ?_)
    · have r : PD.has ⟨#[c]⟩ (.ended s e l m) = true := by show (decide (V.str ⟨#[c]⟩ = e) || _) = true; rw [h1]; rfl
      rw [r] at q0
      exact q0
    · have r : PD.has ⟨#[c]⟩ (.ended s e l m) = wwB s m ⟨#[c]⟩ := by show (decide (V.str ⟨#[c]⟩ = e) || _) = _; rw [Bool.eq_false_iff.mpr h1]; rfl
      rw [r] at q0
      rw [es] at ha q0
      exact ⟨_, rfl, _, rfl, a, _, dx, _, c, strV s, m, rfl, ha, G.cEnded.cl, G.cEnded.no _ (by decide +kernel), G.cEnded.no _ (by decide +kernel), lEnded_signs, lEnded_most, sc, q0⟩

abbrev s_Listed_has : Stmt := inClass (top 36) 7
theorem sc_Listed_has : FnScope ["self", "sign", "text"] ["self", "sign"] (defScope s_Listed_has) := ⟨rfl, rfl, rfl, by decide +kernel, rfl, by decide +kernel, by decide +kernel⟩

theorem ok_Listed_has (F : FunD K "has_sign" "Listed.has_sign" (defArgs s_Listed_has) (defBody s_Listed_has) (defScope s_Listed_has) [] [] f fd) (G : G3 P w K mg base) : FnOk P w K mg base CX0 2 f fd ["self", "sign"] (spHasListed K) := by
  refine F.ok (CX := CX0) sc_Listed_has (fun vs H Q E h => ?_) (fun cdv A outer s H vs Q E hr h => ?_)
  · obtain ⟨a, c, x, rfl, _⟩ := h
    rfl
  · refine ⟨_, PSs.nox (pss_one (ps_ret (pe_callB (cr_any rfl) (by rfl) G.any (by decide +kernel) (pa_cons (pe_lc (own := [("text", 2)]) (g := gName 2) (tt := tYes) rfl sc_Listed_has.nd (pi_tup (pe_fld (pv 0) rfl)) (blkOk_by (N := ["self", "sign", "text"]) (sc := defScope s_Listed_has) (by decide +kernel)) (fun _ _ _ _ _ => pg_name (i := 2) sc_Listed_has.nd rfl (Or.inl rfl)) (fun _ _ _ _ _ => pts_nil) (fun _ _ _ _ _ => (pe_cmpR op_in_sign (pv 1) (pv 2) (by rfl)))) pa_nil)))), ?_⟩
    obtain ⟨a, c, x, rfl, ⟨dx, t, ha, ht⟩, hx, hd, q⟩ := h
    obtain ⟨hs, hz, _⟩ := lst_due x hx hd
    refine ⟨_, rfl, a, _, dx, _, _, rfl, ha, G.cListed.cl, G.cListed.no _ (by decide +kernel), lListed_texts, t, rfl, ⟨_, ht.sq⟩, fun D hD => ?_⟩
    refine lc_tup (K := K) (a := t) (xs := x.els) (LcP H D fun n => (x.els.take n).map fun v => V.bl (inB ⟨#[c]⟩ (strV v))) (LcP.start hD rfl) (fun i J hi p => (ht.same p.1).sq) ?_ ?_
    · intro i v J hv p
      have ev := hs v (List.mem_of_getElem? hv)
      have := (List.getElem?_eq_some_iff.mp hv).1
      exact ⟨rfl, _, rfl, _, rfl, c, strV v, rfl, ev, p.put (Same.refl _) (take_succ_map _ hv) (by omega)⟩
    · rintro J ⟨S1, _, eJ, _⟩
      have eJ2 : J D = some (.lst ((x.els.map fun v => inB ⟨#[c]⟩ (strV v)).map V.bl)) := by rw [eJ]; show some (HO.lst ((x.els.take x.els.length).map fun v => V.bl (inB ⟨#[c]⟩ (strV v)))) = _; rw [List.take_length, List.map_map]; rfl
      refine ⟨D, _, rfl, SqL.of eJ2, ?_⟩
      rw [List.any_map]
      exact q _ S1

abbrev s_Number_has : Stmt := inClass (top 34) 7
theorem sc_Number_has : FnScope ["self", "sign", "number"] ["self", "sign"] (defScope s_Number_has) := ⟨rfl, rfl, rfl, by decide +kernel, rfl, by decide +kernel, by decide +kernel⟩

theorem ok_Number_has (F : FunD K "has_sign" "Number.has_sign" (defArgs s_Number_has) (defBody s_Number_has) (defScope s_Number_has) [] [] f fd) (G : G3 P w K mg base) : FnOk P w K mg base CX0 2 f fd ["self", "sign"] (spHasNumber K) := by
  refine F.ok (CX := CX0) sc_Number_has (fun vs H Q E h => ?_) (fun cdv A outer s H vs Q E hr h => ?_)
  · obtain ⟨a, c, l, m, rfl, _⟩ := h
    rfl
  · refine ⟨_, PSs.nox (pss_cons (ps_if (PW.pt (pw_or (pt_cmpR op_isN (pe_fld (pv 0) rfl) pe_non (nomark _)) (pw_or1 (pt_cmpR op_ge (pe_op op_sub (pe_fld (pv 0) rfl) (pe_fld (pv 0) rfl)) pe_int (nomark _)))))
      (pss_one (ps_ret (pe_cmpR op_in_sign (pv 1) (pe_sg G.dgs) (by rfl))))
      pss_nil)
    (pss_one (ps_ret (pe_callB (cr_any rfl) (by rfl) G.any (by decide +kernel) (pa_cons (pe_lc (own := [("number", 2)]) (g := gName 2) (tt := tYes) rfl sc_Number_has.nd (pi_range2 (by rfl) G.range (pa_cons (pe_fld (pv 0) rfl) (pa_cons (pe_op op_add (pe_fld (pv 0) rfl) pe_int) pa_nil))) (blkOk_by (N := ["self", "sign", "number"]) (sc := defScope s_Number_has) (by decide +kernel)) (fun _ _ _ _ _ => pg_name (i := 2) sc_Number_has.nd rfl (Or.inl rfl)) (fun _ _ _ _ _ => pts_nil) (fun _ _ _ _ _ => (pe_cmpR op_in_sign (pv 1) (pe_fn G.digits_of hr pass0 (by rfl) (pa_cons (pv 2) pa_nil)) (by rfl)))) pa_nil))))), ?_⟩
    obtain ⟨a, c, l, m, rfl, ⟨dx, ha⟩, ⟨hl, hm⟩, hd, q⟩ := h
    obtain ⟨el, em, hl0, hl1, hm0, hm1, _⟩ := num_due l hl m hm hd
    refine ⟨_, rfl, a, _, dx, _, _, rfl, ha, G.cNumber.cl, G.cNumber.no _ (by decide +kernel), lNumber_most, rfl, _, rfl, ?_⟩
    refine ite2 (fun h1 => ?_) (fun h1 => ?_)
    · have r : PD.has ⟨#[c]⟩ (.number l m) = inB ⟨#[c]⟩ DG := by show (if (decide (m = .non) || _) = true then _ else _) = _; rw [h1]; rfl
      have q0 := q _ (Same.refl _)
      rw [r] at q0
      exact ⟨_, rfl, c, DG, rfl, rfl, q0⟩
    rcases em with em | em
    · exact absurd (decide_eq_true em) h1
    refine ⟨_, rfl, a, _, dx, _, _, rfl, ha, G.cNumber.cl, G.cNumber.no _ (by decide +kernel), lNumber_most, _, rfl, a, _, dx, _, _, rfl, ha, G.cNumber.cl, G.cNumber.no _ (by decide +kernel), lNumber_least, intV m, intV l, em, el, _, _, rfl, rfl, _, rfl, ?_⟩
    refine ite2 (fun h2 => ?_) (fun h2 => ?_)
    · have r : PD.has ⟨#[c]⟩ (.number l m) = inB ⟨#[c]⟩ DG := by show (if (_ || decide (9 ≤ intV m - intV l)) = true then _ else _) = _; rw [h2, Bool.or_true]; rfl
      have q0 := q _ (Same.refl _)
      rw [r] at q0
      exact ⟨_, rfl, c, DG, rfl, rfl, q0⟩
    have h9 : ¬ 9 ≤ intV m - intV l := fun z => h2 (decide_eq_true z)
    have r : PD.has ⟨#[c]⟩ (.number l m) = (List.range (intV m + 1 - intV l).toNat).any fun (i : Nat) => inB ⟨#[c]⟩ (dg (intV l + i)) := by
      show (if (decide (m = .non) || decide (9 ≤ intV m - intV l)) = true then _ else _) = _
      rw [Bool.eq_false_iff.mpr h1, Bool.eq_false_iff.mpr h2]
      rfl
    rw [r] at q
    refine ⟨_, rfl, a, _, dx, _, _, rfl, ha, G.cNumber.cl, G.cNumber.no _ (by decide +kernel), lNumber_least, _, rfl, a, _, dx, _, _, rfl, ha, G.cNumber.cl, G.cNumber.no _ (by decide +kernel), lNumber_most, intV m, 1, em, rfl, intV l, intV m + 1, by rw [el]; rfl, ⟨by omega, by omega, by omega, by omega⟩, fun D hD => ?_⟩
    refine lc_range (lo := intV l) (n := (intV m + 1 - intV l).toNat) (LcP H D fun n => (List.range n).map fun (i : Nat) => V.bl (inB ⟨#[c]⟩ (dg (intV l + i)))) (LcP.start hD rfl) ?_ ?_
    · intro i J hi p
      refine ⟨rfl, _, rfl, _, rfl, _, rfl, by omega, by omega, fun J' S' => ⟨c, _, rfl, rfl, p.put S' (by rw [List.range_succ, List.map_append]; rfl) (by omega)⟩⟩
    · rintro J ⟨S1, _, eJ, _⟩
      have eJ2 : J D = some (.lst (((List.range (intV m + 1 - intV l).toNat).map fun (i : Nat) => inB ⟨#[c]⟩ (dg (intV l + i))).map V.bl)) := by rw [eJ, List.map_map]; rfl
      refine ⟨D, _, rfl, SqL.of eJ2, ?_⟩
      rw [List.any_map]
      exact q _ S1

end
end L2.K08

set_option Elab.async false
set_option linter.all false
set_option maxRecDepth 100000
set_option maxHeartbeats 4000000
namespace L2.K08
open PySem PySem.W PySem.Spec PySem.Calls PyProof.Rows L2.Jk
def PD.ci : PD → Nat
  | .word .. => 0
  | .number .. => 1
  | .fixed _ => 2
  | .listed _ => 3
  | .ended .. => 4
theorem PD.ci_lt (d : PD) : d.ci < 5 := by cases d <;> simp [PD.ci]
/-- what the head says of a field class beyond C0 -/
structure KC (K : Frag) (C : Addr) : Prop where
  kk : findIn K (.ref C) "__class__" = some (some (.builtin "object.__class__"))
  km : mroIn K C (.type "object") = some true
  nf : notFirst K C (.type "tuple") = true
  eq : EqcC K C
  ke : keepIn K (.ref (He.ma K C "__eq__")) = true
structure G4 (P : Program) (w : World) (K : Frag) (mg : Str → Option Value) (base : Heap) : Prop extends G3 P w K mg base where
  kc : ∀ i, i < 6 → KC K (ca K i)
  kn : specialIn K (.builtin "object.__class__") "__get__" = some (some (.builtin "getset_descriptor.__get__"))
  kt : takesIn K (.builtin "object.__class__") = some true
  kit : ∀ i j, i < 6 → j < 6 → kitOne K (.ref (ca K i)) (.ref (ca K j)) = some (decide (i = j))
  kitN : ∀ j, j < 6 → kitOne K (.type "NoneType") (.ref (ca K j)) = some false
  kitS : ∀ j, j < 6 → kitOne K (.type "str") (.ref (ca K j)) = some false
section
variable {P : Program} {w : World} {K : Frag} {mg : Str → Option Value} {base : Heap} {f : Addr} {fd : FuncData}
theorem FieldAt.ins {H : Hp} {y : Addr} : ∀ {d : PD}, FieldAt K H y d → ∃ dx fs, H y = some (.ins (ca K d.ci) dx fs) ∧ fs.lookup ("has_sign" : Str) = none
  | .word .., ⟨dx, h⟩ => ⟨dx, _, h, lWord_hs⟩
  | .number .., ⟨dx, h⟩ => ⟨dx, _, h, lNumber_hs⟩
  | .fixed _, ⟨dx, h⟩ => ⟨dx, _, h, lFixed_hs⟩
  | .listed _, ⟨dx, t, h, k⟩ => ⟨dx, _, h, lListed_hs⟩
  | .ended .., ⟨dx, h⟩ => ⟨dx, _, h, lEnded_hs⟩
theorem G4.cl (G : G4 P w K mg base) : ∀ i, i < 6 → Cls K (ca K i)
  | 0, _ => G.cWord.cl
  | 1, _ => G.cNumber.cl
  | 2, _ => G.cFixed.cl
  | 3, _ => G.cListed.cl
  | 4, _ => G.cEnded.cl
  | 5, _ => G.cMarked.cl
  | n + 6, h => absurd h (by omega)
theorem G4.ty (G : G4 P w K mg base) {H : Hp} {y dx : Addr} {fs : List (Str × V)} {i : Nat} (hi : i < 6) (h : H y = some (.ins (ca K i) dx fs)) : TyE K H (.ref y) (.ref (ca K i)) :=
  .x (.base (.ins h (G.cl i hi) (G.kc i hi).kk G.kn G.kt (G.kc i hi).km))
def dV : V → PyData
  | .bl b => .bool b
  | .int i => .int i
  | .str z => .str z
  | _ => .none
theorem dp_flat {H : Hp} : ∀ {v : V}, flatV v = true → Dp K H v (dV v)
  | .non, _ => .non
  | .bl b, _ => .bl b
  | .int i, _ => .int i
  | .str z, _ => .str z
theorem dpAll_flat {H : Hp} : ∀ {xs : List V}, xs.all flatV = true → DpAll K H xs (xs.map dV)
  | [], _ => .nil
  | v :: xs, h => by
    obtain ⟨h1, h2⟩ := Bool.and_eq_true_iff.mp (show (flatV v && xs.all flatV) = true from h)
    exact .cons (dp_flat h1) (dpAll_flat h2)
theorem lM_shaped : ∀ x ∈ lM, lxDue x = none → x.els.all flatV = true ∧ SeqAt.shaped (.tuple (x.els.map dV)) = true := by decide +kernel

def spEqWord (K : Frag) : Sp := fun vs H Q _ => ∃ (a : Addr) (u : V) (s l m : V), vs = [.ref a, u] ∧ FieldAt K H a (.word s l m) ∧ PD.In (.word s l m) ∧ PD.due (.word s l m) = none ∧
  ((∃ b, u = .ref b ∧ FieldAt K H b (.word s l m) ∧ Q (.bl true) H) ∨ (∃ b xs, u = .ref b ∧ H b = some (.tup xs) ∧ Q (.bl false) H))

def spEqNumber (K : Frag) : Sp := fun vs H Q _ => ∃ (a : Addr) (u : V) (l m : V), vs = [.ref a, u] ∧ FieldAt K H a (.number l m) ∧ PD.In (.number l m) ∧ PD.due (.number l m) = none ∧
  ((∃ b, u = .ref b ∧ FieldAt K H b (.number l m) ∧ Q (.bl true) H) ∨ (∃ b xs, u = .ref b ∧ H b = some (.tup xs) ∧ Q (.bl false) H))

def spEqFixed (K : Frag) : Sp := fun vs H Q _ => ∃ (a : Addr) (u : V) (v : V), vs = [.ref a, u] ∧ FieldAt K H a (.fixed v) ∧ PD.In (.fixed v) ∧ PD.due (.fixed v) = none ∧
  ((∃ b, u = .ref b ∧ FieldAt K H b (.fixed v) ∧ Q (.bl true) H) ∨ (∃ b xs, u = .ref b ∧ H b = some (.tup xs) ∧ Q (.bl false) H))

def spEqListed (K : Frag) : Sp := fun vs H Q _ => ∃ (a : Addr) (u : V) (x : LX), vs = [.ref a, u] ∧ FieldAt K H a (.listed x) ∧ PD.In (.listed x) ∧ PD.due (.listed x) = none ∧
  ((∃ b, u = .ref b ∧ FieldAt K H b (.listed x) ∧ Q (.bl true) H) ∨ (∃ b xs, u = .ref b ∧ H b = some (.tup xs) ∧ Q (.bl false) H))

def spEqEnded (K : Frag) : Sp := fun vs H Q _ => ∃ (a : Addr) (u : V) (s e l m : V), vs = [.ref a, u] ∧ FieldAt K H a (.ended s e l m) ∧ PD.In (.ended s e l m) ∧ PD.due (.ended s e l m) = none ∧
  ((∃ b, u = .ref b ∧ FieldAt K H b (.ended s e l m) ∧ Q (.bl true) H) ∨ (∃ b xs, u = .ref b ∧ H b = some (.tup xs) ∧ Q (.bl false) H))

abbrev s_Word_eq : Stmt := inClass (top 33) 1
theorem sc_Word_eq : FnScope ["self", "other"] ["self", "other"] (defScope s_Word_eq) := ⟨rfl, rfl, rfl, by decide +kernel, rfl, by decide +kernel, by decide +kernel⟩

theorem ok_Word_eq (F : FunD K "__eq__" "Word.__eq__" (defArgs s_Word_eq) (defBody s_Word_eq) (defScope s_Word_eq) [] [] f fd) (G : G4 P w K mg base) : FnOk P w K mg base CX0 1 f fd ["self", "other"] (spEqWord K) := by
  refine F.ok (CX := CX0) sc_Word_eq (fun vs H Q E h => ?_) (fun cdv A outer s H vs Q E hr h => ?_)
  · obtain ⟨a, u, s, l, m, rfl, _⟩ := h
    rfl
  · refine ⟨_, PSs.nox (pss_one (ps_ret (pe_and (pe_cmpR op_isA (pe_callTy call_tyA (by rfl) G.type (by decide +kernel) (pa_cons (pv 0) pa_nil)) (pe_callTy call_tyA (by rfl) G.type (by decide +kernel) (pa_cons (pv 1) pa_nil)) (nomark _)) (pe_and (pe_cmpR op_eq (pe_fld (pv 0) rfl) (pe_fld (pv 1) rfl) (nomark _)) (pe_and (pe_cmpR op_eq (pe_fld (pv 0) rfl) (pe_fld (pv 1) rfl) (nomark _)) (pe_one (pe_cmpR op_eq (pe_fld (pv 0) rfl) (pe_fld (pv 1) rfl) (nomark _)))))))), ?_⟩
    obtain ⟨a, u, s, l, m, rfl, ⟨dx, ha⟩, hin, hd, h⟩ := h
    obtain ⟨hs, hl, hm⟩ := hin
    obtain ⟨_, _, z⟩ := word_due s hs l hl m hm hd
    obtain ⟨k0, z⟩ := Bool.and_eq_true_iff.mp z
    obtain ⟨k1, k2⟩ := Bool.and_eq_true_iff.mp z

    rcases h with ⟨b, rfl, ⟨dy, hb⟩, q⟩ | ⟨b, xs, rfl, hb, q⟩
    · refine ⟨_, rfl, _, rfl, .inl ⟨a, _, dx, _, rfl, ha, _, rfl, _, rfl, .inl ⟨b, _, dy, _, rfl, hb, _, rfl, .inl ⟨_, rfl, .inl rfl, _, rfl, ?_⟩⟩⟩⟩
      refine ite2 (fun _ => ?_) (fun h => absurd (decide_eq_true rfl) h)
      refine ⟨_, rfl, a, _, dx, _, _, rfl, ha, G.cWord.cl, G.cWord.no _ (by decide +kernel), lWord_signs, _, rfl, b, _, dy, _, _, rfl, hb, G.cWord.cl, G.cWord.no _ (by decide +kernel), lWord_signs, k0, _, rfl, ?_⟩
      refine ite2 (fun _ => ?_) (fun h => absurd (decide_eq_true rfl) h)
      refine ⟨_, rfl, a, _, dx, _, _, rfl, ha, G.cWord.cl, G.cWord.no _ (by decide +kernel), lWord_least, _, rfl, b, _, dy, _, _, rfl, hb, G.cWord.cl, G.cWord.no _ (by decide +kernel), lWord_least, k1, _, rfl, ?_⟩
      refine ite2 (fun _ => ?_) (fun h => absurd (decide_eq_true rfl) h)
      refine ⟨_, rfl, a, _, dx, _, _, rfl, ha, G.cWord.cl, G.cWord.no _ (by decide +kernel), lWord_most, _, rfl, b, _, dy, _, _, rfl, hb, G.cWord.cl, G.cWord.no _ (by decide +kernel), lWord_most, k2, ?_⟩
      rw [decide_eq_true rfl]
      exact q
    · exact ⟨_, rfl, _, rfl, .inl ⟨a, _, dx, _, rfl, ha, _, rfl, _, rfl, .inr ⟨_, .tup hb, _, rfl, .inr ⟨_, rfl, _, rfl, iteF q⟩⟩⟩⟩


abbrev s_Number_eq : Stmt := inClass (top 34) 1
theorem sc_Number_eq : FnScope ["self", "other"] ["self", "other"] (defScope s_Number_eq) := ⟨rfl, rfl, rfl, by decide +kernel, rfl, by decide +kernel, by decide +kernel⟩

theorem ok_Number_eq (F : FunD K "__eq__" "Number.__eq__" (defArgs s_Number_eq) (defBody s_Number_eq) (defScope s_Number_eq) [] [] f fd) (G : G4 P w K mg base) : FnOk P w K mg base CX0 1 f fd ["self", "other"] (spEqNumber K) := by
  refine F.ok (CX := CX0) sc_Number_eq (fun vs H Q E h => ?_) (fun cdv A outer s H vs Q E hr h => ?_)
  · obtain ⟨a, u, l, m, rfl, _⟩ := h
    rfl
  · refine ⟨_, PSs.nox (pss_one (ps_ret (pe_and (pe_cmpR op_isA (pe_callTy call_tyA (by rfl) G.type (by decide +kernel) (pa_cons (pv 0) pa_nil)) (pe_callTy call_tyA (by rfl) G.type (by decide +kernel) (pa_cons (pv 1) pa_nil)) (nomark _)) (pe_and (pe_cmpR op_eq (pe_fld (pv 0) rfl) (pe_fld (pv 1) rfl) (nomark _)) (pe_one (pe_cmpR op_eq (pe_fld (pv 0) rfl) (pe_fld (pv 1) rfl) (nomark _))))))), ?_⟩
    obtain ⟨a, u, l, m, rfl, ⟨dx, ha⟩, hin, hd, h⟩ := h
    obtain ⟨hl, hm⟩ := hin
    obtain ⟨_, _, _, _, _, _, z⟩ := num_due l hl m hm hd
    obtain ⟨k0, k1⟩ := Bool.and_eq_true_iff.mp z

    rcases h with ⟨b, rfl, ⟨dy, hb⟩, q⟩ | ⟨b, xs, rfl, hb, q⟩
    · refine ⟨_, rfl, _, rfl, .inl ⟨a, _, dx, _, rfl, ha, _, rfl, _, rfl, .inl ⟨b, _, dy, _, rfl, hb, _, rfl, .inl ⟨_, rfl, .inl rfl, _, rfl, ?_⟩⟩⟩⟩
      refine ite2 (fun _ => ?_) (fun h => absurd (decide_eq_true rfl) h)
      refine ⟨_, rfl, a, _, dx, _, _, rfl, ha, G.cNumber.cl, G.cNumber.no _ (by decide +kernel), lNumber_least, _, rfl, b, _, dy, _, _, rfl, hb, G.cNumber.cl, G.cNumber.no _ (by decide +kernel), lNumber_least, k0, _, rfl, ?_⟩
      refine ite2 (fun _ => ?_) (fun h => absurd (decide_eq_true rfl) h)
      refine ⟨_, rfl, a, _, dx, _, _, rfl, ha, G.cNumber.cl, G.cNumber.no _ (by decide +kernel), lNumber_most, _, rfl, b, _, dy, _, _, rfl, hb, G.cNumber.cl, G.cNumber.no _ (by decide +kernel), lNumber_most, k1, ?_⟩
      rw [decide_eq_true rfl]
      exact q
    · exact ⟨_, rfl, _, rfl, .inl ⟨a, _, dx, _, rfl, ha, _, rfl, _, rfl, .inr ⟨_, .tup hb, _, rfl, .inr ⟨_, rfl, _, rfl, iteF q⟩⟩⟩⟩


abbrev s_Fixed_eq : Stmt := inClass (top 35) 1
theorem sc_Fixed_eq : FnScope ["self", "other"] ["self", "other"] (defScope s_Fixed_eq) := ⟨rfl, rfl, rfl, by decide +kernel, rfl, by decide +kernel, by decide +kernel⟩

theorem ok_Fixed_eq (F : FunD K "__eq__" "Fixed.__eq__" (defArgs s_Fixed_eq) (defBody s_Fixed_eq) (defScope s_Fixed_eq) [] [] f fd) (G : G4 P w K mg base) : FnOk P w K mg base CX0 1 f fd ["self", "other"] (spEqFixed K) := by
  refine F.ok (CX := CX0) sc_Fixed_eq (fun vs H Q E h => ?_) (fun cdv A outer s H vs Q E hr h => ?_)
  · obtain ⟨a, u, v, rfl, _⟩ := h
    rfl
  · refine ⟨_, PSs.nox (pss_one (ps_ret (pe_and (pe_cmpR op_isA (pe_callTy call_tyA (by rfl) G.type (by decide +kernel) (pa_cons (pv 0) pa_nil)) (pe_callTy call_tyA (by rfl) G.type (by decide +kernel) (pa_cons (pv 1) pa_nil)) (nomark _)) (pe_one (pe_cmpR op_eq (pe_fld (pv 0) rfl) (pe_fld (pv 1) rfl) (nomark _)))))), ?_⟩
    obtain ⟨a, u, v, rfl, ⟨dx, ha⟩, hin, hd, h⟩ := h
    have k0 := fix_due v hin hd

    rcases h with ⟨b, rfl, ⟨dy, hb⟩, q⟩ | ⟨b, xs, rfl, hb, q⟩
    · refine ⟨_, rfl, _, rfl, .inl ⟨a, _, dx, _, rfl, ha, _, rfl, _, rfl, .inl ⟨b, _, dy, _, rfl, hb, _, rfl, .inl ⟨_, rfl, .inl rfl, _, rfl, ?_⟩⟩⟩⟩
      refine ite2 (fun _ => ?_) (fun h => absurd (decide_eq_true rfl) h)
      refine ⟨_, rfl, a, _, dx, _, _, rfl, ha, G.cFixed.cl, G.cFixed.no _ (by decide +kernel), lFixed_width, _, rfl, b, _, dy, _, _, rfl, hb, G.cFixed.cl, G.cFixed.no _ (by decide +kernel), lFixed_width, k0, ?_⟩
      rw [decide_eq_true rfl]
      exact q
    · exact ⟨_, rfl, _, rfl, .inl ⟨a, _, dx, _, rfl, ha, _, rfl, _, rfl, .inr ⟨_, .tup hb, _, rfl, .inr ⟨_, rfl, _, rfl, iteF q⟩⟩⟩⟩


abbrev s_Ended_eq : Stmt := inClass (top 37) 1
theorem sc_Ended_eq : FnScope ["self", "other"] ["self", "other"] (defScope s_Ended_eq) := ⟨rfl, rfl, rfl, by decide +kernel, rfl, by decide +kernel, by decide +kernel⟩

theorem ok_Ended_eq (F : FunD K "__eq__" "Ended.__eq__" (defArgs s_Ended_eq) (defBody s_Ended_eq) (defScope s_Ended_eq) [] [] f fd) (G : G4 P w K mg base) : FnOk P w K mg base CX0 1 f fd ["self", "other"] (spEqEnded K) := by
  refine F.ok (CX := CX0) sc_Ended_eq (fun vs H Q E h => ?_) (fun cdv A outer s H vs Q E hr h => ?_)
  · obtain ⟨a, u, s, e, l, m, rfl, _⟩ := h
    rfl
  · refine ⟨_, PSs.nox (pss_one (ps_ret (pe_and (pe_cmpR op_isA (pe_callTy call_tyA (by rfl) G.type (by decide +kernel) (pa_cons (pv 0) pa_nil)) (pe_callTy call_tyA (by rfl) G.type (by decide +kernel) (pa_cons (pv 1) pa_nil)) (nomark _)) (pe_and (pe_cmpR op_eq (pe_fld (pv 0) rfl) (pe_fld (pv 1) rfl) (nomark _)) (pe_and (pe_cmpR op_eq (pe_fld (pv 0) rfl) (pe_fld (pv 1) rfl) (nomark _)) (pe_and (pe_cmpR op_eq (pe_fld (pv 0) rfl) (pe_fld (pv 1) rfl) (nomark _)) (pe_one (pe_cmpR op_eq (pe_fld (pv 0) rfl) (pe_fld (pv 1) rfl) (nomark _))))))))), ?_⟩
    obtain ⟨a, u, s, e, l, m, rfl, ⟨dx, ha⟩, hin, hd, h⟩ := h
    obtain ⟨hs, he, hl, hm⟩ := hin
    obtain ⟨_, _, _, z⟩ := end_due s hs e he l hl m hm hd
    obtain ⟨k0, z⟩ := Bool.and_eq_true_iff.mp z
    obtain ⟨k1, z⟩ := Bool.and_eq_true_iff.mp z
    obtain ⟨k2, k3⟩ := Bool.and_eq_true_iff.mp z

    rcases h with ⟨b, rfl, ⟨dy, hb⟩, q⟩ | ⟨b, xs, rfl, hb, q⟩
    · refine ⟨_, rfl, _, rfl, .inl ⟨a, _, dx, _, rfl, ha, _, rfl, _, rfl, .inl ⟨b, _, dy, _, rfl, hb, _, rfl, .inl ⟨_, rfl, .inl rfl, _, rfl, ?_⟩⟩⟩⟩
      refine ite2 (fun _ => ?_) (fun h => absurd (decide_eq_true rfl) h)
      refine ⟨_, rfl, a, _, dx, _, _, rfl, ha, G.cEnded.cl, G.cEnded.no _ (by decide +kernel), lEnded_signs, _, rfl, b, _, dy, _, _, rfl, hb, G.cEnded.cl, G.cEnded.no _ (by decide +kernel), lEnded_signs, k0, _, rfl, ?_⟩
      refine ite2 (fun _ => ?_) (fun h => absurd (decide_eq_true rfl) h)
      refine ⟨_, rfl, a, _, dx, _, _, rfl, ha, G.cEnded.cl, G.cEnded.no _ (by decide +kernel), lEnded_sign, _, rfl, b, _, dy, _, _, rfl, hb, G.cEnded.cl, G.cEnded.no _ (by decide +kernel), lEnded_sign, k1, _, rfl, ?_⟩
      refine ite2 (fun _ => ?_) (fun h => absurd (decide_eq_true rfl) h)
      refine ⟨_, rfl, a, _, dx, _, _, rfl, ha, G.cEnded.cl, G.cEnded.no _ (by decide +kernel), lEnded_least, _, rfl, b, _, dy, _, _, rfl, hb, G.cEnded.cl, G.cEnded.no _ (by decide +kernel), lEnded_least, k2, _, rfl, ?_⟩
      refine ite2 (fun _ => ?_) (fun h => absurd (decide_eq_true rfl) h)
      refine ⟨_, rfl, a, _, dx, _, _, rfl, ha, G.cEnded.cl, G.cEnded.no _ (by decide +kernel), lEnded_most, _, rfl, b, _, dy, _, _, rfl, hb, G.cEnded.cl, G.cEnded.no _ (by decide +kernel), lEnded_most, k3, ?_⟩
      rw [decide_eq_true rfl]
      exact q
    · exact ⟨_, rfl, _, rfl, .inl ⟨a, _, dx, _, rfl, ha, _, rfl, _, rfl, .inr ⟨_, .tup hb, _, rfl, .inr ⟨_, rfl, _, rfl, iteF q⟩⟩⟩⟩


abbrev s_Listed_eq : Stmt := inClass (top 36) 1
theorem sc_Listed_eq : FnScope ["self", "other"] ["self", "other"] (defScope s_Listed_eq) := ⟨rfl, rfl, rfl, by decide +kernel, rfl, by decide +kernel, by decide +kernel⟩

theorem ok_Listed_eq (F : FunD K "__eq__" "Listed.__eq__" (defArgs s_Listed_eq) (defBody s_Listed_eq) (defScope s_Listed_eq) [] [] f fd) (G : G4 P w K mg base) : FnOk P w K mg base CX0 1 f fd ["self", "other"] (spEqListed K) := by
  refine F.ok (CX := CX0) sc_Listed_eq (fun vs H Q E h => ?_) (fun cdv A outer s H vs Q E hr h => ?_)
  · obtain ⟨a, u, x, rfl, _⟩ := h
    rfl
  · refine ⟨_, PSs.nox (pss_one (ps_ret (pe_and (pe_cmpR op_isA (pe_callTy call_tyA (by rfl) G.type (by decide +kernel) (pa_cons (pv 0) pa_nil)) (pe_callTy call_tyA (by rfl) G.type (by decide +kernel) (pa_cons (pv 1) pa_nil)) (nomark _)) (pe_one (pe_cmpR (op_eqD hr.units) (pe_fld (pv 0) rfl) (pe_fld (pv 1) rfl) (nomark _)))))), ?_⟩
    obtain ⟨a, u, x, rfl, ⟨dx, t, ha, ht⟩, hin, hd, h⟩ := h
    obtain ⟨hf, hsh⟩ := lM_shaped x hin hd
    rcases h with ⟨b, rfl, ⟨dy, t2, hb, ht2⟩, q⟩ | ⟨b, xs, rfl, hb, q⟩
    · refine ⟨_, rfl, _, rfl, .inl ⟨a, _, dx, _, rfl, ha, _, rfl, _, rfl, .inl ⟨b, _, dy, _, rfl, hb, _, rfl, .inl ⟨_, rfl, .inl rfl, _, rfl, ?_⟩⟩⟩⟩
      refine ite2 (fun _ => ?_) (fun h => absurd (decide_eq_true rfl) h)
      refine ⟨_, rfl, a, _, dx, _, _, rfl, ha, G.cListed.cl, G.cListed.no _ (by decide +kernel), lListed_texts, _, rfl, b, _, dy, _, _, rfl, hb, G.cListed.cl, G.cListed.no _ (by decide +kernel), lListed_texts, _, _, .tup ht.sq (dpAll_flat hf), .tup ht2.sq (dpAll_flat hf), hsh, hsh, ?_⟩
      rw [eqv_same hsh]
      exact q
    · exact ⟨_, rfl, _, rfl, .inl ⟨a, _, dx, _, rfl, ha, _, rfl, _, rfl, .inr ⟨_, .tup hb, _, rfl, .inr ⟨_, rfl, _, rfl, iteF q⟩⟩⟩⟩


/-- has_sign and == of each class -/
structure HM (P : Program) (w : World) (K : Frag) (mg : Str → Option Value) (base : Heap) (k : Nat) (C : Addr) (m : Str) (ps : List Str) (sp : Sp) : Prop where
  me : Meth K C m (He.ma K C m)
  ok : ∃ fd, FnOk P w K mg base CX0 k (He.ma K C m) fd ps sp ∧ Binds K fd ps []
structure EQ (P : Program) (w : World) (K : Frag) (mg : Str → Option Value) (base : Heap) (C : Addr) (sp : Sp) : Prop where
  ok : ∃ fd, FnOk P w K mg base CX0 1 (He.ma K C "__eq__") fd ["self", "other"] sp ∧ Binds K fd ["self", "other"] []
structure G5 (P : Program) (w : World) (K : Frag) (mg : Str → Option Value) (base : Heap) : Prop extends G4 P w K mg base where
  hWord : HM P w K mg base 2 (ca K 0) "has_sign" ["self", "sign"] (spHasWord K)
  eWord : EQ P w K mg base (ca K 0) (spEqWord K)
  hNumber : HM P w K mg base 2 (ca K 1) "has_sign" ["self", "sign"] (spHasNumber K)
  eNumber : EQ P w K mg base (ca K 1) (spEqNumber K)
  hFixed : HM P w K mg base 2 (ca K 2) "has_sign" ["self", "sign"] (spHasFixed K)
  eFixed : EQ P w K mg base (ca K 2) (spEqFixed K)
  hListed : HM P w K mg base 2 (ca K 3) "has_sign" ["self", "sign"] (spHasListed K)
  eListed : EQ P w K mg base (ca K 3) (spEqListed K)
  hEnded : HM P w K mg base 2 (ca K 4) "has_sign" ["self", "sign"] (spHasEnded K)
  eEnded : EQ P w K mg base (ca K 4) (spEqEnded K)
theorem G5.has (G : G5 P w K mg base) {H : Hp} {y : Addr} : ∀ {d : PD}, FieldAt K H y d → d.In → d.due = none → ∃ sp, HM P w K mg base 2 (ca K d.ci) "has_sign" ["self", "sign"] sp ∧
    ∀ c Q E, (∀ H', Same H H' → Q (.bl (d.has ⟨#[c]⟩)) H') → sp [.ref y, .str ⟨#[c]⟩] H Q E
  | .word s l m, h, i, u => ⟨_, G.hWord, fun c Q E q => ⟨y, c, s, l, m, rfl, h, i, u, q⟩⟩
  | .number l m, h, i, u => ⟨_, G.hNumber, fun c Q E q => ⟨y, c, l, m, rfl, h, i, u, q⟩⟩
  | .fixed v, h, i, u => ⟨_, G.hFixed, fun c Q E q => ⟨y, c, v, rfl, h, i, u, q⟩⟩
  | .listed x, h, i, u => ⟨_, G.hListed, fun c Q E q => ⟨y, c, x, rfl, h, i, u, q⟩⟩
  | .ended s e l m, h, i, u => ⟨_, G.hEnded, fun c Q E q => ⟨y, c, s, e, l, m, rfl, h, i, u, q⟩⟩
theorem G5.eqs (G : G5 P w K mg base) {H : Hp} {y : Addr} : ∀ {d : PD}, FieldAt K H y d → d.In → d.due = none → ∃ sp, EQ P w K mg base (ca K d.ci) sp ∧
    ∀ u Q E, ((∃ b, u = .ref b ∧ FieldAt K H b d ∧ Q (.bl true) H) ∨ (∃ b xs, u = .ref b ∧ H b = some (.tup xs) ∧ Q (.bl false) H)) → sp [.ref y, u] H Q E
  | .word s l m, h, i, u => ⟨_, G.eWord, fun v Q E q => ⟨y, v, s, l, m, rfl, h, i, u, q⟩⟩
  | .number l m, h, i, u => ⟨_, G.eNumber, fun v Q E q => ⟨y, v, l, m, rfl, h, i, u, q⟩⟩
  | .fixed z, h, i, u => ⟨_, G.eFixed, fun v Q E q => ⟨y, v, z, rfl, h, i, u, q⟩⟩
  | .listed x, h, i, u => ⟨_, G.eListed, fun v Q E q => ⟨y, v, x, rfl, h, i, u, q⟩⟩
  | .ended s e l m, h, i, u => ⟨_, G.eEnded, fun v Q E q => ⟨y, v, s, e, l, m, rfl, h, i, u, q⟩⟩
theorem held_has : ∀ d : PD, d.In → d.due = none → ∀ c ∈ signs1, inB c d.held = d.has c
  | .word s l m, ⟨hs, hl, hm⟩, h, c, hc => mk_word s hs l hl m hm h c hc
  | .number l m, ⟨hl, hm⟩, h, c, hc => mk_number l hl m hm h c hc
  | .fixed _, _, _, c, _ => rfl
  | .listed x, hx, h, c, hc => mk_listed x hx h c hc
  | .ended s e l m, ⟨hs, he, hl, hm⟩, h, c, hc => mk_ended s hs e he l hl m hm h c hc
theorem mQ_one : ∀ v ∈ mQ, isSignB v = true → v = .str ⟨#[(strV v).cps.getD 0 0]⟩ ∧ (⟨#[(strV v).cps.getD 0 0]⟩ : Str) ∈ signs1 := by decide +kernel
theorem mQ_vM {v : V} (h : v ∈ mQ) : v ∈ vM := List.mem_append_right _ (List.mem_append_right _ (List.mem_append_left _ h))
/-- what is handed in as the field of a marked one -/
def IVAt (K : Frag) (H : Hp) (fv : V) : OD → Prop
  | .val u => fv = u ∧ (u = .non ∨ u = .str "word")
  | .pl d => ∃ y, fv = .ref y ∧ FieldAt K H y d ∧ d.In ∧ d.due = none
  | .mk .. => ∃ y dx fs, fv = .ref y ∧ H y = some (.ins (ca K 5) dx fs)
theorem kit5 (G : G4 P w K mg base) : ∀ i, i < 6 → kitAny K (.ref (ca K i)) [.ref (ca K 0), .ref (ca K 1), .ref (ca K 2), .ref (ca K 3), .ref (ca K 4)] = some (decide (i < 5))
  | 0, h => by
    have k := fun j (hj : j < 6) => G.kit 0 j h hj
    exact kitAny_cons (b := true) (k 0 (by decide)) (fun z => nomatch z) (fun _ => rfl)
  | 1, h => by
    have k := fun j (hj : j < 6) => G.kit 1 j h hj
    exact kitAny_cons (b := false) (k 0 (by decide)) (fun _ => kitAny_cons (b := true) (k 1 (by decide)) (fun z => nomatch z) (fun _ => rfl)) (fun z => nomatch z)
  | 2, h => by
    have k := fun j (hj : j < 6) => G.kit 2 j h hj
    exact kitAny_cons (b := false) (k 0 (by decide)) (fun _ => kitAny_cons (b := false) (k 1 (by decide)) (fun _ => kitAny_cons (b := true) (k 2 (by decide)) (fun z => nomatch z) (fun _ => rfl)) (fun z => nomatch z)) (fun z => nomatch z)
  | 3, h => by
    have k := fun j (hj : j < 6) => G.kit 3 j h hj
    exact kitAny_cons (b := false) (k 0 (by decide)) (fun _ => kitAny_cons (b := false) (k 1 (by decide)) (fun _ => kitAny_cons (b := false) (k 2 (by decide)) (fun _ => kitAny_cons (b := true) (k 3 (by decide)) (fun z => nomatch z) (fun _ => rfl)) (fun z => nomatch z)) (fun z => nomatch z)) (fun z => nomatch z)
  | 4, h => by
    have k := fun j (hj : j < 6) => G.kit 4 j h hj
    exact kitAny_cons (b := false) (k 0 (by decide)) (fun _ => kitAny_cons (b := false) (k 1 (by decide)) (fun _ => kitAny_cons (b := false) (k 2 (by decide)) (fun _ => kitAny_cons (b := false) (k 3 (by decide)) (fun _ => kitAny_cons (b := true) (k 4 (by decide)) (fun z => nomatch z) (fun _ => rfl)) (fun z => nomatch z)) (fun z => nomatch z)) (fun z => nomatch z)) (fun z => nomatch z)
  | 5, h => by
    have k := fun j (hj : j < 6) => G.kit 5 j h hj
    exact kitAny_cons (b := false) (k 0 (by decide)) (fun _ => kitAny_cons (b := false) (k 1 (by decide)) (fun _ => kitAny_cons (b := false) (k 2 (by decide)) (fun _ => kitAny_cons (b := false) (k 3 (by decide)) (fun _ => kitAny_cons (b := false) (k 4 (by decide)) (fun _ => kitAny_nil) (fun z => nomatch z)) (fun z => nomatch z)) (fun z => nomatch z)) (fun z => nomatch z)) (fun z => nomatch z)
  | n + 6, h => absurd h (by omega)
theorem kit5N (G : G4 P w K mg base) : kitAny K (.type "NoneType") [.ref (ca K 0), .ref (ca K 1), .ref (ca K 2), .ref (ca K 3), .ref (ca K 4)] = some false := by
  have k := G.kitN
  exact kitAny_cons (b := false) (k 0 (by decide)) (fun _ => kitAny_cons (b := false) (k 1 (by decide)) (fun _ => kitAny_cons (b := false) (k 2 (by decide)) (fun _ => kitAny_cons (b := false) (k 3 (by decide)) (fun _ => kitAny_cons (b := false) (k 4 (by decide)) (fun _ => kitAny_nil) (fun z => nomatch z)) (fun z => nomatch z)) (fun z => nomatch z)) (fun z => nomatch z)) (fun z => nomatch z)
theorem kit5S (G : G4 P w K mg base) : kitAny K (.type "str") [.ref (ca K 0), .ref (ca K 1), .ref (ca K 2), .ref (ca K 3), .ref (ca K 4)] = some false := by
  have k := G.kitS
  exact kitAny_cons (b := false) (k 0 (by decide)) (fun _ => kitAny_cons (b := false) (k 1 (by decide)) (fun _ => kitAny_cons (b := false) (k 2 (by decide)) (fun _ => kitAny_cons (b := false) (k 3 (by decide)) (fun _ => kitAny_cons (b := false) (k 4 (by decide)) (fun _ => kitAny_nil) (fun z => nomatch z)) (fun z => nomatch z)) (fun z => nomatch z)) (fun z => nomatch z)) (fun z => nomatch z)
def spMarked (K : Frag) : Sp := fun vs H Q E => ∃ (a dx : Addr) (n m fv : V) (i : OD), vs = [.ref a, n, m, fv] ∧ H a = some (.ins (ca K 5) dx []) ∧ n ∈ mQ ∧ m ∈ mQ ∧ IVAt K H fv i ∧
  (OD.due (.mk n m i) = none → ∀ H2, Same H H2 → Q .non (upd H2 a (.ins (ca K 5) dx (fMarked n m fv)))) ∧ ∀ z, OD.due (.mk n m i) = some z → RaiseE (BF K) "what" (.str z) H E

abbrev s_Marked_init : Stmt := inClass (top 38) 0
theorem sc_Marked_init : FnScope ["self", "none", "mark", "field"] ["self", "none", "mark", "field"] (defScope s_Marked_init) := ⟨rfl, rfl, rfl, by decide +kernel, rfl, by decide +kernel, by decide +kernel⟩

theorem ok_Marked_init (F : FunD K "__init__" "Marked.__init__" (defArgs s_Marked_init) (defBody s_Marked_init) (defScope s_Marked_init) [] [] f fd) (G : G5 P w K mg base) : FnOk P w K mg base (L2.CX P w) 4 f fd ["self", "none", "mark", "field"] (spMarked K) := by
  refine F.ok (CX := (L2.CX P w)) sc_Marked_init (fun vs H Q E h => ?_) (fun cdv A outer s H vs Q E hr h => ?_)
  · obtain ⟨a, dx, n, m, fv, i, rfl, _⟩ := h
    rfl
  · have hr3 : Room 3 _ := hr
    have hr2 : Room 2 _ := hr.mono (by decide)
    refine ⟨_, (pss_cons (ps_if (pt_not (pt_val (pe_fn G.is_sign (hr2.mono (by decide)) pass0 (by rfl) (pa_cons (pv 1) pa_nil))))
      (pss_one (ps_raise rfl (takes_of rfl rfl rfl rfl) (pmk_1 G.bf hr2 (by rfl) (pa_cons pe_str pa_nil))))
      pss_nil)
    (pss_cons (ps_if (PW.pt (pw_or (pt_not (pt_val (pe_fn G.is_sign (hr2.mono (by decide)) pass0 (by rfl) (pa_cons (pv 2) pa_nil)))) (pw_or1 (pt_cmpR op_eq (pv 2) (pv 1) (nomark _)))))
      (pss_one (ps_raise rfl (takes_of rfl rfl rfl rfl) (pmk_1 G.bf hr2 (by rfl) (pa_cons pe_str pa_nil))))
      pss_nil)
    (pss_cons (ps_if (pt_not (pt_val (pe_callB call_ieT (by rfl) G.isinstance (by decide +kernel) (pa_cons (pv 3) (pa_cons (pe_tupS (pa_cons (pe_gref (by rfl) G.cWord.mgC) (pa_cons (pe_gref (by rfl) G.cNumber.mgC) (pa_cons (pe_gref (by rfl) G.cFixed.mgC) (pa_cons (pe_gref (by rfl) G.cListed.mgC) (pa_cons (pe_gref (by rfl) G.cEnded.mgC) pa_nil)))))) pa_nil)))))
      (pss_one (ps_raise rfl (takes_of rfl rfl rfl rfl) (pmk_1 G.bf hr2 (by rfl) (pa_cons pe_str pa_nil))))
      pss_nil)
    (pss_cons (ps_if (PW.pt (pw_or (pt_val (pe_methD (CX := CX0) (pv 3) pass0 (pa_cons (pv 1) pa_nil))) (pw_or1 (pt_val (pe_methD (CX := CX0) (pv 3) pass0 (pa_cons (pv 2) pa_nil))))))
      (pss_one (ps_raise rfl (takes_of rfl rfl rfl rfl) (pmk_1 G.bf hr2 (by rfl) (pa_cons pe_str pa_nil))))
      pss_nil)
    (pss_cons (ps_fld (pv 0) (pv 1) rfl)
    (pss_cons (ps_fld (pv 0) (pv 2) rfl)
    (pss_one (ps_fld (pv 0) (pv 3) rfl)))))))), ?_⟩
    obtain ⟨a, dx, n, m, fv, i, rfl, ha, hn, hm, hI, q1, q2⟩ := h
    refine ⟨_, rfl, n, rfl, mQ_vM hn, _, rfl, ?_⟩
    show if (!isSignB n) = true then _ else _
    refine ite2 (fun h1 => mkO_1 (q2 _ (by show (if (!isSignB n) = true then _ else _) = _; rw [if_pos h1]))) (fun h1 => ?_)
    have e1 : OD.due (.mk n m i) = if (!isSignB m || decide (m = n)) = true then (some "mark" : Option Str) else iDue n m i := by show (if (!isSignB n) = true then _ else _) = _; rw [if_neg h1]
    rw [e1] at q1 q2
    have h1' : isSignB n = true := by cases z : isSignB n with | true => rfl | false => exact absurd (by rw [z]; rfl) h1
    obtain ⟨en, cn⟩ := mQ_one n hn h1'
    refine ⟨_, rfl, m, rfl, mQ_vM hm, _, rfl, ?_⟩
    show if (!isSignB m) = true then _ else _
    refine ite2 (fun h2 => mkO_1 (q2 _ (by rw [h2]; rfl))) (fun h2 => ?_)
    have h2' : isSignB m = true := by cases z : isSignB m with | true => rfl | false => exact absurd (by rw [z]; rfl) h2
    obtain ⟨em, cm⟩ := mQ_one m hm h2'
    refine ⟨_, rfl, _, rfl, (by rw [en, em]; rfl), _, rfl, ?_⟩
    refine ite2 (fun h3 => mkO_1 (q2 _ (by rw [h3, Bool.or_true]; rfl))) (fun h3 => ?_)
    rw [h2', Bool.eq_false_iff.mpr h3] at q1 q2
    replace q1 : iDue n m i = none → ∀ H2, Same H H2 → Q .non (upd H2 a (.ins (ca K 5) dx (fMarked n m fv))) := q1
    replace q2 : ∀ z, iDue n m i = some z → RaiseE (BF K) "what" (.str z) H E := q2
    clear e1
    cases i with
    | val u =>
      obtain ⟨rfl, rfl | rfl⟩ := hI
      · refine ⟨_, rfl, by show 5 ≤ 1000; decide, fun p0 H0 hp0 S0 e0 => ⟨_, p0, _, _, _, false, rfl, e0, .cons (.own _) (.cons (.own _) (.cons (.own _) (.cons (.own _) (.cons (.own _) Paired.nil)))), .x (.base .non), (kit5N G.toG4), _, rfl, iteT (mkO_1 (raise_mono S0 (q2 _ rfl)))⟩⟩
      · refine ⟨_, rfl, by show 5 ≤ 1000; decide, fun p0 H0 hp0 S0 e0 => ⟨_, p0, _, _, _, false, rfl, e0, .cons (.own _) (.cons (.own _) (.cons (.own _) (.cons (.own _) (.cons (.own _) Paired.nil)))), .x (.base (.str _)), (kit5S G.toG4), _, rfl, iteT (mkO_1 (raise_mono S0 (q2 _ rfl)))⟩⟩
    | mk n2 m2 i2 =>
      obtain ⟨y, dy, fs, rfl, hy⟩ := hI
      refine ⟨_, rfl, by show 5 ≤ 1000; decide, fun p0 H0 hp0 S0 e0 => ⟨_, p0, _, _, _, false, rfl, e0, .cons (.own _) (.cons (.own _) (.cons (.own _) (.cons (.own _) (.cons (.own _) Paired.nil)))), G.ty (i := 5) (by decide) (S0 _ _ hy), (kit5 G.toG4 5 (by decide)), _, rfl, iteT (mkO_1 (raise_mono S0 (q2 _ rfl)))⟩⟩
    | pl d =>
      obtain ⟨y, rfl, hy, hin, hd⟩ := hI
      have eD : iDue n m (.pl d) = if (d.has ⟨#[(strV n).cps.getD 0 0]⟩ || d.has ⟨#[(strV m).cps.getD 0 0]⟩) = true then (some "field" : Option Str) else none := by
        rw [← held_has d hin hd _ cn, ← held_has d hin hd _ cm]
        rfl
      rw [eD] at q1 q2
      obtain ⟨dy, fs, hi, lf⟩ := hy.ins
      refine ⟨_, rfl, by show 5 ≤ 1000; decide, fun p0 H0 hp0 S0 e0 => ⟨_, p0, _, _, _, true, rfl, e0, .cons (.own _) (.cons (.own _) (.cons (.own _) (.cons (.own _) (.cons (.own _) Paired.nil)))), G.ty (Nat.lt_of_lt_of_le d.ci_lt (by decide)) (S0 _ _ hi), ((kit5 G.toG4 d.ci (Nat.lt_of_lt_of_le d.ci_lt (by decide))).trans (congrArg some (decide_eq_true d.ci_lt))), _, rfl, iteF ?_⟩⟩
      obtain ⟨sp, M, Hs⟩ := G.has (hy.same S0) hin hd
      obtain ⟨fdh, Fh, Bh⟩ := M.ok
      refine ⟨_, rfl, y, _, dy, _, fs, 2, fdh, _, sp, rfl, S0 _ _ hi, lf, G.cl _ (Nat.lt_of_lt_of_le d.ci_lt (by decide)), M.me, Fh, hr2, Bh, _, rfl, ?_⟩
      show sp [.ref y, n] H0 _ _
      rw [en]
      refine Hs _ _ _ fun H1 S1 => ⟨_, rfl, ?_⟩
      have S1' := S0.trans S1
      refine ite2 (fun h4 => mkO_1 (raise_mono S1' (q2 _ (by rw [h4]; rfl)))) (fun h4 => ?_)
      obtain ⟨sp2, M2, Hs2⟩ := G.has (hy.same S1') hin hd
      obtain ⟨fdh2, Fh2, Bh2⟩ := M2.ok
      refine ⟨_, rfl, y, _, dy, _, fs, 2, fdh2, _, sp2, rfl, S1' _ _ hi, lf, G.cl _ (Nat.lt_of_lt_of_le d.ci_lt (by decide)), M2.me, Fh2, hr2, Bh2, _, rfl, ?_⟩
      show sp2 [.ref y, m] H1 _ _
      rw [em]
      refine Hs2 _ _ _ fun H2 S2 => ⟨_, rfl, ?_⟩
      have S2' := S1'.trans S2
      refine ite2 (fun h5 => mkO_1 (raise_mono S2' (q2 _ (by rw [h5, Bool.or_true]; rfl)))) (fun h5 => ?_)
      have z := q1 (by rw [Bool.eq_false_iff.mpr h4, Bool.eq_false_iff.mpr h5]; rfl) H2 S2'
      rw [← en, ← em]
      have ha := S2' _ _ ha
      refine ⟨_, rfl, _, rfl, a, _, dx, _, rfl, ha, G.cMarked.cl, G.cMarked.no _ (by decide +kernel), (by show 0 < 1000; decide), _, rfl, _, rfl, a, _, dx, _, rfl, upd_same, G.cMarked.cl, G.cMarked.no _ (by decide +kernel), (by show 1 < 1000; decide), _, rfl, _, rfl, a, _, dx, _, rfl, upd_same, G.cMarked.cl, G.cMarked.no _ (by decide +kernel), (by show 2 < 1000; decide), ?_⟩
      show Q .non _
      rw [upd_upd, upd_upd]
      exact z

/-- a marked field -/
def MkAt (K : Frag) (H : Hp) (a : Addr) (n m : V) (d : PD) : Prop := ∃ dx y, H a = some (.ins (ca K 5) dx (fMarked n m (.ref y))) ∧ FieldAt K H y d
def spEqMarked (K : Frag) : Sp := fun vs H Q _ => ∃ (a : Addr) (u n m : V) (d : PD), vs = [.ref a, u] ∧ MkAt K H a n m d ∧ d.In ∧ d.due = none ∧ scal n n = true ∧ scal m m = true ∧
  ((∃ b, u = .ref b ∧ MkAt K H b n m d ∧ Q (.bl true) H) ∨ (∃ b xs, u = .ref b ∧ H b = some (.tup xs) ∧ Q (.bl false) H))

abbrev s_Marked_eq : Stmt := inClass (top 38) 1
theorem sc_Marked_eq : FnScope ["self", "other"] ["self", "other"] (defScope s_Marked_eq) := ⟨rfl, rfl, rfl, by decide +kernel, rfl, by decide +kernel, by decide +kernel⟩

theorem ok_Marked_eq (F : FunD K "__eq__" "Marked.__eq__" (defArgs s_Marked_eq) (defBody s_Marked_eq) (defScope s_Marked_eq) [] [] f fd) (G : G5 P w K mg base) : FnOk P w K mg base CX0 2 f fd ["self", "other"] (spEqMarked K) := by
  refine F.ok (CX := CX0) sc_Marked_eq (fun vs H Q E h => ?_) (fun cdv A outer s H vs Q E hr h => ?_)
  · obtain ⟨a, u, n, m, d, rfl, _⟩ := h
    rfl
  · refine ⟨_, PSs.nox (pss_one (ps_ret (pe_and (pe_cmpR op_isA (pe_callTy call_tyA (by rfl) G.type (by decide +kernel) (pa_cons (pv 0) pa_nil)) (pe_callTy call_tyA (by rfl) G.type (by decide +kernel) (pa_cons (pv 1) pa_nil)) (nomark _)) (pe_and (pe_cmpR op_eq (pe_fld (pv 0) rfl) (pe_fld (pv 1) rfl) (nomark _)) (pe_and (pe_cmpR op_eq (pe_fld (pv 0) rfl) (pe_fld (pv 1) rfl) (nomark _)) (pe_one (pe_cmpR (op_eqO (CX := CX0) pass0) (pe_fld (pv 0) rfl) (pe_fld (pv 1) rfl) (nomark _)))))))), ?_⟩
    obtain ⟨a, u, n, m, d, rfl, ⟨dx, y, ha, hy⟩, hin, hd, k0, k1, h⟩ := h
    rcases h with ⟨b, rfl, ⟨dy, y2, hb, hy2⟩, q⟩ | ⟨b, xs, rfl, hb, q⟩
    · refine ⟨_, rfl, _, rfl, .inl ⟨a, _, dx, _, rfl, ha, _, rfl, _, rfl, .inl ⟨b, _, dy, _, rfl, hb, _, rfl, .inl ⟨_, rfl, .inl rfl, _, rfl, ?_⟩⟩⟩⟩
      refine ite2 (fun _ => ?_) (fun h => absurd (decide_eq_true rfl) h)
      refine ⟨_, rfl, a, _, dx, _, _, rfl, ha, G.cMarked.cl, G.cMarked.no _ (by decide +kernel), lMarked_none, _, rfl, b, _, dy, _, _, rfl, hb, G.cMarked.cl, G.cMarked.no _ (by decide +kernel), lMarked_none, k0, _, rfl, ?_⟩
      refine ite2 (fun _ => ?_) (fun h => absurd (decide_eq_true rfl) h)
      refine ⟨_, rfl, a, _, dx, _, _, rfl, ha, G.cMarked.cl, G.cMarked.no _ (by decide +kernel), lMarked_mark, _, rfl, b, _, dy, _, _, rfl, hb, G.cMarked.cl, G.cMarked.no _ (by decide +kernel), lMarked_mark, k1, _, rfl, ?_⟩
      refine ite2 (fun _ => ?_) (fun h => absurd (decide_eq_true rfl) h)
      obtain ⟨ey, fs, hi, _⟩ := hy.ins
      obtain ⟨ey2, fs2, hi2, _⟩ := hy2.ins
      have h6 := Nat.lt_of_lt_of_le d.ci_lt (by decide : 5 ≤ 6)
      obtain ⟨sp, M, Hs⟩ := G.eqs hy hin hd
      obtain ⟨fde, Fe, Be⟩ := M.ok
      refine ⟨_, rfl, a, _, dx, _, _, rfl, ha, G.cMarked.cl, G.cMarked.no _ (by decide +kernel), lMarked_field, _, rfl, b, _, dy, _, _, rfl, hb, G.cMarked.cl, G.cMarked.no _ (by decide +kernel), lMarked_field, y, ca K d.ci, ey, fs, .ref (ca K d.ci), rfl, hi, (G.kc _ h6).eq, G.ty h6 hi2, ?_, 1, fde, _, sp, (G.kc _ h6).ke, Fe, hr, Be, Hs _ _ _ (.inl ⟨y2, rfl, hy2, true, rfl, q⟩)⟩
      unfold notFirst
      rw [beq_self_eq_true]
      rfl
    · exact ⟨_, rfl, _, rfl, .inl ⟨a, _, dx, _, rfl, ha, _, rfl, _, rfl, .inr ⟨_, .tup hb, _, rfl, .inr ⟨_, rfl, _, rfl, iteF q⟩⟩⟩⟩


end
end L2.K08

set_option Elab.async false
set_option linter.all false
set_option maxRecDepth 100000
set_option maxHeartbeats 4000000
/-! The methods of the field classes. -/
namespace L2.K08
open PySem PySem.W PySem.Spec PySem.Calls PyProof.Rows L2.Jk
def withinB (l m : V) (n : Int) : Bool := decide (intV l ≤ n) && (decide (m = .non) || decide (n ≤ intV m))
def wordB (s l m : V) : V → Bool
  | .str z => madeB z (strV s) && withinB l m z.length
  | _ => false
def numeralB (t : Str) : Bool := if (decide (V.str t = .str "") || !madeB t DG) = true then false else decide (V.str t = .str "0") || !decide (V.str ⟨#[t.cps.getD 0 0]⟩ = .str "0")
def numTx (t : Str) : Str := ("0" : Str) ++ cutS t none (some ((t.length : Int) % 64))
def numOf (t : Str) : Int := (PySem.intText? (numTx t)).getD 0
def numOk (t : Str) : Bool := (PySem.intText? (numTx t)).isSome && (decide (t.length < 64) && (decide ((numTx t).length ≤ 640) && decide (("0" : Str).length + (cutS t none (some ((t.length : Int) % 64))).length ≤ 640)))
def great (w : V) : Int := numOf (repS "9" (intV w))
def greatOk (w : V) : Bool := numOk (repS "9" (intV w)) && repOk "9" (intV w)
theorem wM_great : ∀ w ∈ wM, greatOk w = true ∧ w = .int (intV w) ∧ PadOk (intV w) = true ∧ 0 ≤ intV w ∧ intV w < 100 := by decide +kernel
theorem rg64 : ∀ k ∈ List.range 64, Builtin.Range.small (k : Nat) (k : Nat) 64 = true ∧ Builtin.Range.rangeSize (k : Nat) (k : Nat) 64 = 0 := by decide +kernel
def spWithin (K : Frag) : Sp := fun vs H Q _ => ∃ (a C dx : Addr) (fs : List (Str × V)) (l m : V) (n : Int), vs = [.ref a, .int n] ∧ H a = some (.ins C dx fs) ∧ Cls K C ∧ NoAttr K C "least" ∧ NoAttr K C "most" ∧ fs.lookup ("least" : Str) = some l ∧ fs.lookup ("most" : Str) = some m ∧
  l = .int (intV l) ∧ (m = .non ∨ m = .int (intV m)) ∧ Q (.bl (withinB l m n)) H
def spWordOf (K : Frag) : Sp := fun vs H Q _ => ∃ (a C dx : Addr) (fs : List (Str × V)) (s l m v : V), vs = [.ref a, v] ∧ H a = some (.ins C dx fs) ∧ Cls K C ∧ NoAttr K C "signs" ∧ NoAttr K C "least" ∧ NoAttr K C "most" ∧ fs.lookup ("signs" : Str) = some s ∧ fs.lookup ("least" : Str) = some l ∧ fs.lookup ("most" : Str) = some m ∧
  s = .str (strV s) ∧ l = .int (intV l) ∧ (m = .non ∨ m = .int (intV m)) ∧ flatV v = true ∧ lenV v ≤ 900 ∧ Q (.bl (wordB s l m v)) H
def spNumeral : Sp := fun vs H Q _ => ∃ t : Str, vs = [.str t] ∧ t.length ≤ 900 ∧ Q (.bl (numeralB t)) H
def spNumOf : Sp := fun vs H Q _ => ∃ t : Str, vs = [.str t] ∧ numOk t = true ∧ Q (.int (numOf t)) H
def spGreat : Sp := fun vs H Q _ => ∃ w : V, vs = [w] ∧ w ∈ wM ∧ Q (.int (great w)) H
section
variable {P : Program} {w : World} {K : Frag} {mg : Str → Option Value} {base : Heap} {f : Addr} {fd : FuncData}

abbrev s_is_within : Stmt := top 30
theorem sc_is_within : FnScope ["field", "amount"] ["field", "amount"] (defScope s_is_within) := ⟨rfl, rfl, rfl, by decide +kernel, rfl, by decide +kernel, by decide +kernel⟩

theorem ok_is_within (F : FunD K "is_within" "is_within" (defArgs s_is_within) (defBody s_is_within) (defScope s_is_within) [] [] f fd) (G : G0 P w K mg base) : FnOk P w K mg base CX0 1 f fd ["field", "amount"] (spWithin K) := by
  refine F.ok (CX := CX0) sc_is_within (fun vs H Q E h => ?_) (fun cdv A outer s H vs Q E hr h => ?_)
  · obtain ⟨a, C, dx, fs, l, m, n, rfl, _⟩ := h
    rfl
  · refine ⟨_, PSs.nox (pss_one (ps_ret (pe_and (pe_cmpR op_le (pe_fld (pv 0) rfl) (pv 1) (nomark _)) (pe_one (pe_or (pe_cmpR op_isN (pe_fld (pv 0) rfl) pe_non (nomark _)) (pe_one (pe_cmpR op_le (pv 1) (pe_fld (pv 0) rfl) (nomark _)))))))), ?_⟩
    obtain ⟨a, C, dx, fs, l, m, n, rfl, ha, hC, n1, n2, l1, l2, el, em, q⟩ := h
    refine ⟨_, rfl, a, C, dx, fs, _, rfl, ha, hC, n1, l1, _, rfl, intV l, n, el, rfl, _, rfl, ?_⟩
    refine ite2 (fun h1 => ?_) (fun h1 => ?_)
    · refine ⟨_, rfl, a, C, dx, fs, _, rfl, ha, hC, n2, l2, rfl, _, rfl, ?_⟩
      have e1 : withinB l m n = (decide (m = .non) || decide (n ≤ intV m)) := by unfold withinB; rw [h1]; rfl
      rw [e1] at q
      refine ite2 (fun h2 => ?_) (fun h2 => ?_)
      · rw [h2] at q
        exact q
      · rcases em with em | em
        · exact absurd (decide_eq_true em) h2
        refine ⟨_, rfl, _, rfl, a, C, dx, fs, _, rfl, ha, hC, n2, l2, n, intV m, rfl, em, ?_⟩
        rw [Bool.eq_false_iff.mpr h2] at q
        exact q
    · have e1 : withinB l m n = false := by unfold withinB; rw [Bool.eq_false_iff.mpr h1]; rfl
      rw [e1] at q
      exact q

abbrev s_is_numeral : Stmt := top 23
theorem sc_is_numeral : FnScope ["text"] ["text"] (defScope s_is_numeral) := ⟨rfl, rfl, rfl, by decide +kernel, rfl, by decide +kernel, by decide +kernel⟩

theorem ok_is_numeral (F : FunD K "is_numeral" "is_numeral" (defArgs s_is_numeral) (defBody s_is_numeral) (defScope s_is_numeral) [] [] f fd) (G : G1 P w K mg base) : FnOk P w K mg base CX0 2 f fd ["text"] spNumeral := by
  refine F.ok (CX := CX0) sc_is_numeral (fun vs H Q E h => ?_) (fun cdv A outer s H vs Q E hr h => ?_)
  · obtain ⟨t, rfl, _⟩ := h
    rfl
  · refine ⟨_, PSs.nox (pss_cons (ps_if (PW.pt (pw_or (pt_cmpR op_eq (pv 0) pe_str (nomark _)) (pw_or1 (pt_not (pt_val (pe_fn G.is_made_of hr pass0 (by rfl) (pa_cons (pv 0) (pa_cons (pe_sg G.dgs) pa_nil))))))))
      (pss_one (ps_ret pe_bl))
      pss_nil)
    (pss_one (ps_ret (pe_or (pe_cmpR op_eq (pv 0) pe_str (nomark _)) (pe_one (pe_cmpR op_ne (pe_ix ix_str (pv 0) pe_int (fun _ _ => rfl)) pe_str (nomark _))))))), ?_⟩
    obtain ⟨t, rfl, hz, q⟩ := h
    refine ⟨_, rfl, rfl, _, rfl, ?_⟩
    have no : (decide (V.str t = .str "") || !madeB t DG) = true → Q (.bl false) H := fun e => by
      have r : numeralB t = false := by unfold numeralB; rw [if_pos e]
      rw [r] at q
      exact q
    refine ite2 (fun h1 => iteT (no (by rw [h1]; rfl))) (fun h1 => ?_)
    refine ⟨_, rfl, t, DG, rfl, Nat.le_trans hz (by decide), _, rfl, ?_⟩
    show if (!madeB t DG) = true then _ else _
    refine ite2 (fun h2 => no (by rw [h2, Bool.or_true])) (fun h2 => ?_)
    have r : numeralB t = (decide (V.str t = .str "0") || !decide (V.str ⟨#[t.cps.getD 0 0]⟩ = .str "0")) := by
      unfold numeralB
      rw [if_neg (by rw [Bool.eq_false_iff.mpr h1, Bool.eq_false_iff.mpr h2]; exact Bool.false_ne_true)]
    rw [r] at q
    refine ⟨_, rfl, rfl, _, rfl, ?_⟩
    refine ite2 (fun h3 => ?_) (fun h3 => ?_)
    · rw [h3] at q
      exact q
    · rw [Bool.eq_false_iff.mpr h3] at q
      have hp : 0 < t.cps.toList.length := by
        cases e : t.cps.toList with
        | nil => exact absurd (decide_eq_true (by
            have e2 : t.cps = #[] := by rw [← Array.toArray_toList (xs := t.cps), e]
            show V.str t = V.str ⟨#[]⟩
            exact congrArg V.str (by cases t; exact congrArg Str.mk e2))) h1
        | cons x xs => exact Nat.zero_lt_succ _
      refine ⟨_, rfl, t, 0, t.cps.getD 0 0, rfl, rfl, small_line t (Nat.le_trans hz (by decide)), atI_nat (j := 0) ?_, rfl, ?_⟩
      · cases e : t.cps.toList with
        | nil => rw [e] at hp; exact absurd hp (Nat.lt_irrefl _)
        | cons x xs =>
          show some x = some (t.cps.getD 0 0)
          have e2 : t.cps = (x :: xs).toArray := by rw [← Array.toArray_toList (xs := t.cps), e]
          rw [e2]
          rfl
      · exact q

abbrev s_number_of : Stmt := top 25
theorem sc_number_of : FnScope ["digits", "limit", "start", "number", "at"] ["digits"] (defScope s_number_of) := ⟨rfl, rfl, rfl, by decide +kernel, rfl, by decide +kernel, by decide +kernel⟩

theorem ok_number_of (F : FunD K "number_of" "number_of" (defArgs s_number_of) (defBody s_number_of) (defScope s_number_of) [] [] f fd) (G : G0 P w K mg base) : FnOk P w K mg base CX0 1 f fd ["digits"] spNumOf := by
  refine F.ok (CX := CX0) sc_number_of (fun vs H Q E h => ?_) (fun cdv A outer s H vs Q E hr h => ?_)
  · obtain ⟨t, rfl, _⟩ := h
    rfl
  · refine ⟨_, PSs.nox (pss_cons (ps_set (i := 1) sc_number_of.nd rfl (Or.inl rfl) (pe_op op_pow pe_int pe_int))
    (pss_cons (ps_set (i := 2) sc_number_of.nd rfl (Or.inl rfl) (pe_op op_mod (pe_callB call_len_str (by rfl) G.len (by decide +kernel) (pa_cons (pv 0) pa_nil)) pe_int))
    (pss_cons (ps_set (i := 3) sc_number_of.nd rfl (Or.inl rfl) (pe_callTy call_int_str (by rfl) G.int (by decide +kernel) (pa_cons (pe_op op_add_str pe_str (pe_slice sl_str (pv 0) po_none (po_some (pv 2)))) pa_nil)))
    (pss_cons (ps_for PassesOwn.never rfl (pi_range3 (by rfl) G.range (pa_cons (pv 2) (pa_cons (pe_callB call_len_str (by rfl) G.len (by decide +kernel) (pa_cons (pv 0) pa_nil)) (pa_cons pe_int pa_nil)))) (pg_name (i := 4) sc_number_of.nd rfl (Or.inl rfl)) pss_never)
    (pss_one (ps_ret (pv 3))))))), ?_⟩
    obtain ⟨t, rfl, ok, q⟩ := h
    obtain ⟨o1, ok⟩ := Bool.and_eq_true_iff.mp ok
    obtain ⟨o2, ok⟩ := Bool.and_eq_true_iff.mp ok
    obtain ⟨o3, o4⟩ := Bool.and_eq_true_iff.mp ok
    replace o4 := of_decide_eq_true o4
    replace o2 := of_decide_eq_true o2
    replace o3 := of_decide_eq_true o3
    obtain ⟨n, en⟩ := Option.isSome_iff_exists.mp o1
    have zl := small_line t (Nat.le_trans (Nat.le_of_lt o2) (by decide))
    refine ⟨_, _, rfl, rfl, ⟨by decide, by decide, by decide⟩, _, rfl, t, rfl, zl, _, _, rfl, rfl, (by show (0 : Int) < 64; decide), ?_⟩
    refine ⟨_, rfl, _, rfl, _, rfl, t, rfl, zl, ?_⟩
    refine ⟨_, _, rfl, rfl, Nat.le_trans o4 (by rw [sizeLine_eq]; decide), numTx t, n, rfl, en, o3, ?_⟩
    have en2 : numOf t = n := by unfold numOf; rw [en]; rfl
    rw [en2] at q
    have em : (t.length : Int) % 64 = (t.length : Int) := Int.emod_eq_of_lt (by omega) (by omega)
    refine ⟨_, rfl, _, rfl, t, rfl, zl, _, _, 64, 0, rfl, ?_, ?_⟩
    · rw [em]
      obtain ⟨g1, g2⟩ := rg64 t.length (List.mem_range.mpr o2)
      exact ⟨by decide, by decide, g1, g2⟩
    · refine for_rangeC (n := 0) (fun _ σ H' => σ = [some (.str t), some (.int (10 ^ (64 : Int).toNat)), some (.int ((t.length : Int) % 64)), some (.int n), none] ∧ H' = H) ⟨rfl, rfl⟩ (fun i σ H' hi => absurd hi (Nat.not_lt_zero _)) ?_
      rintro σ H' ⟨rfl, rfl⟩
      exact ⟨_, rfl, q⟩

structure P1 (P : Program) (w : World) (K : Frag) (mg : Str → Option Value) (base : Heap) : Prop extends G5 P w K mg base where
  is_within : FnAt P w K mg base CX0 1 "is_within" ["field", "amount"] (spWithin K)
  is_numeral : FnAt P w K mg base CX0 2 "is_numeral" ["text"] spNumeral
  number_of : FnAt P w K mg base CX0 1 "number_of" ["digits"] spNumOf

abbrev s_greatest_of : Stmt := top 26
theorem sc_greatest_of : FnScope ["width"] ["width"] (defScope s_greatest_of) := ⟨rfl, rfl, rfl, by decide +kernel, rfl, by decide +kernel, by decide +kernel⟩

theorem ok_greatest_of (F : FunD K "greatest_of" "greatest_of" (defArgs s_greatest_of) (defBody s_greatest_of) (defScope s_greatest_of) [] [] f fd) (G : P1 P w K mg base) : FnOk P w K mg base CX0 2 f fd ["width"] spGreat := by
  refine F.ok (CX := CX0) sc_greatest_of (fun vs H Q E h => ?_) (fun cdv A outer s H vs Q E hr h => ?_)
  · obtain ⟨v, rfl, _⟩ := h
    rfl
  · refine ⟨_, PSs.nox (pss_one (ps_ret (pe_fn G.number_of hr pass0 (by rfl) (pa_cons (pe_op op_mulStr pe_str (pv 0)) pa_nil)))), ?_⟩
    obtain ⟨v, rfl, hv, q⟩ := h
    obtain ⟨g, ev, _, _, _⟩ := wM_great v hv
    obtain ⟨g1, g2⟩ := Bool.and_eq_true_iff.mp g
    exact ⟨_, rfl, "9", intV v, rfl, ev, g2, _, rfl, g1, q⟩

abbrev s_is_word_of : Stmt := top 31
theorem sc_is_word_of : FnScope ["field", "thing"] ["field", "thing"] (defScope s_is_word_of) := ⟨rfl, rfl, rfl, by decide +kernel, rfl, by decide +kernel, by decide +kernel⟩

theorem ok_is_word_of (F : FunD K "is_word_of" "is_word_of" (defArgs s_is_word_of) (defBody s_is_word_of) (defScope s_is_word_of) [] [] f fd) (G : P1 P w K mg base) : FnOk P w K mg base CX0 2 f fd ["field", "thing"] (spWordOf K) := by
  refine F.ok (CX := CX0) sc_is_word_of (fun vs H Q E h => ?_) (fun cdv A outer s H vs Q E hr h => ?_)
  · obtain ⟨a, C, dx, fs, s, l, m, v, rfl, _⟩ := h
    rfl
  · refine ⟨_, PSs.nox (pss_one (ps_ret (pe_and (pe_callB call_ie (by rfl) G.isinstance (by decide +kernel) (pa_cons (pv 1) (pa_cons (pe_bty (n := "str") (by rfl) G.str (by decide +kernel)) pa_nil))) (pe_and (pe_fn G.is_made_of hr pass0 (by rfl) (pa_cons (pv 1) (pa_cons (pe_fld (pv 0) rfl) pa_nil))) (pe_one (pe_fn G.is_within hr pass0 (by rfl) (pa_cons (pv 0) (pa_cons (pe_callB call_len_str (by rfl) G.len (by decide +kernel) (pa_cons (pv 1) pa_nil)) pa_nil)))))))), ?_⟩
    obtain ⟨a, C, dx, fs, s, l, m, v, rfl, ha, hC, n1, n2, n3, l1, l2, l3, es, el, em, hf, hz, q⟩ := h
    refine ⟨_, rfl, _, _, _, _, _, rfl, .ty _, flat_ty hf, kit_ty (kit_str hf), _, rfl, ?_⟩
    cases v with
    | str z =>
      have hz' : z.length ≤ 900 := hz
      refine iteT ⟨_, rfl, _, rfl, a, C, dx, fs, _, rfl, ha, hC, n1, l1, z, strV s, by rw [← es]; rfl, Nat.le_trans hz' (by decide), _, rfl, ?_⟩
      have r : wordB s l m (.str z) = (madeB z (strV s) && withinB l m z.length) := rfl
      rw [r] at q
      refine ite2 (fun h1 => ?_) (fun h1 => ?_)
      · rw [h1] at q
        exact ⟨_, rfl, _, rfl, z, rfl, small_line z (Nat.le_trans hz' (by decide)), a, C, dx, fs, l, m, _, rfl, ha, hC, n2, n3, l2, l3, el, em, q⟩
      · rw [Bool.eq_false_iff.mpr h1] at q
        exact q
    | non => exact iteF q
    | bl b => exact iteF q
    | int i => exact iteF q
    | _ => cases hf

structure P2 (P : Program) (w : World) (K : Frag) (mg : Str → Option Value) (base : Heap) : Prop extends P1 P w K mg base where
  greatest_of : FnAt P w K mg base CX0 2 "greatest_of" ["width"] spGreat
  is_word_of : FnAt P w K mg base CX0 2 "is_word_of" ["field", "thing"] (spWordOf K)
theorem word_all : ∀ s ∈ sM, ∀ l ∈ nM, ∀ m ∈ nM, oDue s l m = none → s = .str (strV s) ∧ l = .int (intV l) ∧ (m = .non ∨ m = .int (intV m)) := by decide +kernel
theorem end_all : ∀ s ∈ sM, ∀ e ∈ eM, ∀ l ∈ nM, ∀ m ∈ nM, eDue s e l m = none → s = .str (strV s) ∧ e = .str (strV e) ∧ l = .int (intV l) ∧ (m = .non ∨ m = .int (intV m)) ∧ (strV e).length ≤ 10 := by decide +kernel
def init1 (t : Str) : Str := cutS t none (some (-1))
def last1 (t : Str) : Str := cutS t (some (-1)) none
/-- what the methods answer -/
def PD.hasV (v : V) : PD → Bool
  | .word s l m => wordB s l m v
  | .number l m => numB v && withinB l m (intV v)
  | .fixed w => numB v && (decide (0 ≤ intV v) && decide (intV v ≤ great w))
  | .listed x => (match v with | .str _ => inV v x.els | _ => false)
  | .ended s _ l m => wordB s l m v
def PD.hasT (t : Str) : PD → Bool
  | .word s l m => wordB s l m (.str t)
  | .number l m => numeralB t && withinB l m (numOf t)
  | .fixed w => decide (V.int t.length = w) && madeB t DG
  | .listed x => inV (.str t) x.els
  | .ended s e l m => decide (V.str (last1 t) = e) && wordB s l m (.str (init1 t))
def PD.textF (v : V) : PD → Str
  | .word .. => strV v
  | .number .. => dg (intV v)
  | .fixed w => Txt.zfill (dg (intV v)) (intV w)
  | .listed _ => strV v
  | .ended _ e _ _ => strV v ++ strV e
def PD.valF (t : Str) : PD → V
  | .word .. => .str t
  | .number .. => .int (numOf t)
  | .fixed _ => .int (numOf t)
  | .listed _ => .str t
  | .ended .. => .str (init1 t)
/-- of the texts of numbers: a number the model can read -/
def PD.nOk (t : Str) : PD → Bool
  | .number .. => numOk t
  | .fixed _ => numOk t
  | _ => true
/-- a text that may be asked for -/
def txOk (t : Str) : Bool := decide (t.length ≤ 900) && (decide ((init1 t).length ≤ 900) && (!numeralB t || numOk t))
/-- a value that may be written -/
def vaOk : V → Bool
  | .int i => decide (0 ≤ i) && decide (i < 32)
  | .str z => decide (z.length ≤ 900)
  | _ => true

def spHVWord (K : Frag) : Sp := fun vs H Q _ => ∃ (a : Addr) (v : V) (s l m : V), vs = [.ref a, v] ∧ FieldAt K H a (.word s l m) ∧ PD.In (.word s l m) ∧ PD.due (.word s l m) = none ∧ flatV v = true ∧ lenV v ≤ 900 ∧ Q (.bl (PD.hasV v (.word s l m))) H
def spTFWord (K : Frag) : Sp := fun vs H Q _ => ∃ (a : Addr) (v : V) (s l m : V), vs = [.ref a, v] ∧ FieldAt K H a (.word s l m) ∧ PD.In (.word s l m) ∧ PD.due (.word s l m) = none ∧ vaOk v = true ∧ PD.hasV v (.word s l m) = true ∧ ∀ H', Same H H' → Q (.str (PD.textF v (.word s l m))) H'
def spHTWord (K : Frag) : Sp := fun vs H Q _ => ∃ (a : Addr) (t : Str) (s l m : V), vs = [.ref a, .str t] ∧ FieldAt K H a (.word s l m) ∧ PD.In (.word s l m) ∧ PD.due (.word s l m) = none ∧ txOk t = true ∧ Q (.bl (PD.hasT t (.word s l m))) H
def spVFWord (K : Frag) : Sp := fun vs H Q _ => ∃ (a : Addr) (t : Str) (s l m : V), vs = [.ref a, .str t] ∧ FieldAt K H a (.word s l m) ∧ PD.In (.word s l m) ∧ PD.due (.word s l m) = none ∧ txOk t = true ∧ PD.hasT t (.word s l m) = true ∧ PD.nOk t (.word s l m) = true ∧ Q (PD.valF t (.word s l m)) H
def spHVNumber (K : Frag) : Sp := fun vs H Q _ => ∃ (a : Addr) (v : V) (l m : V), vs = [.ref a, v] ∧ FieldAt K H a (.number l m) ∧ PD.In (.number l m) ∧ PD.due (.number l m) = none ∧ flatV v = true ∧ lenV v ≤ 900 ∧ Q (.bl (PD.hasV v (.number l m))) H
def spTFNumber (K : Frag) : Sp := fun vs H Q _ => ∃ (a : Addr) (v : V) (l m : V), vs = [.ref a, v] ∧ FieldAt K H a (.number l m) ∧ PD.In (.number l m) ∧ PD.due (.number l m) = none ∧ vaOk v = true ∧ PD.hasV v (.number l m) = true ∧ ∀ H', Same H H' → Q (.str (PD.textF v (.number l m))) H'
def spHTNumber (K : Frag) : Sp := fun vs H Q _ => ∃ (a : Addr) (t : Str) (l m : V), vs = [.ref a, .str t] ∧ FieldAt K H a (.number l m) ∧ PD.In (.number l m) ∧ PD.due (.number l m) = none ∧ txOk t = true ∧ Q (.bl (PD.hasT t (.number l m))) H
def spVFNumber (K : Frag) : Sp := fun vs H Q _ => ∃ (a : Addr) (t : Str) (l m : V), vs = [.ref a, .str t] ∧ FieldAt K H a (.number l m) ∧ PD.In (.number l m) ∧ PD.due (.number l m) = none ∧ txOk t = true ∧ PD.hasT t (.number l m) = true ∧ PD.nOk t (.number l m) = true ∧ Q (PD.valF t (.number l m)) H
def spHVFixed (K : Frag) : Sp := fun vs H Q _ => ∃ (a : Addr) (v : V) (z : V), vs = [.ref a, v] ∧ FieldAt K H a (.fixed z) ∧ PD.In (.fixed z) ∧ PD.due (.fixed z) = none ∧ flatV v = true ∧ lenV v ≤ 900 ∧ Q (.bl (PD.hasV v (.fixed z))) H
def spTFFixed (K : Frag) : Sp := fun vs H Q _ => ∃ (a : Addr) (v : V) (z : V), vs = [.ref a, v] ∧ FieldAt K H a (.fixed z) ∧ PD.In (.fixed z) ∧ PD.due (.fixed z) = none ∧ vaOk v = true ∧ PD.hasV v (.fixed z) = true ∧ ∀ H', Same H H' → Q (.str (PD.textF v (.fixed z))) H'
def spHTFixed (K : Frag) : Sp := fun vs H Q _ => ∃ (a : Addr) (t : Str) (z : V), vs = [.ref a, .str t] ∧ FieldAt K H a (.fixed z) ∧ PD.In (.fixed z) ∧ PD.due (.fixed z) = none ∧ txOk t = true ∧ Q (.bl (PD.hasT t (.fixed z))) H
def spVFFixed (K : Frag) : Sp := fun vs H Q _ => ∃ (a : Addr) (t : Str) (z : V), vs = [.ref a, .str t] ∧ FieldAt K H a (.fixed z) ∧ PD.In (.fixed z) ∧ PD.due (.fixed z) = none ∧ txOk t = true ∧ PD.hasT t (.fixed z) = true ∧ PD.nOk t (.fixed z) = true ∧ Q (PD.valF t (.fixed z)) H
def spHVListed (K : Frag) : Sp := fun vs H Q _ => ∃ (a : Addr) (v : V) (x : LX), vs = [.ref a, v] ∧ FieldAt K H a (.listed x) ∧ PD.In (.listed x) ∧ PD.due (.listed x) = none ∧ flatV v = true ∧ lenV v ≤ 900 ∧ Q (.bl (PD.hasV v (.listed x))) H
def spTFListed (K : Frag) : Sp := fun vs H Q _ => ∃ (a : Addr) (v : V) (x : LX), vs = [.ref a, v] ∧ FieldAt K H a (.listed x) ∧ PD.In (.listed x) ∧ PD.due (.listed x) = none ∧ vaOk v = true ∧ PD.hasV v (.listed x) = true ∧ ∀ H', Same H H' → Q (.str (PD.textF v (.listed x))) H'
def spHTListed (K : Frag) : Sp := fun vs H Q _ => ∃ (a : Addr) (t : Str) (x : LX), vs = [.ref a, .str t] ∧ FieldAt K H a (.listed x) ∧ PD.In (.listed x) ∧ PD.due (.listed x) = none ∧ txOk t = true ∧ Q (.bl (PD.hasT t (.listed x))) H
def spVFListed (K : Frag) : Sp := fun vs H Q _ => ∃ (a : Addr) (t : Str) (x : LX), vs = [.ref a, .str t] ∧ FieldAt K H a (.listed x) ∧ PD.In (.listed x) ∧ PD.due (.listed x) = none ∧ txOk t = true ∧ PD.hasT t (.listed x) = true ∧ PD.nOk t (.listed x) = true ∧ Q (PD.valF t (.listed x)) H
def spHVEnded (K : Frag) : Sp := fun vs H Q _ => ∃ (a : Addr) (v : V) (s e l m : V), vs = [.ref a, v] ∧ FieldAt K H a (.ended s e l m) ∧ PD.In (.ended s e l m) ∧ PD.due (.ended s e l m) = none ∧ flatV v = true ∧ lenV v ≤ 900 ∧ Q (.bl (PD.hasV v (.ended s e l m))) H
def spTFEnded (K : Frag) : Sp := fun vs H Q _ => ∃ (a : Addr) (v : V) (s e l m : V), vs = [.ref a, v] ∧ FieldAt K H a (.ended s e l m) ∧ PD.In (.ended s e l m) ∧ PD.due (.ended s e l m) = none ∧ vaOk v = true ∧ PD.hasV v (.ended s e l m) = true ∧ ∀ H', Same H H' → Q (.str (PD.textF v (.ended s e l m))) H'
def spHTEnded (K : Frag) : Sp := fun vs H Q _ => ∃ (a : Addr) (t : Str) (s e l m : V), vs = [.ref a, .str t] ∧ FieldAt K H a (.ended s e l m) ∧ PD.In (.ended s e l m) ∧ PD.due (.ended s e l m) = none ∧ txOk t = true ∧ Q (.bl (PD.hasT t (.ended s e l m))) H
def spVFEnded (K : Frag) : Sp := fun vs H Q _ => ∃ (a : Addr) (t : Str) (s e l m : V), vs = [.ref a, .str t] ∧ FieldAt K H a (.ended s e l m) ∧ PD.In (.ended s e l m) ∧ PD.due (.ended s e l m) = none ∧ txOk t = true ∧ PD.hasT t (.ended s e l m) = true ∧ PD.nOk t (.ended s e l m) = true ∧ Q (PD.valF t (.ended s e l m)) H
abbrev s_Word_has_value : Stmt := inClass (top 33) 2
theorem sc_Word_has_value : FnScope ["self", "thing"] ["self", "thing"] (defScope s_Word_has_value) := ⟨rfl, rfl, rfl, by decide +kernel, rfl, by decide +kernel, by decide +kernel⟩

theorem ok_Word_has_value (F : FunD K "has_value" "Word.has_value" (defArgs s_Word_has_value) (defBody s_Word_has_value) (defScope s_Word_has_value) [] [] f fd) (G : P2 P w K mg base) : FnOk P w K mg base CX0 3 f fd ["self", "thing"] (spHVWord K) := by
  refine F.ok (CX := CX0) sc_Word_has_value (fun vs H Q E h => ?_) (fun cdv A outer s H vs Q E hr h => ?_)
  · obtain ⟨a, v, s, l, m, rfl, _⟩ := h
    rfl
  · refine ⟨_, PSs.nox (pss_one (ps_ret (pe_fn G.is_word_of hr pass0 (by rfl) (pa_cons (pv 0) (pa_cons (pv 1) pa_nil))))), ?_⟩
    obtain ⟨a, v, s, l, m, rfl, hF, hin, hd, hf, hz, q⟩ := h
    obtain ⟨dx, ha⟩ := hF
    obtain ⟨hs, hl, hm⟩ := hin
    obtain ⟨es, el, em⟩ := word_all s hs l hl m hm hd
    exact ⟨_, rfl, _, rfl, a, _, dx, _, s, l, m, _, rfl, ha, G.cWord.cl, G.cWord.no _ (by decide +kernel), G.cWord.no _ (by decide +kernel), G.cWord.no _ (by decide +kernel), lWord_signs, lWord_least, lWord_most, es, el, em, hf, hz, q⟩

abbrev s_Ended_has_value : Stmt := inClass (top 37) 2
theorem sc_Ended_has_value : FnScope ["self", "thing"] ["self", "thing"] (defScope s_Ended_has_value) := ⟨rfl, rfl, rfl, by decide +kernel, rfl, by decide +kernel, by decide +kernel⟩

theorem ok_Ended_has_value (F : FunD K "has_value" "Ended.has_value" (defArgs s_Ended_has_value) (defBody s_Ended_has_value) (defScope s_Ended_has_value) [] [] f fd) (G : P2 P w K mg base) : FnOk P w K mg base CX0 3 f fd ["self", "thing"] (spHVEnded K) := by
  refine F.ok (CX := CX0) sc_Ended_has_value (fun vs H Q E h => ?_) (fun cdv A outer s H vs Q E hr h => ?_)
  · obtain ⟨a, v, s, e, l, m, rfl, _⟩ := h
    rfl
  · refine ⟨_, PSs.nox (pss_one (ps_ret (pe_fn G.is_word_of hr pass0 (by rfl) (pa_cons (pv 0) (pa_cons (pv 1) pa_nil))))), ?_⟩
    obtain ⟨a, v, s, e, l, m, rfl, hF, hin, hd, hf, hz, q⟩ := h
    obtain ⟨dx, ha⟩ := hF
    obtain ⟨hs, he, hl, hm⟩ := hin
    obtain ⟨es, ee, el, em, hel⟩ := end_all s hs e he l hl m hm hd
    exact ⟨_, rfl, _, rfl, a, _, dx, _, s, l, m, _, rfl, ha, G.cEnded.cl, G.cEnded.no _ (by decide +kernel), G.cEnded.no _ (by decide +kernel), G.cEnded.no _ (by decide +kernel), lEnded_signs, lEnded_least, lEnded_most, es, el, em, hf, hz, q⟩

abbrev s_Word_has_text : Stmt := inClass (top 33) 4
theorem sc_Word_has_text : FnScope ["self", "text"] ["self", "text"] (defScope s_Word_has_text) := ⟨rfl, rfl, rfl, by decide +kernel, rfl, by decide +kernel, by decide +kernel⟩

theorem ok_Word_has_text (F : FunD K "has_text" "Word.has_text" (defArgs s_Word_has_text) (defBody s_Word_has_text) (defScope s_Word_has_text) [] [] f fd) (G : P2 P w K mg base) : FnOk P w K mg base CX0 3 f fd ["self", "text"] (spHTWord K) := by
  refine F.ok (CX := CX0) sc_Word_has_text (fun vs H Q E h => ?_) (fun cdv A outer s H vs Q E hr h => ?_)
  · obtain ⟨a, t, s, l, m, rfl, _⟩ := h
    rfl
  · refine ⟨_, PSs.nox (pss_one (ps_ret (pe_fn G.is_word_of hr pass0 (by rfl) (pa_cons (pv 0) (pa_cons (pv 1) pa_nil))))), ?_⟩
    obtain ⟨a, t, s, l, m, rfl, hF, hin, hd, ht, q⟩ := h
    obtain ⟨t1, tx⟩ := Bool.and_eq_true_iff.mp ht
    obtain ⟨t2, t3⟩ := Bool.and_eq_true_iff.mp tx
    replace t1 := of_decide_eq_true t1
    replace t2 := of_decide_eq_true t2
    obtain ⟨dx, ha⟩ := hF
    obtain ⟨hs, hl, hm⟩ := hin
    obtain ⟨es, el, em⟩ := word_all s hs l hl m hm hd
    exact ⟨_, rfl, _, rfl, a, _, dx, _, s, l, m, _, rfl, ha, G.cWord.cl, G.cWord.no _ (by decide +kernel), G.cWord.no _ (by decide +kernel), G.cWord.no _ (by decide +kernel), lWord_signs, lWord_least, lWord_most, es, el, em, rfl, t1, q⟩

abbrev s_Word_text_for : Stmt := inClass (top 33) 3
theorem sc_Word_text_for : FnScope ["self", "value"] ["self", "value"] (defScope s_Word_text_for) := ⟨rfl, rfl, rfl, by decide +kernel, rfl, by decide +kernel, by decide +kernel⟩

theorem ok_Word_text_for (F : FunD K "text_for" "Word.text_for" (defArgs s_Word_text_for) (defBody s_Word_text_for) (defScope s_Word_text_for) [] [] f fd) (G : P2 P w K mg base) : FnOk P w K mg base CX0 1 f fd ["self", "value"] (spTFWord K) := by
  refine F.ok (CX := CX0) sc_Word_text_for (fun vs H Q E h => ?_) (fun cdv A outer s H vs Q E hr h => ?_)
  · obtain ⟨a, v, s, l, m, rfl, _⟩ := h
    rfl
  · refine ⟨_, PSs.nox (pss_one (ps_ret (pv 1))), ?_⟩
    obtain ⟨a, v, s, l, m, rfl, hF, hin, hd, hv, hh, q⟩ := h
    have q0 := q _ (Same.refl _)
    cases v with
    | str z => exact ⟨_, rfl, q0⟩
    | _ => cases hh

abbrev s_Word_value_for : Stmt := inClass (top 33) 5
theorem sc_Word_value_for : FnScope ["self", "text"] ["self", "text"] (defScope s_Word_value_for) := ⟨rfl, rfl, rfl, by decide +kernel, rfl, by decide +kernel, by decide +kernel⟩

theorem ok_Word_value_for (F : FunD K "value_for" "Word.value_for" (defArgs s_Word_value_for) (defBody s_Word_value_for) (defScope s_Word_value_for) [] [] f fd) (G : P2 P w K mg base) : FnOk P w K mg base CX0 1 f fd ["self", "text"] (spVFWord K) := by
  refine F.ok (CX := CX0) sc_Word_value_for (fun vs H Q E h => ?_) (fun cdv A outer s H vs Q E hr h => ?_)
  · obtain ⟨a, t, s, l, m, rfl, _⟩ := h
    rfl
  · refine ⟨_, PSs.nox (pss_one (ps_ret (pv 1))), ?_⟩
    obtain ⟨a, t, s, l, m, rfl, hF, hin, hd, ht, hh, _, q⟩ := h
    exact ⟨_, rfl, q⟩

abbrev s_Listed_value_for : Stmt := inClass (top 36) 5
theorem sc_Listed_value_for : FnScope ["self", "text"] ["self", "text"] (defScope s_Listed_value_for) := ⟨rfl, rfl, rfl, by decide +kernel, rfl, by decide +kernel, by decide +kernel⟩

theorem ok_Listed_value_for (F : FunD K "value_for" "Listed.value_for" (defArgs s_Listed_value_for) (defBody s_Listed_value_for) (defScope s_Listed_value_for) [] [] f fd) (G : P2 P w K mg base) : FnOk P w K mg base CX0 1 f fd ["self", "text"] (spVFListed K) := by
  refine F.ok (CX := CX0) sc_Listed_value_for (fun vs H Q E h => ?_) (fun cdv A outer s H vs Q E hr h => ?_)
  · obtain ⟨a, t, x, rfl, _⟩ := h
    rfl
  · refine ⟨_, PSs.nox (pss_one (ps_ret (pv 1))), ?_⟩
    obtain ⟨a, t, x, rfl, hF, hin, hd, ht, hh, _, q⟩ := h
    exact ⟨_, rfl, q⟩

abbrev s_Listed_text_for : Stmt := inClass (top 36) 3
theorem sc_Listed_text_for : FnScope ["self", "value"] ["self", "value"] (defScope s_Listed_text_for) := ⟨rfl, rfl, rfl, by decide +kernel, rfl, by decide +kernel, by decide +kernel⟩

theorem ok_Listed_text_for (F : FunD K "text_for" "Listed.text_for" (defArgs s_Listed_text_for) (defBody s_Listed_text_for) (defScope s_Listed_text_for) [] [] f fd) (G : P2 P w K mg base) : FnOk P w K mg base CX0 1 f fd ["self", "value"] (spTFListed K) := by
  refine F.ok (CX := CX0) sc_Listed_text_for (fun vs H Q E h => ?_) (fun cdv A outer s H vs Q E hr h => ?_)
  · obtain ⟨a, v, x, rfl, _⟩ := h
    rfl
  · refine ⟨_, PSs.nox (pss_one (ps_ret (pv 1))), ?_⟩
    obtain ⟨a, v, x, rfl, hF, hin, hd, hv, hh, q⟩ := h
    have q0 := q _ (Same.refl _)
    cases v with
    | str z => exact ⟨_, rfl, q0⟩
    | _ => cases hh

abbrev s_Listed_has_value : Stmt := inClass (top 36) 2
theorem sc_Listed_has_value : FnScope ["self", "thing"] ["self", "thing"] (defScope s_Listed_has_value) := ⟨rfl, rfl, rfl, by decide +kernel, rfl, by decide +kernel, by decide +kernel⟩

theorem ok_Listed_has_value (F : FunD K "has_value" "Listed.has_value" (defArgs s_Listed_has_value) (defBody s_Listed_has_value) (defScope s_Listed_has_value) [] [] f fd) (G : P2 P w K mg base) : FnOk P w K mg base CX0 1 f fd ["self", "thing"] (spHVListed K) := by
  refine F.ok (CX := CX0) sc_Listed_has_value (fun vs H Q E h => ?_) (fun cdv A outer s H vs Q E hr h => ?_)
  · obtain ⟨a, v, x, rfl, _⟩ := h
    rfl
  · refine ⟨_, PSs.nox (pss_one (ps_ret (pe_and (pe_callB call_ie (by rfl) G.isinstance (by decide +kernel) (pa_cons (pv 1) (pa_cons (pe_bty (n := "str") (by rfl) G.str (by decide +kernel)) pa_nil))) (pe_one (pe_cmpR op_in_seq (pv 1) (pe_fld (pv 0) rfl) (by rfl)))))), ?_⟩
    obtain ⟨a, v, x, rfl, hF, hin, hd, hf, hz, q⟩ := h
    obtain ⟨dx, tx, ha, htx⟩ := hF
    obtain ⟨hfl, _⟩ := lM_shaped x hin hd
    refine ⟨_, rfl, _, _, _, _, _, rfl, .ty _, flat_ty hf, kit_ty (kit_str hf), _, rfl, ?_⟩
    cases v with
    | str z => exact iteT ⟨_, rfl, _, rfl, a, _, dx, _, _, rfl, ha, G.cListed.cl, G.cListed.no _ (by decide +kernel), lListed_texts, tx, x.els, rfl, .inr (htx.sq), rfl, hfl, q⟩
    | non => exact iteF q
    | bl b => exact iteF q
    | int i => exact iteF q
    | _ => cases hf

abbrev s_Listed_has_text : Stmt := inClass (top 36) 4
theorem sc_Listed_has_text : FnScope ["self", "text"] ["self", "text"] (defScope s_Listed_has_text) := ⟨rfl, rfl, rfl, by decide +kernel, rfl, by decide +kernel, by decide +kernel⟩

theorem ok_Listed_has_text (F : FunD K "has_text" "Listed.has_text" (defArgs s_Listed_has_text) (defBody s_Listed_has_text) (defScope s_Listed_has_text) [] [] f fd) (G : P2 P w K mg base) : FnOk P w K mg base CX0 1 f fd ["self", "text"] (spHTListed K) := by
  refine F.ok (CX := CX0) sc_Listed_has_text (fun vs H Q E h => ?_) (fun cdv A outer s H vs Q E hr h => ?_)
  · obtain ⟨a, t, x, rfl, _⟩ := h
    rfl
  · refine ⟨_, PSs.nox (pss_one (ps_ret (pe_cmpR op_in_seq (pv 1) (pe_fld (pv 0) rfl) (by rfl)))), ?_⟩
    obtain ⟨a, t, x, rfl, hF, hin, hd, ht, q⟩ := h
    obtain ⟨dx, tx, ha, htx⟩ := hF
    obtain ⟨hfl, _⟩ := lM_shaped x hin hd
    exact ⟨_, rfl, _, rfl, a, _, dx, _, _, rfl, ha, G.cListed.cl, G.cListed.no _ (by decide +kernel), lListed_texts, tx, x.els, rfl, .inr (htx.sq), rfl, hfl, q⟩

abbrev s_Ended_text_for : Stmt := inClass (top 37) 3
theorem sc_Ended_text_for : FnScope ["self", "value"] ["self", "value"] (defScope s_Ended_text_for) := ⟨rfl, rfl, rfl, by decide +kernel, rfl, by decide +kernel, by decide +kernel⟩

theorem ok_Ended_text_for (F : FunD K "text_for" "Ended.text_for" (defArgs s_Ended_text_for) (defBody s_Ended_text_for) (defScope s_Ended_text_for) [] [] f fd) (G : P2 P w K mg base) : FnOk P w K mg base CX0 1 f fd ["self", "value"] (spTFEnded K) := by
  refine F.ok (CX := CX0) sc_Ended_text_for (fun vs H Q E h => ?_) (fun cdv A outer s H vs Q E hr h => ?_)
  · obtain ⟨a, v, s, e, l, m, rfl, _⟩ := h
    rfl
  · refine ⟨_, PSs.nox (pss_one (ps_ret (pe_op op_add_str (pv 1) (pe_fld (pv 0) rfl)))), ?_⟩
    obtain ⟨a, v, s, e, l, m, rfl, hF, hin, hd, hv, hh, q⟩ := h
    obtain ⟨dx, ha⟩ := hF
    obtain ⟨hs, he, hl, hm⟩ := hin
    obtain ⟨es, ee, el, em, hel⟩ := end_all s hs e he l hl m hm hd
    have q0 := q _ (Same.refl _)
    cases v with
    | str z =>
      have hz : z.length ≤ 900 := of_decide_eq_true hv
      exact ⟨_, rfl, _, rfl, a, _, dx, _, _, rfl, ha, G.cEnded.cl, G.cEnded.no _ (by decide +kernel), lEnded_sign, z, strV e, rfl, ee, by rw [sizeLine_eq]; omega, q0⟩
    | _ => cases hh

abbrev s_Ended_value_for : Stmt := inClass (top 37) 5
theorem sc_Ended_value_for : FnScope ["self", "text"] ["self", "text"] (defScope s_Ended_value_for) := ⟨rfl, rfl, rfl, by decide +kernel, rfl, by decide +kernel, by decide +kernel⟩

theorem ok_Ended_value_for (F : FunD K "value_for" "Ended.value_for" (defArgs s_Ended_value_for) (defBody s_Ended_value_for) (defScope s_Ended_value_for) [] [] f fd) (G : P2 P w K mg base) : FnOk P w K mg base CX0 1 f fd ["self", "text"] (spVFEnded K) := by
  refine F.ok (CX := CX0) sc_Ended_value_for (fun vs H Q E h => ?_) (fun cdv A outer s H vs Q E hr h => ?_)
  · obtain ⟨a, t, s, e, l, m, rfl, _⟩ := h
    rfl
  · refine ⟨_, PSs.nox (pss_one (ps_ret (pe_slice sl_str (pv 1) po_none (po_some (pe_un un_neg pe_int))))), ?_⟩
    obtain ⟨a, t, s, e, l, m, rfl, hF, hin, hd, ht, hh, _, q⟩ := h
    obtain ⟨t1, tx⟩ := Bool.and_eq_true_iff.mp ht
    obtain ⟨t2, t3⟩ := Bool.and_eq_true_iff.mp tx
    replace t1 := of_decide_eq_true t1
    replace t2 := of_decide_eq_true t2
    exact ⟨_, rfl, _, rfl, -1, rfl, t, rfl, small_line t (Nat.le_trans t1 (by decide)), q⟩

abbrev s_Ended_has_text : Stmt := inClass (top 37) 4
theorem sc_Ended_has_text : FnScope ["self", "text"] ["self", "text"] (defScope s_Ended_has_text) := ⟨rfl, rfl, rfl, by decide +kernel, rfl, by decide +kernel, by decide +kernel⟩

theorem ok_Ended_has_text (F : FunD K "has_text" "Ended.has_text" (defArgs s_Ended_has_text) (defBody s_Ended_has_text) (defScope s_Ended_has_text) [] [] f fd) (G : P2 P w K mg base) : FnOk P w K mg base CX0 3 f fd ["self", "text"] (spHTEnded K) := by
  refine F.ok (CX := CX0) sc_Ended_has_text (fun vs H Q E h => ?_) (fun cdv A outer s H vs Q E hr h => ?_)
  · obtain ⟨a, t, s, e, l, m, rfl, _⟩ := h
    rfl
  · refine ⟨_, PSs.nox (pss_one (ps_ret (pe_and (pe_cmpR op_eq (pe_slice sl_str (pv 1) (po_some (pe_un un_neg pe_int)) po_none) (pe_fld (pv 0) rfl) (nomark _)) (pe_one (pe_fn G.is_word_of hr pass0 (by rfl) (pa_cons (pv 0) (pa_cons (pe_slice sl_str (pv 1) po_none (po_some (pe_un un_neg pe_int))) pa_nil))))))), ?_⟩
    obtain ⟨a, t, s, e, l, m, rfl, hF, hin, hd, ht, q⟩ := h
    obtain ⟨t1, tx⟩ := Bool.and_eq_true_iff.mp ht
    obtain ⟨t2, t3⟩ := Bool.and_eq_true_iff.mp tx
    replace t1 := of_decide_eq_true t1
    replace t2 := of_decide_eq_true t2
    obtain ⟨dx, ha⟩ := hF
    obtain ⟨hs, he, hl, hm⟩ := hin
    obtain ⟨es, ee, el, em, hel⟩ := end_all s hs e he l hl m hm hd
    refine ⟨_, rfl, _, rfl, -1, rfl, t, rfl, small_line t (Nat.le_trans t1 (by decide)), _, rfl, a, _, dx, _, _, rfl, ha, G.cEnded.cl, G.cEnded.no _ (by decide +kernel), lEnded_sign, (by rw [ee]; rfl), _, rfl, ?_⟩
    have r : PD.hasT t (.ended s e l m) = (decide (V.str (last1 t) = e) && wordB s l m (.str (init1 t))) := rfl
    rw [r] at q
    refine ite2 (fun h1 => ?_) (fun h1 => ?_)
    · rw [show decide (V.str (last1 t) = e) = true from h1] at q
      exact ⟨_, rfl, _, rfl, _, rfl, -1, rfl, t, rfl, small_line t (Nat.le_trans t1 (by decide)), a, _, dx, _, s, l, m, _, rfl, ha, G.cEnded.cl, G.cEnded.no _ (by decide +kernel), G.cEnded.no _ (by decide +kernel), G.cEnded.no _ (by decide +kernel), lEnded_signs, lEnded_least, lEnded_most, es, el, em, rfl, t2, q⟩
    · rw [show decide (V.str (last1 t) = e) = false from Bool.eq_false_iff.mpr h1] at q
      exact q

abbrev s_Number_has_value : Stmt := inClass (top 34) 2
theorem sc_Number_has_value : FnScope ["self", "thing"] ["self", "thing"] (defScope s_Number_has_value) := ⟨rfl, rfl, rfl, by decide +kernel, rfl, by decide +kernel, by decide +kernel⟩

theorem ok_Number_has_value (F : FunD K "has_value" "Number.has_value" (defArgs s_Number_has_value) (defBody s_Number_has_value) (defScope s_Number_has_value) [] [] f fd) (G : P2 P w K mg base) : FnOk P w K mg base CX0 2 f fd ["self", "thing"] (spHVNumber K) := by
  refine F.ok (CX := CX0) sc_Number_has_value (fun vs H Q E h => ?_) (fun cdv A outer s H vs Q E hr h => ?_)
  · obtain ⟨a, v, l, m, rfl, _⟩ := h
    rfl
  · refine ⟨_, PSs.nox (pss_one (ps_ret (pe_and (pe_fn G.is_number hr pass0 (by rfl) (pa_cons (pv 1) pa_nil)) (pe_one (pe_fn G.is_within hr pass0 (by rfl) (pa_cons (pv 0) (pa_cons (pv 1) pa_nil))))))), ?_⟩
    obtain ⟨a, v, l, m, rfl, hF, hin, hd, hf, hz, q⟩ := h
    obtain ⟨dx, ha⟩ := hF
    obtain ⟨hl, hm⟩ := hin
    obtain ⟨el, em, _⟩ := num_due l hl m hm hd
    refine ⟨_, rfl, v, rfl, hf, _, rfl, ?_⟩
    cases v with
    | int i => exact iteT ⟨_, rfl, _, rfl, a, _, dx, _, l, m, _, rfl, ha, G.cNumber.cl, G.cNumber.no _ (by decide +kernel), G.cNumber.no _ (by decide +kernel), lNumber_least, lNumber_most, el, em, q⟩
    | non => exact iteF q
    | bl b => exact iteF q
    | str z => exact iteF q
    | _ => cases hf

abbrev s_Number_has_text : Stmt := inClass (top 34) 4
theorem sc_Number_has_text : FnScope ["self", "text"] ["self", "text"] (defScope s_Number_has_text) := ⟨rfl, rfl, rfl, by decide +kernel, rfl, by decide +kernel, by decide +kernel⟩

theorem ok_Number_has_text (F : FunD K "has_text" "Number.has_text" (defArgs s_Number_has_text) (defBody s_Number_has_text) (defScope s_Number_has_text) [] [] f fd) (G : P2 P w K mg base) : FnOk P w K mg base CX0 3 f fd ["self", "text"] (spHTNumber K) := by
  refine F.ok (CX := CX0) sc_Number_has_text (fun vs H Q E h => ?_) (fun cdv A outer s H vs Q E hr h => ?_)
  · obtain ⟨a, t, l, m, rfl, _⟩ := h
    rfl
  · refine ⟨_, PSs.nox (pss_one (ps_ret (pe_and (pe_fn G.is_numeral hr pass0 (by rfl) (pa_cons (pv 1) pa_nil)) (pe_one (pe_fn G.is_within (hr.mono (by decide)) pass0 (by rfl) (pa_cons (pv 0) (pa_cons (pe_fn G.number_of (hr.mono (by decide)) pass0 (by rfl) (pa_cons (pv 1) pa_nil)) pa_nil))))))), ?_⟩
    obtain ⟨a, t, l, m, rfl, hF, hin, hd, ht, q⟩ := h
    obtain ⟨t1, tx⟩ := Bool.and_eq_true_iff.mp ht
    obtain ⟨t2, t3⟩ := Bool.and_eq_true_iff.mp tx
    replace t1 := of_decide_eq_true t1
    replace t2 := of_decide_eq_true t2
    obtain ⟨dx, ha⟩ := hF
    obtain ⟨hl, hm⟩ := hin
    obtain ⟨el, em, _⟩ := num_due l hl m hm hd
    refine ⟨_, rfl, t, rfl, t1, _, rfl, ?_⟩
    have r : PD.hasT t (.number l m) = (numeralB t && withinB l m (numOf t)) := rfl
    rw [r] at q
    refine ite2 (fun h1 => ?_) (fun h1 => ?_)
    · rw [h1] at q t3
      exact ⟨_, rfl, _, rfl, t, rfl, t3, a, _, dx, _, l, m, _, rfl, ha, G.cNumber.cl, G.cNumber.no _ (by decide +kernel), G.cNumber.no _ (by decide +kernel), lNumber_least, lNumber_most, el, em, q⟩
    · rw [Bool.eq_false_iff.mpr h1] at q
      exact q

abbrev s_Number_text_for : Stmt := inClass (top 34) 3
theorem sc_Number_text_for : FnScope ["self", "value"] ["self", "value"] (defScope s_Number_text_for) := ⟨rfl, rfl, rfl, by decide +kernel, rfl, by decide +kernel, by decide +kernel⟩

theorem ok_Number_text_for (F : FunD K "text_for" "Number.text_for" (defArgs s_Number_text_for) (defBody s_Number_text_for) (defScope s_Number_text_for) [] [] f fd) (G : P2 P w K mg base) : FnOk P w K mg base CX0 2 f fd ["self", "value"] (spTFNumber K) := by
  refine F.ok (CX := CX0) sc_Number_text_for (fun vs H Q E h => ?_) (fun cdv A outer s H vs Q E hr h => ?_)
  · obtain ⟨a, v, l, m, rfl, _⟩ := h
    rfl
  · refine ⟨_, PSs.nox (pss_one (ps_ret (pe_fn G.digits_of hr pass0 (by rfl) (pa_cons (pv 1) pa_nil)))), ?_⟩
    obtain ⟨a, v, l, m, rfl, hF, hin, hd, hv, hh, q⟩ := h
    cases v with
    | int i =>
      obtain ⟨v1, v2⟩ := Bool.and_eq_true_iff.mp hv
      exact ⟨_, rfl, i, rfl, of_decide_eq_true v1, of_decide_eq_true v2, fun H' S => q H' S⟩
    | _ => cases hh

abbrev s_Number_value_for : Stmt := inClass (top 34) 5
theorem sc_Number_value_for : FnScope ["self", "text"] ["self", "text"] (defScope s_Number_value_for) := ⟨rfl, rfl, rfl, by decide +kernel, rfl, by decide +kernel, by decide +kernel⟩

theorem ok_Number_value_for (F : FunD K "value_for" "Number.value_for" (defArgs s_Number_value_for) (defBody s_Number_value_for) (defScope s_Number_value_for) [] [] f fd) (G : P2 P w K mg base) : FnOk P w K mg base CX0 2 f fd ["self", "text"] (spVFNumber K) := by
  refine F.ok (CX := CX0) sc_Number_value_for (fun vs H Q E h => ?_) (fun cdv A outer s H vs Q E hr h => ?_)
  · obtain ⟨a, t, l, m, rfl, _⟩ := h
    rfl
  · refine ⟨_, PSs.nox (pss_one (ps_ret (pe_fn G.number_of hr pass0 (by rfl) (pa_cons (pv 1) pa_nil)))), ?_⟩
    obtain ⟨a, t, l, m, rfl, hF, hin, hd, ht, hh, hn, q⟩ := h
    exact ⟨_, rfl, t, rfl, hn, q⟩

abbrev s_Fixed_value_for : Stmt := inClass (top 35) 5
theorem sc_Fixed_value_for : FnScope ["self", "text"] ["self", "text"] (defScope s_Fixed_value_for) := ⟨rfl, rfl, rfl, by decide +kernel, rfl, by decide +kernel, by decide +kernel⟩

theorem ok_Fixed_value_for (F : FunD K "value_for" "Fixed.value_for" (defArgs s_Fixed_value_for) (defBody s_Fixed_value_for) (defScope s_Fixed_value_for) [] [] f fd) (G : P2 P w K mg base) : FnOk P w K mg base CX0 2 f fd ["self", "text"] (spVFFixed K) := by
  refine F.ok (CX := CX0) sc_Fixed_value_for (fun vs H Q E h => ?_) (fun cdv A outer s H vs Q E hr h => ?_)
  · obtain ⟨a, t, z, rfl, _⟩ := h
    rfl
  · refine ⟨_, PSs.nox (pss_one (ps_ret (pe_fn G.number_of hr pass0 (by rfl) (pa_cons (pv 1) pa_nil)))), ?_⟩
    obtain ⟨a, t, z, rfl, hF, hin, hd, ht, hh, hn, q⟩ := h
    exact ⟨_, rfl, t, rfl, hn, q⟩

abbrev s_Fixed_has_value : Stmt := inClass (top 35) 2
theorem sc_Fixed_has_value : FnScope ["self", "thing"] ["self", "thing"] (defScope s_Fixed_has_value) := ⟨rfl, rfl, rfl, by decide +kernel, rfl, by decide +kernel, by decide +kernel⟩

theorem ok_Fixed_has_value (F : FunD K "has_value" "Fixed.has_value" (defArgs s_Fixed_has_value) (defBody s_Fixed_has_value) (defScope s_Fixed_has_value) [] [] f fd) (G : P2 P w K mg base) : FnOk P w K mg base CX0 3 f fd ["self", "thing"] (spHVFixed K) := by
  refine F.ok (CX := CX0) sc_Fixed_has_value (fun vs H Q E h => ?_) (fun cdv A outer s H vs Q E hr h => ?_)
  · obtain ⟨a, v, z, rfl, _⟩ := h
    rfl
  · refine ⟨_, PSs.nox (pss_one (ps_ret (pe_and (pe_fn G.is_number (hr.mono (by decide)) pass0 (by rfl) (pa_cons (pv 1) pa_nil)) (pe_one (pe_chain op_le op_le pe_int (pv 1) (pe_fn G.greatest_of hr pass0 (by rfl) (pa_cons (pe_fld (pv 0) rfl) pa_nil))))))), ?_⟩
    obtain ⟨a, v, z, rfl, hF, hin, hd, hf, hz, q⟩ := h
    obtain ⟨dx, ha⟩ := hF
    obtain ⟨_, ew, pw, w0, w1⟩ := wM_great z hin
    refine ⟨_, rfl, v, rfl, hf, _, rfl, ?_⟩
    cases v with
    | int i =>
      have r : PD.hasV (.int i) (.fixed z) = (decide (0 ≤ i) && decide (i ≤ great z)) := rfl
      rw [r] at q
      refine iteT ⟨_, rfl, _, _, rfl, rfl, _, rfl, ?_⟩
      refine ite2 (fun h1 => ?_) (fun h1 => ?_)
      · rw [h1] at q
        exact ⟨_, rfl, a, _, dx, _, _, rfl, ha, G.cFixed.cl, G.cFixed.no _ (by decide +kernel), lFixed_width, z, rfl, hin, _, _, rfl, rfl, q⟩
      · rw [Bool.eq_false_iff.mpr h1] at q
        exact q
    | non => exact iteF q
    | bl b => exact iteF q
    | str y => exact iteF q
    | _ => cases hf

abbrev s_Fixed_text_for : Stmt := inClass (top 35) 3
theorem sc_Fixed_text_for : FnScope ["self", "value"] ["self", "value"] (defScope s_Fixed_text_for) := ⟨rfl, rfl, rfl, by decide +kernel, rfl, by decide +kernel, by decide +kernel⟩

theorem ok_Fixed_text_for (F : FunD K "text_for" "Fixed.text_for" (defArgs s_Fixed_text_for) (defBody s_Fixed_text_for) (defScope s_Fixed_text_for) [] [] f fd) (G : P2 P w K mg base) : FnOk P w K mg base CX0 2 f fd ["self", "value"] (spTFFixed K) := by
  refine F.ok (CX := CX0) sc_Fixed_text_for (fun vs H Q E h => ?_) (fun cdv A outer s H vs Q E hr h => ?_)
  · obtain ⟨a, v, z, rfl, _⟩ := h
    rfl
  · refine ⟨_, PSs.nox (pss_one (ps_ret (pe_bm PySem.F.plainAttrs_str PySem.F.slot_str_zfill PySem.F.type_str_zfill mt_zfill (pe_fn G.digits_of hr pass0 (by rfl) (pa_cons (pv 1) pa_nil)) (pa_cons (pe_fld (pv 0) rfl) pa_nil)))), ?_⟩
    obtain ⟨a, v, z, rfl, hF, hin, hd, hv, hh, q⟩ := h
    obtain ⟨dx, ha⟩ := hF
    obtain ⟨_, ew, pw, w0, w1⟩ := wM_great z hin
    cases v with
    | int i =>
      obtain ⟨v1, v2⟩ := Bool.and_eq_true_iff.mp hv
      exact ⟨_, rfl, i, rfl, of_decide_eq_true v1, of_decide_eq_true v2, fun H' S => ⟨rfl, _, rfl, a, _, dx, _, _, rfl, S _ _ ha, G.cFixed.cl, G.cFixed.no _ (by decide +kernel), lFixed_width, _, intV z, rfl, by rw [ew]; rfl, pw, q H' S⟩⟩
    | _ => cases hh

abbrev s_Fixed_has_text : Stmt := inClass (top 35) 4
theorem sc_Fixed_has_text : FnScope ["self", "text"] ["self", "text"] (defScope s_Fixed_has_text) := ⟨rfl, rfl, rfl, by decide +kernel, rfl, by decide +kernel, by decide +kernel⟩

theorem ok_Fixed_has_text (F : FunD K "has_text" "Fixed.has_text" (defArgs s_Fixed_has_text) (defBody s_Fixed_has_text) (defScope s_Fixed_has_text) [] [] f fd) (G : P2 P w K mg base) : FnOk P w K mg base CX0 2 f fd ["self", "text"] (spHTFixed K) := by
  refine F.ok (CX := CX0) sc_Fixed_has_text (fun vs H Q E h => ?_) (fun cdv A outer s H vs Q E hr h => ?_)
  · obtain ⟨a, t, z, rfl, _⟩ := h
    rfl
  · refine ⟨_, PSs.nox (pss_one (ps_ret (pe_and (pe_cmpR op_eq (pe_callB call_len_str (by rfl) G.len (by decide +kernel) (pa_cons (pv 1) pa_nil)) (pe_fld (pv 0) rfl) (nomark _)) (pe_one (pe_fn G.is_made_of hr pass0 (by rfl) (pa_cons (pv 1) (pa_cons (pe_sg G.dgs) pa_nil))))))), ?_⟩
    obtain ⟨a, t, z, rfl, hF, hin, hd, ht, q⟩ := h
    obtain ⟨t1, tx⟩ := Bool.and_eq_true_iff.mp ht
    obtain ⟨t2, t3⟩ := Bool.and_eq_true_iff.mp tx
    replace t1 := of_decide_eq_true t1
    replace t2 := of_decide_eq_true t2
    obtain ⟨dx, ha⟩ := hF
    obtain ⟨_, ew, pw, w0, w1⟩ := wM_great z hin
    refine ⟨_, rfl, t, rfl, small_line t (Nat.le_trans t1 (by decide)), _, rfl, a, _, dx, _, _, rfl, ha, G.cFixed.cl, G.cFixed.no _ (by decide +kernel), lFixed_width, (by rw [ew]; rfl), _, rfl, ?_⟩
    have r : PD.hasT t (.fixed z) = (decide (V.int t.length = z) && madeB t DG) := rfl
    rw [r] at q
    refine ite2 (fun h1 => ?_) (fun h1 => ?_)
    · rw [h1] at q
      exact ⟨_, rfl, t, DG, rfl, Nat.le_trans t1 (by decide), q⟩
    · rw [Bool.eq_false_iff.mpr h1] at q
      exact q

def idx (z : Str) : List Str → Nat
  | [] => 0
  | y :: ys => if y = z then 0 else idx z ys + 1
theorem idx_at {z : Str} : ∀ {ys : List Str}, z ∈ ys → ys[idx z ys]? = some z ∧ ∀ m, m < idx z ys → ys[m]? ≠ some z
  | [], h => by cases h
  | y :: ys, h => by
    unfold idx
    by_cases e : y = z
    · rw [if_pos e]
      exact ⟨by rw [e]; rfl, fun m hm => absurd hm (Nat.not_lt_zero _)⟩
    · rw [if_neg e]
      have h2 : z ∈ ys := by
        rcases List.mem_cons.mp h with k | k
        · exact absurd k.symm e
        · exact k
      obtain ⟨i1, i2⟩ := idx_at h2
      refine ⟨i1, fun m hm => ?_⟩
      cases m with
      | zero => exact fun k => e (Option.some.inj k)
      | succ m => exact i2 m (Nat.lt_of_succ_lt_succ hm)
/-- puts_before -/
def PD.bef (v u : V) : PD → Bool
  | .word .. => decide ((strV v).cps.toList < (strV u).cps.toList)
  | .number .. => decide (intV v < intV u)
  | .fixed _ => decide (intV v < intV u)
  | .listed x => decide ((idx (strV v) (x.els.map strV) : Int) < (idx (strV u) (x.els.map strV) : Int))
  | .ended .. => decide ((strV v).cps.toList < (strV u).cps.toList)
theorem in_els {x : LX} (ha : x.els.all areB = true) {z : Str} (h : inV (.str z) x.els = true) : z ∈ x.els.map strV := by
  obtain ⟨y, hy, e⟩ := List.any_eq_true.mp h
  have hy2 := List.all_eq_true.mp ha y hy
  cases y with
  | str t =>
    have e2 : t = z := by simpa [eqV] using e
    exact List.mem_map.mpr ⟨_, hy, e2⟩
  | _ => cases hy2
theorem lst_are : ∀ x ∈ lM, lxDue x = none → x.els.all areB = true := by decide +kernel

def spPBWord (K : Frag) : Sp := fun vs H Q _ => ∃ (a : Addr) (v u : V) (s l m : V), vs = [.ref a, v, u] ∧ FieldAt K H a (.word s l m) ∧ PD.In (.word s l m) ∧ PD.due (.word s l m) = none ∧ PD.hasV v (.word s l m) = true ∧ PD.hasV u (.word s l m) = true ∧ Q (.bl (PD.bef v u (.word s l m))) H
def spPBNumber (K : Frag) : Sp := fun vs H Q _ => ∃ (a : Addr) (v u : V) (l m : V), vs = [.ref a, v, u] ∧ FieldAt K H a (.number l m) ∧ PD.In (.number l m) ∧ PD.due (.number l m) = none ∧ PD.hasV v (.number l m) = true ∧ PD.hasV u (.number l m) = true ∧ Q (.bl (PD.bef v u (.number l m))) H
def spPBFixed (K : Frag) : Sp := fun vs H Q _ => ∃ (a : Addr) (v u : V) (z : V), vs = [.ref a, v, u] ∧ FieldAt K H a (.fixed z) ∧ PD.In (.fixed z) ∧ PD.due (.fixed z) = none ∧ PD.hasV v (.fixed z) = true ∧ PD.hasV u (.fixed z) = true ∧ Q (.bl (PD.bef v u (.fixed z))) H
def spPBListed (K : Frag) : Sp := fun vs H Q _ => ∃ (a : Addr) (v u : V) (x : LX), vs = [.ref a, v, u] ∧ FieldAt K H a (.listed x) ∧ PD.In (.listed x) ∧ PD.due (.listed x) = none ∧ PD.hasV v (.listed x) = true ∧ PD.hasV u (.listed x) = true ∧ Q (.bl (PD.bef v u (.listed x))) H
def spPBEnded (K : Frag) : Sp := fun vs H Q _ => ∃ (a : Addr) (v u : V) (s e l m : V), vs = [.ref a, v, u] ∧ FieldAt K H a (.ended s e l m) ∧ PD.In (.ended s e l m) ∧ PD.due (.ended s e l m) = none ∧ PD.hasV v (.ended s e l m) = true ∧ PD.hasV u (.ended s e l m) = true ∧ Q (.bl (PD.bef v u (.ended s e l m))) H
abbrev s_Word_puts_before : Stmt := inClass (top 33) 6
theorem sc_Word_puts_before : FnScope ["self", "one", "other"] ["self", "one", "other"] (defScope s_Word_puts_before) := ⟨rfl, rfl, rfl, by decide +kernel, rfl, by decide +kernel, by decide +kernel⟩

theorem ok_Word_puts_before (F : FunD K "puts_before" "Word.puts_before" (defArgs s_Word_puts_before) (defBody s_Word_puts_before) (defScope s_Word_puts_before) [] [] f fd) (G : P2 P w K mg base) : FnOk P w K mg base CX0 1 f fd ["self", "one", "other"] (spPBWord K) := by
  refine F.ok (CX := CX0) sc_Word_puts_before (fun vs H Q E h => ?_) (fun cdv A outer s H vs Q E hr h => ?_)
  · obtain ⟨a, v, u, s, l, m, rfl, _⟩ := h
    rfl
  · refine ⟨_, PSs.nox (pss_one (ps_ret (pe_cmpR op_lt_str (pv 1) (pv 2) (nomark _)))), ?_⟩
    obtain ⟨a, v, u, s, l, m, rfl, hF, hin, hd, h1, h2, q⟩ := h
    cases v with
    | str x1 =>
      cases u with
      | str x2 => exact ⟨_, rfl, _, rfl, x1, x2, rfl, rfl, q⟩
      | _ => cases h2
    | _ => cases h1

abbrev s_Ended_puts_before : Stmt := inClass (top 37) 6
theorem sc_Ended_puts_before : FnScope ["self", "one", "other"] ["self", "one", "other"] (defScope s_Ended_puts_before) := ⟨rfl, rfl, rfl, by decide +kernel, rfl, by decide +kernel, by decide +kernel⟩

theorem ok_Ended_puts_before (F : FunD K "puts_before" "Ended.puts_before" (defArgs s_Ended_puts_before) (defBody s_Ended_puts_before) (defScope s_Ended_puts_before) [] [] f fd) (G : P2 P w K mg base) : FnOk P w K mg base CX0 1 f fd ["self", "one", "other"] (spPBEnded K) := by
  refine F.ok (CX := CX0) sc_Ended_puts_before (fun vs H Q E h => ?_) (fun cdv A outer s H vs Q E hr h => ?_)
  · obtain ⟨a, v, u, s, e, l, m, rfl, _⟩ := h
    rfl
  · refine ⟨_, PSs.nox (pss_one (ps_ret (pe_cmpR op_lt_str (pv 1) (pv 2) (nomark _)))), ?_⟩
    obtain ⟨a, v, u, s, e, l, m, rfl, hF, hin, hd, h1, h2, q⟩ := h
    cases v with
    | str x1 =>
      cases u with
      | str x2 => exact ⟨_, rfl, _, rfl, x1, x2, rfl, rfl, q⟩
      | _ => cases h2
    | _ => cases h1

abbrev s_Number_puts_before : Stmt := inClass (top 34) 6
theorem sc_Number_puts_before : FnScope ["self", "one", "other"] ["self", "one", "other"] (defScope s_Number_puts_before) := ⟨rfl, rfl, rfl, by decide +kernel, rfl, by decide +kernel, by decide +kernel⟩

theorem ok_Number_puts_before (F : FunD K "puts_before" "Number.puts_before" (defArgs s_Number_puts_before) (defBody s_Number_puts_before) (defScope s_Number_puts_before) [] [] f fd) (G : P2 P w K mg base) : FnOk P w K mg base CX0 1 f fd ["self", "one", "other"] (spPBNumber K) := by
  refine F.ok (CX := CX0) sc_Number_puts_before (fun vs H Q E h => ?_) (fun cdv A outer s H vs Q E hr h => ?_)
  · obtain ⟨a, v, u, l, m, rfl, _⟩ := h
    rfl
  · refine ⟨_, PSs.nox (pss_one (ps_ret (pe_cmpR op_lt (pv 1) (pv 2) (nomark _)))), ?_⟩
    obtain ⟨a, v, u, l, m, rfl, hF, hin, hd, h1, h2, q⟩ := h
    cases v with
    | int x1 =>
      cases u with
      | int x2 => exact ⟨_, rfl, _, rfl, x1, x2, rfl, rfl, q⟩
      | _ => cases h2
    | _ => cases h1

abbrev s_Fixed_puts_before : Stmt := inClass (top 35) 6
theorem sc_Fixed_puts_before : FnScope ["self", "one", "other"] ["self", "one", "other"] (defScope s_Fixed_puts_before) := ⟨rfl, rfl, rfl, by decide +kernel, rfl, by decide +kernel, by decide +kernel⟩

theorem ok_Fixed_puts_before (F : FunD K "puts_before" "Fixed.puts_before" (defArgs s_Fixed_puts_before) (defBody s_Fixed_puts_before) (defScope s_Fixed_puts_before) [] [] f fd) (G : P2 P w K mg base) : FnOk P w K mg base CX0 1 f fd ["self", "one", "other"] (spPBFixed K) := by
  refine F.ok (CX := CX0) sc_Fixed_puts_before (fun vs H Q E h => ?_) (fun cdv A outer s H vs Q E hr h => ?_)
  · obtain ⟨a, v, u, z, rfl, _⟩ := h
    rfl
  · refine ⟨_, PSs.nox (pss_one (ps_ret (pe_cmpR op_lt (pv 1) (pv 2) (nomark _)))), ?_⟩
    obtain ⟨a, v, u, z, rfl, hF, hin, hd, h1, h2, q⟩ := h
    cases v with
    | int x1 =>
      cases u with
      | int x2 => exact ⟨_, rfl, _, rfl, x1, x2, rfl, rfl, q⟩
      | _ => cases h2
    | _ => cases h1

abbrev s_Listed_puts_before : Stmt := inClass (top 36) 6
theorem sc_Listed_puts_before : FnScope ["self", "one", "other"] ["self", "one", "other"] (defScope s_Listed_puts_before) := ⟨rfl, rfl, rfl, by decide +kernel, rfl, by decide +kernel, by decide +kernel⟩

theorem ok_Listed_puts_before (F : FunD K "puts_before" "Listed.puts_before" (defArgs s_Listed_puts_before) (defBody s_Listed_puts_before) (defScope s_Listed_puts_before) [] [] f fd) (G : P2 P w K mg base) : FnOk P w K mg base CX0 1 f fd ["self", "one", "other"] (spPBListed K) := by
  refine F.ok (CX := CX0) sc_Listed_puts_before (fun vs H Q E h => ?_) (fun cdv A outer s H vs Q E hr h => ?_)
  · obtain ⟨a, v, u, x, rfl, _⟩ := h
    rfl
  · refine ⟨_, PSs.nox (pss_one (ps_ret (pe_cmpR op_lt (pe_bmZ PySem.F.slot_tuple_index PySem.F.type_tuple_index PySem.F.plainAttrs_tuple mt_tup_index (pe_fld (pv 0) rfl) (pa_cons (pv 1) pa_nil)) (pe_bmZ PySem.F.slot_tuple_index PySem.F.type_tuple_index PySem.F.plainAttrs_tuple mt_tup_index (pe_fld (pv 0) rfl) (pa_cons (pv 2) pa_nil)) (nomark _)))), ?_⟩
    obtain ⟨a, v, u, x, rfl, hF, hin, hd, h1, h2, q⟩ := h
    obtain ⟨dx, tx, ha, htx⟩ := hF
    have hal := lst_are x hin hd
    have htx2 : TupZ H tx ((x.els.map strV).map V.str) := by rw [all_str _ hal]; exact htx
    cases v with
    | str x1 =>
      cases u with
      | str x2 => 
        obtain ⟨i1, i2⟩ := idx_at (in_els hal h1)
        obtain ⟨j1, j2⟩ := idx_at (in_els hal h2)
        exact ⟨_, rfl, a, _, dx, _, _, rfl, ha, G.cListed.cl, G.cListed.no _ (by decide +kernel), lListed_texts, ⟨_, _, rfl, htx⟩, _, rfl, tx, _, x1, _, rfl, rfl, htx2.sq, i1, i2, _, rfl, a, _, dx, _, _, rfl, ha, G.cListed.cl, G.cListed.no _ (by decide +kernel), lListed_texts, ⟨_, _, rfl, htx⟩, _, rfl, tx, _, x2, _, rfl, rfl, htx2.sq, j1, j2, _, _, rfl, rfl, q⟩
      | _ => cases h2
    | _ => cases h1

structure P3 (P : Program) (w : World) (K : Frag) (mg : Str → Option Value) (base : Heap) : Prop extends P2 P w K mg base where
  hvWord : HM P w K mg base 3 (ca K 0) "has_value" ["self", "thing"] (spHVWord K)
  hvNumber : HM P w K mg base 3 (ca K 1) "has_value" ["self", "thing"] (spHVNumber K)
  hvFixed : HM P w K mg base 3 (ca K 2) "has_value" ["self", "thing"] (spHVFixed K)
  hvListed : HM P w K mg base 3 (ca K 3) "has_value" ["self", "thing"] (spHVListed K)
  hvEnded : HM P w K mg base 3 (ca K 4) "has_value" ["self", "thing"] (spHVEnded K)
  tfWord : HM P w K mg base 3 (ca K 0) "text_for" ["self", "value"] (spTFWord K)
  tfNumber : HM P w K mg base 3 (ca K 1) "text_for" ["self", "value"] (spTFNumber K)
  tfFixed : HM P w K mg base 3 (ca K 2) "text_for" ["self", "value"] (spTFFixed K)
  tfListed : HM P w K mg base 3 (ca K 3) "text_for" ["self", "value"] (spTFListed K)
  tfEnded : HM P w K mg base 3 (ca K 4) "text_for" ["self", "value"] (spTFEnded K)
  htWord : HM P w K mg base 3 (ca K 0) "has_text" ["self", "text"] (spHTWord K)
  htNumber : HM P w K mg base 3 (ca K 1) "has_text" ["self", "text"] (spHTNumber K)
  htFixed : HM P w K mg base 3 (ca K 2) "has_text" ["self", "text"] (spHTFixed K)
  htListed : HM P w K mg base 3 (ca K 3) "has_text" ["self", "text"] (spHTListed K)
  htEnded : HM P w K mg base 3 (ca K 4) "has_text" ["self", "text"] (spHTEnded K)
  vfWord : HM P w K mg base 3 (ca K 0) "value_for" ["self", "text"] (spVFWord K)
  vfNumber : HM P w K mg base 3 (ca K 1) "value_for" ["self", "text"] (spVFNumber K)
  vfFixed : HM P w K mg base 3 (ca K 2) "value_for" ["self", "text"] (spVFFixed K)
  vfListed : HM P w K mg base 3 (ca K 3) "value_for" ["self", "text"] (spVFListed K)
  vfEnded : HM P w K mg base 3 (ca K 4) "value_for" ["self", "text"] (spVFEnded K)
  pbWord : HM P w K mg base 3 (ca K 0) "puts_before" ["self", "one", "other"] (spPBWord K)
  pbNumber : HM P w K mg base 3 (ca K 1) "puts_before" ["self", "one", "other"] (spPBNumber K)
  pbFixed : HM P w K mg base 3 (ca K 2) "puts_before" ["self", "one", "other"] (spPBFixed K)
  pbListed : HM P w K mg base 3 (ca K 3) "puts_before" ["self", "one", "other"] (spPBListed K)
  pbEnded : HM P w K mg base 3 (ca K 4) "puts_before" ["self", "one", "other"] (spPBEnded K)
theorem P3.hv_ (G : P3 P w K mg base) {H : Hp} {y : Addr} : ∀ {d : PD}, FieldAt K H y d → d.In → d.due = none → ∃ sp, HM P w K mg base 3 (ca K d.ci) "has_value" ["self", "thing"] sp ∧
    ∀ (v : V) (Q : VK) (E : XK), flatV v = true → lenV v ≤ 900 → Q (.bl (d.hasV v)) H → sp [.ref y, v] H Q E
  | .word s l m, h, i, u0 => ⟨_, G.hvWord, fun v Q E hf hz q => ⟨y, v, s, l, m, rfl, h, i, u0, hf, hz, q⟩⟩
  | .number l m, h, i, u0 => ⟨_, G.hvNumber, fun v Q E hf hz q => ⟨y, v, l, m, rfl, h, i, u0, hf, hz, q⟩⟩
  | .fixed z, h, i, u0 => ⟨_, G.hvFixed, fun v Q E hf hz q => ⟨y, v, z, rfl, h, i, u0, hf, hz, q⟩⟩
  | .listed x, h, i, u0 => ⟨_, G.hvListed, fun v Q E hf hz q => ⟨y, v, x, rfl, h, i, u0, hf, hz, q⟩⟩
  | .ended s e l m, h, i, u0 => ⟨_, G.hvEnded, fun v Q E hf hz q => ⟨y, v, s, e, l, m, rfl, h, i, u0, hf, hz, q⟩⟩

theorem P3.tf_ (G : P3 P w K mg base) {H : Hp} {y : Addr} : ∀ {d : PD}, FieldAt K H y d → d.In → d.due = none → ∃ sp, HM P w K mg base 3 (ca K d.ci) "text_for" ["self", "value"] sp ∧
    ∀ (v : V) (Q : VK) (E : XK), vaOk v = true → d.hasV v = true → (∀ H', Same H H' → Q (.str (d.textF v)) H') → sp [.ref y, v] H Q E
  | .word s l m, h, i, u0 => ⟨_, G.tfWord, fun v Q E hf hz q => ⟨y, v, s, l, m, rfl, h, i, u0, hf, hz, q⟩⟩
  | .number l m, h, i, u0 => ⟨_, G.tfNumber, fun v Q E hf hz q => ⟨y, v, l, m, rfl, h, i, u0, hf, hz, q⟩⟩
  | .fixed z, h, i, u0 => ⟨_, G.tfFixed, fun v Q E hf hz q => ⟨y, v, z, rfl, h, i, u0, hf, hz, q⟩⟩
  | .listed x, h, i, u0 => ⟨_, G.tfListed, fun v Q E hf hz q => ⟨y, v, x, rfl, h, i, u0, hf, hz, q⟩⟩
  | .ended s e l m, h, i, u0 => ⟨_, G.tfEnded, fun v Q E hf hz q => ⟨y, v, s, e, l, m, rfl, h, i, u0, hf, hz, q⟩⟩

theorem P3.ht_ (G : P3 P w K mg base) {H : Hp} {y : Addr} : ∀ {d : PD}, FieldAt K H y d → d.In → d.due = none → ∃ sp, HM P w K mg base 3 (ca K d.ci) "has_text" ["self", "text"] sp ∧
    ∀ (v : Str) (Q : VK) (E : XK), txOk v = true → Q (.bl (d.hasT v)) H → sp [.ref y, .str v] H Q E
  | .word s l m, h, i, u0 => ⟨_, G.htWord, fun v Q E hf q => ⟨y, v, s, l, m, rfl, h, i, u0, hf, q⟩⟩
  | .number l m, h, i, u0 => ⟨_, G.htNumber, fun v Q E hf q => ⟨y, v, l, m, rfl, h, i, u0, hf, q⟩⟩
  | .fixed z, h, i, u0 => ⟨_, G.htFixed, fun v Q E hf q => ⟨y, v, z, rfl, h, i, u0, hf, q⟩⟩
  | .listed x, h, i, u0 => ⟨_, G.htListed, fun v Q E hf q => ⟨y, v, x, rfl, h, i, u0, hf, q⟩⟩
  | .ended s e l m, h, i, u0 => ⟨_, G.htEnded, fun v Q E hf q => ⟨y, v, s, e, l, m, rfl, h, i, u0, hf, q⟩⟩

theorem P3.vf_ (G : P3 P w K mg base) {H : Hp} {y : Addr} : ∀ {d : PD}, FieldAt K H y d → d.In → d.due = none → ∃ sp, HM P w K mg base 3 (ca K d.ci) "value_for" ["self", "text"] sp ∧
    ∀ (v : Str) (Q : VK) (E : XK), txOk v = true → d.hasT v = true → d.nOk v = true → Q (d.valF v) H → sp [.ref y, .str v] H Q E
  | .word s l m, h, i, u0 => ⟨_, G.vfWord, fun v Q E hf hz hn q => ⟨y, v, s, l, m, rfl, h, i, u0, hf, hz, hn, q⟩⟩
  | .number l m, h, i, u0 => ⟨_, G.vfNumber, fun v Q E hf hz hn q => ⟨y, v, l, m, rfl, h, i, u0, hf, hz, hn, q⟩⟩
  | .fixed z, h, i, u0 => ⟨_, G.vfFixed, fun v Q E hf hz hn q => ⟨y, v, z, rfl, h, i, u0, hf, hz, hn, q⟩⟩
  | .listed x, h, i, u0 => ⟨_, G.vfListed, fun v Q E hf hz hn q => ⟨y, v, x, rfl, h, i, u0, hf, hz, hn, q⟩⟩
  | .ended s e l m, h, i, u0 => ⟨_, G.vfEnded, fun v Q E hf hz hn q => ⟨y, v, s, e, l, m, rfl, h, i, u0, hf, hz, hn, q⟩⟩

theorem P3.pb_ (G : P3 P w K mg base) {H : Hp} {y : Addr} : ∀ {d : PD}, FieldAt K H y d → d.In → d.due = none → ∃ sp, HM P w K mg base 3 (ca K d.ci) "puts_before" ["self", "one", "other"] sp ∧
    ∀ (v u : V) (Q : VK) (E : XK), d.hasV v = true → d.hasV u = true → Q (.bl (d.bef v u)) H → sp [.ref y, v, u] H Q E
  | .word s l m, h, i, u0 => ⟨_, G.pbWord, fun v u Q E hf hz q => ⟨y, v, u, s, l, m, rfl, h, i, u0, hf, hz, q⟩⟩
  | .number l m, h, i, u0 => ⟨_, G.pbNumber, fun v u Q E hf hz q => ⟨y, v, u, l, m, rfl, h, i, u0, hf, hz, q⟩⟩
  | .fixed z, h, i, u0 => ⟨_, G.pbFixed, fun v u Q E hf hz q => ⟨y, v, u, z, rfl, h, i, u0, hf, hz, q⟩⟩
  | .listed x, h, i, u0 => ⟨_, G.pbListed, fun v u Q E hf hz q => ⟨y, v, u, x, rfl, h, i, u0, hf, hz, q⟩⟩
  | .ended s e l m, h, i, u0 => ⟨_, G.pbEnded, fun v u Q E hf hz q => ⟨y, v, u, s, e, l, m, rfl, h, i, u0, hf, hz, q⟩⟩

/-- a field, marked or not -/
inductive FD where
  | pl (d : PD)
  | mk (n m : V) (d : PD)
def FdAt (K : Frag) (H : Hp) (a : Addr) : FD → Prop
  | .pl d => FieldAt K H a d ∧ d.In ∧ d.due = none
  | .mk n m d => MkAt K H a n m d ∧ d.In ∧ d.due = none ∧ (∃ c, n = .str ⟨#[c]⟩) ∧ ∃ c, m = .str ⟨#[c]⟩
theorem FdAt.same {K : Frag} {H H' : Hp} {a : Addr} (S : Same H H') : ∀ {d : FD}, FdAt K H a d → FdAt K H' a d
  | .pl _, ⟨h, i⟩ => ⟨h.same S, i⟩
  | .mk _ _ _, ⟨⟨dx, y, h, k⟩, i⟩ => ⟨⟨dx, y, S _ _ h, k.same S⟩, i⟩
def tail1 (t : Str) : Str := cutS t (some 1) none
def head1 (t : Str) : Str := cutS t none (some 1)
def FD.hasV (v : V) : FD → Bool
  | .pl d => d.hasV v
  | .mk _ _ d => decide (v = .non) || d.hasV v
def FD.textF (v : V) : FD → Str
  | .pl d => d.textF v
  | .mk n m d => if decide (v = .non) = true then strV n else strV m ++ d.textF v
def FD.hasT (t : Str) : FD → Bool
  | .pl d => d.hasT t
  | .mk n m d => decide (V.str t = n) || (decide (V.str (head1 t) = m) && d.hasT (tail1 t))
def FD.valF (t : Str) : FD → V
  | .pl d => d.valF t
  | .mk n _ d => if decide (V.str t = n) = true then .non else d.valF (tail1 t)
def FD.txOk (t : Str) : FD → Bool
  | .pl _ => K08.txOk t
  | .mk .. => K08.txOk t && K08.txOk (tail1 t)
def FD.nuOk (t : Str) : FD → Bool
  | .pl d => d.nOk t
  | .mk n _ d => decide (V.str t = n) || d.nOk (tail1 t)

/-- no attribute of a field has a method's name -/
structure P4 (P : Program) (w : World) (K : Frag) (mg : Str → Option Value) (base : Heap) : Prop extends P3 P w K mg base where
theorem FieldAt.no {H : Hp} {y : Addr} {g : Str} (hg : g = "has_value" ∨ g = "text_for" ∨ g = "has_text" ∨ g = "value_for" ∨ g = "puts_before") : ∀ {d : PD}, FieldAt K H y d → ∀ dx fs C, H y = some (.ins C dx fs) → fs.lookup g = none
  | .word s l m, ⟨dx, h⟩, dx2, fs2, C2, h2 => by
    rw [h] at h2
    cases h2
    unfold fWord
    rcases hg with rfl | rfl | rfl | rfl | rfl <;> (rw [lookup_putF, if_neg (by decide +kernel)]; rw [lookup_putF, if_neg (by decide +kernel)]; rw [lookup_putF, if_neg (by decide +kernel)]; rfl)
  | .number l m, ⟨dx, h⟩, dx2, fs2, C2, h2 => by
    rw [h] at h2
    cases h2
    unfold fNumber
    rcases hg with rfl | rfl | rfl | rfl | rfl <;> (rw [lookup_putF, if_neg (by decide +kernel)]; rw [lookup_putF, if_neg (by decide +kernel)]; rfl)
  | .fixed z, ⟨dx, h⟩, dx2, fs2, C2, h2 => by
    rw [h] at h2
    cases h2
    unfold fFixed
    rcases hg with rfl | rfl | rfl | rfl | rfl <;> (rw [lookup_putF, if_neg (by decide +kernel)]; rfl)
  | .listed _, ⟨dx, t, h, _⟩, dx2, fs2, C2, h2 => by
    rw [h] at h2
    cases h2
    unfold fListed
    rcases hg with rfl | rfl | rfl | rfl | rfl <;> (rw [lookup_putF, if_neg (by decide +kernel)]; rfl)
  | .ended s e l m, ⟨dx, h⟩, dx2, fs2, C2, h2 => by
    rw [h] at h2
    cases h2
    unfold fEnded
    rcases hg with rfl | rfl | rfl | rfl | rfl <;> (rw [lookup_putF, if_neg (by decide +kernel)]; rw [lookup_putF, if_neg (by decide +kernel)]; rw [lookup_putF, if_neg (by decide +kernel)]; rw [lookup_putF, if_neg (by decide +kernel)]; rfl)

def spMHV (K : Frag) : Sp := fun vs H Q _ => ∃ (a : Addr) (n m : V) (d : PD) (v : V), vs = [.ref a, v] ∧ FdAt K H a (.mk n m d) ∧ flatV v = true ∧ lenV v ≤ 900 ∧ Q (.bl (FD.hasV v (.mk n m d))) H
abbrev s_Marked_has_value : Stmt := inClass (top 38) 2
theorem sc_Marked_has_value : FnScope ["self", "thing"] ["self", "thing"] (defScope s_Marked_has_value) := ⟨rfl, rfl, rfl, by decide +kernel, rfl, by decide +kernel, by decide +kernel⟩

theorem ok_Marked_has_value (F : FunD K "has_value" "Marked.has_value" (defArgs s_Marked_has_value) (defBody s_Marked_has_value) (defScope s_Marked_has_value) [] [] f fd) (G : P4 P w K mg base) : FnOk P w K mg base CX0 4 f fd ["self", "thing"] (spMHV K) := by
  refine F.ok (CX := CX0) sc_Marked_has_value (fun vs H Q E h => ?_) (fun cdv A outer s H vs Q E hr h => ?_)
  · obtain ⟨a, n, m, d, v, rfl, _⟩ := h
    rfl
  · refine ⟨_, PSs.nox (pss_one (ps_ret (pe_or (pe_cmpR op_isN (pv 1) pe_non (nomark _)) (pe_one (pe_methD (CX := CX0) (pe_fld (pv 0) rfl) pass0 (pa_cons (pv 1) pa_nil)))))), ?_⟩
    obtain ⟨a, n, m, d, v, rfl, ⟨⟨dx, y, ha, hy⟩, hin, hd, ⟨cn, en⟩, cm, em⟩, hf, hz, q⟩ := h
    obtain ⟨ey, fs, hi, _⟩ := hy.ins
    have h6 := Nat.lt_of_lt_of_le d.ci_lt (by decide : 5 ≤ 6)
    obtain ⟨sp, M, Hs⟩ := G.hv_ hy hin hd
    obtain ⟨fde, Fe, Be⟩ := M.ok
    refine ⟨_, rfl, rfl, _, rfl, ?_⟩
    have r : FD.hasV v (.mk n m d) = (decide (v = .non) || d.hasV v) := rfl
    rw [r] at q
    refine ite2 (fun h1 => ?_) (fun h1 => ?_)
    · rw [h1] at q
      exact q
    · rw [Bool.eq_false_iff.mpr h1] at q
      exact ⟨_, rfl, a, _, dx, _, _, rfl, ha, G.cMarked.cl, G.cMarked.no _ (by decide +kernel), lMarked_field, y, _, ey, _, fs, 3, fde, _, sp, rfl, hi, hy.no (by decide +kernel) _ _ _ hi, G.cl _ h6, M.me, Fe, hr, Be, _, rfl, Hs _ _ _ hf hz q⟩

def spMTF (K : Frag) : Sp := fun vs H Q _ => ∃ (a : Addr) (n m : V) (d : PD) (v : V), vs = [.ref a, v] ∧ FdAt K H a (.mk n m d) ∧ vaOk v = true ∧ FD.hasV v (.mk n m d) = true ∧ (d.textF v).length ≤ 900 ∧ ∀ H', Same H H' → Q (.str (FD.textF v (.mk n m d))) H'
abbrev s_Marked_text_for : Stmt := inClass (top 38) 3
theorem sc_Marked_text_for : FnScope ["self", "value"] ["self", "value"] (defScope s_Marked_text_for) := ⟨rfl, rfl, rfl, by decide +kernel, rfl, by decide +kernel, by decide +kernel⟩

theorem ok_Marked_text_for (F : FunD K "text_for" "Marked.text_for" (defArgs s_Marked_text_for) (defBody s_Marked_text_for) (defScope s_Marked_text_for) [] [] f fd) (G : P4 P w K mg base) : FnOk P w K mg base CX0 4 f fd ["self", "value"] (spMTF K) := by
  refine F.ok (CX := CX0) sc_Marked_text_for (fun vs H Q E h => ?_) (fun cdv A outer s H vs Q E hr h => ?_)
  · obtain ⟨a, n, m, d, v, rfl, _⟩ := h
    rfl
  · refine ⟨_, PSs.nox (pss_cons (ps_if (pt_cmpR op_isN (pv 1) pe_non (nomark _))
      (pss_one (ps_ret (pe_fld (pv 0) rfl)))
      pss_nil)
    (pss_one (ps_ret (pe_op op_add_str (pe_fld (pv 0) rfl) (pe_methD (CX := CX0) (pe_fld (pv 0) rfl) pass0 (pa_cons (pv 1) pa_nil)))))), ?_⟩
    obtain ⟨a, n, m, d, v, rfl, ⟨⟨dx, y, ha, hy⟩, hin, hd, ⟨cn, en⟩, cm, em⟩, hv, hh, hlen, q⟩ := h
    obtain ⟨ey, fs, hi, _⟩ := hy.ins
    have h6 := Nat.lt_of_lt_of_le d.ci_lt (by decide : 5 ≤ 6)
    obtain ⟨sp, M, Hs⟩ := G.tf_ hy hin hd
    obtain ⟨fde, Fe, Be⟩ := M.ok
    have r : FD.textF v (.mk n m d) = if decide (v = .non) = true then strV n else strV m ++ d.textF v := rfl
    rw [r] at q
    refine ⟨_, rfl, rfl, _, rfl, ?_⟩
    refine ite2 (fun h1 => ?_) (fun h1 => ?_)
    · rw [if_pos h1] at q
      have q0 := q _ (Same.refl _)
      refine ⟨_, rfl, a, _, dx, _, _, rfl, ha, G.cMarked.cl, G.cMarked.no _ (by decide +kernel), lMarked_none, ?_⟩
      rw [en] at q0 ⊢
      exact q0
    · rw [if_neg h1] at q
      have hh' : d.hasV v = true := by
        have z : (decide (v = .non) || d.hasV v) = true := hh
        rw [Bool.eq_false_iff.mpr h1] at z
        exact z
      refine ⟨_, rfl, a, _, dx, _, _, rfl, ha, G.cMarked.cl, G.cMarked.no _ (by decide +kernel), lMarked_mark, _, rfl, a, _, dx, _, _, rfl, ha, G.cMarked.cl, G.cMarked.no _ (by decide +kernel), lMarked_field, y, _, ey, _, fs, 3, fde, _, sp, rfl, hi, hy.no (by decide +kernel) _ _ _ hi, G.cl _ h6, M.me, Fe, hr, Be, _, rfl, Hs _ _ _ hv hh' (fun H' S => ⟨⟨#[cm]⟩, _, em, rfl, by rw [sizeLine_eq]; show 1 + (d.textF v).length ≤ 16777216; omega, ?_⟩)⟩
      have z := q H' S
      rw [em] at z
      exact z

def spMHT (K : Frag) : Sp := fun vs H Q _ => ∃ (a : Addr) (n m : V) (d : PD) (v : Str), vs = [.ref a, .str v] ∧ FdAt K H a (.mk n m d) ∧ FD.txOk v (.mk n m d) = true ∧ Q (.bl (FD.hasT v (.mk n m d))) H
abbrev s_Marked_has_text : Stmt := inClass (top 38) 4
theorem sc_Marked_has_text : FnScope ["self", "text"] ["self", "text"] (defScope s_Marked_has_text) := ⟨rfl, rfl, rfl, by decide +kernel, rfl, by decide +kernel, by decide +kernel⟩

theorem ok_Marked_has_text (F : FunD K "has_text" "Marked.has_text" (defArgs s_Marked_has_text) (defBody s_Marked_has_text) (defScope s_Marked_has_text) [] [] f fd) (G : P4 P w K mg base) : FnOk P w K mg base CX0 4 f fd ["self", "text"] (spMHT K) := by
  refine F.ok (CX := CX0) sc_Marked_has_text (fun vs H Q E h => ?_) (fun cdv A outer s H vs Q E hr h => ?_)
  · obtain ⟨a, n, m, d, v, rfl, _⟩ := h
    rfl
  · refine ⟨_, PSs.nox (pss_one (ps_ret (pe_or (pe_cmpR op_eq (pv 1) (pe_fld (pv 0) rfl) (nomark _)) (pe_one (pe_and (pe_cmpR op_eq (pe_slice sl_str (pv 1) po_none (po_some pe_int)) (pe_fld (pv 0) rfl) (nomark _)) (pe_one (pe_methD (CX := CX0) (pe_fld (pv 0) rfl) pass0 (pa_cons (pe_slice sl_str (pv 1) (po_some pe_int) po_none) pa_nil)))))))), ?_⟩
    obtain ⟨a, n, m, d, v, rfl, ⟨⟨dx, y, ha, hy⟩, hin, hd, ⟨cn, en⟩, cm, em⟩, ht, q⟩ := h
    obtain ⟨ey, fs, hi, _⟩ := hy.ins
    have h6 := Nat.lt_of_lt_of_le d.ci_lt (by decide : 5 ≤ 6)
    obtain ⟨sp, M, Hs⟩ := G.ht_ hy hin hd
    obtain ⟨fde, Fe, Be⟩ := M.ok
    obtain ⟨ht, ht2⟩ := Bool.and_eq_true_iff.mp (show (K08.txOk v && K08.txOk (tail1 v)) = true from ht)
    obtain ⟨t1, _⟩ := Bool.and_eq_true_iff.mp ht
    replace t1 := of_decide_eq_true t1
    have r : FD.hasT v (.mk n m d) = (decide (V.str v = n) || (decide (V.str (head1 v) = m) && d.hasT (tail1 v))) := rfl
    rw [r] at q
    refine ⟨_, rfl, _, rfl, a, _, dx, _, _, rfl, ha, G.cMarked.cl, G.cMarked.no _ (by decide +kernel), lMarked_none, (by rw [en]; rfl), _, rfl, ?_⟩
    refine ite2 (fun h1 => ?_) (fun h1 => ?_)
    · rw [h1] at q
      exact q
    · rw [Bool.eq_false_iff.mpr h1] at q
      refine ⟨_, rfl, 1, rfl, v, rfl, small_line v (Nat.le_trans t1 (by decide)), _, rfl, a, _, dx, _, _, rfl, ha, G.cMarked.cl, G.cMarked.no _ (by decide +kernel), lMarked_mark, (by rw [em]; rfl), _, rfl, ?_⟩
      refine ite2 (fun h2 => ?_) (fun h2 => ?_)
      · rw [show decide (V.str (head1 v) = m) = true from h2] at q
        exact ⟨_, rfl, a, _, dx, _, _, rfl, ha, G.cMarked.cl, G.cMarked.no _ (by decide +kernel), lMarked_field, y, _, ey, _, fs, 3, fde, _, sp, rfl, hi, hy.no (by decide +kernel) _ _ _ hi, G.cl _ h6, M.me, Fe, hr, Be, _, rfl, 1, rfl, v, rfl, small_line v (Nat.le_trans t1 (by decide)), Hs _ _ _ ht2 q⟩
      · rw [show decide (V.str (head1 v) = m) = false from Bool.eq_false_iff.mpr h2] at q
        exact q

def spMVF (K : Frag) : Sp := fun vs H Q _ => ∃ (a : Addr) (n m : V) (d : PD) (v : Str), vs = [.ref a, .str v] ∧ FdAt K H a (.mk n m d) ∧ FD.txOk v (.mk n m d) = true ∧ FD.hasT v (.mk n m d) = true ∧ FD.nuOk v (.mk n m d) = true ∧ Q (FD.valF v (.mk n m d)) H
abbrev s_Marked_value_for : Stmt := inClass (top 38) 5
theorem sc_Marked_value_for : FnScope ["self", "text"] ["self", "text"] (defScope s_Marked_value_for) := ⟨rfl, rfl, rfl, by decide +kernel, rfl, by decide +kernel, by decide +kernel⟩

theorem ok_Marked_value_for (F : FunD K "value_for" "Marked.value_for" (defArgs s_Marked_value_for) (defBody s_Marked_value_for) (defScope s_Marked_value_for) [] [] f fd) (G : P4 P w K mg base) : FnOk P w K mg base CX0 4 f fd ["self", "text"] (spMVF K) := by
  refine F.ok (CX := CX0) sc_Marked_value_for (fun vs H Q E h => ?_) (fun cdv A outer s H vs Q E hr h => ?_)
  · obtain ⟨a, n, m, d, v, rfl, _⟩ := h
    rfl
  · refine ⟨_, PSs.nox (pss_cons (ps_if (pt_cmpR op_eq (pv 1) (pe_fld (pv 0) rfl) (nomark _))
      (pss_one (ps_ret pe_non))
      pss_nil)
    (pss_one (ps_ret (pe_methD (CX := CX0) (pe_fld (pv 0) rfl) pass0 (pa_cons (pe_slice sl_str (pv 1) (po_some pe_int) po_none) pa_nil))))), ?_⟩
    obtain ⟨a, n, m, d, v, rfl, ⟨⟨dx, y, ha, hy⟩, hin, hd, ⟨cn, en⟩, cm, em⟩, ht, hh, hn, q⟩ := h
    obtain ⟨ey, fs, hi, _⟩ := hy.ins
    have h6 := Nat.lt_of_lt_of_le d.ci_lt (by decide : 5 ≤ 6)
    obtain ⟨sp, M, Hs⟩ := G.vf_ hy hin hd
    obtain ⟨fde, Fe, Be⟩ := M.ok
    obtain ⟨ht, ht2⟩ := Bool.and_eq_true_iff.mp (show (K08.txOk v && K08.txOk (tail1 v)) = true from ht)
    obtain ⟨t1, _⟩ := Bool.and_eq_true_iff.mp ht
    replace t1 := of_decide_eq_true t1
    have r : FD.valF v (.mk n m d) = if decide (V.str v = n) = true then .non else d.valF (tail1 v) := rfl
    rw [r] at q
    refine ⟨_, rfl, _, rfl, a, _, dx, _, _, rfl, ha, G.cMarked.cl, G.cMarked.no _ (by decide +kernel), lMarked_none, (by rw [en]; rfl), _, rfl, ?_⟩
    refine ite2 (fun h1 => ?_) (fun h1 => ?_)
    · rw [if_pos h1] at q
      exact q
    · rw [if_neg h1] at q
      have hh' : d.hasT (tail1 v) = true := by
        have z : (decide (V.str v = n) || (decide (V.str (head1 v) = m) && d.hasT (tail1 v))) = true := hh
        rw [Bool.eq_false_iff.mpr h1] at z
        exact (Bool.and_eq_true_iff.mp z).2
      have hn' : d.nOk (tail1 v) = true := by
        have z : (decide (V.str v = n) || d.nOk (tail1 v)) = true := hn
        rw [Bool.eq_false_iff.mpr h1] at z
        exact z
      exact ⟨_, rfl, a, _, dx, _, _, rfl, ha, G.cMarked.cl, G.cMarked.no _ (by decide +kernel), lMarked_field, y, _, ey, _, fs, 3, fde, _, sp, rfl, hi, hy.no (by decide +kernel) _ _ _ hi, G.cl _ h6, M.me, Fe, hr, Be, _, rfl, 1, rfl, v, rfl, small_line v (Nat.le_trans t1 (by decide)), Hs _ _ _ ht2 hh' hn' q⟩

def FD.bef (v u : V) : FD → Bool
  | .pl d => d.bef v u
  | .mk _ _ d => if decide (u = .non) = true then false else decide (v = .non) || d.bef v u
def spMPB (K : Frag) : Sp := fun vs H Q _ => ∃ (a : Addr) (n m : V) (d : PD) (v u : V), vs = [.ref a, v, u] ∧ FdAt K H a (.mk n m d) ∧ FD.hasV v (.mk n m d) = true ∧ FD.hasV u (.mk n m d) = true ∧ Q (.bl (FD.bef v u (.mk n m d))) H

abbrev s_Marked_puts_before : Stmt := inClass (top 38) 6
theorem sc_Marked_puts_before : FnScope ["self", "one", "other"] ["self", "one", "other"] (defScope s_Marked_puts_before) := ⟨rfl, rfl, rfl, by decide +kernel, rfl, by decide +kernel, by decide +kernel⟩

theorem ok_Marked_puts_before (F : FunD K "puts_before" "Marked.puts_before" (defArgs s_Marked_puts_before) (defBody s_Marked_puts_before) (defScope s_Marked_puts_before) [] [] f fd) (G : P4 P w K mg base) : FnOk P w K mg base CX0 4 f fd ["self", "one", "other"] (spMPB K) := by
  refine F.ok (CX := CX0) sc_Marked_puts_before (fun vs H Q E h => ?_) (fun cdv A outer s H vs Q E hr h => ?_)
  · obtain ⟨a, n, m, d, v, u, rfl, _⟩ := h
    rfl
  · refine ⟨_, PSs.nox (pss_cons (ps_if (pt_cmpR op_isN (pv 2) pe_non (nomark _))
      (pss_one (ps_ret pe_bl))
      pss_nil)
    (pss_one (ps_ret (pe_or (pe_cmpR op_isN (pv 1) pe_non (nomark _)) (pe_one (pe_methD (CX := CX0) (pe_fld (pv 0) rfl) pass0 (pa_cons (pv 1) (pa_cons (pv 2) pa_nil)))))))), ?_⟩
    obtain ⟨a, n, m, d, v, u, rfl, ⟨⟨dx, y, ha, hy⟩, hin, hd, ⟨cn, en⟩, cm, em⟩, hv, hu, q⟩ := h
    obtain ⟨ey, fs, hi, _⟩ := hy.ins
    have h6 := Nat.lt_of_lt_of_le d.ci_lt (by decide : 5 ≤ 6)
    obtain ⟨sp, M, Hs⟩ := G.pb_ hy hin hd
    obtain ⟨fde, Fe, Be⟩ := M.ok
    have r : FD.bef v u (.mk n m d) = if decide (u = .non) = true then false else decide (v = .non) || d.bef v u := rfl
    rw [r] at q
    refine ⟨_, rfl, rfl, _, rfl, ?_⟩
    refine ite2 (fun h1 => ?_) (fun h1 => ?_)
    · rw [if_pos h1] at q
      exact q
    rw [if_neg h1] at q
    have hu' : d.hasV u = true := by
      have z : (decide (u = .non) || d.hasV u) = true := hu
      rw [Bool.eq_false_iff.mpr h1] at z
      exact z
    refine ⟨_, rfl, rfl, _, rfl, ?_⟩
    refine ite2 (fun h2 => ?_) (fun h2 => ?_)
    · rw [h2] at q
      exact q
    · have hv' : d.hasV v = true := by
        have z : (decide (v = .non) || d.hasV v) = true := hv
        rw [Bool.eq_false_iff.mpr h2] at z
        exact z
      rw [Bool.eq_false_iff.mpr h2] at q
      exact ⟨_, rfl, a, _, dx, _, _, rfl, ha, G.cMarked.cl, G.cMarked.no _ (by decide +kernel), lMarked_field, y, _, ey, _, fs, 3, fde, _, sp, rfl, hi, hy.no (by decide +kernel) _ _ _ hi, G.cl _ h6, M.me, Fe, hr, Be, _, rfl, _, rfl, Hs _ _ _ _ hv' hu' q⟩

end
end L2.K08

set_option Elab.async false
set_option linter.all false
set_option maxRecDepth 100000
set_option maxHeartbeats 4000000
/-! check_value, text_of, value_of. -/
namespace L2.K08
open PySem PySem.W PySem.Spec PySem.Calls PyProof.Rows L2.Jk
abbrev NT (K : Frag) : Addr := He.ga K "NoText"
structure P5 (P : Program) (w : World) (K : Frag) (mg : Str → Option Value) (base : Heap) : Prop extends P4 P w K mg base where
  nv : ErrAt P w K mg base "NoValue" (NV K) ["value"] "refused novalue"
  nt : ErrAt P w K mg base "NoText" (NT K) ["text"] "refused notext"
  hvMarked : HM P w K mg base 4 (ca K 5) "has_value" ["self", "thing"] (spMHV K)
  tfMarked : HM P w K mg base 4 (ca K 5) "text_for" ["self", "value"] (spMTF K)
  htMarked : HM P w K mg base 4 (ca K 5) "has_text" ["self", "text"] (spMHT K)
  vfMarked : HM P w K mg base 4 (ca K 5) "value_for" ["self", "text"] (spMVF K)
  pbMarked : HM P w K mg base 4 (ca K 5) "puts_before" ["self", "one", "other"] (spMPB K)
def FD.ci : FD → Nat
  | .pl d => d.ci
  | .mk .. => 5
theorem FD.ci_lt : ∀ d : FD, d.ci < 6
  | .pl d => Nat.lt_of_lt_of_le d.ci_lt (by decide)
  | .mk .. => by show 5 < 6; decide
def FD.tfOk (v : V) : FD → Bool
  | .pl _ => true
  | .mk _ _ d => decide ((d.textF v).length ≤ 900)
section
variable {P : Program} {w : World} {K : Frag} {mg : Str → Option Value} {base : Heap} {f : Addr} {fd : FuncData}
theorem FdAt.ins {H : Hp} {y : Addr} {g : Str} (hg : g = "has_value" ∨ g = "text_for" ∨ g = "has_text" ∨ g = "value_for" ∨ g = "puts_before") : ∀ {d : FD}, FdAt K H y d → ∃ dx fs, H y = some (.ins (ca K d.ci) dx fs) ∧ fs.lookup g = none
  | .pl d, ⟨h, _⟩ => by
    obtain ⟨dx, fs, hi, _⟩ := h.ins
    exact ⟨dx, fs, hi, h.no hg _ _ _ hi⟩
  | .mk n m d, ⟨⟨dx, y2, h, _⟩, _⟩ => by
    refine ⟨dx, _, h, ?_⟩
    unfold fMarked
    rcases hg with rfl | rfl | rfl | rfl | rfl <;> (rw [lookup_putF, if_neg (by decide +kernel)]; rw [lookup_putF, if_neg (by decide +kernel)]; rw [lookup_putF, if_neg (by decide +kernel)]; rfl)
theorem HM.mono {j k : Nat} {C : Addr} {m : Str} {ps : List Str} {sp : Sp} (h : HM P w K mg base j C m ps sp) (hjk : j ≤ k) : HM P w K mg base k C m ps sp := by
  obtain ⟨fd, F, b⟩ := h.ok
  exact ⟨h.me, fd, F.mono hjk, b⟩
theorem P5.hv5 (G : P5 P w K mg base) {H : Hp} {y : Addr} : ∀ {d : FD}, FdAt K H y d → ∃ sp, HM P w K mg base 4 (ca K d.ci) "has_value" ["self", "thing"] sp ∧
    ∀ (v : V) (Q : VK) (E : XK), flatV v = true → lenV v ≤ 900 → Q (.bl (d.hasV v)) H → sp [.ref y, v] H Q E
  | .pl d, ⟨h, i, u⟩ => by
    obtain ⟨sp, M, Hs⟩ := G.hv_ h i u
    exact ⟨sp, M.mono (by decide), fun v Q E hf hz q => Hs v Q E hf hz q⟩
  | .mk n m d, h => ⟨_, G.hvMarked, fun v Q E hf hz q => ⟨y, n, m, d, v, rfl, h, hf, hz, q⟩⟩
theorem P5.tf5 (G : P5 P w K mg base) {H : Hp} {y : Addr} : ∀ {d : FD}, FdAt K H y d → ∃ sp, HM P w K mg base 4 (ca K d.ci) "text_for" ["self", "value"] sp ∧
    ∀ (v : V) (Q : VK) (E : XK), vaOk v = true → d.hasV v = true → d.tfOk v = true → (∀ H', Same H H' → Q (.str (d.textF v)) H') → sp [.ref y, v] H Q E
  | .pl d, ⟨h, i, u⟩ => by
    obtain ⟨sp, M, Hs⟩ := G.tf_ h i u
    exact ⟨sp, M.mono (by decide), fun v Q E hf hz _ q => Hs v Q E hf hz q⟩
  | .mk n m d, h => ⟨_, G.tfMarked, fun v Q E hf hz ho q => ⟨y, n, m, d, v, rfl, h, hf, hz, of_decide_eq_true ho, q⟩⟩
theorem P5.ht5 (G : P5 P w K mg base) {H : Hp} {y : Addr} : ∀ {d : FD}, FdAt K H y d → ∃ sp, HM P w K mg base 4 (ca K d.ci) "has_text" ["self", "text"] sp ∧
    ∀ (v : Str) (Q : VK) (E : XK), d.txOk v = true → Q (.bl (d.hasT v)) H → sp [.ref y, .str v] H Q E
  | .pl d, ⟨h, i, u⟩ => by
    obtain ⟨sp, M, Hs⟩ := G.ht_ h i u
    exact ⟨sp, M.mono (by decide), fun v Q E hf q => Hs v Q E hf q⟩
  | .mk n m d, h => ⟨_, G.htMarked, fun v Q E hf q => ⟨y, n, m, d, v, rfl, h, hf, q⟩⟩
theorem P5.vf5 (G : P5 P w K mg base) {H : Hp} {y : Addr} : ∀ {d : FD}, FdAt K H y d → ∃ sp, HM P w K mg base 4 (ca K d.ci) "value_for" ["self", "text"] sp ∧
    ∀ (v : Str) (Q : VK) (E : XK), d.txOk v = true → d.hasT v = true → d.nuOk v = true → Q (d.valF v) H → sp [.ref y, .str v] H Q E
  | .pl d, ⟨h, i, u⟩ => by
    obtain ⟨sp, M, Hs⟩ := G.vf_ h i u
    exact ⟨sp, M.mono (by decide), fun v Q E hf hz hn q => Hs v Q E hf hz hn q⟩
  | .mk n m d, h => ⟨_, G.vfMarked, fun v Q E hf hz hn q => ⟨y, n, m, d, v, rfl, h, hf, hz, hn, q⟩⟩
theorem P5.pb5 (G : P5 P w K mg base) {H : Hp} {y : Addr} : ∀ {d : FD}, FdAt K H y d → ∃ sp, HM P w K mg base 4 (ca K d.ci) "puts_before" ["self", "one", "other"] sp ∧
    ∀ (v u : V) (Q : VK) (E : XK), d.hasV v = true → d.hasV u = true → Q (.bl (d.bef v u)) H → sp [.ref y, v, u] H Q E
  | .pl d, ⟨h, i, u⟩ => by
    obtain ⟨sp, M, Hs⟩ := G.pb_ h i u
    exact ⟨sp, M.mono (by decide), fun v u Q E hf hz q => Hs v u Q E hf hz q⟩
  | .mk n m d, h => ⟨_, G.pbMarked, fun v u Q E hf hz q => ⟨y, n, m, d, v, u, rfl, h, hf, hz, q⟩⟩
def spIsBef (K : Frag) : Sp := fun vs H Q E => ∃ (y : Addr) (d : FD) (v u : V), vs = [.ref y, v, u] ∧ FdAt K H y d ∧ flatV v = true ∧ lenV v ≤ 900 ∧ (d.hasV v = false → RaiseE (NV K) "value" v H E) ∧ (d.hasV v = true → flatV u = true ∧ lenV u ≤ 900 ∧ (d.hasV u = false → RaiseE (NV K) "value" u H E) ∧ (d.hasV u = true → Q (.bl (d.bef v u)) H))
def spChkV (K : Frag) : Sp := fun vs H Q E => ∃ (y : Addr) (d : FD) (v : V), vs = [.ref y, v] ∧ FdAt K H y d ∧ flatV v = true ∧ lenV v ≤ 900 ∧ (d.hasV v = true → Q .non H) ∧ (d.hasV v = false → RaiseE (NV K) "value" v H E)
def spTextOf (K : Frag) : Sp := fun vs H Q E => ∃ (y : Addr) (d : FD) (v : V), vs = [.ref y, v] ∧ FdAt K H y d ∧ flatV v = true ∧ lenV v ≤ 900 ∧ (d.hasV v = true → vaOk v = true ∧ d.tfOk v = true ∧ ∀ H', Same H H' → Q (.str (d.textF v)) H') ∧ (d.hasV v = false → RaiseE (NV K) "value" v H E)
def spValueOf (K : Frag) : Sp := fun vs H Q E => ∃ (y : Addr) (d : FD) (t : Str), vs = [.ref y, .str t] ∧ FdAt K H y d ∧ d.txOk t = true ∧ (d.hasT t = true → d.nuOk t = true ∧ Q (d.valF t) H) ∧ (d.hasT t = false → RaiseE (NT K) "text" (.str t) H E)

abbrev s_check_value : Stmt := top 39
theorem sc_check_value : FnScope ["field", "thing"] ["field", "thing"] (defScope s_check_value) := ⟨rfl, rfl, rfl, by decide +kernel, rfl, by decide +kernel, by decide +kernel⟩

theorem ok_check_value (F : FunD K "check_value" "check_value" (defArgs s_check_value) (defBody s_check_value) (defScope s_check_value) [] [] f fd) (G : P5 P w K mg base) : FnOk P w K mg base (L2.CX P w) 5 f fd ["field", "thing"] (spChkV K) := by
  refine F.ok (CX := (L2.CX P w)) sc_check_value (fun vs H Q E h => ?_) (fun cdv A outer s H vs Q E hr h => ?_)
  · obtain ⟨y, d, v, rfl, _⟩ := h
    rfl
  · have hr4 : Room 4 _ := hr
    refine ⟨_, (pss_one (ps_if (pt_not (pt_val (pe_methD (CX := CX0) (pv 0) pass0 (pa_cons (pv 1) pa_nil))))
      (pss_one (ps_raise rfl (takes_of rfl rfl rfl rfl) (pmk_1 G.nv (hr.mono (by decide)) (by rfl) (pa_cons (pv 1) pa_nil))))
      pss_nil)), ?_⟩
    obtain ⟨y, d, v, rfl, hF, hf, hz, q1, q2⟩ := h
    obtain ⟨sp, M, Hs⟩ := G.hv5 hF
    obtain ⟨fde, Fe, Be⟩ := M.ok
    obtain ⟨dx, fs, hi, hno⟩ := hF.ins (g := "has_value") (by decide +kernel)
    refine ⟨_, rfl, y, _, dx, _, fs, 4, fde, _, sp, rfl, hi, hno, G.cl _ d.ci_lt, M.me, Fe, hr4, Be, _, rfl, Hs _ _ _ hf hz ⟨_, rfl, ?_⟩⟩
    show if (!d.hasV v) = true then _ else _
    cases hh : d.hasV v with
    | false => exact iteT ⟨_, rfl, mkO_1 (q2 hh)⟩
    | true => exact iteF (q1 hh)

structure P6 (P : Program) (w : World) (K : Frag) (mg : Str → Option Value) (base : Heap) : Prop extends P5 P w K mg base where
  check_value : FnAt P w K mg base (L2.CX P w) 5 "check_value" ["field", "thing"] (spChkV K)

abbrev s_text_of : Stmt := top 40
theorem sc_text_of : FnScope ["field", "value"] ["field", "value"] (defScope s_text_of) := ⟨rfl, rfl, rfl, by decide +kernel, rfl, by decide +kernel, by decide +kernel⟩

theorem ok_text_of (F : FunD K "text_of" "text_of" (defArgs s_text_of) (defBody s_text_of) (defScope s_text_of) [] [] f fd) (G : P6 P w K mg base) : FnOk P w K mg base (L2.CX P w) 6 f fd ["field", "value"] (spTextOf K) := by
  refine F.ok (CX := (L2.CX P w)) sc_text_of (fun vs H Q E h => ?_) (fun cdv A outer s H vs Q E hr h => ?_)
  · obtain ⟨y, d, v, rfl, _⟩ := h
    rfl
  · have hr4 : Room 4 _ := hr.mono (by decide)
    refine ⟨_, (pss_cons (ps_expr (pe_fnS G.check_value hr (fun σ => passAt (takes_of rfl rfl rfl rfl) σ) (by rfl) (pa_cons (pv 0) (pa_cons (pv 1) pa_nil))))
    (pss_one (ps_ret (pe_methD (CX := CX0) (pv 0) pass0 (pa_cons (pv 1) pa_nil))))), ?_⟩
    obtain ⟨y, d, v, rfl, hF, hf, hz, q1, q2⟩ := h
    obtain ⟨sp, M, Hs⟩ := G.tf5 hF
    obtain ⟨fde, Fe, Be⟩ := M.ok
    obtain ⟨dx, fs, hi, hno⟩ := hF.ins (g := "text_for") (by decide +kernel)
    refine ⟨_, rfl, _, rfl, y, d, v, rfl, hF, hf, hz, fun hh => ?_, fun hh => q2 hh⟩
    obtain ⟨hv, ho, q⟩ := q1 hh
    exact ⟨_, rfl, y, _, dx, _, fs, 4, fde, _, sp, rfl, hi, hno, G.cl _ d.ci_lt, M.me, Fe, hr4, Be, _, rfl, Hs _ _ _ hv hh ho q⟩

abbrev s_value_of : Stmt := top 41
theorem sc_value_of : FnScope ["field", "text"] ["field", "text"] (defScope s_value_of) := ⟨rfl, rfl, rfl, by decide +kernel, rfl, by decide +kernel, by decide +kernel⟩

theorem ok_value_of (F : FunD K "value_of" "value_of" (defArgs s_value_of) (defBody s_value_of) (defScope s_value_of) [] [] f fd) (G : P6 P w K mg base) : FnOk P w K mg base (L2.CX P w) 5 f fd ["field", "text"] (spValueOf K) := by
  refine F.ok (CX := (L2.CX P w)) sc_value_of (fun vs H Q E h => ?_) (fun cdv A outer s H vs Q E hr h => ?_)
  · obtain ⟨y, d, v, rfl, _⟩ := h
    rfl
  · have hr4 : Room 4 _ := hr
    refine ⟨_, (pss_cons (ps_if (PW.pt (pw_or (pt_not (pt_val (pe_callB call_ie (by rfl) G.isinstance (by decide +kernel) (pa_cons (pv 1) (pa_cons (pe_bty (n := "str") (by rfl) G.str (by decide +kernel)) pa_nil))))) (pw_or1 (pt_not (pt_val (pe_methD (CX := CX0) (pv 0) pass0 (pa_cons (pv 1) pa_nil)))))))
      (pss_one (ps_raise rfl (takes_of rfl rfl rfl rfl) (pmk_1 G.nt (hr.mono (by decide)) (by rfl) (pa_cons (pv 1) pa_nil))))
      pss_nil)
    (pss_one (ps_ret (pe_methD (CX := CX0) (pv 0) pass0 (pa_cons (pv 1) pa_nil))))), ?_⟩
    obtain ⟨y, d, v, rfl, hF, ht, q1, q2⟩ := h
    refine ⟨_, rfl, _, _, _, _, _, rfl, .ty _, .x (.base (.str _)), kit_ty (show kitB "str" "str" = some true by decide +kernel), _, rfl, iteF ?_⟩
    obtain ⟨sp, M, Hs⟩ := G.ht5 hF
    obtain ⟨fde, Fe, Be⟩ := M.ok
    obtain ⟨dx, fs, hi, hno⟩ := hF.ins (g := "has_text") (by decide +kernel)
    refine ⟨_, rfl, y, _, dx, _, fs, 4, fde, _, sp, rfl, hi, hno, G.cl _ d.ci_lt, M.me, Fe, hr4, Be, _, rfl, Hs _ _ _ ht ⟨_, rfl, ?_⟩⟩
    show if (!d.hasT v) = true then _ else _
    cases hh : d.hasT v with
    | false => exact iteT ⟨_, rfl, mkO_1 (q2 hh)⟩
    | true =>
      refine iteF ?_
      clear Hs M Fe Be
      obtain ⟨hn, q⟩ := q1 hh
      obtain ⟨sp2, M, Hs⟩ := G.vf5 hF
      obtain ⟨fde2, Fe2, Be2⟩ := M.ok
      obtain ⟨dx2, fs2, hi2, hno2⟩ := hF.ins (g := "value_for") (by decide +kernel)
      exact ⟨_, rfl, y, _, dx2, _, fs2, 4, fde2, _, sp2, rfl, hi2, hno2, G.cl _ d.ci_lt, M.me, Fe2, hr4, Be2, _, rfl, Hs _ _ _ ht hh hn q⟩

abbrev s_is_before : Stmt := top 42
theorem sc_is_before : FnScope ["field", "one", "other"] ["field", "one", "other"] (defScope s_is_before) := ⟨rfl, rfl, rfl, by decide +kernel, rfl, by decide +kernel, by decide +kernel⟩

theorem ok_is_before (F : FunD K "is_before" "is_before" (defArgs s_is_before) (defBody s_is_before) (defScope s_is_before) [] [] f fd) (G : P6 P w K mg base) : FnOk P w K mg base (L2.CX P w) 6 f fd ["field", "one", "other"] (spIsBef K) := by
  refine F.ok (CX := (L2.CX P w)) sc_is_before (fun vs H Q E h => ?_) (fun cdv A outer s H vs Q E hr h => ?_)
  · obtain ⟨y, d, v, u, rfl, _⟩ := h
    rfl
  · have hr4 : Room 4 _ := hr.mono (by decide)
    refine ⟨_, (pss_cons (ps_expr (pe_fnS G.check_value hr (fun σ => passAt (takes_of rfl rfl rfl rfl) σ) (by rfl) (pa_cons (pv 0) (pa_cons (pv 1) pa_nil))))
    (pss_cons (ps_expr (pe_fnS G.check_value hr (fun σ => passAt (takes_of rfl rfl rfl rfl) σ) (by rfl) (pa_cons (pv 0) (pa_cons (pv 2) pa_nil))))
    (pss_one (ps_ret (pe_methD (CX := CX0) (pv 0) pass0 (pa_cons (pv 1) (pa_cons (pv 2) pa_nil))))))), ?_⟩
    obtain ⟨y, d, v, u, rfl, hF, hf, hz, q1, q2⟩ := h
    obtain ⟨sp, M, Hs⟩ := G.pb5 hF
    obtain ⟨fde, Fe, Be⟩ := M.ok
    obtain ⟨dx, fs, hi, hno⟩ := hF.ins (g := "puts_before") (by decide +kernel)
    refine ⟨_, rfl, _, rfl, y, d, v, rfl, hF, hf, hz, fun hh => ?_, fun hh => q1 hh⟩
    obtain ⟨hf2, hz2, q3, q4⟩ := q2 hh
    refine ⟨_, rfl, _, rfl, y, d, u, rfl, hF, hf2, hz2, fun hh2 => ?_, fun hh2 => q3 hh2⟩
    exact ⟨_, rfl, y, _, dx, _, fs, 4, fde, _, sp, rfl, hi, hno, G.cl _ d.ci_lt, M.me, Fe, hr4, Be, _, rfl, _, rfl, Hs _ _ _ _ hh hh2 (q4 hh2)⟩

end
end L2.K08

set_option Elab.async false
set_option linter.all false
set_option maxRecDepth 100000
set_option maxHeartbeats 4000000
/-! sorted of a text, of a list or a tuple of texts by a lambda (length, text), of a list of pairs (whole number, text). -/
namespace L2.Jk
open PySem PySem.W PySem.Spec PySem.Calls PyProof.Rows LamX
section
variable {prog : Program} {w : World} {A : Around} {E : Value → Shared → Prop} {s : Shared}
theorem collect_tup {l : Addr} {vs : List Value} {Q : List Value → Shared → Prop} (hl : IsTup s.heap l vs.toArray)
    (h : ∀ h', (∀ b o, s.heap.get? b = some o → h'.get? b = some o) → Q vs { s with heap := h' }) (hsz : vs.length ≤ sizeLine) :
    wpAny (model prog w) A (collect (.ref l)) Q E s := by
  obtain ⟨o, ho, hc, n, hd⟩ := id hl
  unfold collect
  refine wpAny_bind (wpAny_runValue (codeAny_builtin entry_proto_collect' ?_))
  show wpAny _ _ (do again (.builtin "list.__iadd__" ⟨[← newList [], .ref l], []⟩)) _ _ s
  refine wpAny_bind (wpAny_newList (wpAny_pure ⟨Code.quiet_builtin _ (by decide +kernel), codeAny_builtin entry_list_iadd' ?_⟩))
  show wpAny _ _ (Builtin.List.listExtendWith (.ref s.heap.objs.size) (.ref l) (.ref s.heap.objs.size)) _ _ { s with heap := s.heap.push (seqObj "list" #[] 0) }
  unfold Builtin.List.listExtendWith
  have ho' : (s.heap.push (seqObj "list" #[] 0)).get? l = some o := Heap.get?_push_of_some _ ho
  refine wpAny_bind (wpAny_typeOf (T := "tuple") ⟨o, ho', hc⟩ ?_)
  have ht : (Value.type "tuple" == Value.type "tuple") = true := by rfl
  rw [if_pos (by rw [ht]; simp)]
  refine wpAny_bind (listItems_at ho' hd ?_)
  refine wpAny_bind (listItems_at (xs := #[]) (n := 0) (Heap.get?_push_size _ rfl) rfl ?_)
  rw [if_neg (by simp)]
  refine wpAny_bind (listUpdate_at (xs := #[]) (n := 0) (Heap.get?_push_size _ rfl) rfl ?_ (Nat.zero_le _) (by show (#[] ++ vs.toArray).size ≤ sizeLine + 1; simp only [Array.size_append, List.size_toArray, List.length_nil]; omega))
  refine wpAny_pure ?_
  show wpAny (model prog w) A (do
      let o ← load s.heap.objs.size
      match o.data with
      | .seq xs _ => pure xs.toList
      | _ => unsupported "internal:collect") Q E { s with heap := (s.heap.push (seqObj "list" #[] 0)).update s.heap.objs.size (Obj.mapSeq (· ++ vs.toArray)) }
  refine wpAny_bind (wpAny_load (get?_update_seq (Heap.get?_push_size _ rfl) _) ?_)
  show wpAny _ _ (pure ((#[] : Array Value) ++ vs.toArray).toList) Q E _
  rw [show ((#[] : Array Value) ++ vs.toArray).toList = vs by simp]
  exact wpAny_pure (h _ fun b o e => (Heap.get?_update_other _ _ (Ne.symm (Nat.ne_of_lt (Heap.lt_size e)))).trans (Heap.get?_push_of_some _ e))
theorem collect_str {Q : List Value → Shared → Prop} (hh : A.handled = none) (x : Str) (t : Tok)
    (hQ : ∀ (h' : Heap) (tk : Nat) (acc : Array Value), (∀ b o, s.heap.get? b = some o → h'.get? b = some o) → ItemsOf (SignAt x) acc x.cps.size → Q acc.toList { s with heap := h', toks := tk }) (hn : x.cps.size ≤ sizeLine) :
    wpAny (model prog w) A (collect (.str x t)) Q E s := by
  unfold collect
  refine wpAny_bind (wpAny_runValue (codeAny_builtin F.entry_proto_collect ?_))
  rw [Around.under_plainId F.plain_proto_collect _]
  show wpAny _ A.in1 (newList [] >>= fun l => again (.builtin "list.__iadd__" ⟨[l, .str x t], []⟩)) _ _ s
  refine wpAny_bind (wpAny_newObj_type ?_)
  refine wpAny_pure ⟨plainId_quiet F.plain_list_iadd _, codeAny_builtin F.entry_list_iadd ?_⟩
  rw [Around.under_plainId F.plain_list_iadd _]
  show wpAny _ A.in1 (Builtin.List.listExtendWith (.ref s.heap.objs.size) (.str x t) (.ref s.heap.objs.size)) _ _ _
  have hS : (s.heap.push { cls := .type "list", data := .seq ([] : List Value).toArray }).get? s.heap.objs.size = some { cls := .type "list", data := .seq #[] 0 } := Heap.get?_push_size _ rfl
  refine wpAny_mono (wpAny_extend_str (A := A) (R := fun rr s' => rr = .ok (.ret (.ref s.heap.objs.size)) ∧ ∃ (h' : Heap) (tk : Nat) (acc : Array Value) (c' : Nat), s' = { s with heap := h', toks := tk } ∧
      (∀ b o, s.heap.get? b = some o → h'.get? b = some o) ∧ h'.get? s.heap.objs.size = some { cls := .type "list", dict := none, data := .seq acc c', slots := #[] } ∧ ItemsOf (SignAt x) acc x.cps.size)
    (s := { s with heap := s.heap.push { cls := .type "list", data := .seq ([] : List Value).toArray } }) hh x t _ _ 0 hS
    (fun h' tk acc c' hk e hi => ⟨rfl, h', tk, acc, c', rfl, fun b o q => hk b o (Nat.ne_of_lt (Heap.lt_size q)) (Heap.get?_push_of_some _ q), e, hi⟩) hn) (fun fin s' h => ?_) (fun e s' h => ?_)
  · cases fin with
    | done f =>
      obtain ⟨e, h', tk, acc, c', rfl, hk, hS', hi⟩ := h
      cases e
      show wpAny _ A (load s.heap.objs.size >>= _) _ _ _
      exact wpAny_bind (wpAny_load hS' (wpAny_pure (hQ h' tk acc hk hi)))
    | again c' =>
      refine ⟨h.1, codeAny_mono h.2 fun rr s'' hr' => ?_⟩
      obtain ⟨rfl, h', tk, acc, c', rfl, hk, hS', hi⟩ := hr'
      show wpAny _ A (load s.heap.objs.size >>= _) _ _ _
      exact wpAny_bind (wpAny_load hS' (wpAny_pure (hQ h' tk acc hk hi)))
  · exact absurd h.1 (by simp)
/-- sorted(x, ..) is list.sort(..) on a new list of what collect gives -/
theorem sorted_col {x : Value} {kw : List (Str × Value)} {Q : Value → Shared → Prop} (ha1 : argsOk "sorted" ⟨[x], kw⟩) (ha2 : ∀ y, argsOk "list.sort" ⟨[.ref y], kw⟩)
    (h : wpAny (model prog w) A.in1 (collect x) (fun vs s1 => vs.length ≤ sizeLine ∧ ∀ E' : Value → Shared → Prop, wpAny (model prog w) A.in1.in1 (Builtin.«list.sort» ⟨[.ref s1.heap.objs.size], kw⟩)
      (fun f s' => f = .done (.ret .none) ∧ Q (.ref s1.heap.objs.size) s') E' { s1 with heap := s1.heap.push (seqObj "list" vs.toArray 0) }) (fun e s' => E e s') s) :
    wpAny (model prog w) A (call (.builtin "sorted") [x] kw) Q E s := by
  refine call_function_entry_kw kind_sorted plain_sorted entry_sorted ha1 ?_
  unfold Builtin.«sorted»
  refine wpAny_bind (m := checkCount "sorted" 1 1 _) (wpAny_pure ?_)
  refine wpAny_bind (wpAny_mono h (fun vs s1 ⟨hL, body⟩ => ?_) fun _ _ e => e)
  refine wpAny_bind (wpAny_newList ?_ hL)
  show wpAny _ _ _ _ _ { s1 with heap := s1.heap.push (seqObj "list" vs.toArray 0) }
  refine wpAny_bind (wpAny_holding (wpAny_call_entry_kw slot_list_sort ⟨_, Heap.get?_push_size _ rfl, rfl⟩ entry_list_sort ?body (ha2 _)))
  case body =>
    refine wpAny_mono (body _) (fun f s' hf => ?_) fun _ _ e => e
    obtain ⟨rfl, hq⟩ := hf
    exact ⟨_, rfl, wpAny_pure ⟨_, rfl, hq⟩⟩
/-- the lambda text: (len(text), text), called -/
theorem lam_len {mg mb : Str → Option Value} {f c' : Addr} {q x : Str} {params : Arguments} {scope : Scope} {cl : List (Str × Addr)} {pm ctv : Value} {k : Nat} {p1 p2 p3 p4 p5 : Pos} {t : Str} {tk : Tok}
    (of : s.heap.get? f = some (kla_obj "<lambda>" q params (.Tuple [.Call (.Name "len" p1) [.Name x p2] [] p3, .Name x p4] k p5) scope cl pm c' ctv)) (hcode : s.heap.CodeRec (.ref c') q) (hdep : A.depth < recursionLimit) (lim : s.heap.NoLimit)
    (hg : s.heap.Ns mainGlobals mg) (hm : mg "len" = none) (hb : s.heap.Ns builtinsNs mb) (hv : mb "len" = some (.builtin "len")) (ht : t.length ≤ sizeLine)
    (hbind : ∀ v, bindArgs (kla_fn "<lambda>" q params (.Tuple [.Call (.Name "len" p1) [.Name x p2] [] p3, .Name x p4] k p5) scope cl pm (.ref c') ctv) ⟨[v], []⟩ = pure [(x, v)])
    (hx : scope.names.lookup x = some .local) (hl : scope.names.lookup ("len" : Str) = some .globalImplicit) (hk : scope.kind = .function) (hco : scope.isCoroutine = false) (hgen : scope.isGenerator = false) (hcell : ∀ y ∈ scope.names, y.2 ≠ .cell)
    (hxd : (x == ("__debug__" : Str)) = false) :
    wpAny (model prog w) A (call (.ref f) [.str t tk]) (KeyPure (.tuple [.int t.length, .str t]) s) (fun _ _ => False) s := by
  have rc : codeAny (model prog w) A (.call (.ref f) ⟨[.str t tk], []⟩) (fun r s' => ∃ v, r = .ok (.ret v) ∧ KeyPure (.tuple [.int t.length, .str t]) s v s') s := by
    refine kla_callFunE hdep of rfl hco hgen rfl hcode ?_
    rw [hbind]
    refine wpAny_pure (wpAny_newFunctionEnv hcell (fun y hy => by rw [List.mem_singleton.mp hy]; exact hx) (fun h₁ hns hsb => ⟨lim.fresh _ hsb, ?_⟩) hk)
    have kp : ∀ b o, s.heap.get? b = some o → h₁.get? b = some o := fun b o e => hsb.extBut b o (Nat.ne_of_lt (Heap.lt_size e)) (Heap.get?_push_of_some _ e)
    refine kla_codeExpr (wpAny_Tuple_spliced ?_)
    refine Calls.spliced_cons ?_
    refine wpAny_Call_Name_kw (Calls.Name_function_global hk hl (Calls.loadGlobal_builtin (hg.keeps kp) hm (hb.keeps kp) hv ?_) (by decide))
    refine PyProof.Rows.callWith_builtin1 (Calls.spliced_cons (wpAny_Name (wpAny_loadName_local (v := .str t tk) hk hx hns (by simp) (Calls.spliced_nil ?_)) hxd)) rfl rfl
    have hn := line63
    refine PyProof.Rows.len_str (by omega) ?_
    refine Calls.spliced_cons (wpAny_Name (wpAny_loadName_local (v := .str t tk) hk hx hns (by simp) (Calls.spliced_nil ⟨by rw [sizeLine_eq]; show 2 ≤ 16777216; decide, ?_⟩)) hxd)
    refine ⟨_, rfl, _, _, rfl, fun b o e => Heap.get?_push_of_some _ (kp b o e), ?_⟩
    exact .tuple (Heap.get?_push_size _ rfl) rfl rfl (.cons (.int _ _) (.cons (.str _ _) .nil))
  refine wpAny_call (codeAny_mono rc fun r s' hq => ?_)
  obtain ⟨v, rfl, h⟩ := hq
  exact h
end
/-- the key of a text: its length, then itself -/
def keyLL (t : Str) : PyData := .tuple [.int t.length, .str t]
def leLL (a b : Str) : Bool := decide (a.length < b.length ∨ (a.length = b.length ∧ a.cps.toList ≤ b.cps.toList))
def srtLL (ts : List Str) : List Str := ts.mergeSort leLL
theorem dataLe_LL : dataLe false keyLL = leLL := by
  funext p q
  show (!dataLt (.tuple [.int (q.length : Nat), .str q]) (.tuple [.int (p.length : Nat), .str p])) = _
  rw [dataLt_pair (by simp [alike]) (by simp [alike]), dataLt_int, dataLt_str]
  simp only [PyData.eqv, beq_iff_eq]
  unfold leLL
  by_cases h1 : (q.length : Int) = p.length
  · have h1' : q.length = p.length := by omega
    rw [if_pos h1]
    by_cases h2 : q = p
    · subst h2
      rw [if_pos rfl]
      exact (decide_eq_true (.inr ⟨rfl, List.le_refl _⟩)).symm
    · rw [if_neg h2]
      by_cases h3 : q.cps.toList < p.cps.toList
      · rw [decide_eq_true h3]
        exact (decide_eq_false fun h => by
          rcases h with h | ⟨_, h⟩
          · omega
          · exact List.not_lt.mpr h h3).symm
      · rw [decide_eq_false h3]
        exact (decide_eq_true (.inr ⟨h1'.symm, List.not_lt.mp h3⟩)).symm
  · rw [if_neg h1]
    by_cases h3 : (q.length : Int) < p.length
    · rw [decide_eq_true h3]
      exact (decide_eq_false fun h => by
        rcases h with h | ⟨h, _⟩ <;> omega).symm
    · rw [decide_eq_false h3]
      exact (decide_eq_true (.inl (by omega))).symm
theorem each_strs : ∀ {ts : List Str} {us : List Value}, Vals (ts.map V.str) us → EachIs (fun v t => ∃ tok, v = Value.str t tok) us ts
  | [], us, r => by
    cases r
    exact .nil
  | t :: ts, us, r => by
    rw [List.map_cons] at r
    cases r with
    | cons h k =>
      obtain ⟨tok, rfl⟩ := h
      exact .cons ⟨tok, rfl⟩ (each_strs k)
theorem strs_each : ∀ {ts : List Str} {us : List Value}, EachIs (fun v t => ∃ tok, v = Value.str t tok) us ts → Vals (ts.map V.str) us
  | _, _, .nil => .nil
  | _, _, .cons ⟨tok, h⟩ k => .cons ⟨tok, h⟩ (strs_each k)
def tSortLL (K : Frag) (T : List (Addr × Str)) (te : TE) : TE := fun σ H Q => te σ H fun x H1 => ∃ (a : Addr) (ts : List Str), x = .ref a ∧ (SqL K H1 a (ts.map V.str) ∨ SqT K H1 a (ts.map V.str)) ∧ (∀ t ∈ ts, t.length ≤ sizeLine) ∧ Tabs T H1 ∧
  ∀ H2 p, LamX.ExtN H1 H2 → Tabs T H2 → H2 p = none → Q (.ref p) (upd H2 p (.lst ((srtLL ts).map V.str)))
section
variable {X : Cx}
/-- sorted(xs, key=lambda x: (len(x), x)), xs a list or a tuple of texts -/
theorem pe_sortLL {T : List (Addr × Str)} {c P : Addr} {x : Str} {params : Arguments} {scope : Scope} {k : Nat} {p1 p2 p3 p4 p5 p pos lpos kpos : Pos} {e : Expr} {te : TE}
    (hg : Gl X "sorted") (hm : X.mg "sorted" = none) (hml : X.mg "len" = none) (hr : Room 0 X.A) (he : PE X e te) (TB : TabB X.base X.mg c P) (hcode : X.env.code = .ref c) (hmT : (P, X.env.qual ++ "<lambda>") ∈ T) (hu : ∀ p ∈ T, p.1 = P → p.2 = X.env.qual ++ "<lambda>") (hdef : defaultsOf params X.env = ([], []))
    (hfree : ∀ y ∈ scope.names, y.2 ≠ .free)
    (hbind : ∀ (q : Str) (cl : List (Str × Addr)) (pm cv ctv v : Value), bindArgs (kla_fn "<lambda>" q params (.Tuple [.Call (.Name "len" p1) [.Name x p2] [] p3, .Name x p4] k p5) scope cl pm cv ctv) ⟨[v], []⟩ = pure [(x, v)])
    (hx : scope.names.lookup x = some .local) (hl : scope.names.lookup ("len" : Str) = some .globalImplicit) (hk : scope.kind = .function) (hco : scope.isCoroutine = false) (hgen : scope.isGenerator = false) (hcell : ∀ y ∈ scope.names, y.2 ≠ .cell)
    (hxd : (x == ("__debug__" : Str)) = false := by decide)
    (he1 : backTo pos (starEach [e] X.env) = (false, eval e X.env) :: backTo pos (starEach [] X.env) := by rfl) (hpl : (backTo pos (starEach [e] X.env)).any (·.1) = false := by rfl) :
    PE X (.Call (.Name "sorted" p) [e] [⟨some "key", .Lambda params (.Tuple [.Call (.Name "len" p1) [.Name x p2] [] p3, .Name x p4] k p5) scope lpos, kpos⟩] pos) (tSortLL X.K T te) := by
  refine ⟨fun pins s σ H Q I h => ?_⟩
  refine wpAny_Call_Name_kw (ld_blt I hg hm PyProof.Rows.boot_sorted ?_ (by decide) (by decide))
  refine PyProof.Rows.callWith_kw ?_ he1 hpl rfl rfl
  rw [he1]
  refine Calls.spliced_cons (thn (he.run pins s σ H _ I h) fun u s1 ⟨x1, H1, I1, r1, q1⟩ => Calls.spliced_nil ?_)
  obtain ⟨a, ts, rfl, hsq, htl, hT, q⟩ := q1
  obtain rfl : u = Value.ref a := r1
  show wpAny _ _ (evalAll [do let v ← eval (.Lambda params (.Tuple [.Call (.Name "len" p1) [.Name x p2] [] p3, .Name x p4] k p5) scope lpos) X.env; standAt pos; pure v]) _ _ s1
  refine wpAny_evalAll_cons (wpAny_bind (LamX.lam_make2 I1 TB hcode hmT hu hT hdef (fun y hy z => absurd z (hfree y hy)) fun f c' pm ctv H2 s2 I2 eN T2 of hfn hfr hcc => wpAny_bind (wpAny_standAt (wpAny_pure (wpAny_evalAll_nil ?_)))))
  show wpAny _ _ (call (.builtin "sorted") [.ref a] [(Str.ofString "key", .ref f)]) _ _ s2
  obtain ⟨its, rv, hz, hcol⟩ : ∃ its : List Value, Vals (ts.map V.str) its ∧ its.length ≤ sizeLine ∧ ∀ {A : Around} {E' : Value → Shared → Prop} {Q' : List Value → Shared → Prop}, (∀ h', (∀ b o, s2.heap.get? b = some o → h'.get? b = some o) → Q' its { s2 with heap := h' }) → wpAny (model X.prog X.w) A (collect (.ref a)) Q' E' s2 := by
    rcases hsq with hs | hs
    · have hs2 : SqL X.K H2 a (ts.map V.str) := by
        rcases hs with (hs | ⟨o, hs⟩) | hs
        · exact .inl (.inl (eN _ _ hs fun ps z => by cases z))
        · exact .inl (.inr ⟨o, eN _ _ hs fun ps z => by cases z⟩)
        · exact .inr hs
      obtain ⟨its, rv, hl2, hz⟩ := I2.list hs2
      have hz2 : its.length ≤ sizeLine := by rw [← rv.length]; exact hz
      exact ⟨its, rv, hz2, fun h => collect_list hl2.isList (h _ fun b o e => (Heap.get?_update_other _ _ (Ne.symm (Nat.ne_of_lt (Heap.lt_size e)))).trans (Heap.get?_push_of_some _ e)) hz2⟩
    · have hs2 : SqT X.K H2 a (ts.map V.str) := by
        rcases hs with (hs | ⟨o, hs⟩) | hs
        · exact .inl (.inl (eN _ _ hs fun ps z => by cases z))
        · exact .inl (.inr ⟨o, eN _ _ hs fun ps z => by cases z⟩)
        · exact .inr hs
      obtain ⟨its, rv, hl2, hz⟩ := I2.tuple hs2
      have hz2 : its.length ≤ sizeLine := by rw [← rv.length]; exact hz
      exact ⟨its, rv, hz2, fun h => collect_tup hl2 h hz2⟩
  have ev := each_strs rv
  have hn : X.A.units + 200 < cLine := by have := hr.un; omega
  obtain ⟨⟨oc, vs0, t0, hoc, hdc, hvc⟩, _, _⟩ := I2.hok c' _ hcc
  obtain ⟨mb, hb1, hb2⟩ := I2.mod.blt
  have hdk : ∀ t : Str, (keyLL t).depth = 1 := fun t => by simp [keyLL, PyData.depth, PyData.depthAll]
  refine sorted_col (ksk_s1 _ _) (fun _ => ksk_l1 _ _) (hcol fun h1 k1 => ⟨hz, fun E' => ?_⟩)
  rw [ksk_t1]
  have k2 : ∀ b o, s2.heap.get? b = some o → (h1.push (seqObj "list" its.toArray 0)).get? b = some o := fun b o e => Heap.get?_push_of_some _ (k1 b o e)
  have fresh : s2.heap.get? h1.objs.size = none := by
    cases e : s2.heap.get? h1.objs.size with
    | none => rfl
    | some o => exact absurd (Heap.lt_size (k1 _ _ e)) (Nat.lt_irrefl _)
  have keep : ∀ {g : Heap}, KeepsBut h1.objs.size (h1.push (seqObj "list" its.toArray 0)) g → ∀ b o, s2.heap.get? b = some o → g.get? b = some o := fun kp b o e =>
    kp b o (fun z => by rw [z, fresh] at e; cases e) (k2 b o e)
  refine keyH_tree (kz := ts.map keyLL) (s := { s2 with heap := h1.push (seqObj "list" its.toArray 0) }) (Heap.get?_push_size _ rfl) (by rw [List.length_map]; exact ev.length.symm) hz (AllAlike.of fun _ _ => by simp [alike, alikeAll, keyLL]) (Sortable.tuples fun _ => ⟨_, _, rfl⟩)
    (bound_map fun t _ => by rw [hdk]; show X.A.units + 1 + 1 + 1 < cLine; omega) (keyH_turns ev fun v t ⟨tok, hv⟩ ht h tk kp => ?_) fun h' tk out c2 kp hD ko => ⟨rfl, ?_⟩
  · subst hv
    have kk := keep kp
    exact lam_len (s := { s2 with heap := h, toks := tk }) (mg := X.mg) (mb := mb) (kk _ _ of) ⟨c', oc, vs0, t0, rfl, kk _ _ hoc, hdc, hvc⟩ (by have := hr.dp; show X.A.depth < _; omega) (I2.nolimit.keeps kk) (by have z := (I2.mod.glob.keeps I2.bk).keeps kk; exact z) hml
      ((hb1.keeps I2.bk).keeps kk) ((hb2 _ (by decide)).trans boot_len) (htl t ht) (fun v => hbind _ _ _ _ _ v) hx hl hk hco hgen hcell hxd
  · have hlen := (ko.length (by rw [List.length_map]; exact ev.length.symm)).trans ev.length
    have eo := keyedOut_each keyLL ko ev
    rw [dataLe_LL] at eo
    have rout : Vals ((srtLL ts).map V.str) out := strs_each eo
    have hfn2 : H2 h1.objs.size = none := I2.hok.gone fresh
    exact ⟨.ref h1.objs.size, upd H2 h1.objs.size (.lst ((srtLL ts).map V.str)), I2.laidN (t' := tk) (keep kp) fresh hfn2 ⟨by rw [rout.length, hlen, ← ev.length]; exact hz, out, c2, rout, hD⟩, rfl, q _ _ eN T2 hfn2⟩
end
end L2.Jk

set_option Elab.async false
set_option linter.all false
set_option maxRecDepth 100000
set_option maxHeartbeats 4000000
/-! sorted of a text's signs; sorted of a list of pairs (whole number, text). -/
namespace L2.Jk
open PySem PySem.W PySem.Spec PySem.Calls PyProof.Rows LamX
def srtC (z : Str) : List Nat := z.cps.toList.mergeSort fun a b => decide (a ≤ b)
theorem each_items {z : Str} {acc : Array Value} (h : ItemsOf (SignAt z) acc z.cps.size) : EachIs (fun v c => ∃ u, v = Value.str ⟨#[c]⟩ u) acc.toList z.cps.toList := by
  refine EachIs.of_zip (by rw [Array.length_toList, Array.length_toList]; exact h.1) fun p hp => ?_
  obtain ⟨i, hi⟩ := List.getElem?_of_mem hp
  rw [List.getElem?_zip_eq_some] at hi
  obtain ⟨h1, h2⟩ := hi
  obtain ⟨c, u, e1, e2⟩ := h.2 i p.1 (by rw [← Array.getElem?_toList]; exact h1)
  rw [← Array.getElem?_toList, h2] at e1
  exact ⟨u, by rw [e2, Option.some.inj e1]⟩
theorem signs_each : ∀ {cs : List Nat} {us : List Value}, EachIs (fun v c => ∃ u, v = Value.str ⟨#[c]⟩ u) us cs → Vals (cs.map fun c => V.str ⟨#[c]⟩) us
  | _, _, .nil => .nil
  | _, _, .cons ⟨u, h⟩ k => .cons ⟨u, h⟩ (signs_each k)
def encC (c : Nat) : PyData := .str ⟨#[c]⟩
theorem dataLe_C : dataLe false encC = fun a b => decide (a ≤ b) := by
  have h := dataLe_str fun c : Nat => (⟨#[c]⟩ : Str)
  show dataLe false (fun c : Nat => .str ⟨#[c]⟩) = _
  rw [h]
  funext a b
  show decide ([a] ≤ [b]) = _
  refine decide_eq_decide.mpr ?_
  rw [List.cons_le_cons_iff]
  constructor
  · rintro (h | ⟨h, _⟩) <;> omega
  · intro h
    rcases Nat.lt_or_eq_of_le h with h | h
    · exact .inl h
    · exact .inr ⟨h, List.le_refl _⟩
section
variable {X : Cx}
theorem cr_sortedTx (hc : X.calm = true) (hu : X.A.units + 64 < cLine) : CallR X (.builtin "sorted") (fun xs H Q => ∃ z, xs = [.str z] ∧ z.length ≤ sizeLine ∧ ∀ p, H p = none → Q (.ref p) (upd H p (.lst ((srtC z).map fun c => V.str ⟨#[c]⟩)))) := by
  intro pins s σ H xs us Q I r q
  obtain ⟨z, rfl, hz, q⟩ := q
  obtain ⟨u, rfl, t, rfl⟩ := vals1 r
  refine sorted_col (args_sorted1 _) (fun _ => args_list_sort _) (collect_str (by exact I.ok.hd hc) z t (fun h1 tk1 acc k1 hi => ⟨by rw [Array.length_toList, hi.1]; exact hz, fun E' => ?_⟩) hz)
  have ev := each_items hi
  have hL : acc.toList.length ≤ sizeLine := by rw [Array.length_toList, hi.1]; exact hz
  have ho : (h1.push (seqObj "list" acc.toList.toArray 0)).get? h1.objs.size = some (seqObj "list" acc.toList.toArray 0) := Heap.get?_push_size _ rfl
  have er : EachIs (fun v c => ∃ as, Reads (sortingHeap (h1.push (seqObj "list" acc.toList.toArray 0)) h1.objs.size acc.toList) v (encC c) as) acc.toList z.cps.toList := ev.mono fun v c ⟨u, e⟩ => ⟨[], by rw [e]; exact .str _ _⟩
  have hal : AllAlike (z.cps.toList.map encC) := AllAlike.of fun _ _ => by simp [alike, encC]
  have hdk : ∀ c : Nat, (encC c).depth = 0 := fun c => by simp [encC, PyData.depth]
  have fresh : s.heap.get? h1.objs.size = none := by
    cases e : s.heap.get? h1.objs.size with
    | none => rfl
    | some o => exact absurd (Heap.lt_size (k1 _ _ e)) (Nat.lt_irrefl _)
  refine list_sort_vals (s := { s with heap := h1.push (seqObj "list" acc.toList.toArray 0), toks := tk1 }) ho (SortsAt.data (s := { s with heap := sortingHeap (h1.push (seqObj "list" acc.toList.toArray 0)) h1.objs.size acc.toList, toks := tk1 }) (each_map (R := fun v d => ∃ as, Reads (sortingHeap (h1.push (seqObj "list" acc.toList.toArray 0)) h1.objs.size acc.toList) v d as) encC er) hal (Sortable.others fun c => ⟨fun z => (by cases z), fun xs z => (by cases z)⟩)
    (bound_map fun c _ => by rw [hdk]; show X.A.units + 1 + 1 + 0 < cLine; omega)) hL ⟨rfl, ?_⟩
  have eo := sortVals_data false ev er hal
  rw [dataLe_C] at eo
  have rout : Vals ((srtC z).map fun c => V.str ⟨#[c]⟩) _ := signs_each eo
  obtain ⟨n2, hat⟩ := sortedHeap_at (vs := acc.toList) (out := (sortVals (dataKind (sortingHeap (h1.push (seqObj "list" acc.toList.toArray 0)) h1.objs.size acc.toList) (z.cps.toList.map encC)) false acc.toList acc.toList).toArray) ho
  have hlen := sortVals_length (κ := dataKind (sortingHeap (h1.push (seqObj "list" acc.toList.toArray 0)) h1.objs.size acc.toList) (z.cps.toList.map encC)) false (ks := acc.toList) (vs := acc.toList) rfl
  exact ⟨.ref h1.objs.size, upd H h1.objs.size (.lst ((srtC z).map fun c => V.str ⟨#[c]⟩)), I.laidN (t' := tk1) (fun b o e => (sortedHeap_old (fun z => by rw [z, fresh] at e; cases e) (Heap.lt_size (Heap.get?_push_of_some _ (k1 b o e)))).trans (Heap.get?_push_of_some _ (k1 b o e))) fresh (I.hok.gone fresh) ⟨by rw [rout.length, hlen]; exact hL, _, n2, rout, hat⟩, rfl, q _ (I.hok.gone fresh)⟩
/-! ### pairs (whole number, text) -/
abbrev IS := Addr × Int × Str
def encIS (b : IS) : PyData := .tuple [.int b.2.1, .str b.2.2]
def leIS (a b : IS) : Bool := decide (a.2.1 < b.2.1 ∨ (a.2.1 = b.2.1 ∧ a.2.2.cps.toList ≤ b.2.2.cps.toList))
theorem dataLe_IS : dataLe false encIS = leIS := by
  funext p q
  show (!dataLt (.tuple [.int q.2.1, .str q.2.2]) (.tuple [.int p.2.1, .str p.2.2])) = _
  rw [dataLt_pair (by simp [alike]) (by simp [alike]), dataLt_int, dataLt_str]
  simp only [PyData.eqv, beq_iff_eq]
  unfold leIS
  by_cases h1 : q.2.1 = p.2.1
  · rw [if_pos h1]
    by_cases h2 : q.2.2 = p.2.2
    · rw [if_pos h2, h2]
      exact (decide_eq_true (.inr ⟨h1.symm, List.le_refl _⟩)).symm
    · rw [if_neg h2]
      by_cases h3 : q.2.2.cps.toList < p.2.2.cps.toList
      · rw [decide_eq_true h3]
        exact (decide_eq_false fun h => by
          rcases h with h | ⟨_, h⟩
          · omega
          · exact List.not_lt.mpr h h3).symm
      · rw [decide_eq_false h3]
        exact (decide_eq_true (.inr ⟨h1.symm, List.not_lt.mp h3⟩)).symm
  · rw [if_neg h1]
    by_cases h3 : q.2.1 < p.2.1
    · rw [decide_eq_true h3]
      exact (decide_eq_false fun h => by
        rcases h with h | ⟨h, _⟩ <;> omega).symm
    · rw [decide_eq_false h3]
      exact (decide_eq_true (.inl (by omega))).symm
theorem refs_each : ∀ {bs : List IS} {us : List Value}, EachIs (fun v (b : IS) => v = Value.ref b.1) us bs → Vals (bs.map fun b => V.ref b.1) us
  | _, _, .nil => .nil
  | _, _, .cons h k => by
    subst h
    exact .cons rfl (refs_each k)
theorem each_refs : ∀ {bs : List IS} {us : List Value}, Vals (bs.map fun b => V.ref b.1) us → EachIs (fun v (b : IS) => v = Value.ref b.1) us bs
  | [], _, r => by
    cases r
    exact .nil
  | b :: bs, us, r => by
    rw [List.map_cons] at r
    cases r with
    | cons h k => exact .cons h (each_refs k)
def rSortIS (K : Frag) : List V → Hp → VK → Prop := fun xs H Q => ∃ (a : Addr) (bs : List IS), xs = [.ref a] ∧ SqL K H a (bs.map fun b => V.ref b.1) ∧ (∀ b ∈ bs, SqT K H b.1 [.int b.2.1, .str b.2.2]) ∧ ∀ p, H p = none → Q (.ref p) (upd H p (.lst ((bs.mergeSort leIS).map fun b => V.ref b.1)))
theorem cr_sortedIS (hu : X.A.units + 64 < cLine) : CallR X (.builtin "sorted") (rSortIS X.K) := by
  intro pins s σ H xs us Q I r q
  obtain ⟨a, bs, rfl, hs, hb, q⟩ := q
  obtain rfl := Vals.ref1 r
  obtain ⟨its, rv, hl2, hz⟩ := I.list hs
  have ev := each_refs rv
  have er : EachIs (fun v b => ∃ as, Reads s.heap v (encIS b) as) its bs := (each_mem ev).mono fun v b ⟨e, hm⟩ => by
    subst e
    obtain ⟨ws, rw2, ht, _⟩ := I.tuple (hb b hm)
    obtain ⟨w1, w2, rfl, e1, e2⟩ := vals2 rw2
    obtain ⟨t1, rfl⟩ := e1
    obtain ⟨t2, rfl⟩ := e2
    obtain ⟨o, ho, hcl, n, hd⟩ := ht
    exact ⟨_, .tuple ho hcl hd (.cons (.int _ _) (.cons (.str _ _) .nil))⟩
  have hdk : ∀ b : IS, (encIS b).depth = 1 := fun b => by simp [encIS, PyData.depth, PyData.depthAll]
  have hL : bs.length ≤ sizeLine := by rw [List.length_map] at hz; exact hz
  refine sorted_data hl2.isList ev er (AllAlike.of fun _ _ => by simp [alike, alikeAll, encIS]) (Sortable.tuples fun _ => ⟨_, _, rfl⟩) hL (fun b _ => by rw [hdk]; omega) fun out hlen eo => ?_
  rw [dataLe_IS] at eo
  have rout := refs_each eo
  obtain ⟨n2, hat⟩ := sortedAll_at s.heap its out.toArray
  exact ⟨.ref (s.heap.objs.size + 1), upd H (s.heap.objs.size + 1) (.lst ((bs.mergeSort leIS).map fun b => V.ref b.1)), I.laid (t' := s.toks) (fun _ _ => sortedAll_old) (Nat.le_succ _) ⟨by rw [rout.length, hlen]; exact hL, _, n2, rout, hat⟩, rfl, q _ (I.hok.fresh (Nat.le_succ _))⟩
end
end L2.Jk

set_option Elab.async false
set_option linter.all false
set_option maxRecDepth 100000
set_option maxHeartbeats 4000000
/-! Numbers and their digits, further up. -/
namespace L2.K08
open PySem PySem.W PySem.Spec PySem.Calls PyProof.Rows L2.Jk

def T (n : Nat) : Str := (toString ((n : Nat) : Int) : Str)
def spGr : Sp := fun vs H Q _ => ∃ n : Nat, vs = [.int (n : Nat)] ∧ 1 ≤ n ∧ n ≤ 7 ∧ Q (.int (10 ^ n - 1 : Nat)) H
theorem gr_ok : ∀ n ∈ [1, 2, 3, 4, 5, 6, 7], numOk (repS "9" (n : Nat)) = true ∧ repOk "9" (n : Nat) = true ∧ numOf (repS "9" (n : Nat)) = ((10 ^ n - 1 : Nat) : Int) := by decide +kernel
def spDigB : Sp := fun vs H Q _ => ∃ n : Nat, vs = [.int (n : Nat)] ∧ n < 12000 ∧ ∀ H', Same H H' → Q (.str (T n)) H'
theorem T_len {n : Nat} (h : n < 12000) : (T n).length ≤ 5 := toString_length_le (Int.natCast_nonneg n) (by decide) (by show (n : Int) < 100000; omega)
theorem log_ok {n : Nat} (h : n < 12000) : (n : Int).natAbs.log2 < 1920 := by
  have h : (n : Int).natAbs < 2 ^ 14 := by show n < 16384; omega
  by_cases h0 : (n : Int).natAbs = 0
  · rw [h0]
    decide
  · have := (Nat.log2_lt h0).mpr h
    omega
theorem join_one (x : Str) : Txt.join "" [x] = x := by
  rfl
theorem join_ok {x : Str} (h : x.length ≤ 100) : JoinOk "" [x] = true := by
  show (!decide (0 + x.length + 0 > 2 ^ 24)) = true
  rw [decide_eq_false (by omega)]
  rfl
section
variable {P : Program} {w : World} {K : Frag} {mg : Str → Option Value} {base : Heap} {f : Addr} {fd : FuncData}

abbrev s_gr : Stmt := top 26
theorem sc_gr : FnScope ["width"] ["width"] (defScope s_gr) := ⟨rfl, rfl, rfl, by decide +kernel, rfl, by decide +kernel, by decide +kernel⟩

theorem ok_gr (F : FunD K "greatest_of" "greatest_of" (defArgs s_gr) (defBody s_gr) (defScope s_gr) [] [] f fd) (N : FnAt P w K mg base CX0 1 "number_of" ["digits"] spNumOf) : FnOk P w K mg base CX0 2 f fd ["width"] spGr := by
  refine F.ok (CX := CX0) sc_gr (fun vs H Q E h => ?_) (fun cdv A outer s H vs Q E hr h => ?_)
  · obtain ⟨n, rfl, _⟩ := h
    rfl
  · refine ⟨_, PSs.nox (pss_one (ps_ret (pe_fn N hr pass0 (by rfl) (pa_cons (pe_op op_mulStr pe_str (pv 0)) pa_nil)))), ?_⟩
    obtain ⟨n, rfl, h1, h2, q⟩ := h
    obtain ⟨g1, g2, g3⟩ := gr_ok n (by simp only [List.mem_cons, List.not_mem_nil, or_false]; omega)
    exact ⟨_, rfl, "9", (n : Nat), rfl, rfl, g2, _, rfl, g1, by rw [g3]; exact q⟩


theorem ok_digits_big (F : FunD K "digits_of" "digits_of" (defArgs s_digits_of) (defBody s_digits_of) (defScope s_digits_of) [] [] f fd) (G : G0 P w K mg base) : FnOk P w K mg base CX0 1 f fd ["number"] spDigB := by
  refine F.ok (CX := CX0) sc_digits_of (fun vs H Q E h => ?_) (fun cdv A outer s H vs Q E hr h => ?_)
  · obtain ⟨n, rfl, _⟩ := h
    rfl
  · refine ⟨_, PSs.nox (pss_cons (ps_set (i := 1) sc_digits_of.nd rfl (Or.inl rfl) (pe_op op_pow pe_int pe_int))
    (pss_cons (ps_set (i := 2) sc_digits_of.nd rfl (Or.inl rfl) (pe_lstS pa_nil))
    (pss_cons (ps_while PassesOwn.never (pt_cmpR op_ge (pv 0) (pv 1) (nomark _)) pss_never)
    (pss_cons (ps_expr (pe_bm PySem.F.plainAttrs_list PySem.F.slot_list_append PySem.F.type_list_append mt_append (pv 2) (pa_cons (pe_callTy call_str_int (by rfl) G.str (by decide +kernel) (pa_cons (pv 0) pa_nil)) pa_nil)))
    (pss_one (ps_ret (pe_joinRev rfl (by rfl) G.reversed pe_str (pv 2)))))))), ?_⟩
    obtain ⟨k, rfl, h1, q⟩ := h
    have hl := T_len h1
    refine ⟨_, _, rfl, rfl, ⟨by decide, by decide, by decide⟩, ?_⟩
    refine ⟨by show 0 ≤ 1000; decide, fun p H1 hp S e => ?_⟩
    refine ⟨fun m σ' H' => m = 0 ∧ σ' = [some (.int (k : Int)), some (.int (10 ^ (64 : Int).toNat)), some (.ref p), none] ∧ H' = H1, ⟨0, rfl, rfl, rfl⟩, ?_⟩
    rintro m σ' H' ⟨rfl, rfl, rfl⟩
    refine ⟨_, rfl, _, rfl, _, _, rfl, rfl, _, rfl, ?_⟩
    refine ite2 (fun hf => ?_) (fun _ => ?_)
    · have z := of_decide_eq_true hf
      have e : (10 : Int) ^ (64 : Int).toNat = 10000000000000000000000000000000000000000000000000000000000000000 := by decide +kernel
      rw [e] at z
      omega
    refine ⟨_, rfl, .inl ⟨rfl, _, SqL.of e⟩, _, rfl, _, rfl, log_ok h1, p, _, _, rfl, rfl, e, (by rw [sizeLine_eq]; decide), ?_⟩
    refine ⟨_, rfl, _, rfl, p, [(toString (k : Int) : Str)], rfl, SqL.of upd_same, join_ok (Nat.le_trans hl (by decide)), ?_⟩
    have e2 : Txt.join "" ([(toString (k : Int) : Str)] : List Str).reverse = T k := join_one (T k)
    rw [e2]
    exact q _ (same_put S hp)


end
end L2.K08

set_option Elab.async false
set_option linter.all false
set_option maxRecDepth 100000
set_option maxHeartbeats 4000000
/-! All words of some signs, in order of length, as lists. -/
namespace L2.K08
open PySem PySem.W PySem.Spec PySem.Calls PyProof.Rows L2.Jk
def sg1 (c : Nat) : Str := ⟨#[c]⟩
/-- each sign ahead of each word -/
def flatW (cs : List Nat) (ws : List Str) : List Str := cs.flatMap fun c => ws.map fun w => sg1 c ++ w
def W (cs : List Nat) : Nat → List Str
  | 0 => [""]
  | n + 1 => flatW cs (W cs n)
/-- k lengths from l on -/
def up (cs : List Nat) (l : Nat) : Nat → List Str
  | 0 => []
  | k + 1 => up cs l k ++ W cs (l + k)
theorem flatW_len (cs : List Nat) (ws : List Str) : (flatW cs ws).length = cs.length * ws.length := by
  unfold flatW
  rw [List.length_flatMap]
  simp [List.map_const']
theorem W_len (cs : List Nat) : ∀ n, (W cs n).length = cs.length ^ n
  | 0 => rfl
  | n + 1 => by
    show (flatW cs (W cs n)).length = _
    rw [flatW_len, W_len cs n, Nat.pow_succ, Nat.mul_comm]
theorem W_pos {cs : List Nat} (h : cs ≠ []) (n : Nat) : 1 ≤ (W cs n).length := by
  rw [W_len]
  exact Nat.one_le_iff_ne_zero.mpr (Nat.pos_iff_ne_zero.mp (Nat.pow_pos (List.length_pos_iff.mpr h)))
theorem up_len {cs : List Nat} (h : cs ≠ []) (l : Nat) : ∀ k, k ≤ (up cs l k).length
  | 0 => Nat.le_refl _
  | k + 1 => by
    show k + 1 ≤ (up cs l k ++ W cs (l + k)).length
    have h1 := up_len h l k
    have h2 := W_pos h (l + k)
    rw [List.length_append]
    omega
theorem up_pre (cs : List Nat) (l k : Nat) : ∀ e, ∃ r, up cs l (k + e) = up cs l k ++ r
  | 0 => ⟨[], by rw [List.append_nil]; rfl⟩
  | e + 1 => by
    obtain ⟨r, h⟩ := up_pre cs l k e
    refine ⟨r ++ W cs (l + (k + e)), ?_⟩
    show up cs l (k + e) ++ W cs (l + (k + e)) = _
    rw [h, List.append_assoc]
theorem up_take {cs : List Nat} {l k1 k2 c : Nat} (h1 : c ≤ (up cs l k1).length) (h2 : c ≤ (up cs l k2).length) : (up cs l k1).take c = (up cs l k2).take c := by
  rcases Nat.le_total k1 k2 with h | h
  · obtain ⟨r, e⟩ := up_pre cs l k1 (k2 - k1)
    rw [show k1 + (k2 - k1) = k2 by omega] at e
    rw [e, List.take_append_of_le_length h1]
  · obtain ⟨r, e⟩ := up_pre cs l k2 (k1 - k2)
    rw [show k2 + (k1 - k2) = k1 by omega] at e
    rw [e, List.take_append_of_le_length h2]
/-- the first c of each sign ahead of each word want but the first c words -/
theorem take_flat (ws : List Str) (c : Nat) : ∀ cs : List Nat, (flatW cs (ws.take c)).take c = (flatW cs ws).take c
  | [] => rfl
  | x :: cs => by
    show ((((ws.take c).map fun w => sg1 x ++ w)) ++ flatW cs (ws.take c)).take c = ((ws.map fun w => sg1 x ++ w) ++ flatW cs ws).take c
    rw [List.take_append, List.take_append]
    have e1 : (((ws.take c).map fun w => sg1 x ++ w)).take c = (ws.map fun w => sg1 x ++ w).take c := by
      rw [List.map_take, List.take_take, Nat.min_self]
    rw [e1]
    congr 1
    rw [List.length_map, List.length_map, List.length_take]
    rcases Nat.le_total c ws.length with h | h
    · rw [Nat.min_eq_left h, Nat.sub_self, show c - ws.length = 0 by omega]
      rfl
    · rw [List.take_of_length_le h, Nat.min_eq_right h]
theorem W_take (cs : List Nat) (n c : Nat) : (flatW cs ((W cs n).take c)).take c = (W cs (n + 1)).take c := take_flat _ _ _
theorem up_step {cs : List Nat} {l i c : Nat} (h : (up cs l i).length < c) : up cs l i ++ (flatW cs (W cs (l + i - 1))).take (c - (up cs l i).length) = (up cs l i ++ flatW cs (W cs (l + i - 1))).take c := by
  rw [List.take_append, List.take_of_length_le (Nat.le_of_lt h)]
theorem W_chars {cs : List Nat} : ∀ {n : Nat} {t : Str}, t ∈ W cs n → t.length = n ∧ ∀ c ∈ t.cps.toList, c ∈ cs
  | 0, t, h => by
    cases List.mem_singleton.mp h
    exact ⟨rfl, fun c hc => by cases hc⟩
  | n + 1, t, h => by
    obtain ⟨x, hx, h⟩ := List.mem_flatMap.mp h
    obtain ⟨w, hw, rfl⟩ := List.mem_map.mp h
    obtain ⟨h1, h2⟩ := W_chars hw
    have e : (sg1 x ++ w).cps.toList = x :: w.cps.toList := by
      show (#[x] ++ w.cps).toList = _
      rw [Array.toList_append]
      rfl
    refine ⟨?_, fun c hc => ?_⟩
    · show (sg1 x ++ w).cps.size = n + 1
      rw [← Array.length_toList, e, List.length_cons, Array.length_toList]
      exact congrArg (· + 1) h1
    · rw [e] at hc
      rcases List.mem_cons.mp hc with rfl | hc
      · exact hx
      · exact h2 c hc
theorem up_chars {cs : List Nat} {l : Nat} : ∀ {k : Nat} {t : Str}, t ∈ up cs l k → l ≤ t.length ∧ t.length < l + k ∧ ∀ c ∈ t.cps.toList, c ∈ cs
  | 0, t, h => by cases h
  | k + 1, t, h => by
    rcases List.mem_append.mp h with h | h
    · obtain ⟨h1, h2, h3⟩ := up_chars h
      exact ⟨h1, by omega, h3⟩
    · obtain ⟨h1, h2⟩ := W_chars h
      exact ⟨by omega, by omega, h2⟩
/-- how many lengths are enough for c words -/
def kk (l : Nat) (m : V) (c : Nat) : Nat := match m with
  | .int j => (j + 1 - l).toNat
  | _ => c + 5
def LW (z : Str) (l : Nat) (m : V) (c : Nat) : List Str := up (srtC z) l (kk l m c)
end L2.K08

set_option Elab.async false
set_option linter.all false
set_option maxRecDepth 100000
set_option maxHeartbeats 4000000
/-! The words of a kind, the least first. -/
namespace L2.K08
open PySem PySem.W PySem.Spec PySem.Calls PyProof.Rows L2.Jk
theorem flat_pre (cs : List Nat) (ws : List Str) {i : Nat} {c : Nat} (h : cs[i]? = some c) (j : Nat) : ∃ r, flatW cs ws = (flatW (cs.take i) ws ++ (ws.take j).map fun w => sg1 c ++ w) ++ r := by
  obtain ⟨hi, e⟩ := List.getElem?_eq_some_iff.mp h
  have e1 : cs = cs.take i ++ c :: cs.drop (i + 1) := by rw [← e, List.getElem_cons_drop, List.take_append_drop]
  refine ⟨((ws.drop j).map fun w => sg1 c ++ w) ++ flatW (cs.drop (i + 1)) ws, ?_⟩
  have e2 : flatW cs ws = flatW (cs.take i) ws ++ ((ws.map fun w => sg1 c ++ w) ++ flatW (cs.drop (i + 1)) ws) := by
    conv => lhs; rw [e1]
    unfold flatW
    rw [List.flatMap_append, List.flatMap_cons]
  rw [e2, List.append_assoc]
  congr 1
  rw [← List.append_assoc, ← List.map_append, List.take_append_drop]
theorem flat_succ (cs : List Nat) (ws : List Str) {i : Nat} {c : Nat} (h : cs[i]? = some c) : flatW (cs.take (i + 1)) ws = flatW (cs.take i) ws ++ ws.map fun w => sg1 c ++ w := by
  unfold flatW
  rw [List.take_add_one, h, List.flatMap_append]
  simp
theorem map_get {α : Type} {xs : List α} {f : α → V} {i : Nat} {x : V} (h : (xs.map f)[i]? = some x) : ∃ t, xs[i]? = some t ∧ x = f t := by
  rw [List.getElem?_map] at h
  obtain ⟨t, h1, h2⟩ := Option.map_eq_some_iff.mp h
  exact ⟨t, h1, h2.symm⟩
def spLong : Sp := fun vs H Q _ => ∃ (ps pw : Addr) (cs : List Nat) (ws : List Str) (c : Nat), vs = [.ref ps, .ref pw, .int (c : Nat)] ∧ H ps = some (.lst (cs.map fun x => V.str (sg1 x))) ∧ H pw = some (.lst (ws.map V.str)) ∧ c ≤ 20000 ∧ (∀ w ∈ ws, w.length ≤ 1000) ∧
  ∀ p H', H p = none → Same H H' → H' p = some (.lst (((flatW cs ws).take c).map V.str)) → Q (.ref p) H'
theorem none_of {H H' : Hp} {p : Addr} (S : Same H H') (h : H' p = none) : H p = none := by
  cases e : H p with
  | none => rfl
  | some o => rw [S _ _ e] at h; cases h
def spLeastW (K : Frag) : Sp := fun vs H Q _ => ∃ (a C dx : Addr) (fs : List (Str × V)) (z : Str) (l : Nat) (m : V) (c : Nat), vs = [.ref a, .int (c : Nat)] ∧ H a = some (.ins C dx fs) ∧ Cls K C ∧ NoAttr K C "signs" ∧ NoAttr K C "least" ∧ NoAttr K C "most" ∧
  fs.lookup ("signs" : Str) = some (.str z) ∧ fs.lookup ("least" : Str) = some (.int (l : Nat)) ∧ fs.lookup ("most" : Str) = some m ∧ (m = .non ∨ ∃ j : Nat, m = .int (j : Nat) ∧ l ≤ j) ∧ 1 ≤ z.length ∧ z.length ≤ 64 ∧ l ≤ 30 ∧ 1 ≤ c ∧ c ≤ 900 ∧
  ∀ p H', H p = none → Same H H' → H' p = some (.lst (((LW z l m c).take c).map V.str)) → Q (.ref p) H'
structure GLo (P : Program) (w : World) (K : Frag) (mg : Str → Option Value) (base : Heap) : Prop extends G0 P w K mg base where
  longer_words : FnAt P w K mg base CX0 1 "longer_words" ["signs", "words", "count"] spLong
  sorted : mg "sorted" = none
section
variable {P : Program} {w : World} {K : Frag} {mg : Str → Option Value} {base : Heap} {f : Addr} {fd : FuncData}

abbrev s_longer : Stmt := top 48
theorem sc_longer : FnScope ["signs", "words", "count", "found", "sign", "word"] ["signs", "words", "count"] (defScope s_longer) := ⟨rfl, rfl, rfl, by decide +kernel, rfl, by decide +kernel, by decide +kernel⟩

theorem ok_longer (F : FunD K "longer_words" "longer_words" (defArgs s_longer) (defBody s_longer) (defScope s_longer) [] [] f fd) (G : G0 P w K mg base) : FnOk P w K mg base CX0 1 f fd ["signs", "words", "count"] spLong := by
  refine F.ok (CX := CX0) sc_longer (fun vs H Q E h => ?_) (fun cdv A outer s H vs Q E hr h => ?_)
  · obtain ⟨ps, pw, cs, ws, c, rfl, _⟩ := h
    rfl
  · refine ⟨_, PSs.nox (pss_cons (ps_set (i := 3) sc_longer.nd rfl (Or.inl rfl) (pe_lstS pa_nil))
    (pss_cons (ps_for PassesOwn.never rfl (pi_list (pv 0)) (pg_name (i := 4) sc_longer.nd rfl (Or.inl rfl))
      (pss_one (ps_for PassesOwn.never rfl (pi_list (pv 1)) (pg_name (i := 5) sc_longer.nd rfl (Or.inl rfl))
        (pss_cons (ps_if (pt_cmpR op_eq (pe_callB call_len_seq (by rfl) G.len (by decide +kernel) (pa_cons (pv 3) pa_nil)) (pv 2) (nomark _))
          (pss_one (ps_ret (pv 3)))
          pss_nil)
        (pss_one (ps_expr (pe_bm PySem.F.plainAttrs_list PySem.F.slot_list_append PySem.F.type_list_append mt_append (pv 3) (pa_cons (pe_op op_add_str (pv 4) (pv 5)) pa_nil))))))))
    (pss_one (ps_ret (pv 3))))), ?_⟩
    obtain ⟨ps, pw, cs, ws, c, rfl, es, ew, hc, hw, q⟩ := h
    refine ⟨by show 0 ≤ 1000; decide, fun pf H1 hpf S1 e1 => ?_⟩
    have keep : ∀ {J : Hp} {l : HO}, Same H J → Same H (upd J pf l) := fun S => same_put S hpf
    refine ⟨_, rfl, ps, rfl, ⟨_, SqL.of (S1 _ _ es)⟩, for_list (K := K) (a := ps) (xs := cs.map fun x => V.str (sg1 x)) (fun i σ J => (∃ v4 v5, σ = [some (.ref ps), some (.ref pw), some (.int (c : Nat)), some (.ref pf), v4, v5]) ∧ Same H J ∧ J pf = some (.lst ((flatW (cs.take i) ws).map V.str)) ∧ (flatW (cs.take i) ws).length ≤ c) ⟨⟨_, _, rfl⟩, S1, e1, Nat.zero_le _⟩ (fun i σ J _ ⟨_, S, _⟩ => SqL.of (S _ _ es)) ?_ ?_⟩
    · rintro i x σ J hx ⟨⟨v4, v5, rfl⟩, S, ef, hl⟩
      rw [List.getElem?_map] at hx
      obtain ⟨ch, hch, rfl⟩ := Option.map_eq_some_iff.mp hx
      refine ⟨_, rfl, pw, rfl, ⟨_, SqL.of (S _ _ ew)⟩, for_list (K := K) (a := pw) (xs := ws.map V.str) (fun j σ J => (∃ v5, σ = [some (.ref ps), some (.ref pw), some (.int (c : Nat)), some (.ref pf), some (.str (sg1 ch)), v5]) ∧ Same H J ∧ J pf = some (.lst ((flatW (cs.take i) ws ++ (ws.take j).map fun w => sg1 ch ++ w).map V.str)) ∧ (flatW (cs.take i) ws ++ (ws.take j).map fun w => sg1 ch ++ w).length ≤ c) ⟨⟨_, rfl⟩, S, by rw [List.take_zero, List.map_nil, List.append_nil]; exact ef, by rw [List.take_zero, List.map_nil, List.append_nil]; exact hl⟩ (fun i σ J _ ⟨_, S, _⟩ => SqL.of (S _ _ ew)) ?_ ?_⟩
      · rintro j x σ J2 hx2 ⟨⟨v5, rfl⟩, S2, ef2, hl2⟩
        obtain ⟨wd, hwd, rfl⟩ := map_get hx2
        have hwl := hw wd (List.mem_of_getElem? hwd)
        obtain ⟨r, er⟩ := flat_pre cs ws hch j
        refine ⟨_, rfl, pf, _, rfl, .inl (SqL.of ef2), _, rfl, rfl, _, rfl, ?_⟩
        refine ite2 (fun e => ?_) (fun e => ?_)
        · refine ⟨_, rfl, q pf J2 hpf S2 ?_⟩
          have e := V.int.inj (of_decide_eq_true e)
          rw [List.length_map] at e
          rw [er, List.take_append_of_le_length (by omega), List.take_of_length_le hl2]
          exact ef2
        · have hne : (flatW (cs.take i) ws ++ (ws.take j).map fun w => sg1 ch ++ w).length ≠ c := fun z => e (decide_eq_true (by rw [List.length_map, z]))
          have hsg : (sg1 ch).length = 1 := rfl
          have ex : (ws.take (j + 1)).map (fun w => sg1 ch ++ w) = ((ws.take j).map fun w => sg1 ch ++ w) ++ [sg1 ch ++ wd] := by rw [List.take_add_one, hwd, List.map_append]; rfl
          refine ⟨_, rfl, .inl ⟨rfl, _, SqL.of ef2⟩, _, rfl, _, rfl, _, _, rfl, rfl, by rw [sizeLine_eq]; omega, pf, _, _, rfl, rfl, ef2, by rw [List.length_map, sizeLine_eq]; omega, ?_⟩
          refine ⟨⟨_, rfl⟩, keep S2, ?_, ?_⟩
          · rw [upd_same, ex, ← List.append_assoc, List.map_append (l₂ := [sg1 ch ++ wd])]
            rfl
          · rw [ex, ← List.append_assoc, List.length_append (bs := [sg1 ch ++ wd])]
            have : ([sg1 ch ++ wd] : List Str).length = 1 := rfl
            omega
      · rintro σ J2 ⟨⟨v5, rfl⟩, S2, ef2, hl2⟩
        rw [List.length_map, List.take_length] at ef2 hl2
        refine ⟨⟨_, _, rfl⟩, S2, ?_, ?_⟩
        · rw [flat_succ _ _ hch]
          exact ef2
        · rw [flat_succ _ _ hch]
          exact hl2
    · rintro σ J ⟨⟨v4, v5, rfl⟩, S, ef, hl⟩
      rw [List.length_map, List.take_length] at ef hl
      refine ⟨_, rfl, q pf J hpf S ?_⟩
      rw [List.take_of_length_le hl]
      exact ef


abbrev s_least : Stmt := top 47
theorem sc_least : FnScope ["field", "count", "signs", "words", "_", "found", "length"] ["field", "count"] (defScope s_least) := ⟨rfl, rfl, rfl, by decide +kernel, rfl, by decide +kernel, by decide +kernel⟩

theorem ok_least (F : FunD K "least_words" "least_words" (defArgs s_least) (defBody s_least) (defScope s_least) [] [] f fd) (G : GLo P w K mg base) : FnOk P w K mg base CX0 2 f fd ["field", "count"] (spLeastW K) := by
  refine F.ok (CX := CX0) sc_least (fun vs H Q E h => ?_) (fun cdv A outer s H vs Q E hr h => ?_)
  · obtain ⟨a, C, dx, fs, z, l, m, c, rfl, _⟩ := h
    rfl
  · refine ⟨_, PSs.nox (C8.pss_cut (ps_set (i := 2) sc_least.nd rfl (Or.inl rfl) (pe_callB (cr_sortedTx rfl (hr.units)) (by rfl) G.sorted (by decide +kernel) (pa_cons (pe_fld (pv 0) rfl) pa_nil)))
    (C8.pss_cut (ps_set (i := 3) sc_least.nd rfl (Or.inl rfl) (pe_lstS (pa_cons pe_str pa_nil)))
    (C8.pss_cut (ps_for PassesOwn.never rfl (pi_range1 (by rfl) G.range (pa_cons (pe_fld (pv 0) rfl) pa_nil)) (pg_name (i := 4) sc_least.nd rfl (Or.inl rfl))
      (pss_one (ps_set (i := 3) sc_least.nd rfl (Or.inl rfl) (pe_fn G.longer_words hr pass0 (by rfl) (pa_cons (pv 2) (pa_cons (pv 3) (pa_cons (pv 1) pa_nil)))))))
    (C8.pss_cut (ps_set (i := 5) sc_least.nd rfl (Or.inl rfl) (pe_callTy call_list_of (by rfl) G.list (by decide +kernel) (pa_cons (pv 3) pa_nil)))
    (C8.pss_cut (ps_set (i := 6) sc_least.nd rfl (Or.inl rfl) (pe_fld (pv 0) rfl))
    (C8.pss_cut (ps_while PassesOwn.never (PW.pt (pw_and (pt_cmpR op_lt (pe_callB call_len_seq (by rfl) G.len (by decide +kernel) (pa_cons (pv 5) pa_nil)) (pv 1) (nomark _)) (pw_and1 (pt_cmpR op_ne (pv 6) (pe_fld (pv 0) rfl) (nomark _)))))
      (pss_cons (ps_set (i := 3) sc_least.nd rfl (Or.inl rfl) (pe_fn G.longer_words hr pass0 (by rfl) (pa_cons (pv 2) (pa_cons (pv 3) (pa_cons (pe_op op_sub (pv 1) (pe_callB call_len_seq (by rfl) G.len (by decide +kernel) (pa_cons (pv 5) pa_nil))) pa_nil)))))
      (pss_cons (ps_expr (pe_bm PySem.F.plainAttrs_list PySem.F.slot_list_extend PySem.F.type_list_extend mt_extend (pv 5) (pa_cons (pv 3) pa_nil)))
      (pss_one (ps_aug (i := 6) sc_least.nd rfl (Or.inl rfl) pe_int ip_add)))))
    (pss_one (ps_ret (pv 5))))))))), ?_⟩
    obtain ⟨a, C, dx, fs, z, l, m, c, rfl, ha, hC, n1, n2, n3, l1, l2, l3, hm, hz1, hz2, hl, hc1, hc2, q⟩ := h
    have hcs : srtC z ≠ [] := fun e => by
      have h := congrArg List.length e
      unfold srtC at h
      rw [(List.mergeSort_perm _ _).length_eq, Array.length_toList] at h
      have : z.length = 0 := h
      omega
    have hcsl : (srtC z).length ≤ 64 := by
      unfold srtC
      rw [(List.mergeSort_perm _ _).length_eq, Array.length_toList]
      exact hz2
    unfold LW at q
    generalize hcz : srtC z = cs at q hcs hcsl
    refine ⟨fun σ J => ∃ pS v3 v4 v5 v6, σ = [some (.ref a), some (.int (c : Nat)), some (.ref pS), v3, v4, v5, v6] ∧ Same H J ∧ J pS = some (.lst (cs.map fun x => V.str (sg1 x))), ?_, ?_⟩
    · refine ⟨_, rfl, a, C, dx, fs, _, rfl, ha, hC, n1, l1, z, rfl, by rw [sizeLine_eq]; omega, fun p hp => ⟨p, _, _, _, _, rfl, same_upd hp, ?_⟩⟩
      rw [upd_same, hcz]
      rfl
    rintro σ J ⟨pS, v3, v4, v5, v6, rfl, S, eS⟩
    refine ⟨fun σ J => ∃ pw v4 v5 v6, σ = [some (.ref a), some (.int (c : Nat)), some (.ref pS), some (.ref pw), v4, v5, v6] ∧ Same H J ∧ J pS = some (.lst (cs.map fun x => V.str (sg1 x))) ∧ J pw = some (.lst (((W cs 0).take c).map V.str)), ?_, ?_⟩
    · refine ⟨by show 1 ≤ 1000; decide, fun p J2 hp S2 e2 => ⟨p, _, _, _, rfl, S.trans S2, S2 _ _ eS, ?_⟩⟩
      rw [e2, List.take_of_length_le (show (W cs 0).length ≤ c from hc1)]
      rfl
    rintro σ J ⟨pw, v4, v5, v6, rfl, S, eS, eW⟩
    refine ⟨fun σ J => ∃ pw v4 v5 v6, σ = [some (.ref a), some (.int (c : Nat)), some (.ref pS), some (.ref pw), v4, v5, v6] ∧ Same H J ∧ J pS = some (.lst (cs.map fun x => V.str (sg1 x))) ∧ J pw = some (.lst (((W cs l).take c).map V.str)), ?_, ?_⟩
    · refine ⟨_, rfl, a, C, dx, fs, _, rfl, S _ _ ha, hC, n2, l2, _, rfl, by omega, by omega, ?_⟩
      rw [Int.toNat_natCast]
      refine for_range (lo := 0) (n := l) (fun i σ J => ∃ pw v4 v5 v6, σ = [some (.ref a), some (.int (c : Nat)), some (.ref pS), some (.ref pw), v4, v5, v6] ∧ Same H J ∧ J pS = some (.lst (cs.map fun x => V.str (sg1 x))) ∧ J pw = some (.lst (((W cs i).take c).map V.str))) ⟨pw, _, _, _, rfl, S, eS, eW⟩ ?_ ?_
      · rintro i σ J hi ⟨pw, v4, v5, v6, rfl, S, eS, eW⟩
        refine ⟨_, rfl, _, rfl, _, rfl, pS, pw, cs, (W cs i).take c, c, rfl, eS, eW, by omega, fun w hw => ?_, fun p J2 hp S2 e2 => ⟨p, _, _, _, rfl, S.trans S2, S2 _ _ eS, ?_⟩⟩
        · have := (W_chars (List.mem_of_mem_take hw)).1
          omega
        · rw [e2, W_take]
      · rintro σ J h
        exact h
    rintro σ J ⟨pw, v4, v5, v6, rfl, S, eS, eW⟩
    refine ⟨fun σ J => ∃ pF v4 v6, σ = [some (.ref a), some (.int (c : Nat)), some (.ref pS), some (.ref pw), v4, some (.ref pF), v6] ∧ Same H J ∧ J pS = some (.lst (cs.map fun x => V.str (sg1 x))) ∧ J pw = some (.lst (((W cs l).take c).map V.str)) ∧ J pF = some (.lst (((W cs l).take c).map V.str)) ∧ H pF = none ∧ pF ≠ pS ∧ pF ≠ pw, ?_, ?_⟩
    · refine ⟨_, rfl, pw, _, rfl, .inl (SqL.of eW), fun p hp => ⟨p, _, _, rfl, S.trans (same_upd hp), same_upd hp _ _ eS, same_upd hp _ _ eW, upd_same, none_of S hp, fun z => (by rw [z, eS] at hp; cases hp), fun z => (by rw [z, eW] at hp; cases hp)⟩⟩
    rintro σ J ⟨pF, v4, v6, rfl, S, eS, eW, eF, hF, nS, nW⟩
    refine ⟨fun σ J => ∃ pw v4, σ = [some (.ref a), some (.int (c : Nat)), some (.ref pS), some (.ref pw), v4, some (.ref pF), some (.int (l : Nat))] ∧ Same H J ∧ J pS = some (.lst (cs.map fun x => V.str (sg1 x))) ∧ J pw = some (.lst (((W cs l).take c).map V.str)) ∧ J pF = some (.lst (((W cs l).take c).map V.str)) ∧ pF ≠ pw, ⟨_, rfl, a, C, dx, fs, _, rfl, S _ _ ha, hC, n2, l2, pw, v4, rfl, S, eS, eW, eF, nW⟩, ?_⟩
    rintro σ J ⟨pw, v4, rfl, S, eS, eW, eF, nW⟩
    refine ⟨fun σ J => ∃ v3 v4 v6, σ = [some (.ref a), some (.int (c : Nat)), some (.ref pS), v3, v4, some (.ref pF), v6] ∧ Same H J ∧ J pF = some (.lst (((up cs l (kk l m c)).take c).map V.str)), ?_, ?_⟩
    · refine ⟨fun n σ J => ∃ i pw v4, 1 ≤ i ∧ σ = [some (.ref a), some (.int (c : Nat)), some (.ref pS), some (.ref pw), v4, some (.ref pF), some (.int ((l + i - 1 : Nat) : Int))] ∧ Same H J ∧ J pS = some (.lst (cs.map fun x => V.str (sg1 x))) ∧ ((up cs l i).length < c → J pw = some (.lst ((W cs (l + i - 1)).map V.str))) ∧ J pF = some (.lst (((up cs l i).take c).map V.str)) ∧ pF ≠ pw ∧ (∀ j : Nat, m = .int (j : Nat) → l + i - 1 ≤ j) ∧ n = c - ((up cs l i).take c).length, ?_, ?_⟩
      · refine ⟨_, 1, pw, v4, Nat.le_refl _, rfl, S, eS, fun h => ?_, eF, nW, fun j e => ?_, rfl⟩
        · have h : (W cs l).length < c := h
          rw [List.take_of_length_le (Nat.le_of_lt h)] at eW
          exact eW
        · rcases hm with rfl | ⟨j', rfl, hlj⟩
          · cases e
          · have := V.int.inj e
            omega
      rintro n σ J ⟨i, pw, v4, hi, rfl, S, eS, eW, eF, nW, hj, hn⟩
      have hupl := up_len hcs l i
      refine ⟨_, rfl, pF, _, rfl, .inl (SqL.of eF), _, rfl, _, _, rfl, rfl, _, rfl, ?_⟩
      have hkk : c ≤ (up cs l i).length → (up cs l i).take c = (up cs l (kk l m c)).take c := fun h => by
        refine up_take h ?_
        rcases hm with rfl | ⟨j, rfl, hlj⟩
        · have := up_len hcs l (c + 5)
          show c ≤ (up cs l (c + 5)).length
          omega
        · have h2 := hj j rfl
          have ek : kk l (V.int (j : Nat)) c = i + (j + 1 - l - i) := by show ((j : Int) + 1 - (l : Int)).toNat = _; omega
          obtain ⟨r, e⟩ := up_pre cs l i (j + 1 - l - i)
          rw [ek, e, List.length_append]
          omega
      refine ite2 (fun c1 => ?_) (fun c1 => ?_)
      · have h1 : (up cs l i).length < c := by
          have := of_decide_eq_true c1
          rw [List.length_map, List.length_take] at this
          omega
        have eF' : J pF = some (.lst ((up cs l i).map V.str)) := by rw [eF, List.take_of_length_le (by omega)]
        have eW' := eW h1
        refine ⟨_, rfl, _, rfl, a, C, dx, fs, _, rfl, S _ _ ha, hC, n3, l3, by rcases hm with rfl | ⟨j, rfl, _⟩ <;> rfl, _, rfl, ?_⟩
        refine ite2 (fun c2 => ?_) (fun c2 => ?_)
        · refine ⟨fun σ J => ∃ pw v4, σ = [some (.ref a), some (.int (c : Nat)), some (.ref pS), some (.ref pw), v4, some (.ref pF), some (.int ((l + (i + 1) - 1 : Nat) : Int))] ∧ Same H J ∧ J pS = some (.lst (cs.map fun x => V.str (sg1 x))) ∧ ((up cs l (i + 1)).length < c → J pw = some (.lst ((W cs (l + (i + 1) - 1)).map V.str))) ∧ J pF = some (.lst (((up cs l (i + 1)).take c).map V.str)) ∧ pF ≠ pw, ?_, ?_⟩
          · rintro σ2 J2 ⟨pw2, v42, e1, e2, e3, e4, e5, e6⟩
            refine ⟨_, ?_, i + 1, pw2, v42, by omega, e1, e2, e3, e4, e5, e6, fun j e => ?_, rfl⟩
            · have hw := W_pos hcs (l + i)
              rw [hn, List.length_take, List.length_take]
              show c - min c ((up cs l i ++ W cs (l + i)).length) < _
              rw [List.length_append]
              omega
            · have h2 := hj j e
              have h3 : l + i - 1 ≠ j := fun z => by
                subst e
                rw [z] at c2
                simp at c2
              omega
          · have el : l + i - 1 + 1 = l + i := by omega
            refine ⟨_, rfl, _, rfl, _, rfl, _, rfl, pF, _, rfl, .inl (SqL.of eF'), _, _, rfl, rfl, pS, pw, cs, W cs (l + i - 1), c - (up cs l i).length, ?_, eS, eW', by omega, fun w hw => ?_, fun p J2 hp S2 e2 => ?_⟩
            · show [V.ref pS, V.ref pw, V.int ((c : Int) - (((up cs l i).map V.str).length : Nat))] = _
              rw [List.length_map, show (c : Int) - ((up cs l i).length : Nat) = ((c - (up cs l i).length : Nat) : Int) by omega]
            · have := (W_chars hw).1
              omega
            · have npF : pF ≠ p := fun z => by rw [← z, eF'] at hp; cases hp
              have e2' : J2 p = some (.lst (((W cs (l + i)).take (c - (up cs l i).length)).map V.str)) := by
                rw [e2, ← el]
                rfl
              have hlw : ((W cs (l + i)).take (c - (up cs l i).length)).length ≤ 900 := by rw [List.length_take]; omega
              have hout : (up cs l i).map V.str ++ ((W cs (l + i)).take (c - (up cs l i).length)).map V.str = ((up cs l (i + 1)).take c).map V.str := by
                rw [← List.map_append]
                show _ = ((up cs l i ++ W cs (l + i)).take c).map V.str
                rw [List.take_append, List.take_of_length_le (Nat.le_of_lt h1)]
              refine ⟨_, rfl, .inl ⟨rfl, _, SqL.of (S2 _ _ eF')⟩, _, rfl, pF, p, _, _, rfl, rfl, S2 _ _ eF', e2', by rw [List.length_map, List.length_map, sizeLine_eq]; omega, ?_⟩
              refine ⟨_, rfl, _, _, rfl, rfl, p, v4, ?_, same_put (S.trans S2) hF, by rw [upd_ne (Ne.symm nS)]; exact S2 _ _ eS, fun h => ?_, by rw [upd_same, hout], npF⟩
              · rw [show ((l + (i + 1) - 1 : Nat) : Int) = ((l + i - 1 : Nat) : Int) + 1 by omega]
                rfl
              · rw [upd_ne (Ne.symm npF), e2']
                have h : ((up cs l i) ++ W cs (l + i)).length < c := h
                rw [List.length_append] at h
                rw [List.take_of_length_le (by omega)]
                rfl
        · have ec : ∃ j : Nat, m = .int (j : Nat) ∧ l + i - 1 = j := by
            rcases hm with rfl | ⟨j, rfl, _⟩
            · exact absurd (by simp) c2
            · refine ⟨j, rfl, ?_⟩
              have : ¬ (l + i - 1 ≠ j) := fun z => c2 (by simp; omega)
              omega
          obtain ⟨j, rfl, ej⟩ := ec
          refine ⟨_, _, _, rfl, S, ?_⟩
          rw [eF, show kk l (V.int (j : Nat)) c = i by show ((j : Int) + 1 - (l : Int)).toNat = i; omega]
      · have h1 : c ≤ (up cs l i).length := by
          have : ¬ ((((up cs l i).take c).map V.str).length : Int) < (c : Int) := fun z => c1 (decide_eq_true z)
          rw [List.length_map, List.length_take] at this
          omega
        exact ⟨_, _, _, rfl, S, by rw [eF, hkk h1]⟩
    rintro σ J ⟨v3, v4, v6, rfl, S, eF⟩
    exact ⟨_, rfl, q pF J hF S eF⟩


end
end L2.K08

set_option Elab.async false
set_option linter.all false
set_option maxRecDepth 100000
set_option maxHeartbeats 4000000
/-! range(n) as a value; list(range(..)). -/
namespace L2.Jk
open PySem PySem.W PySem.Spec PySem.Calls PyProof.Rows
section
variable {X : Cx}
theorem cr_range1 : CallR X (.type "range") (fun vs H Q => ∃ j, vs = [V.int j] ∧ ∀ p, H p = none → Q (.ref p) (upd H p (.rng 0 j))) := by
  intro pins s σ H vs us Q I r h
  obtain ⟨j, rfl, q⟩ := h
  obtain ⟨u1, rfl, ri⟩ := vals1 r
  obtain ⟨t, rfl⟩ := ri
  refine call_range_1 ⟨.ref s.heap.objs.size, upd H s.heap.objs.size (.rng 0 j), I.laid (t' := s.toks + 1 + 1) (fun b o e => Heap.get?_push_of_some _ e) (Nat.le_refl _) ?_, rfl, q _ (I.hok.fresh (Nat.le_refl _))⟩
  exact ⟨s.toks, t, s.toks + 1, Heap.get?_push_size _ rfl⟩
def intsV (lo : Int) (n : Nat) : List V := (List.range n).map fun i : Nat => V.int (lo + (i : Int))
theorem rng_size (lo : Int) (n : Nat) : Builtin.Range.rangeSize lo (lo + n) 1 = (n : Int) := by
  unfold Builtin.Range.rangeSize
  rw [if_pos (by decide)]
  split
  · rw [Int.ediv_one]
    omega
  · omega
theorem call_list_rng (hc : X.calm = true) : CallR X (.type "list") (fun xs H Q => ∃ (p : Addr) (lo : Int) (n : Nat), xs = [.ref p] ∧ H p = some (.rng lo (lo + n)) ∧ -1000 ≤ lo ∧ lo ≤ 1000 ∧ n ≤ 1000 ∧
    ∀ l H', H l = none → Same H H' → H' l = some (.lst (intsV lo n)) → Q (.ref l) H') := by
  intro pins s σ H xs us Q I r h
  obtain ⟨p, lo, n, rfl, hp, h0, h1, hn, q⟩ := h
  obtain ⟨u, rfl, ru⟩ := vals1 r
  cases ru
  obtain ⟨t, u, v, e⟩ := (show ObjOk X.prog X.w H s.heap p (.rng lo (lo + n)) from I.hok p _ hp)
  refine call_list_range (n := n) (I.ok.hd hc) e (small_one (by omega) (by omega) (by omega) (by omega)) (rng_size lo n) (by omega) (fun h' tk acc c k hp2 ha => ?_)
  obtain ⟨al, ai⟩ := ha
  have vs : Vals (intsV lo n) acc.toList := by
    refine paired_of (show (intsV lo n).length = acc.toList.length by
      have e : acc.toList.length = acc.size := Array.length_toList
      rw [e, al]
      simp [intsV]) fun i x v hx hv => ?_
    have hi : i < n := by
      have := (List.getElem?_eq_some_iff.mp hx).1
      simpa [intsV] using this
    obtain ⟨t', e⟩ := ai i v (by rw [← Array.getElem?_toList]; exact hv)
    subst e
    have e2 : x = V.int (lo + (i : Int)) := by
      unfold intsV at hx
      rw [List.getElem?_map, List.getElem?_range hi] at hx
      exact (Option.some.inj hx).symm
    subst e2
    exact ⟨t', by rw [Int.mul_one]⟩
  have nf := I.fresh
  refine ⟨.ref s.heap.objs.size, _, I.laid (t' := tk) (h' := h') (o := .lst (intsV lo n)) k (Nat.le_refl _) ⟨?_, acc.toList, c, vs, by simpa using hp2⟩, rfl, q _ _ nf (same_upd nf) upd_same⟩
  simp only [intsV, List.length_map, List.length_range]
  rw [sizeLine_eq]
  omega
end
end L2.Jk

set_option Elab.async false
set_option linter.all false
set_option maxRecDepth 100000
set_option maxHeartbeats 4000000
/-! list(range(..)), more of it. -/
namespace L2.Jk
open PySem PySem.W PySem.Spec PySem.Calls PyProof.Rows
section
variable {X : Cx}
theorem call_list_rngB (hc : X.calm = true) : CallR X (.type "list") (fun xs H Q => ∃ (p : Addr) (lo : Int) (n : Nat), xs = [.ref p] ∧ H p = some (.rng lo (lo + n)) ∧ -1000 ≤ lo ∧ lo ≤ 1000 ∧ n ≤ 100000 ∧
    ∀ l H', H l = none → Same H H' → H' l = some (.lst (intsV lo n)) → Q (.ref l) H') := by
  intro pins s σ H xs us Q I r h
  obtain ⟨p, lo, n, rfl, hp, h0, h1, hn, q⟩ := h
  obtain ⟨u, rfl, ru⟩ := vals1 r
  cases ru
  obtain ⟨t, u, v, e⟩ := (show ObjOk X.prog X.w H s.heap p (.rng lo (lo + n)) from I.hok p _ hp)
  refine call_list_range (n := n) (I.ok.hd hc) e (small_one (by omega) (by omega) (by omega) (by omega)) (rng_size lo n) (by omega) (fun h' tk acc c k hp2 ha => ?_)
  obtain ⟨al, ai⟩ := ha
  have vs : Vals (intsV lo n) acc.toList := by
    refine paired_of (show (intsV lo n).length = acc.toList.length by
      have e : acc.toList.length = acc.size := Array.length_toList
      rw [e, al]
      simp [intsV]) fun i x v hx hv => ?_
    have hi : i < n := by
      have := (List.getElem?_eq_some_iff.mp hx).1
      simpa [intsV] using this
    obtain ⟨t', e⟩ := ai i v (by rw [← Array.getElem?_toList]; exact hv)
    subst e
    have e2 : x = V.int (lo + (i : Int)) := by
      unfold intsV at hx
      rw [List.getElem?_map, List.getElem?_range hi] at hx
      exact (Option.some.inj hx).symm
    subst e2
    exact ⟨t', by rw [Int.mul_one]⟩
  have nf := I.fresh
  refine ⟨.ref s.heap.objs.size, _, I.laid (t' := tk) (h' := h') (o := .lst (intsV lo n)) k (Nat.le_refl _) ⟨?_, acc.toList, c, vs, by simpa using hp2⟩, rfl, q _ _ nf (same_upd nf) upd_same⟩
  simp only [intsV, List.length_map, List.length_range]
  rw [sizeLine_eq]
  omega
end
end L2.Jk

set_option Elab.async false
set_option linter.all false
set_option maxRecDepth 100000
set_option maxHeartbeats 4000000
/-! A def whose code object is known. -/
namespace L2.Jk
open PySem PySem.W PySem.Spec PySem.Calls PyProof.Rows
theorem okC {P : Program} {w : World} {K : Frag} {mg : Str → Option Value} {base : Heap} {x qual : Str} {params : Arguments} {body : List Stmt} {scope : Scope} {dvs : List V} {kws : List (Str × V)} {f c : Addr} {fd : FuncData} {CX : CXT} {N ps : List Str} {k : Nat} {sp : Sp}
    (F : FunD K x qual params body scope dvs kws f fd) (hc : fd.code = .ref c) (S : FnScope N ps scope) (len : ∀ vs H Q E, sp vs H Q E → vs.length = ps.length)
    (hbody : ∀ (A : Around) (outer : List Env) (s : Shared) (H : Hp) (vs : List V) (Q : VK) (E : XK), Room k (A.deeper (envOfC qual scope s.heap.objs.size f (.ref c))) → sp vs H Q E →
      ∃ t, PSs (cxOf CX P w K mg base N qual scope f (.ref c) A outer s H E) body t ∧ t { nx := fun _ H' => Q .non H', rt := Q } (start N vs) H) : FnOk P w K mg base CX (k + 1) f fd ps sp := by
  obtain ⟨oc, od, dV, kV, doc, pm, an, cdv, ct, osl, rfl, lk, hcd, _, _⟩ := F.ex
  have e : cdv = .ref c := hc
  subst e
  exact fn_of lk hcd S len fun A outer s H vs Q E hr hsp => hbody A outer s H vs Q E hr hsp
end L2.Jk

set_option Elab.async false
set_option linter.all false
set_option maxRecDepth 100000
set_option maxHeartbeats 4000000
/-! The least texts of a kind. -/
namespace L2.K08
open PySem PySem.W PySem.Spec PySem.Calls PyProof.Rows L2.Jk
def qLam : Str := "shorter_first.<locals>.<lambda>"
def NewN (H : Hp) (p : Addr) : Prop := ∀ o, H p = some o → ∃ ps, o = .tbl ps
theorem NewN.of {H : Hp} {p : Addr} (h : H p = none) : NewN H p := fun o e => by rw [h] at e; cases e
theorem NewN.ext {H H1 : Hp} {p : Addr} (e : LamX.ExtN H H1) (h : H1 p = none) : NewN H p := fun o ho => Classical.byContradiction fun z => by
  have := e p o ho (fun ps q => z ⟨ps, q⟩)
  rw [h] at this
  cases this
theorem extN_put {H H1 : Hp} {p : Addr} {o : HO} (e : LamX.ExtN H H1) (h : H1 p = none) : LamX.ExtN H (upd H1 p o) := fun b u hb hn => by
  have := e b u hb hn
  rw [upd_ne (ne_of_none this h)]
  exact this
theorem tabs_put {T : List (Addr × Str)} {H : Hp} {p : Addr} {o : HO} (t : LamX.Tabs T H) (h : H p = none) : LamX.Tabs T (upd H p o) := t.ext fun b u hb => by
  rw [upd_ne (ne_of_none hb h)]
  exact hb
theorem tabs_sm {T : List (Addr × Str)} {H H1 : Hp} (t : LamX.Tabs T H) (S : Same H H1) : LamX.Tabs T H1 := t.ext S
theorem extN_sm {H H1 : Hp} (S : Same H H1) : LamX.ExtN H H1 := fun b o e _ => S b o e
def spNums : Sp := fun vs H Q _ => ∃ (l c : Nat) (m : V), vs = [.int (l : Nat), m, .int (c : Nat)] ∧ l ≤ 100 ∧ 1 ≤ c ∧ c ≤ 11000 ∧ (m = .non ∨ ∃ j : Nat, m = .int (j : Nat) ∧ l ≤ j ∧ j ≤ 10000000) ∧
  ∀ p H' (n : Nat), (m = .non → n = c) → (∀ j : Nat, m = .int (j : Nat) → n = min c (j + 1 - l)) → H p = none → Same H H' → H' p = some (.lst (intsV (l : Nat) n)) → Q (.ref p) H'
def spShort (K : Frag) (P0 : Addr) : Sp := fun vs H Q _ => ∃ (a : Addr) (ts : List Str), vs = [.ref a] ∧ (SqL K H a (ts.map V.str) ∨ SqT K H a (ts.map V.str)) ∧ (∀ t ∈ ts, t.length ≤ 2000) ∧ LamX.Tabs [(P0, qLam)] H ∧
  ∀ H' p, LamX.ExtN H H' → LamX.Tabs [(P0, qLam)] H' → NewN H p → H' p = some (.lst ((srtLL ts).map V.str)) → Q (.ref p) H'
section
variable {P : Program} {w : World} {K : Frag} {mg : Str → Option Value} {base : Heap} {f : Addr} {fd : FuncData}

abbrev s_lnum : Stmt := top 46
theorem sc_lnum : FnScope ["least", "most", "count", "end"] ["least", "most", "count"] (defScope s_lnum) := ⟨rfl, rfl, rfl, by decide +kernel, rfl, by decide +kernel, by decide +kernel⟩

theorem ok_lnum (F : FunD K "least_numbers" "least_numbers" (defArgs s_lnum) (defBody s_lnum) (defScope s_lnum) [] [] f fd) (G : GLo P w K mg base) (hmin : mg "min" = none) : FnOk P w K mg base CX0 1 f fd ["least", "most", "count"] spNums := by
  refine F.ok (CX := CX0) sc_lnum (fun vs H Q E h => ?_) (fun cdv A outer s H vs Q E hr h => ?_)
  · obtain ⟨l, c, m, rfl, _⟩ := h
    rfl
  · refine ⟨_, PSs.nox (pss_cons (ps_set (i := 3) sc_lnum.nd rfl (Or.inl rfl) (pe_op op_add (pv 0) (pv 2)))
    (C8.pss_cut (ps_if (pt_cmpR op_notN (pv 1) pe_non (nomark _))
      (pss_one (ps_set (i := 3) sc_lnum.nd rfl (Or.inl rfl) (pe_callB (call_min2 rfl) (by rfl) hmin (by decide +kernel) (pa_cons (pv 3) (pa_cons (pe_op op_add (pv 1) pe_int) pa_nil)))))
      pss_nil)
    (pss_one (ps_ret (pe_callTy (call_list_rngB rfl) (by rfl) G.list (by decide +kernel) (pa_cons (pe_callTy cr_range2 (by rfl) G.range (by decide +kernel) (pa_cons (pv 0) (pa_cons (pv 3) pa_nil))) pa_nil)))))), ?_⟩
    obtain ⟨l, c, m, rfl, hl, hc1, hc2, hm, q⟩ := h
    refine ⟨_, rfl, _, rfl, _, _, rfl, rfl, ?_⟩
    refine ⟨fun σ J => ∃ n : Nat, σ = [some (.int (l : Nat)), some m, some (.int (c : Nat)), some (.int ((l : Nat) + (n : Nat) : Int))] ∧ J = H ∧ n ≤ c ∧ (m = .non → n = c) ∧ ∀ j : Nat, m = .int (j : Nat) → n = min c (j + 1 - l), ?_, ?_⟩
    · rcases hm with rfl | ⟨j, rfl, hj1, hj2⟩
      · refine ⟨_, rfl, rfl, _, rfl, iteF ⟨c, rfl, rfl, Nat.le_refl _, fun _ => rfl, fun j z => by cases z⟩⟩
      · refine ⟨_, rfl, rfl, _, rfl, iteT ?_⟩
        refine ⟨_, rfl, _, rfl, _, _, rfl, rfl, _, _, rfl, min c (j + 1 - l), ?_, rfl, by omega, fun z => (by cases z), fun j2 z => ?_⟩
        · rw [show (if (j : Int) + 1 < (l : Int) + (c : Int) then (j : Int) + 1 else (l : Int) + (c : Int)) = (l : Nat) + ((min c (j + 1 - l) : Nat) : Int) by split <;> omega]
          rfl
        · have := V.int.inj z
          omega
    rintro σ J ⟨n, rfl, rfl, hn, hn1, hn2⟩
    refine ⟨_, rfl, _, rfl, _, _, rfl, fun p hp => ?_⟩
    refine ⟨p, (l : Int), n, rfl, upd_same, by omega, by omega, by omega, fun r J2 hr2 S2 e2 => q r J2 n hn1 hn2 ?_ ?_ e2⟩
    · exact none_of (same_upd hp) hr2
    · exact (same_upd hp).trans S2


abbrev s_shorter : Stmt := top 45
theorem sc_shorter : FnScope ["texts"] ["texts"] (defScope s_shorter) := ⟨rfl, rfl, rfl, by decide +kernel, rfl, by decide +kernel, by decide +kernel⟩

theorem ok_shorter (F : FunD K "shorter_first" "shorter_first" (defArgs s_shorter) (defBody s_shorter) (defScope s_shorter) [] [] f fd) (G : GLo P w K mg base) {c0 P0 : Addr} (hc0 : fd.code = .ref c0) (TB : LamX.TabB base mg c0 P0) : FnOk P w K mg base CX0 1 f fd ["texts"] (spShort K P0) := by
  refine okC (CX := CX0) F hc0 sc_shorter (fun vs H Q E h => ?_) (fun A outer s H vs Q E hr h => ?_)
  · obtain ⟨a, ts, rfl, _⟩ := h
    rfl
  · refine ⟨_, PSs.nox (pss_one (ps_ret (pe_sortLL (T := [(P0, qLam)]) (x := "text") (by rfl) G.sorted G.len hr (pv 0) TB rfl (List.mem_singleton_self _) (fun p hp _ => by rw [List.mem_singleton.mp hp]; rfl) rfl (by decide +kernel) (fun _ _ _ _ _ _ => rfl) rfl rfl rfl rfl rfl (by decide +kernel)))), ?_⟩
    obtain ⟨a, ts, rfl, hs, hl, hT, q⟩ := h
    refine ⟨_, rfl, a, ts, rfl, hs, fun t ht => Nat.le_trans (hl t ht) (by rw [sizeLine_eq]; decide), hT, fun H2 p eN T2 hp => ?_⟩
    exact q _ p (extN_put eN hp) (tabs_put T2 hp) (NewN.ext eN hp) upd_same

end
end L2.K08

set_option Elab.async false
set_option linter.all false
set_option maxRecDepth 100000
set_option maxHeartbeats 4000000
/-! list < list, of whole numbers. -/
namespace L2.Jk
open PySem PySem.W PySem.Spec PySem.Calls PyProof.Rows L2
def rLtL (K : Frag) : R2 := fun x y H Q => ∃ a b ns ms, x = .ref a ∧ y = .ref b ∧ SqL K H a (ns.map V.int) ∧ SqL K H b (ms.map V.int) ∧ Q (.bl (listLt ns ms)) H
theorem dp_ints {K : Frag} {H : Hp} : ∀ ns : List Int, DpAll K H (ns.map V.int) (ns.map PyData.int)
  | [] => .nil
  | n :: ns => .cons (.int n) (dp_ints ns)
theorem op_ltL {X : Cx} (hu : X.A.units + 64 < cLine) : OpR X (compareOp .Lt) (rLtL X.K) := by
  intro pins s σ H x y v u Q I rx ry h
  obtain ⟨a, b, ns, ms, rfl, rfl, ha, hb, q⟩ := h
  obtain ⟨as, r1⟩ := Dp.reads I (.list (ns.map PyData.int)) _ v (.lst ha (dp_ints ns)) rx
  obtain ⟨bs, r2⟩ := Dp.reads I (.list (ms.map PyData.int)) _ u (.lst hb (dp_ints ms)) ry
  exact PySem.W.lt_datum (x := ns) (y := ms) ⟨as, r1⟩ ⟨bs, r2⟩ (by
    have : Datum.depth (List Int) ≤ 64 := by decide
    omega) ⟨.bl (listLt ns ms), H, I, rfl, q⟩
/-! tuples: a slice, a sum, told by their items -/
def rSlTS : V → Option Int → Option Int → Hp → VK → Prop := fun x lo hi H Q => ∃ a xs, x = .ref a ∧ H a = some (.tup xs) ∧ ∀ p H', (∀ b o, H b = some o → H' b = some o) → H' p = some (.tup (cutV xs lo hi)) → Q (.ref p) H'
theorem sl_tupTS {X : Cx} : SlR X rSlTS := by
  intro pins s σ H x v vl vu lo hi sl Q I rx hs pl pu h
  obtain ⟨a, xs, rfl, hx, q⟩ := h
  refine sl_tupA pins s σ H _ v vl vu lo hi sl Q I rx hs pl pu ⟨a, xs, rfl, SqT.of hx, fun hw => q a H (fun _ _ e => e) ?_, fun hw p hp => q p _ (fun b o e => ?_) upd_same⟩
  · have e : cutV xs lo hi = xs := by
      unfold cutV
      rw [hw.1, hw.2, List.drop_zero, Nat.sub_zero, List.take_length]
    rw [e]
    exact hx
  · rw [upd_ne (ne_of_none e hp)]
    exact e
def rCatTS : R2 := fun x y H Q => ∃ a b xs ys, x = .ref a ∧ y = .ref b ∧ H a = some (.tup xs) ∧ H b = some (.tup ys) ∧ xs.length + ys.length ≤ sizeLine ∧ ∀ p H', (∀ b o, H b = some o → H' b = some o) → H' p = some (.tup (xs ++ ys)) → Q (.ref p) H'
theorem op_catTS {X : Cx} : OpR X (binaryOp .Add) rCatTS := by
  intro pins s σ H x y v u Q I rx ry h
  obtain ⟨a, b, xs, ys, rfl, rfl, ha, hb, hz, q⟩ := h
  refine op_catA pins s σ H _ _ v u Q I rx ry ⟨a, b, xs, ys, rfl, rfl, SqT.of ha, SqT.of hb, hz, fun e => q b H (fun _ _ e => e) ?_, fun _ e => q a H (fun _ _ e => e) ?_, fun _ _ p hp => q p _ (fun c o e => ?_) upd_same⟩
  · rw [e, List.nil_append]
    exact hb
  · rw [e, List.append_nil]
    exact ha
  · rw [upd_ne (ne_of_none e hp)]
    exact e
theorem call_ieK {X : Cx} {K : Frag} (h : X.K = K) : CallR X (.builtin "isinstance") (rIe K) := by
  subst h
  exact call_ie
theorem mt_indexK {X : Cx} {K : Frag} (h : X.K = K) : MtR X "list.index" (rIndex K) := by
  subst h
  exact mt_index
end L2.Jk

set_option Elab.async false
set_option linter.all false
set_option maxRecDepth 100000
set_option maxHeartbeats 4000000
/-! The least texts of any kind. -/
namespace L2.K08
open PySem PySem.W PySem.Spec PySem.Calls PyProof.Rows L2.Jk
def FD.dep : FD → Nat
  | .pl _ => 0
  | .mk .. => 1
section
variable {X : Cx} {o e : Expr} {es : List Expr} {to : TE} {t : TA} {name : Str} {apos cpos : Pos} {T id : String} {r : V → List V → Hp → VK → Prop}
theorem pe_bmK {K : Frag} (hK : X.K = K) (pa : PlainAttrs T) (slot : Slot T name id) (hty : typeOf (.builtin id) = pure (.type "method_descriptor")) (hm : MtR X id r) (ho : PE X o to) (ha : PA X (e :: es) t)
    (hbase : attributeBase o name X.env (eval o X.env) = eval o X.env := by rfl)
    (hfew : ((backTo cpos (starEach (e :: es) X.env)).all (fun x => !x.1) && (backToKw cpos (keywordEach [] X.env)).all (fun x => x.1.isSome)
      && decide ((e :: es).length + ([] : List Keyword).length + (if ([] : List Keyword).isEmpty then 0 else 1) < 30)) = true := by rfl)
    (hline : (apos.endLine == cpos.line) = true := by rfl) (hs : starEach (e :: es) X.env = (false, eval e X.env) :: starEach es X.env := by rfl) (hplain : (backTo cpos (starEach es X.env)).any (·.1) = false := by rfl) :
    PE X (.Call (.Attribute o name apos) (e :: es) [] cpos) (tBM K T r to t) := by
  subst hK
  exact pe_bm pa slot hty hm ho ha hbase hfew hline hs hplain

end
def numsL (l n : Nat) : List Str := (List.range n).map fun i => T (l + i)
def nN (l : Nat) (m : V) (c : Nat) : Nat := match m with
  | .int j => (j + 1 - l).toNat
  | _ => c + 10000
def fixL (w : Nat) : List Str := (List.range (10 ^ w)).map fun i => Txt.zfill (T i) (w : Nat)
/-- all least texts of a kind, more than c where there is no end -/
def LP : PD → Nat → List Str
  | .word z l m, c => LW (strV z) (intV l).toNat m c
  | .ended z e l m, c => (LW (strV z) (intV l).toNat m c).map fun t => t ++ strV e
  | .number l m, c => numsL (intV l).toNat (nN (intV l).toNat m c)
  | .fixed w, _ => fixL (intV w).toNat
  | .listed x, _ => srtLL (x.els.map strV)
def LF : FD → Nat → List Str
  | .pl d, c => LP d c
  | .mk n m d, c => srtLL (strV n :: ((LP d c).take c).map fun t => strV m ++ t)
inductive LtP : PD → Nat → Prop
  | word {z : Str} {l : Nat} {m : V} {c : Nat} : 1 ≤ z.length → z.length ≤ 64 → l ≤ 30 → (m = .non ∨ ∃ j : Nat, m = .int (j : Nat) ∧ l ≤ j ∧ j ≤ 1000) → c ≤ 900 → LtP (.word (.str z) (.int (l : Nat)) m) c
  | ended {z e : Str} {l : Nat} {m : V} {c : Nat} : 1 ≤ z.length → z.length ≤ 64 → e.length ≤ 10 → l ≤ 30 → (m = .non ∨ ∃ j : Nat, m = .int (j : Nat) ∧ l ≤ j ∧ j ≤ 1000) → c ≤ 900 → LtP (.ended (.str z) (.str e) (.int (l : Nat)) m) c
  | number {l : Nat} {m : V} {c : Nat} : l ≤ 100 → (m = .non ∨ ∃ j : Nat, m = .int (j : Nat) ∧ l ≤ j ∧ j ≤ 2000) → c ≤ 10000 → LtP (.number (.int (l : Nat)) m) c
  | fixed {w c : Nat} : 1 ≤ w → w ≤ 7 → c ≤ 10 → LtP (.fixed (.int (w : Nat))) c
  | listed {x : LX} {ts : List Str} {c : Nat} : x.els = ts.map V.str → (∀ t ∈ ts, t.length ≤ 100) → c ≤ 10000 → LtP (.listed x) c
inductive LtF : FD → Nat → Prop
  | pl {d : PD} {c : Nat} : LtP d c → LtF (.pl d) c
  | mk {n m : Str} {d : PD} {c : Nat} : n.length ≤ 10 → m.length ≤ 10 → LtP d c → LtF (.mk (.str n) (.str m) d) c
def spLt (K : Frag) (P0 : Addr) (n : Nat) : Sp := fun vs H Q _ => ∃ (y : Addr) (d : FD) (c : Nat), vs = [.ref y, .int (c : Nat)] ∧ FdAt K H y d ∧ LtF d c ∧ d.dep < n ∧ LamX.Tabs [(P0, qLam)] H ∧
  ∀ p H', LamX.ExtN H H' → LamX.Tabs [(P0, qLam)] H' → NewN H p → H' p = some (.lst (((LF d c).take c).map V.str)) → Q (.ref p) H'
theorem cut_take (xs : List V) (c : Nat) : cutV xs none (some (c : Int)) = xs.take c := by
  unfold cutV
  rw [HT.sIx_none, HT.sIx_nat, List.drop_zero, Nat.sub_zero]
  rcases Nat.le_total c xs.length with h | h
  · rw [Nat.min_eq_left h]
  · rw [Nat.min_eq_right h, List.take_of_length_le (Nat.le_refl _), List.take_of_length_le h]
theorem pe_fldK {X : Cx} {K : Frag} {e : Expr} {ta : TE} {f : Str} {pos : Pos} (h : X.K = K) (he : PE X e ta) (hb : attributeBase e f X.env (eval e X.env) = eval e X.env := by rfl) : PE X (.Attribute e f pos) (tFld K ta f) := by
  subst h
  exact pe_fld he hb
theorem LW_len {z : Str} {l c : Nat} {m : V} (hl : l ≤ 30) (hc : c ≤ 900) (hm : m = .non ∨ ∃ j : Nat, m = .int (j : Nat) ∧ l ≤ j ∧ j ≤ 1000) : ∀ t ∈ LW z l m c, t.length ≤ 1000 := fun t ht => by
  have h := (up_chars ht).2.1
  rcases hm with rfl | ⟨j, rfl, h1, h2⟩
  · have h : t.length < l + (c + 5) := h
    omega
  · have h : t.length < l + ((j : Int) + 1 - (l : Int)).toNat := h
    omega
theorem app_len (a b : Str) : (a ++ b).length = a.length + b.length := by
  show (a.cps ++ b.cps).size = _
  rw [Array.size_append]
  rfl
theorem pad_ok : ∀ w ∈ [1, 2, 3, 4, 5, 6, 7], PadOk (w : Nat) = true := by decide +kernel
theorem fixz_len : ∀ w ∈ [1, 2, 3, 4, 5, 6, 7], ∀ i ∈ List.range 10, (Txt.zfill (T i) (w : Nat)).length ≤ 100 := by decide +kernel
theorem LP_len {d : PD} {c : Nat} (h : LtP d c) : ∀ t ∈ (LP d c).take c, t.length ≤ 1500 := by
  intro t ht0
  have ht := List.mem_of_mem_take ht0
  cases h with
  | word h1 h2 h3 h4 h5 => exact Nat.le_trans (LW_len h3 h5 h4 t ht) (by decide)
  | @ended z e l m _ h1 h2 he h3 h4 h5 =>
    obtain ⟨x, hx, rfl⟩ := List.mem_map.mp ht
    have := LW_len h3 h5 h4 x hx
    rw [app_len]
    show _ + e.length ≤ _
    omega
  | @number l m _ h1 h2 h3 =>
    unfold LP numsL at ht0
    rw [← List.map_take] at ht0
    obtain ⟨i, hi, rfl⟩ := List.mem_map.mp ht0
    have hi2 : i < c := by
      obtain ⟨k, hk, e⟩ := List.getElem_of_mem hi
      rw [List.length_take] at hk
      rw [List.getElem_take, List.getElem_range] at e
      omega
    have := T_len (n := l + i) (by omega)
    show (T (l + i)).length ≤ _
    omega
  | @fixed w _ h1 h2 h3 =>
    have ht2 : t ∈ (((List.range (10 ^ w)).map fun i => Txt.zfill (T i) (w : Nat)).take c) := ht0
    rw [← List.map_take, List.take_range] at ht2
    obtain ⟨i, hi, rfl⟩ := List.mem_map.mp ht2
    have hi2 := List.mem_range.mp hi
    exact Nat.le_trans (fixz_len w (by simp only [List.mem_cons, List.not_mem_nil, or_false]; omega) i (List.mem_range.mpr (by omega))) (by decide)
  | @listed x ts _ hx h1 h2 =>
    have ht : t ∈ srtLL (x.els.map strV) := ht
    have ht := (List.mergeSort_perm _ _).mem_iff.mp ht
    rw [hx, List.map_map] at ht
    obtain ⟨u, hu, rfl⟩ := List.mem_map.mp ht
    exact Nat.le_trans (h1 u hu) (by decide)
structure GLt (P : Program) (w : World) (K : Frag) (mg : Str → Option Value) (base : Heap) (P0 : Addr) : Prop extends GLo P w K mg base, G4 P w K mg base where
  digitsB : FnAt P w K mg base CX0 1 "digits_of" ["number"] spDigB
  greatest_of : FnAt P w K mg base CX0 2 "greatest_of" ["width"] spGr
  least_numbers : FnAt P w K mg base CX0 1 "least_numbers" ["least", "most", "count"] spNums
  least_words : FnAt P w K mg base CX0 2 "least_words" ["field", "count"] (spLeastW K)
  shorter_first : FnAt P w K mg base CX0 1 "shorter_first" ["texts"] (spShort K P0)
section
variable {P : Program} {w : World} {K : Frag} {mg : Str → Option Value} {base : Heap} {f : Addr} {fd : FuncData}

abbrev s_lt : Stmt := top 44
theorem sc_lt : FnScope ["field", "count", "word", "number", "numbers", "behind_mark", "text"] ["field", "count"] (defScope s_lt) := ⟨rfl, rfl, rfl, by decide +kernel, rfl, by decide +kernel, by decide +kernel⟩

theorem ok_lt (F : FunD K "least_texts" "least_texts" (defArgs s_lt) (defBody s_lt) (defScope s_lt) [] [] f fd) {P0 : Addr} (G : GLt P w K mg base P0) {n : Nat} (AM : FnAt P w K mg base CX0 (n + 2) "least_texts" ["field", "count"] (spLt K P0 n)) : FnOk P w K mg base CX0 (n + 2 + 1) f fd ["field", "count"] (spLt K P0 (n + 1)) := by
  refine F.ok (CX := CX0) sc_lt (fun vs H Q E h => ?_) (fun cdv A outer s H vs Q E hr h => ?_)
  · obtain ⟨y, d, c, rfl, _⟩ := h
    rfl
  · refine ⟨_, PSs.nox (pss_cons (ps_if (pt_cmpR op_lt (pv 1) pe_int (nomark _))
      (pss_one (ps_ret (pe_lstS pa_nil)))
      pss_nil)
    (pss_cons (ps_if (pt_val (pe_callB (call_ieK (K := K) rfl) (by rfl) G.isinstance (by decide +kernel) (pa_cons (pv 0) (pa_cons (pe_gref (by rfl) G.cWord.mgC) pa_nil))))
      (pss_one (ps_ret (pe_fn G.least_words (hr.mono (by omega)) pass0 (by rfl) (pa_cons (pv 0) (pa_cons (pv 1) pa_nil)))))
      pss_nil)
    (pss_cons (ps_if (pt_val (pe_callB (call_ieK (K := K) rfl) (by rfl) G.isinstance (by decide +kernel) (pa_cons (pv 0) (pa_cons (pe_gref (by rfl) G.cEnded.mgC) pa_nil))))
      (pss_one (ps_ret (pe_lc (own := [("word", 2)]) (g := gName 2) (tt := tYes) rfl sc_lt.nd (pi_list (pe_fn G.least_words (hr.mono (by omega)) pass0 (by rfl) (pa_cons (pv 0) (pa_cons (pv 1) pa_nil)))) (blkOk_by (N := ["field", "count", "word", "number", "numbers", "behind_mark", "text"]) (sc := defScope s_lt) (by decide +kernel)) (fun _ _ _ _ _ => pg_name (i := 2) sc_lt.nd rfl (Or.inl rfl)) (fun _ _ _ _ _ => pts_nil) (fun _ _ _ _ _ => (pe_op op_add_str (pv 2) (pe_fldK (K := K) rfl (pv 0) rfl))))))
      pss_nil)
    (pss_cons (ps_if (pt_val (pe_callB (call_ieK (K := K) rfl) (by rfl) G.isinstance (by decide +kernel) (pa_cons (pv 0) (pa_cons (pe_gref (by rfl) G.cNumber.mgC) pa_nil))))
      (pss_one (ps_ret (pe_lc (own := [("number", 3)]) (g := gName 3) (tt := tYes) rfl sc_lt.nd (pi_list (pe_fn G.least_numbers (hr.mono (by omega)) pass0 (by rfl) (pa_cons (pe_fld (pv 0) rfl) (pa_cons (pe_fld (pv 0) rfl) (pa_cons (pv 1) pa_nil))))) (blkOk_by (N := ["field", "count", "word", "number", "numbers", "behind_mark", "text"]) (sc := defScope s_lt) (by decide +kernel)) (fun _ _ _ _ _ => pg_name (i := 3) sc_lt.nd rfl (Or.inl rfl)) (fun _ _ _ _ _ => pts_nil) (fun _ _ _ _ _ => (pe_fn G.digitsB (hr.mono (by omega)) pass0 (by rfl) (pa_cons (pv 3) pa_nil))))))
      pss_nil)
    (pss_cons (ps_if (pt_val (pe_callB (call_ieK (K := K) rfl) (by rfl) G.isinstance (by decide +kernel) (pa_cons (pv 0) (pa_cons (pe_gref (by rfl) G.cFixed.mgC) pa_nil))))
      (pss_cons (ps_set (i := 4) sc_lt.nd rfl (Or.inl rfl) (pe_fn G.least_numbers (hr.mono (by omega)) pass0 (by rfl) (pa_cons pe_int (pa_cons (pe_fn G.greatest_of (hr.mono (by omega)) pass0 (by rfl) (pa_cons (pe_fld (pv 0) rfl) pa_nil)) (pa_cons (pv 1) pa_nil)))))
      (pss_one (ps_ret (pe_lc (own := [("number", 3)]) (g := gName 3) (tt := tYes) rfl sc_lt.nd (pi_list (pv 4)) (blkOk_by (N := ["field", "count", "word", "number", "numbers", "behind_mark", "text"]) (sc := defScope s_lt) (by decide +kernel)) (fun _ _ _ _ _ => pg_name (i := 3) sc_lt.nd rfl (Or.inl rfl)) (fun _ _ _ _ _ => pts_nil) (fun _ _ _ _ _ => (pe_bmK (K := K) rfl PySem.F.plainAttrs_str PySem.F.slot_str_zfill PySem.F.type_str_zfill mt_zfill (pe_fn G.digitsB (hr.mono (by omega)) pass0 (by rfl) (pa_cons (pv 3) pa_nil)) (pa_cons (pe_fldK (K := K) rfl (pv 0) rfl) pa_nil)))))))
      pss_nil)
    (pss_cons (ps_if (pt_val (pe_callB (call_ieK (K := K) rfl) (by rfl) G.isinstance (by decide +kernel) (pa_cons (pv 0) (pa_cons (pe_gref (by rfl) G.cListed.mgC) pa_nil))))
      (pss_one (ps_ret (pe_slice sl_listS (pe_fn G.shorter_first (hr.mono (by omega)) pass0 (by rfl) (pa_cons (pe_fld (pv 0) rfl) pa_nil)) po_none (po_some (pv 1)))))
      pss_nil)
    (pss_cons (ps_setLc (i := 5) (own := [("text", 6)]) (g := gName 6) (tt := tYes) (by rfl) sc_lt.nd rfl rfl (sw_true rfl rfl rfl (by decide +kernel)) (pi_list (pe_fn AM (hr.mono (by omega)) pass0 (by rfl) (pa_cons (pe_fld (pv 0) rfl) (pa_cons (pv 1) pa_nil)))) (blkOk_by (N := ["field", "count", "word", "number", "numbers", "behind_mark", "text"]) (sc := defScope s_lt) (by decide +kernel)) (fun _ _ _ _ _ => pg_name (i := 6) sc_lt.nd rfl (Or.inl rfl)) (fun _ _ _ _ _ => pts_nil) (fun _ _ _ _ _ => (pe_op op_add_str (pe_fldK (K := K) rfl (pv 0) rfl) (pv 6))))
    (pss_one (ps_ret (pe_slice sl_listS (pe_fn G.shorter_first (hr.mono (by omega)) pass0 (by rfl) (pa_cons (pe_op op_catS (pe_lstS (pa_cons (pe_fld (pv 0) rfl) pa_nil)) (pv 5)) pa_nil)) po_none (po_some (pv 1)))))))))))), ?_⟩
    obtain ⟨y, d, c, rfl, hF, hL, hdep, hT, q⟩ := h
    refine ⟨_, rfl, _, _, rfl, rfl, _, rfl, ?_⟩
    refine ite2 (fun c0 => ?_) (fun c0 => ?_)
    · have e0 : c = 0 := by have := of_decide_eq_true c0; omega
      subst e0
      refine ⟨by show 0 ≤ 1000; decide, fun p J hp S e => q p J (extN_sm S) (tabs_sm hT S) (NewN.of hp) ?_⟩
      rw [e]
      rfl
    have hc : 1 ≤ c := by
      have : ¬ (c : Int) < 1 := fun z => c0 (decide_eq_true z)
      omega
    cases hL with
    | @pl d _ hL =>
      obtain ⟨hF, _, _⟩ := hF
      obtain ⟨dx0, fs0, ha0, _⟩ := hF.ins
      refine ⟨_, rfl, _, _, _, _, _, rfl, .own _, G.ty (by have := d.ci_lt; omega) ha0, G.kit d.ci 0 (by have := d.ci_lt; omega) (by decide), _, rfl, ?_⟩
      cases hL with
      | @word z l m _ hz1 hz2 hl hm hc2 =>
        obtain ⟨dx, ha⟩ := hF
        refine iteT ?_
        refine ⟨_, rfl, _, rfl, y, _, dx, _, z, l, m, c, rfl, ha, G.cWord.cl, G.cWord.no _ (by decide +kernel), G.cWord.no _ (by decide +kernel), G.cWord.no _ (by decide +kernel), lWord_signs, lWord_least, lWord_most, hm.imp id (fun ⟨j, h1, h2, _⟩ => ⟨j, h1, h2⟩), hz1, hz2, hl, hc, hc2, fun p J hp S e => q p J (extN_sm S) (tabs_sm hT S) (NewN.of hp) e⟩
      | @ended z e l m _ hz1 hz2 he hl hm hc2 =>
        obtain ⟨dx, ha⟩ := hF
        refine iteF ?_
        refine ⟨_, rfl, _, _, _, _, _, rfl, .own _, G.ty (i := 4) (by decide) ha, G.kit 4 4 (by decide) (by decide), _, rfl, iteT ?_⟩
        refine ⟨_, rfl, _, rfl, y, _, dx, _, z, l, m, c, rfl, ha, G.cEnded.cl, G.cEnded.no _ (by decide +kernel), G.cEnded.no _ (by decide +kernel), G.cEnded.no _ (by decide +kernel), lEnded_signs, lEnded_least, lEnded_most, hm.imp id (fun ⟨j, h1, h2, _⟩ => ⟨j, h1, h2⟩), hz1, hz2, hl, hc, hc2, fun p J hp S ep => ?_⟩
        refine ⟨p, rfl, ⟨_, SqL.of ep⟩, fun D hD => ?_⟩
        have hlen : ∀ t ∈ (LW z l m c).take c, t.length ≤ 1000 := fun t ht => LW_len hl hc2 hm t (List.mem_of_mem_take ht)
        have hwl : ((LW z l m c).take c).length ≤ 900 := by rw [List.length_take]; omega
        have eLF : (LF (.pl (.ended (.str z) (.str e) (.int (l : Nat)) m)) c).take c = ((LW z l m c).take c).map fun t => t ++ e := by
          show ((LW z l m c).map fun t => t ++ e).take c = _
          rw [List.map_take]
        rw [eLF] at q
        generalize (LW z l m c).take c = ws at ep q hlen hwl
        refine lc_list (K := K) (a := p) (xs := ws.map V.str) (LcP J D fun i => (ws.take i).map fun t => V.str (t ++ e)) (LcP.start hD rfl) (fun i J2 hi pJ => SqL.of (pJ.1 _ _ ep)) ?_ ?_
        · intro i x J2 hx pJ
          obtain ⟨t, ht, rfl⟩ := map_get hx
          have hi := (List.getElem?_eq_some_iff.mp ht).1
          have htl := hlen t (List.mem_of_getElem? ht)
          refine ⟨rfl, _, rfl, _, rfl, y, _, dx, _, _, rfl, pJ.1 _ _ (S _ _ ha), G.cEnded.cl, G.cEnded.no _ (by decide +kernel), lEnded_sign, _, _, rfl, rfl, by rw [sizeLine_eq]; omega, ?_⟩
          exact pJ.put (Same.refl _) (by rw [List.take_add_one, ht, List.map_append]; rfl) (by omega)
        · rintro J2 ⟨S2, _, eD, _⟩
          rw [List.length_map] at eD
          dsimp only at eD
          rw [List.take_length] at eD
          refine q D J2 (extN_sm (S.trans S2)) (tabs_sm hT (S.trans S2)) (NewN.of (none_of S hD)) ?_
          rw [eD, List.map_map]
          rfl
      | @number l m _ hl hm hc2 =>
        obtain ⟨dx, ha⟩ := hF
        refine iteF ?_
        refine ⟨_, rfl, _, _, _, _, _, rfl, .own _, G.ty (i := 1) (by decide) ha, G.kit 1 4 (by decide) (by decide), _, rfl, iteF ?_⟩
        refine ⟨_, rfl, _, _, _, _, _, rfl, .own _, G.ty (i := 1) (by decide) ha, G.kit 1 1 (by decide) (by decide), _, rfl, iteT ?_⟩
        refine ⟨_, rfl, y, _, dx, _, _, rfl, ha, G.cNumber.cl, G.cNumber.no _ (by decide +kernel), lNumber_least, _, rfl, y, _, dx, _, _, rfl, ha, G.cNumber.cl, G.cNumber.no _ (by decide +kernel), lNumber_most, _, rfl, l, c, m, rfl, hl, hc, by omega, hm.imp_right (fun ⟨j, e, a, b⟩ => ⟨j, e, a, by omega⟩), fun p J n h1 h2 hp S ep => ⟨p, rfl, ⟨_, SqL.of ep⟩, fun D hD => ?_⟩⟩
        have hn : n ≤ c := by
          rcases hm with rfl | ⟨j, rfl, _⟩
          · rw [h1 rfl]; exact Nat.le_refl _
          · rw [h2 j rfl]; exact Nat.min_le_left _ _
        have eLF : (LF (.pl (.number (.int (l : Nat)) m)) c).take c = (List.range n).map fun i => T (l + i) := by
          show ((List.range (nN l m c)).map fun i => T (l + i)).take c = _
          rw [← List.map_take, List.take_range]
          congr 2
          rcases hm with rfl | ⟨j, rfl, _⟩
          · rw [h1 rfl]
            show min c (c + 10000) = c
            omega
          · rw [h2 j rfl]
            show min c ((j : Int) + 1 - (l : Int)).toNat = _
            omega
        rw [eLF] at q
        refine lc_list (K := K) (a := p) (xs := intsV (l : Nat) n) (LcP J D fun i => (List.range i).map fun i => V.str (T (l + i))) (LcP.start hD rfl) (fun i J2 hi pJ => SqL.of (pJ.1 _ _ ep)) ?_ ?_
        · intro i x J2 hx pJ
          unfold intsV at hx
          obtain ⟨k, hk, rfl⟩ := map_get hx
          obtain ⟨hi, ek⟩ := List.getElem?_eq_some_iff.mp hk
          rw [List.getElem_range] at ek
          subst ek
          rw [List.length_range] at hi
          refine ⟨rfl, _, rfl, l + i, ?_, by omega, fun J3 S3 => ?_⟩
          · show [V.int ((l : Int) + (i : Int))] = [V.int ((l + i : Nat) : Int)]
            rw [show (l : Int) + (i : Int) = ((l + i : Nat) : Int) by omega]
          · exact pJ.put S3 (by rw [List.range_succ, List.map_append]; rfl) (by omega)
        · rintro J2 ⟨S2, _, eD, _⟩
          unfold intsV at eD
          rw [List.length_map, List.length_range] at eD
          refine q D J2 (extN_sm (S.trans S2)) (tabs_sm hT (S.trans S2)) (NewN.of (none_of S hD)) ?_
          rw [eD, List.map_map]
          rfl
      | @fixed w _ h1 h2 hc2 =>
        obtain ⟨dx, ha⟩ := hF
        refine iteF ?_
        refine ⟨_, rfl, _, _, _, _, _, rfl, .own _, G.ty (i := 2) (by decide) ha, G.kit 2 4 (by decide) (by decide), _, rfl, iteF ?_⟩
        refine ⟨_, rfl, _, _, _, _, _, rfl, .own _, G.ty (i := 2) (by decide) ha, G.kit 2 1 (by decide) (by decide), _, rfl, iteF ?_⟩
        refine ⟨_, rfl, _, _, _, _, _, rfl, .own _, G.ty (i := 2) (by decide) ha, G.kit 2 2 (by decide) (by decide), _, rfl, iteT ?_⟩
        have h10 : 10 ^ w ≤ 10000000 ∧ 1 ≤ 10 ^ w := by
          obtain rfl | rfl | rfl | rfl | rfl | rfl | rfl : w = 1 ∨ w = 2 ∨ w = 3 ∨ w = 4 ∨ w = 5 ∨ w = 6 ∨ w = 7 := by omega
          all_goals decide
        refine ⟨_, rfl, y, _, dx, _, _, rfl, ha, G.cFixed.cl, G.cFixed.no _ (by decide +kernel), lFixed_width, w, rfl, h1, h2, _, rfl, 0, c, .int ((10 ^ w - 1 : Nat) : Int), rfl, by decide, hc, by omega, .inr ⟨10 ^ w - 1, rfl, by omega, by omega⟩, fun p J n _ hn2 hp S ep => ?_⟩
        have hn : n = min c (10 ^ w) := by rw [hn2 _ rfl]; omega
        refine ⟨_, rfl, p, rfl, ⟨_, SqL.of ep⟩, fun D hD => ?_⟩
        have eLF : (LF (.pl (.fixed (.int (w : Nat)))) c).take c = (List.range n).map fun i => Txt.zfill (T i) (w : Nat) := by
          show ((List.range (10 ^ w)).map fun i => Txt.zfill (T i) (w : Nat)).take c = _
          rw [← List.map_take, List.take_range, hn]
        rw [eLF] at q
        refine lc_list (K := K) (a := p) (xs := intsV (0 : Nat) n) (LcP J D fun i => (List.range i).map fun i => V.str (Txt.zfill (T i) (w : Nat))) (LcP.start hD rfl) (fun i J2 hi pJ => SqL.of (pJ.1 _ _ ep)) ?_ ?_
        · intro i x J2 hx pJ
          unfold intsV at hx
          obtain ⟨k, hk, rfl⟩ := map_get hx
          obtain ⟨hi, ek⟩ := List.getElem?_eq_some_iff.mp hk
          rw [List.getElem_range] at ek
          subst ek
          rw [List.length_range] at hi
          refine ⟨rfl, _, rfl, i, ?_, by omega, fun J3 S3 => ?_⟩
          · show [V.int (((0 : Nat) : Int) + (i : Int))] = [V.int ((i : Nat) : Int)]
            rw [show ((0 : Nat) : Int) + (i : Int) = ((i : Nat) : Int) by omega]
          · refine ⟨rfl, _, rfl, y, _, dx, _, _, rfl, S3 _ _ (pJ.1 _ _ (S _ _ ha)), G.cFixed.cl, G.cFixed.no _ (by decide +kernel), lFixed_width, _, _, rfl, rfl, pad_ok w (by simp only [List.mem_cons, List.not_mem_nil, or_false]; omega), ?_⟩
            exact pJ.put S3 (by rw [List.range_succ, List.map_append]; rfl) (by omega)
        · rintro J2 ⟨S2, _, eD, _⟩
          unfold intsV at eD
          rw [List.length_map, List.length_range] at eD
          refine q D J2 (extN_sm (S.trans S2)) (tabs_sm hT (S.trans S2)) (NewN.of (none_of S hD)) ?_
          rw [eD, List.map_map]
          rfl
      | @listed x ts _ hx ht hc2 =>
        obtain ⟨dx, t, ha, hX⟩ := hF
        refine iteF ?_
        refine ⟨_, rfl, _, _, _, _, _, rfl, .own _, G.ty (i := 3) (by decide) ha, G.kit 3 4 (by decide) (by decide), _, rfl, iteF ?_⟩
        refine ⟨_, rfl, _, _, _, _, _, rfl, .own _, G.ty (i := 3) (by decide) ha, G.kit 3 1 (by decide) (by decide), _, rfl, iteF ?_⟩
        refine ⟨_, rfl, _, _, _, _, _, rfl, .own _, G.ty (i := 3) (by decide) ha, G.kit 3 2 (by decide) (by decide), _, rfl, iteF ?_⟩
        refine ⟨_, rfl, _, _, _, _, _, rfl, .own _, G.ty (i := 3) (by decide) ha, G.kit 3 3 (by decide) (by decide), _, rfl, iteT ?_⟩
        rw [hx] at hX
        have hX : TupZ H t (ts.map V.str) := hX
        refine ⟨_, rfl, y, _, dx, _, _, rfl, ha, G.cListed.cl, G.cListed.no _ (by decide +kernel), lListed_texts, t, ts, rfl, .inr hX.sq, fun u hu => Nat.le_trans (ht u hu) (by decide), hT, fun J p eN T2 nw ep => ?_⟩
        refine ⟨_, rfl, _, rfl, p, _, rfl, SqL.of ep, fun r Hr hr Sr er => ?_⟩
        have eN2 : LamX.ExtN H Hr := eN.trans (extN_sm Sr)
        refine q r Hr eN2 (tabs_sm T2 Sr) (NewN.ext eN hr) ?_
        rw [er, cut_take]
        have els : x.els.map strV = ts := by
          rw [hx, List.map_map]
          exact (List.map_congr_left fun _ _ => rfl).trans (List.map_id _)
        show _ = some (HO.lst (((srtLL (x.els.map strV)).take c).map V.str))
        rw [els, List.map_take]
    | @mk nn mm d _ hn hm hL =>
      obtain ⟨⟨dx, y2, ha, hF2⟩, h1, h2, _, _⟩ := hF
      refine ⟨_, rfl, _, _, _, _, _, rfl, .own _, G.ty (i := 5) (by decide) ha, G.kit 5 0 (by decide) (by decide), _, rfl, iteF ?_⟩
      refine ⟨_, rfl, _, _, _, _, _, rfl, .own _, G.ty (i := 5) (by decide) ha, G.kit 5 4 (by decide) (by decide), _, rfl, iteF ?_⟩
      refine ⟨_, rfl, _, _, _, _, _, rfl, .own _, G.ty (i := 5) (by decide) ha, G.kit 5 1 (by decide) (by decide), _, rfl, iteF ?_⟩
      refine ⟨_, rfl, _, _, _, _, _, rfl, .own _, G.ty (i := 5) (by decide) ha, G.kit 5 2 (by decide) (by decide), _, rfl, iteF ?_⟩
      refine ⟨_, rfl, _, _, _, _, _, rfl, .own _, G.ty (i := 5) (by decide) ha, G.kit 5 3 (by decide) (by decide), _, rfl, iteF ?_⟩
      refine ⟨_, rfl, y, _, dx, _, _, rfl, ha, G.cMarked.cl, G.cMarked.no _ (by decide +kernel), lMarked_field, _, rfl, y2, .pl d, c, rfl, ⟨hF2, h1, h2⟩, .pl hL, Nat.lt_of_succ_lt_succ hdep, hT, fun p J eN T1 nw ep => ⟨p, rfl, ⟨_, SqL.of ep⟩, fun D hD => ?_⟩⟩
      have hlen := LP_len hL
      have hwl : ((LP d c).take c).length ≤ 10000 := by
        rw [List.length_take]
        have : c ≤ 10000 := by cases hL <;> omega
        omega
      have ep : J p = some (.lst (((LP d c).take c).map V.str)) := ep
      have eLF : LF (.mk (.str nn) (.str mm) d) c = srtLL (nn :: ((LP d c).take c).map fun t => mm ++ t) := rfl
      rw [eLF] at q
      generalize (LP d c).take c = ws at ep q hlen hwl
      have ha1 := eN _ _ ha (fun _ z => by cases z)
      refine lc_list (K := K) (a := p) (xs := ws.map V.str) (LcP J D fun i => (ws.take i).map fun t => V.str (mm ++ t)) (LcP.start hD rfl) (fun i J2 hi pJ => SqL.of (pJ.1 _ _ ep)) ?_ ?_
      · intro i x J2 hx pJ
        obtain ⟨t, ht, rfl⟩ := map_get hx
        have hi := (List.getElem?_eq_some_iff.mp ht).1
        have htl := hlen t (List.mem_of_getElem? ht)
        refine ⟨rfl, _, rfl, y, _, dx, _, _, rfl, pJ.1 _ _ ha1, G.cMarked.cl, G.cMarked.no _ (by decide +kernel), lMarked_mark, _, rfl, _, _, rfl, rfl, by rw [sizeLine_eq]; omega, ?_⟩
        exact pJ.put (Same.refl _) (by rw [List.take_add_one, ht, List.map_append]; rfl) (by omega)
      · rintro J2 ⟨S2, _, eD, _⟩
        rw [List.length_map] at eD
        dsimp only at eD
        rw [List.take_length] at eD
        have ha2 := S2 _ _ ha1
        have TE := tabs_sm T1 S2
        refine ⟨_, rfl, y, _, dx, _, _, rfl, ha2, G.cMarked.cl, G.cMarked.no _ (by decide +kernel), lMarked_none, by show 1 ≤ 1000; decide, fun p1 J3 hp1 S3 e3 => ?_⟩
        refine ⟨_, rfl, p1, D, _, _, rfl, rfl, SqL.of e3, SqL.of (S3 _ _ eD), by rw [List.length_map, sizeLine_eq]; show 1 + ws.length ≤ 16777216; omega, fun p2 J4 hp2 S4 e4 => ?_⟩
        have eN4 : LamX.ExtN H J4 := eN.trans (extN_sm (S2.trans (S3.trans S4)))
        have e4 : J4 p2 = some (.lst ((nn :: ws.map fun t => mm ++ t).map V.str)) := by
          rw [e4, List.map_cons, List.map_map]
          rfl
        refine ⟨p2, _, rfl, .inl (SqL.of e4), fun t ht => ?_, tabs_sm TE (S3.trans S4), fun J5 p3 eN5 T5 nw5 e5 => ⟨_, rfl, _, rfl, p3, _, rfl, SqL.of e5, fun r Hr hr Sr er => ?_⟩⟩
        · rcases List.mem_cons.mp ht with rfl | ht
          · omega
          · obtain ⟨u, hu, rfl⟩ := List.mem_map.mp ht
            have := hlen u hu
            rw [app_len]
            omega
        · have eN6 : LamX.ExtN H Hr := (eN4.trans eN5).trans (extN_sm Sr)
          refine q r Hr eN6 (tabs_sm T5 Sr) (NewN.ext (eN4.trans eN5) hr) ?_
          rw [er, cut_take, List.map_take]


end
end L2.K08

set_option Elab.async false
set_option linter.all false
set_option maxRecDepth 100000
set_option maxHeartbeats 4000000
/-! a comprehension with two for's: the outer walk, the inner walk. -/
namespace L2.Jk
open PySem PySem.W PySem.Spec PySem.Calls PyProof.Rows L2
theorem lc2_out {J : It} {n : Nat} {G : Hp → Prop} {Y : Nat → Hp → V → Hp → Prop} (w : Walk J n G Y) {g : TG} {tt : TT} {body : (Hp → Prop) → St → Hp → Prop} {vs : List Nat} {σ : St} {H1 : Hp} {D : Addr} {Qd : Hp → Prop} (Pv : Nat → Hp → Prop) (h0 : Pv 0 (upd H1 D (.lst []))) (hG : ∀ i H, i ≤ n → Pv i H → G H)
    (hs : ∀ i x H H', i < n → Pv i H → Y i H x H' → g x (wipe σ vs) H' fun σ2 H2 => wipe σ2 vs = wipe σ vs ∧ tt σ2 H2 fun b H3 => if b = true then body (Pv (i + 1)) σ2 H3 else Pv (i + 1) H3) (hd : ∀ H, Pv n H → Qd H) :
    ∃ W : Nat → Nat → Hp → Prop, (∃ m, W 0 m (upd H1 D (.lst []))) ∧ ∀ i m H, W i m H →
      (J.stop i H ∧ Qd H) ∨ (J.go i H ∧ ∃ Nx : Hp → Prop, (∀ H', Nx H' → ∃ m', m' < m ∧ W (i + 1) m' H') ∧ ∀ x H', J.yld i H x H' → g x (wipe σ vs) H' fun σ2 H2 => wipe σ2 vs = wipe σ vs ∧ tt σ2 H2 fun b H3 =>
        if b = true then body Nx σ2 H3 else Nx H3) := by
  refine ⟨fun i m H => m = n - i ∧ i ≤ n ∧ Pv i H, ⟨n, by simp, Nat.zero_le _, h0⟩, ?_⟩
  rintro i m H ⟨rfl, hi, p⟩
  have q := hG i H hi p
  by_cases hlt : i < n
  · exact .inr ⟨w.goes i H hlt q, Pv (i + 1), fun H' p' => ⟨n - (i + 1), by omega, rfl, hlt, p'⟩, fun x H' y => hs i x H H' hlt p (w.yields i H x H' hlt q y)⟩
  · have e : i = n := by omega
    subst e
    exact .inl ⟨w.stops H q, hd H p⟩
theorem lc2_in {J : It} {n : Nat} {G : Hp → Prop} {Y : Nat → Hp → V → Hp → Prop} (w : Walk J n G Y) {g : TG} {tt : TT} {te : TE} {vs : List Nat} {σ : St} {H1 : Hp} {D : Addr} {Nx : Hp → Prop} (Pv : Nat → Hp → Prop) (h0 : Pv 0 H1) (hG : ∀ i H, i ≤ n → Pv i H → G H)
    (hs : ∀ i x H H', i < n → Pv i H → Y i H x H' → g x (wipe σ vs) H' fun σ2 H2 => wipe σ2 vs = wipe σ vs ∧ tt σ2 H2 fun b H3 =>
      if b = true then te σ2 H3 fun y H4 => ∃ acc, H4 D = some (.lst acc) ∧ acc.length < sizeLine ∧ Pv (i + 1) (upd H4 D (.lst (acc ++ [y]))) else Pv (i + 1) H3) (hd : ∀ H, Pv n H → Nx H) :
    ∃ W : Nat → Nat → Hp → Prop, (∃ m, W 0 m H1) ∧ ∀ i m H, W i m H →
      (J.stop i H ∧ Nx H) ∨ (J.go i H ∧ ∃ Nx1 : Hp → Prop, (∀ H', Nx1 H' → ∃ m', m' < m ∧ W (i + 1) m' H') ∧ ∀ x H', J.yld i H x H' → g x (wipe σ vs) H' fun σ2 H2 => wipe σ2 vs = wipe σ vs ∧ tt σ2 H2 fun b H3 =>
        if b = true then te σ2 H3 fun y H4 => ∃ acc, H4 D = some (.lst acc) ∧ acc.length < sizeLine ∧ Nx1 (upd H4 D (.lst (acc ++ [y]))) else Nx1 H3) := by
  refine ⟨fun i m H => m = n - i ∧ i ≤ n ∧ Pv i H, ⟨n, by simp, Nat.zero_le _, h0⟩, ?_⟩
  rintro i m H ⟨rfl, hi, p⟩
  have q := hG i H hi p
  by_cases hlt : i < n
  · exact .inr ⟨w.goes i H hlt q, Pv (i + 1), fun H' p' => ⟨n - (i + 1), by omega, rfl, hlt, p'⟩, fun x H' y => hs i x H H' hlt p (w.yields i H x H' hlt q y)⟩
  · have e : i = n := by omega
    subst e
    exact .inl ⟨w.stops H q, hd H p⟩
end L2.Jk

set_option Elab.async false
set_option linter.all false
set_option maxRecDepth 100000
set_option maxHeartbeats 4000000
/-! What kinds of fields have. -/
namespace L2.K08
open PySem PySem.W PySem.Spec PySem.Calls PyProof.Rows L2.Jk
theorem ix_tupK {X : Cx} {K : Frag} (h : X.K = K) : IxR X (rIxT K) := by
  subst h
  exact ix_tup
def BdOk (l : Nat) (m : V) (k : Nat) : Prop := m = .non ∨ ∃ j : Nat, m = .int (j : Nat) ∧ l ≤ j ∧ j < l + k
/-- the fields that the law makes -/
inductive Dr : PD → Prop
  | word {z : Str} {l : Nat} {m : V} : True → True → BdOk l m 10 → Dr (.word (.str z) (.int (l : Nat)) m)
  | number {l : Nat} {m : V} : l < 15 → BdOk l m 120 → Dr (.number (.int (l : Nat)) m)
  | fixed {w : Nat} : 1 ≤ w → w ≤ 7 → Dr (.fixed (.int (w : Nat)))
  | listed {ts : List Str} : ts.Nodup → (∀ t ∈ ts, t.length ≤ 12) → ts ≠ [] → ts.length ≤ 12 → Dr (.listed (.lst (ts.map V.str)))
  | ended {z e : Str} {l : Nat} {m : V} : True → True → True → True → BdOk l m 10 → Dr (.ended (.str z) (.str e) (.int (l : Nat)) m)
inductive DrF : FD → Prop
  | pl {d : PD} : Dr d → DrF (.pl d)
  | mk {n m : Str} {d : PD} : True → Dr d → DrF (.mk (.str n) (.str m) d)
theorem seqT_sm {K : Frag} {H H' : Hp} {a : Addr} {xs : List V} (S : Same H H') (h : SqT K H a xs) : SqT K H' a xs := by
  rcases h with (h | ⟨o, h⟩) | h
  · exact .inl (.inl (S _ _ h))
  · exact .inl (.inr ⟨o, S _ _ h⟩)
  · exact .inr h
theorem tk_snoc {α : Type} {xs : List α} {i : Nat} {x : α} (h : xs[i]? = some x) : xs.take (i + 1) = xs.take i ++ [x] := by
  rw [List.take_add_one, h]
  rfl
/-- a list of truth values that a comprehension makes -/
def LcB (H1 : Hp) (D : Addr) (fm : Nat → List Bool) (i : Nat) (H : Hp) : Prop := Same H1 H ∧ H1 D = none ∧ H D = some (.lst ((fm i).map V.bl)) ∧ (fm i).length ≤ i
theorem LcB.start {H1 : Hp} {D : Addr} {fm : Nat → List Bool} (h : H1 D = none) (e : fm 0 = []) : LcB H1 D fm 0 (upd H1 D (.lst [])) := ⟨same_upd h, h, by rw [upd_same, e]; rfl, by rw [e]; exact Nat.le_refl _⟩
theorem LcB.put {H1 H H4 : Hp} {D : Addr} {fm : Nat → List Bool} {i : Nat} {b : Bool} (p : LcB H1 D fm i H) (s : Same H H4) (e : fm (i + 1) = fm i ++ [b]) (hi : i < 10000) :
    ∃ acc, H4 D = some (.lst acc) ∧ acc.length < sizeLine ∧ LcB H1 D fm (i + 1) (upd H4 D (.lst (acc ++ [V.bl b]))) := by
  obtain ⟨S, hD, eD, hl⟩ := p
  refine ⟨_, s _ _ eD, by rw [List.length_map, sizeLine_eq]; omega, same_put (S.trans s) hD, hD, by rw [upd_same, e, List.map_append]; rfl, by rw [e, List.length_append]; exact Nat.succ_le_succ hl⟩
theorem any_map (bs : List Bool) : bs.any id = bs.any (fun b => b) := rfl
theorem map_strV (ts : List Str) : (ts.map V.str).map strV = ts := by
  rw [List.map_map]
  exact List.map_id' ts
def bwB (t : Str) (ts : List Str) : Bool := (ts.map fun b => Txt.startswith t b).any id
def dropS (t : Str) (k : Nat) : Str := cutS t (some (k : Int)) none
def hwB (ts : List Str) (e : Str) : Bool := decide (e ∈ ts) || !bwB e ts
def weB (ts : List Str) (t : Str) : Bool := (((List.range (t.length - 1)).map fun i : Nat => dropS t (1 + i)).map fun e => hwB ts e).all id
def hbB (ts : List Str) : Bool := !((List.range ts.length).flatMap fun late => (List.range late).map fun early => Txt.startswith (ts.getD early "") (ts.getD late "")).any id
def PD.tx : PD → List Str
  | .listed x => x.els.map strV
  | _ => []
def hbP : PD → Bool
  | .listed x => hbB (x.els.map strV)
  | _ => true
def hbF : FD → Bool
  | .pl d => hbP d
  | .mk _ _ d => hbP d
def iwP : PD → Bool
  | .number l m => decide (intV l > 0) || (!decide (m = .non) && decide (intV m < 100))
  | .listed x => hbB (x.els.map strV) && ((x.els.map strV).map fun t => weB (x.els.map strV) t).all id
  | _ => true
def iwF : FD → Bool
  | .pl d => iwP d
  | .mk _ _ d => hbP d
theorem in_strs {e : Str} : ∀ ts : List Str, inV (.str e) (ts.map V.str) = decide (e ∈ ts) := fun ts => by
  unfold inV
  rw [List.any_map, Bool.eq_iff_iff, List.any_eq_true, decide_eq_true_iff]
  constructor
  · rintro ⟨x, hx, k⟩
    have k : (x == e) = true := k
    rw [← eq_of_beq k]
    exact hx
  · exact fun h => ⟨e, h, beq_self_eq_true e⟩
theorem strs_flat (ts : List Str) : (ts.map V.str).all flatV = true := by
  rw [List.all_map]
  exact List.all_eq_true.mpr fun _ _ => rfl
theorem op_inK {X : Cx} {K : Frag} (h : X.K = K) : OpR X (compareOp .In) (rIn K false) := by
  subst h
  exact op_in_seq
def spBw (K : Frag) : Sp := fun vs H Q _ => ∃ (t : Str) (p : Addr) (ts : List Str), vs = [.str t, .ref p] ∧ SqT K H p (ts.map V.str) ∧ ts.length ≤ 20 ∧ ∀ H', Same H H' → Q (.bl (bwB t ts)) H'
def spWe (K : Frag) : Sp := fun vs H Q _ => ∃ (p : Addr) (ts : List Str) (t : Str), vs = [.ref p, .str t] ∧ SqT K H p (ts.map V.str) ∧ ts.length ≤ 20 ∧ t.length ≤ 20 ∧ ∀ H', Same H H' → Q (.bl (weB ts t)) H'
def spHb (K : Frag) (n : Nat) : Sp := fun vs H Q _ => ∃ (y : Addr) (d : FD), vs = [.ref y] ∧ FdAt K H y d ∧ DrF d ∧ d.dep < n ∧ ∀ H', Same H H' → Q (.bl (hbF d)) H'
def spIw (K : Frag) : Sp := fun vs H Q _ => ∃ (y : Addr) (d : FD), vs = [.ref y] ∧ FdAt K H y d ∧ DrF d ∧ ∀ H', Same H H' → Q (.bl (iwF d)) H'
structure GK (P : Program) (w : World) (K : Frag) (mg : Str → Option Value) (base : Heap) : Prop extends G4 P w K mg base where
  begins_with_one : FnAt P w K mg base CX0 1 "begins_with_one" ["text", "beginnings"] (spBw K)
section
variable {P : Program} {w : World} {K : Frag} {mg : Str → Option Value} {base : Heap} {f : Addr} {fd : FuncData}

abbrev s_bw : Stmt := top 52
theorem sc_bw : FnScope ["text", "beginnings", "beginning"] ["text", "beginnings"] (defScope s_bw) := ⟨rfl, rfl, rfl, by decide +kernel, rfl, by decide +kernel, by decide +kernel⟩

theorem ok_bw (F : FunD K "begins_with_one" "begins_with_one" (defArgs s_bw) (defBody s_bw) (defScope s_bw) [] [] f fd) (G : G4 P w K mg base) : FnOk P w K mg base CX0 1 f fd ["text", "beginnings"] (spBw K) := by
  refine F.ok (CX := CX0) sc_bw (fun vs H Q E h => ?_) (fun cdv A outer s H vs Q E hr h => ?_)
  · obtain ⟨_, _, _, rfl, _⟩ := h
    rfl
  · refine ⟨_, PSs.nox (pss_one (ps_ret (pe_callB (cr_any rfl) (by rfl) G.any (by decide +kernel) (pa_cons (pe_lc (own := [("beginning", 2)]) (g := gName 2) (tt := tYes) rfl sc_bw.nd (pi_tup (pv 1)) (blkOk_by (N := ["text", "beginnings", "beginning"]) (sc := defScope s_bw) (by decide +kernel)) (fun _ _ _ _ _ => pg_name (i := 2) sc_bw.nd rfl (Or.inl rfl)) (fun _ _ _ _ _ => pts_nil) (fun _ _ _ _ _ => (pe_bmK (K := K) rfl PySem.F.plainAttrs_str PySem.F.slot_str_startswith PySem.F.type_str_startswith mt_startswith (pv 0) (pa_cons (pv 2) pa_nil)))) pa_nil)))), ?_⟩
    obtain ⟨t, p, ts, rfl, hp, hl, q⟩ := h
    refine ⟨_, rfl, p, rfl, ⟨_, hp⟩, fun D hD => ?_⟩
    refine lc_tup (K := K) (a := p) (xs := ts.map V.str) (LcB H D fun n => (ts.take n).map fun b => Txt.startswith t b) (LcB.start hD rfl) (fun i J hi pJ => seqT_sm pJ.1 hp) ?_ ?_
    · intro i x J hx pJ
      obtain ⟨b, hb, rfl⟩ := map_get hx
      have hi := (List.getElem?_eq_some_iff.mp hb).1
      exact ⟨rfl, _, rfl, rfl, _, rfl, t, b, rfl, rfl, pJ.put (Same.refl _) (by rw [tk_snoc hb, List.map_append]; rfl) (by omega)⟩
    · rintro J ⟨S, _, eD, _⟩
      rw [List.length_map] at eD
      dsimp only at eD
      rw [List.take_length] at eD
      refine ⟨D, _, rfl, SqL.of eD, ?_⟩
      have z := q J S
      exact z

abbrev s_we : Stmt := top 51
theorem sc_we : FnScope ["texts", "text", "ends", "start", "end"] ["texts", "text"] (defScope s_we) := ⟨rfl, rfl, rfl, by decide +kernel, rfl, by decide +kernel, by decide +kernel⟩

theorem ok_we (F : FunD K "has_whole_ends" "has_whole_ends" (defArgs s_we) (defBody s_we) (defScope s_we) [] [] f fd) (G : GK P w K mg base) : FnOk P w K mg base CX0 2 f fd ["texts", "text"] (spWe K) := by
  refine F.ok (CX := CX0) sc_we (fun vs H Q E h => ?_) (fun cdv A outer s H vs Q E hr h => ?_)
  · obtain ⟨_, _, _, rfl, _⟩ := h
    rfl
  · refine ⟨_, PSs.nox (C8.pss_cut (ps_setLc (i := 2) (own := [("start", 3)]) (g := gName 3) (tt := tYes) (by rfl) sc_we.nd rfl rfl (sw_true rfl rfl rfl (by decide +kernel)) (pi_range2 (by rfl) G.range (pa_cons pe_int (pa_cons (pe_callB call_len_str (by rfl) G.len (by decide +kernel) (pa_cons (pv 1) pa_nil)) pa_nil))) (blkOk_by (N := ["texts", "text", "ends", "start", "end"]) (sc := defScope s_we) (by decide +kernel)) (fun _ _ _ _ _ => pg_name (i := 3) sc_we.nd rfl (Or.inl rfl)) (fun _ _ _ _ _ => pts_nil) (fun _ _ _ _ _ => (pe_slice sl_str (pv 1) (po_some (pv 3)) po_none)))
    (pss_one (ps_ret (pe_callB (cr_all rfl) (by rfl) G.all (by decide +kernel) (pa_cons (pe_lc (own := [("end", 4)]) (g := gName 4) (tt := tYes) rfl sc_we.nd (pi_list (pv 2)) (blkOk_by (N := ["texts", "text", "ends", "start", "end"]) (sc := defScope s_we) (by decide +kernel)) (fun _ _ _ _ _ => pg_name (i := 4) sc_we.nd rfl (Or.inl rfl)) (fun _ _ _ _ _ => pts_nil) (fun _ _ _ _ _ => (pe_or (pe_cmpR (op_inK (K := K) rfl) (pv 4) (pv 0) (by rfl)) (pe_one (pe_not (pe_fn G.begins_with_one hr pass0 (by rfl) (pa_cons (pv 4) (pa_cons (pv 0) pa_nil)))))))) pa_nil))))), ?_⟩
    obtain ⟨p, ts, t, rfl, hp, hl, htl, q⟩ := h
    refine ⟨fun σ J => ∃ v2 v3 D, σ = [some (.ref p), some (.str t), some (.ref D), v2, v3] ∧ Same H J ∧ J D = some (.lst (((List.range (t.length - 1)).map fun i : Nat => dropS t (1 + i)).map V.str)), ?_, ?_⟩
    · refine ⟨_, rfl, t, rfl, by rw [sizeLine_eq]; omega, 1, (t.length : Nat), rfl, ⟨by decide, by decide, by omega, by omega⟩, fun D hD => ?_⟩
      rw [show ((t.length : Int) - 1).toNat = t.length - 1 by omega]
      refine lc_range (lo := 1) (n := t.length - 1) (fun n J => Same H J ∧ J D = some (.lst (((List.range n).map fun i : Nat => dropS t (1 + i)).map V.str))) ⟨same_upd hD, upd_same⟩ ?_ ?_
      · rintro i J hi ⟨S, eD⟩
        refine ⟨rfl, _, rfl, _, rfl, _, rfl, t, rfl, by rw [sizeLine_eq]; omega, ?_⟩
        refine ⟨_, eD, by rw [List.length_map, List.length_map, List.length_range, sizeLine_eq]; omega, same_put S hD, ?_⟩
        rw [upd_same, List.range_succ, List.map_append, List.map_append]
        rfl
      · rintro J ⟨S, eD⟩
        exact ⟨_, _, D, rfl, S, eD⟩
    rintro σ J ⟨v2, v3, D, rfl, S, eD⟩
    refine ⟨_, rfl, D, rfl, ⟨_, SqL.of eD⟩, fun D2 hD2 => ?_⟩
    refine lc_list (K := K) (a := D) (xs := ((List.range (t.length - 1)).map fun i : Nat => dropS t (1 + i)).map V.str) (LcB J D2 fun n => (((List.range (t.length - 1)).map fun i : Nat => dropS t (1 + i)).take n).map fun e => hwB ts e) (LcB.start hD2 rfl) (fun i J2 hi pJ => SqL.of (pJ.1 _ _ eD)) ?_ ?_
    · intro i x J2 hx pJ
      obtain ⟨e, he, rfl⟩ := map_get hx
      have hi := (List.getElem?_eq_some_iff.mp he).1
      rw [List.length_map, List.length_range] at hi
      have hT := seqT_sm (S.trans pJ.1) hp
      refine ⟨rfl, _, rfl, _, rfl, p, _, rfl, .inr hT, rfl, strs_flat ts, ?_⟩
      refine ⟨_, rfl, ?_⟩
      rw [in_strs]
      cases hm : decide (e ∈ ts) with
      | true =>
        refine iteT (pJ.put (Same.refl _) (by rw [tk_snoc he, List.map_append]; show _ ++ [hwB ts e] = _; unfold hwB; rw [hm]; rfl) (by omega))
      | false =>
        refine iteF ⟨_, rfl, _, rfl, e, p, ts, rfl, hT, hl, fun J3 S3 => ⟨_, rfl, ?_⟩⟩
        exact pJ.put S3 (by rw [tk_snoc he, List.map_append]; show _ ++ [hwB ts e] = _; unfold hwB; rw [hm]; rfl) (by omega)
    · rintro J2 ⟨S2, _, eD2, _⟩
      rw [List.length_map] at eD2
      dsimp only at eD2
      rw [List.take_length] at eD2
      refine ⟨D2, _, rfl, SqL.of eD2, ?_⟩
      have z := q J2 (S.trans S2)
      exact z

abbrev s_hb : Stmt := top 49
theorem sc_hb : FnScope ["field", "texts", "late", "early"] ["field"] (defScope s_hb) := ⟨rfl, rfl, rfl, by decide +kernel, rfl, by decide +kernel, by decide +kernel⟩

theorem ok_hb (F : FunD K "has_beginnings_first" "has_beginnings_first" (defArgs s_hb) (defBody s_hb) (defScope s_hb) [] [] f fd) (G : GK P w K mg base) {n : Nat} (AM : FnAt P w K mg base CX0 n "has_beginnings_first" ["field"] (spHb K n)) : FnOk P w K mg base CX0 (n + 1) f fd ["field"] (spHb K (n + 1)) := by
  refine F.ok (CX := CX0) sc_hb (fun vs H Q E h => ?_) (fun cdv A outer s H vs Q E hr h => ?_)
  · obtain ⟨_, _, rfl, _⟩ := h
    rfl
  · refine ⟨_, PSs.nox (pss_cons (ps_if (pt_val (pe_callB (call_ieK (K := K) rfl) (by rfl) G.isinstance (by decide +kernel) (pa_cons (pv 0) (pa_cons (pe_gref (by rfl) G.cMarked.mgC) pa_nil))))
      (pss_one (ps_ret (pe_fn AM hr pass0 (by rfl) (pa_cons (pe_fld (pv 0) rfl) pa_nil))))
      pss_nil)
    (pss_cons (ps_if (pt_not (pt_val (pe_callB (call_ieK (K := K) rfl) (by rfl) G.isinstance (by decide +kernel) (pa_cons (pv 0) (pa_cons (pe_gref (by rfl) G.cListed.mgC) pa_nil)))))
      (pss_one (ps_ret pe_bl))
      pss_nil)
    (pss_cons (ps_set (i := 1) sc_hb.nd rfl (Or.inr rfl) (pe_fld (pv 0) rfl))
    (pss_one (ps_ret (pe_not (pe_callB (cr_any rfl) (by rfl) G.any (by decide +kernel) (pa_cons (pe_lc2 (own := [("late", 2), ("early", 3)]) (vs1 := [3]) (g := gName 2) (g1 := gName 3) (tt := tYes) (tt1 := tYes) rfl sc_hb.nd (pi_range1 (by rfl) G.range (pa_cons (pe_callB call_len_seq (by rfl) G.len (by decide +kernel) (pa_cons (pv 1) pa_nil)) pa_nil)) (blkOk_by (N := ["field", "texts", "late", "early"]) (sc := defScope s_hb) (by decide +kernel)) (by decide) (fun _ _ _ _ _ => pg_name (i := 2) sc_hb.nd rfl (Or.inl rfl)) (fun _ _ _ _ _ => pts_nil) (fun _ _ _ _ _ => pi_range1 (by rfl) G.range (pa_cons (pv 2) pa_nil)) (fun _ _ _ _ _ => pg_name (i := 3) sc_hb.nd rfl (Or.inl rfl)) (fun _ _ _ _ _ => pts_nil) (fun _ _ _ _ _ => pe_bmK (K := K) rfl PySem.F.plainAttrs_str PySem.F.slot_str_startswith PySem.F.type_str_startswith mt_startswith (pe_ix (ix_tupK (K := K) rfl) (pv 1) (pv 3) (fun _ _ => rfl)) (pa_cons (pe_ix (ix_tupK (K := K) rfl) (pv 1) (pv 2) (fun _ _ => rfl)) pa_nil))) pa_nil)))))))), ?_⟩
    obtain ⟨y, d, rfl, hF, hD, hdep, q⟩ := h
    cases hD with
    | @mk nn mm d hq hd =>
      obtain ⟨⟨dx, y2, ha, hF2⟩, h1, h2, _, _⟩ := hF
      refine ⟨_, rfl, _, _, _, _, _, rfl, .own _, G.ty (i := 5) (by decide) ha, G.kit 5 5 (by decide) (by decide), _, rfl, ?_⟩
      refine iteT ?_
      exact ⟨_, rfl, y, _, dx, _, _, rfl, ha, G.cMarked.cl, G.cMarked.no _ (by decide +kernel), lMarked_field, y2, .pl d, rfl, ⟨hF2, h1, h2⟩, .pl hd, Nat.lt_of_succ_lt_succ hdep, fun H' S => q H' S⟩
    | @pl d hd =>
      obtain ⟨hF, h1, h2⟩ := hF
      obtain ⟨dx0, fs0, ha0, _⟩ := hF.ins
      have hlt := d.ci_lt
      refine ⟨_, rfl, _, _, _, _, _, rfl, .own _, G.ty (by omega) ha0, G.kit d.ci 5 (by omega) (by decide), _, rfl, ?_⟩
      rw [decide_eq_false (show ¬ d.ci = 5 by omega)]
      refine iteF ?_
      refine ⟨_, rfl, _, _, _, _, _, rfl, .own _, G.ty (by omega) ha0, G.kit d.ci 3 (by omega) (by decide), _, rfl, ?_⟩
      cases hd with
      | word a b c => exact iteT (q H (Same.refl _))
      | number a b => exact iteT (q H (Same.refl _))
      | fixed a b => exact iteT (q H (Same.refl _))
      | ended a b c e g => exact iteT (q H (Same.refl _))
      | @listed ts a b c e =>
      refine iteF ?_
      obtain ⟨dx, t, ha, hT⟩ := hF
      have hT : TupZ H t (ts.map V.str) := hT
      refine ⟨_, rfl, y, _, dx, _, _, rfl, ha, G.cListed.cl, G.cListed.no _ (by decide +kernel), lListed_texts, ?_⟩
      refine ⟨_, rfl, t, _, rfl, .inr hT.sq, (ts.length : Nat), by rw [List.length_map], by omega, by omega, fun D hDn => ?_⟩
      let fm : Nat → List Bool := fun i => (List.range i).flatMap fun late => (List.range late).map fun early => Txt.startswith (ts.getD early "") (ts.getD late "")
      have fm1 : ∀ i, fm (i + 1) = fm i ++ (List.range i).map fun early => Txt.startswith (ts.getD early "") (ts.getD i "") := fun i => by
        show (List.range (i + 1)).flatMap _ = _
        rw [List.range_succ, List.flatMap_append]
        show _ ++ (_ ++ []) = _
        rw [List.append_nil]
      refine lc2_out walk_range (fun i J => Same H J ∧ J D = some (.lst ((fm i).map V.bl)) ∧ (fm i).length ≤ 12 * i) ⟨same_upd hDn, upd_same, Nat.zero_le _⟩ (fun _ _ _ _ => trivial) ?_ ?_
      · rintro i x J J' hi ⟨S, eD, hl⟩ ⟨rfl, rfl⟩
        have hi : i < ts.length := by omega
        refine ⟨rfl, _, rfl, _, rfl, by omega, by omega, ?_⟩
        rw [show ((0 : Int) + (i : Int)).toNat = i by omega]
        refine lc2_in walk_range (fun j J2 => Same H J2 ∧ J2 D = some (.lst ((fm i ++ (List.range j).map fun early => Txt.startswith (ts.getD early "") (ts.getD i "")).map V.bl))) ⟨S, by rw [eD, List.range_zero]; show _ = some (HO.lst ((fm i ++ []).map V.bl)); rw [List.append_nil]⟩ (fun _ _ _ _ => trivial) ?_ ?_
        · rintro j x J2 J3 hj ⟨S2, eD2⟩ ⟨rfl, rfl⟩
          have hT2 := (hT.same S2).sq (K := K)
          have g1 : (ts.map V.str)[j]? = some (.str (ts.getD j "")) := by
            rw [List.getElem?_map, List.getElem?_eq_getElem (by omega), List.getD_eq_getElem?_getD, List.getElem?_eq_getElem (by omega)]
            rfl
          have g2 : (ts.map V.str)[i]? = some (.str (ts.getD i "")) := by
            rw [List.getElem?_map, List.getElem?_eq_getElem (by omega), List.getD_eq_getElem?_getD, List.getElem?_eq_getElem (by omega)]
            rfl
          refine ⟨rfl, _, rfl, _, rfl, t, _, _, .str (ts.getD j ""), rfl, rfl, hT2, by rw [Int.zero_add]; exact atI_nat (j := j) g1, rfl, _, rfl, _, rfl, t, _, _, .str (ts.getD i ""), rfl, rfl, hT2, by rw [Int.zero_add]; exact atI_nat (j := i) g2, _, _, rfl, rfl, ?_⟩
          refine ⟨_, eD2, ?_, same_put S2 hDn, ?_⟩
          · rw [List.length_map, List.length_append, List.length_map, List.length_range, sizeLine_eq]
            omega
          · rw [upd_same, List.range_succ, List.map_append (f := fun early => Txt.startswith (ts.getD early "") (ts.getD i "")), ← List.append_assoc, List.map_append (l₁ := fm i ++ _)]
            rfl
        · rintro J2 ⟨S2, eD2⟩
          refine ⟨S2, by rw [eD2, fm1], ?_⟩
          rw [fm1, List.length_append, List.length_map, List.length_range]
          omega
      · rintro J ⟨S, eD, _⟩
        exact ⟨D, fm ts.length, rfl, SqL.of eD, _, rfl, by
          have z := q J S
          have e : hbF (.pl (.listed (.lst (ts.map V.str)))) = !(fm ts.length).any id := by
            show hbB ((ts.map V.str).map strV) = _
            rw [map_strV]
            rfl
          rw [e] at z
          exact z⟩

end
structure GK2 (P : Program) (w : World) (K : Frag) (mg : Str → Option Value) (base : Heap) : Prop extends GK P w K mg base where
  has_beginnings_first : FnAt P w K mg base CX0 2 "has_beginnings_first" ["field"] (spHb K 2)
  has_whole_ends : FnAt P w K mg base CX0 2 "has_whole_ends" ["texts", "text"] (spWe K)
section
variable {P : Program} {w : World} {K : Frag} {mg : Str → Option Value} {base : Heap} {f : Addr} {fd : FuncData}

abbrev s_iw : Stmt := top 50
theorem sc_iw : FnScope ["field", "text"] ["field"] (defScope s_iw) := ⟨rfl, rfl, rfl, by decide +kernel, rfl, by decide +kernel, by decide +kernel⟩

theorem ok_iw (F : FunD K "is_whole" "is_whole" (defArgs s_iw) (defBody s_iw) (defScope s_iw) [] [] f fd) (G : GK2 P w K mg base) : FnOk P w K mg base CX0 3 f fd ["field"] (spIw K) := by
  refine F.ok (CX := CX0) sc_iw (fun vs H Q E h => ?_) (fun cdv A outer s H vs Q E hr h => ?_)
  · obtain ⟨_, _, rfl, _⟩ := h
    rfl
  · refine ⟨_, PSs.nox (pss_cons (ps_if (pt_val (pe_callB (call_ieK (K := K) rfl) (by rfl) G.isinstance (by decide +kernel) (pa_cons (pv 0) (pa_cons (pe_gref (by rfl) G.cNumber.mgC) pa_nil))))
      (pss_one (ps_ret (pe_or (pe_cmpR op_gt (pe_fld (pv 0) rfl) pe_int (nomark _)) (pe_one (pe_and (pe_cmpR op_notN (pe_fld (pv 0) rfl) pe_non (nomark _)) (pe_one (pe_cmpR op_lt (pe_fld (pv 0) rfl) pe_int (nomark _))))))))
      pss_nil)
    (pss_cons (ps_if (pt_val (pe_callB (call_ieK (K := K) rfl) (by rfl) G.isinstance (by decide +kernel) (pa_cons (pv 0) (pa_cons (pe_gref (by rfl) G.cListed.mgC) pa_nil))))
      (pss_one (ps_ret (pe_and (pe_fn G.has_beginnings_first hr pass0 (by rfl) (pa_cons (pv 0) pa_nil)) (pe_one (pe_callB (cr_all rfl) (by rfl) G.all (by decide +kernel) (pa_cons (pe_lc (own := [("text", 1)]) (g := gName 1) (tt := tYes) rfl sc_iw.nd (pi_tup (pe_fld (pv 0) rfl)) (blkOk_by (N := ["field", "text"]) (sc := defScope s_iw) (by decide +kernel)) (fun _ _ _ _ _ => pg_name (i := 1) sc_iw.nd rfl (Or.inl rfl)) (fun _ _ _ _ _ => pts_nil) (fun _ _ _ _ _ => (pe_fn G.has_whole_ends hr pass0 (by rfl) (pa_cons (pe_fldK (K := K) rfl (pv 0) rfl) (pa_cons (pv 1) pa_nil))))) pa_nil))))))
      pss_nil)
    (pss_one (ps_ret (pe_fn G.has_beginnings_first hr pass0 (by rfl) (pa_cons (pv 0) pa_nil)))))), ?_⟩
    obtain ⟨y, d, rfl, hF, hD, q⟩ := h
    cases hD with
    | @mk nn mm d hq hd =>
      obtain ⟨⟨dx, y2, ha, hF2⟩, h1, h2, h3, h4⟩ := id hF
      refine ⟨_, rfl, _, _, _, _, _, rfl, .own _, G.ty (i := 5) (by decide) ha, G.kit 5 1 (by decide) (by decide), _, rfl, iteF ?_⟩
      refine ⟨_, rfl, _, _, _, _, _, rfl, .own _, G.ty (i := 5) (by decide) ha, G.kit 5 3 (by decide) (by decide), _, rfl, iteF ?_⟩
      exact ⟨_, rfl, y, _, rfl, hF, .mk hq hd, by show 1 < 2; decide, fun H' S => q H' S⟩
    | @pl d hd =>
      obtain ⟨hF0, h1, h2⟩ := id hF
      obtain ⟨dx0, fs0, ha0, _⟩ := hF0.ins
      have hlt := d.ci_lt
      refine ⟨_, rfl, _, _, _, _, _, rfl, .own _, G.ty (by omega) ha0, G.kit d.ci 1 (by omega) (by decide), _, rfl, ?_⟩
      cases hd with
      | word a b c =>
        refine iteF ⟨_, rfl, _, _, _, _, _, rfl, .own _, G.ty (i := 0) (by decide) ha0, G.kit 0 3 (by decide) (by decide), _, rfl, iteF ?_⟩
        exact ⟨_, rfl, y, _, rfl, hF, .pl (.word a b c), by show 0 < 2; decide, fun H' S => q H' S⟩
      | fixed a b =>
        refine iteF ⟨_, rfl, _, _, _, _, _, rfl, .own _, G.ty (i := 2) (by decide) ha0, G.kit 2 3 (by decide) (by decide), _, rfl, iteF ?_⟩
        exact ⟨_, rfl, y, _, rfl, hF, .pl (.fixed a b), by show 0 < 2; decide, fun H' S => q H' S⟩
      | ended a b c e g =>
        refine iteF ⟨_, rfl, _, _, _, _, _, rfl, .own _, G.ty (i := 4) (by decide) ha0, G.kit 4 3 (by decide) (by decide), _, rfl, iteF ?_⟩
        exact ⟨_, rfl, y, _, rfl, hF, .pl (.ended a b c e g), by show 0 < 2; decide, fun H' S => q H' S⟩
      | @number l m a b =>
        refine iteT ?_
        obtain ⟨dx, ha⟩ := hF0
        refine ⟨_, rfl, y, _, dx, _, _, rfl, ha, G.cNumber.cl, G.cNumber.no _ (by decide +kernel), lNumber_least, _, _, rfl, rfl, _, rfl, ?_⟩
        have z := q H (Same.refl _)
        have e : iwF (.pl (.number (.int (l : Nat)) m)) = (decide ((l : Int) > 0) || (!decide (m = .non) && decide (intV m < 100))) := rfl
        rw [e] at z
        cases h0 : decide ((l : Int) > 0) with
        | true =>
          rw [h0] at z
          exact iteT z
        | false =>
          rw [h0] at z
          refine iteF ⟨_, rfl, y, _, dx, _, _, rfl, ha, G.cNumber.cl, G.cNumber.no _ (by decide +kernel), lNumber_most, rfl, _, rfl, ?_⟩
          rcases b with rfl | ⟨j, rfl, b1, b2⟩
          · exact iteF z
          · exact iteT ⟨_, rfl, y, _, dx, _, _, rfl, ha, G.cNumber.cl, G.cNumber.no _ (by decide +kernel), lNumber_most, _, _, rfl, rfl, z⟩
      | @listed ts a b c e =>
        obtain ⟨dx, t, ha, hT⟩ := hF0
        have hT : TupZ H t (ts.map V.str) := hT
        refine iteF ⟨_, rfl, _, _, _, _, _, rfl, .own _, G.ty (i := 3) (by decide) ha0, G.kit 3 3 (by decide) (by decide), _, rfl, iteT ?_⟩
        refine ⟨_, rfl, y, _, rfl, hF, .pl (.listed a b c e), by show 0 < 2; decide, fun H1 S1 => ⟨_, rfl, ?_⟩⟩
        have ee : iwF (.pl (.listed (.lst (ts.map V.str)))) = (hbB ts && (ts.map fun t => weB ts t).all id) := by
          show (hbB ((ts.map V.str).map strV) && (((ts.map V.str).map strV).map fun t => weB ((ts.map V.str).map strV) t).all id) = _
          rw [map_strV]
        have e2 : hbF (.pl (.listed (.lst (ts.map V.str)))) = hbB ts := by
          show hbB ((ts.map V.str).map strV) = _
          rw [map_strV]
        rw [e2]
        cases hh : hbB ts with
        | false =>
          have z := q H1 S1
          rw [ee, hh] at z
          exact iteF z
        | true =>
          refine iteT ?_
          have hT1 := hT.same S1
          refine ⟨_, rfl, y, _, dx, _, _, rfl, S1 _ _ ha, G.cListed.cl, G.cListed.no _ (by decide +kernel), lListed_texts, t, rfl, ⟨_, hT1.sq⟩, fun D hDn => ?_⟩
          refine lc_tup (K := K) (a := t) (xs := ts.map V.str) (LcB H1 D fun n => (ts.take n).map fun t => weB ts t) (LcB.start hDn rfl) (fun i J hi pJ => (hT1.same pJ.1).sq) ?_ ?_
          · intro i x J hx pJ
            obtain ⟨u, hu, rfl⟩ := map_get hx
            have hi := (List.getElem?_eq_some_iff.mp hu).1
            have tl := b u (List.mem_of_getElem? hu)
            refine ⟨rfl, _, rfl, y, _, dx, _, _, rfl, pJ.1 _ _ (S1 _ _ ha), G.cListed.cl, G.cListed.no _ (by decide +kernel), lListed_texts, _, rfl, t, ts, u, rfl, (hT1.same pJ.1).sq, by omega, by omega, fun J2 S2 => ?_⟩
            exact pJ.put S2 (by rw [tk_snoc hu, List.map_append]; rfl) (by omega)
          · rintro J ⟨S2, _, eD, _⟩
            rw [List.length_map] at eD
            dsimp only at eD
            rw [List.take_length] at eD
            refine ⟨D, _, rfl, SqL.of eD, ?_⟩
            have z := q J (S1.trans S2)
            rw [ee, hh] at z
            exact z

end
end L2.K08

set_option Elab.async false
set_option linter.all false
set_option maxRecDepth 100000
set_option maxHeartbeats 4000000
/-! Calls by keywords alone, of a def and of a class, the def without defaults. -/
namespace L2.Jk
open PySem PySem.W PySem.Spec PySem.Calls PyProof.Rows
/-- the values in the parameters' order: is says where each parameter's keyword stands -/
def perm {α : Type} (is : List Nat) (ws : List α) : List α := is.filterMap fun i => ws[i]?
/-- g for a def: keywords alone; for an __init__: the instance, then keywords -/
def gP {α : Type} (is : List Nat) (us ws : List α) : List α := us ++ perm is ws
theorem vals_get {xs : List V} {us : List Value} (r : Vals xs us) : ∀ i : Nat, (∃ x u, xs[i]? = some x ∧ us[i]? = some u ∧ RelV x u) ∨ (xs[i]? = none ∧ us[i]? = none) := by
  induction r with
  | nil => exact fun i => .inr ⟨rfl, rfl⟩
  | cons h t ih =>
    intro i
    cases i with
    | zero => exact .inl ⟨_, _, rfl, rfl, h⟩
    | succ i => exact ih i
theorem vals_perm {xs : List V} {us : List Value} (r : Vals xs us) : ∀ is : List Nat, Vals (perm is xs) (perm is us)
  | [] => .nil
  | i :: is => by
    have ih := vals_perm r is
    unfold perm at ih ⊢
    rcases vals_get r i with ⟨x, u, e1, e2, h⟩ | ⟨e1, e2⟩
    · rw [List.filterMap_cons_some e1, List.filterMap_cons_some e2]
      exact .cons h ih
    · rw [List.filterMap_cons_none e1, List.filterMap_cons_none e2]
      exact ih
theorem vals_app {xs ys : List V} {us ws : List Value} (r : Vals xs us) (q : Vals ys ws) : Vals (xs ++ ys) (us ++ ws) := by
  induction r with
  | nil => exact q
  | cons h t ih => exact .cons h ih
theorem kbn_of {K : Frag} {x qual : Str} {params : Arguments} {body : List Stmt} {scope : Scope} {kws : List (Str × V)} {f : Addr} {fd : FuncData} {ps : List Str} (F : FunD K x qual params body scope [] kws f fd) (n : Nat) (ks : List Str) (is : List Nat)
    (h : ∀ (kV doc pm : Value) (an : Option Addr) (cdv ct : Value) (us ws : List Value), us.length = n → ws.length = ks.length → bindArgs (PySem.W.fnOf x qual params body scope .none kV doc pm an cdv ct) ⟨us, ks.zip ws⟩ = pure (ps.zip (gP is us ws))) : KBn K fd ps n ks (gP is) (gP is) := by
  obtain ⟨oc, od, dV, kV, doc, pm, an, cdv, ct, osl, rfl, lk, hcd, hD, hK⟩ := F.ex
  rcases hD with ⟨_, rfl⟩ | ⟨e, _⟩
  · exact ⟨fun s us ws _ l1 l2 => BindsTo.of_eq (h kV doc pm an cdv ct us ws l1 l2), fun r q => vals_app r (vals_perm q is)⟩
  · exact absurd rfl e
structure FnKw (P : Program) (w : World) (K : Frag) (mg : Str → Option Value) (base : Heap) (CX : CXT) (k : Nat) (x : Str) (ps ks : List Str) (is : List Nat) (sp : Sp) : Prop where
  ex : ∃ (f : Addr) (fd : FuncData), mg x = some (.ref f) ∧ keepIn K (.ref f) = true ∧ FnOk P w K mg base CX k f fd ps sp ∧ KBn K fd ps 0 ks (gP is) (gP is)
structure ClsKw (P : Program) (w : World) (K : Frag) (mg : Str → Option Value) (base : Heap) (CX : CXT) (k : Nat) (x : Str) (C : Addr) (ps ks : List Str) (is : List Nat) (sp : Sp) : Prop where
  mgC : mg x = some (.ref C)
  mkr : Mk K C (He.ma K C "__init__")
  ok : ∃ fd, FnOk P w K mg base CX k (He.ma K C "__init__") fd ps sp ∧ KBn K fd ps 1 ks (gP is) (gP is)
def tFnKw (m : Nat) (is : List Nat) (sp : Sp) (E : XK) (tk : TA) : TE := fun σ H Q => tk σ H fun zs H1 => zs.length = m ∧ sp (perm is zs) H1 Q E
section
variable {X : Cx} {CX : CXT} {k : Nat} {ps ks : List Str} {is : List Nat} {sp : Sp} {E : XK} {x : Str} {p pos : Pos} {kws : List Keyword} {tk : TA} {C : Addr}
theorem passes0 : Passes (L2.CX X.prog X.w) X (fun _ _ _ => False) := fun pins σ H s e s' I c => passAt (W := fun _ _ _ _ => False) takes0 σ pins H s e s' I c
/-- f(k = v, ..) -/
theorem pe_fnKw (G : FnKw X.prog X.w X.K X.mg X.base CX k x ps ks is sp) (hr : Room k X.A) (hx : Passes CX X E) (hg : Gl X x) (hkw : PK X kws tk)
    (hall : (backToKw pos (keywordEach kws X.env)).all (·.1.isSome) = true := by rfl) (hks : (backToKw pos (keywordEach kws X.env)).filterMap (·.1) = ks := by rfl) (hdb : (x == ("__debug__" : Str)) = false := by decide)
    (hpl : ((backTo pos (starEach [] X.env)).any (·.1) || (backToKw pos (keywordEach kws X.env)).any (·.1.isNone)) = false := by rfl) :
    PE X (.Call (.Name x p) [] kws pos) (tFnKw ks.length is sp E tk) := by
  obtain ⟨f, fd, hm, kp, F, hb⟩ := G.ex
  refine ⟨fun pins s σ H Q I h => ?_⟩
  refine wpAny_Call_Name_kw (ld_glob I hg hm ?_ hdb)
  refine PySem.W.callWith_KW0 (h₀ := X.base) I.ok.mod.kin kp hall ?_ hpl
  refine thn (hkw.run pos pins s σ H _ I h) fun ws s2 ⟨zs, H2, I2, rz, l2, q2⟩ => ⟨I2.kIn, ?_⟩
  rw [hks]
  exact run_fnN (us := []) (vs := []) F hr hb hx I2 .nil rz rfl l2 q2
/-- C(k = v, ..) -/
theorem pe_newKw (G : ClsKw X.prog X.w X.K X.mg X.base CX k x C ps ks is sp) (hr : Room (k + 1) X.A) (hx : Passes CX X E) (hg : Gl X x) (hkw : PK X kws tk)
    (hall : (backToKw pos (keywordEach kws X.env)).all (·.1.isSome) = true := by rfl) (hks : (backToKw pos (keywordEach kws X.env)).filterMap (·.1) = ks := by rfl) (hdb : (x == ("__debug__" : Str)) = false := by decide)
    (hpl : ((backTo pos (starEach [] X.env)).any (·.1) || (backToKw pos (keywordEach kws X.env)).any (·.1.isNone)) = false := by rfl) :
    PE X (.Call (.Name x p) [] kws pos) (tMakeK C 0 ks.length sp (gP is) E tNil tk) := by
  obtain ⟨fd, F, hb⟩ := G.ok
  exact pe_makeK0 G.mkr F hr hg G.mgC hb hx hkw hall hks hdb hpl
end
end L2.Jk

set_option Elab.async false
set_option linter.all false
set_option maxRecDepth 100000
set_option maxHeartbeats 4000000
/-! An error class called by keywords alone. -/
namespace L2.Jk
open PySem PySem.W PySem.Spec PySem.Calls PyProof.Rows HandSPX
section
variable {M : Model} {A : Around} {E : Value → Shared → Prop} {h : Heap} {g : Array GenState} {d : Drawn} {t : Nat} {os : OsState}
variable {nm q : Str} {C N : Addr} {bs bm bmB : List Value} {hdct : Bool} {sn : List Str} {sub : List Value} {ab : Bool} {col : Option Bool} {dd : Option Addr} {k0 k1 k2 k3 k5 : Option Value} {B newId initId : String}
theorem check_newK (F : ExcBaseFacts B newId initId bmB) (hT : ∀ X : String, bm.contains (.type X) = bmB.contains (.type X)) {kw : List (Str × Value)} {Q : Unit → Shared → Prop}
    (hC : h.get? C = some (excClassObj nm q C N bs bm hdct sn sub ab col dd k0 k1 k2 k3 k5 newId)) (hq : Q () ⟨h, g, d, t, os⟩) : wpAny M A (checkBuiltinCall newId ⟨[.ref C], kw⟩) Q E ⟨h, g, d, t, os⟩ := by
  have hcont : (Value.ref C :: bm).contains (.type B) = true := by rw [List.contains_cons, hT, F.hasB, Bool.or_true]
  have hstar := F.noStar
  simp only [checkBuiltinCall, F.newKind, F.newSplit, F.newRow]
  repeat (first | refine wpAny_loadPart_at hC ?_ | (refine wpAny_isSubtype_exc hC ?_; rw [hcont]) | refine wpAny_staticBase_exc hC ?_ | refine wpAny_madeBy_exc hC ?_ | simp only [bne_self_eq_false, Bool.false_eq_true, if_false] | wp_step)
  exact hq
end
section
variable {prog : Program} {w : World} {A : Around} {E : Value → Shared → Prop} {R : Result → Shared → Prop} {h : Heap} {g : Array GenState} {d : Drawn} {t : Nat} {os : OsState}
variable {nm q : Str} {C N : Addr} {bs bm bmB : List Value} {hdct : Bool} {sn : List Str} {sub : List Value} {ab : Bool} {col : Option Bool} {dd : Option Addr} {k0 k1 k2 k3 k5 : Option Value} {B newId initId : String}
theorem newK (F : ExcBaseFacts B newId initId bmB) (hT : ∀ X : String, bm.contains (.type X) = bmB.contains (.type X)) {kw : List (Str × Value)}
    (hC : h.get? C = some (excClassObj nm q C N bs bm hdct sn sub ab col dd k0 k1 k2 k3 k5 newId))
    (hq : R (.ok (.ret (.ref (h.objs.size + 1)))) ⟨(h.push { cls := .type "tuple", data := .seq ([] : List Value).toArray }).push
      { cls := .ref C, data := .fields #[.ref h.objs.size, .none, .none, .none, .bool false, .none] }, g, d, t, os⟩) :
    codeAny (model prog w) A (.builtin newId ⟨[.ref C], kw⟩) R ⟨h, g, d, t, os⟩ := by
  have hends := F.ends
  have hcB : (Value.ref C :: bm).contains (.type B) = true := by rw [List.contains_cons, hT, F.hasB, Bool.or_true]
  have hcA : (Value.ref C :: bm).contains (.type "AttributeError") = false := by rw [List.contains_cons, hT, F.noAttr]; rfl
  have hcN : (Value.ref C :: bm).contains (.type "NameError") = false := by rw [List.contains_cons, hT, F.noName]; rfl
  refine codeAny_builtinAt F.entry ?_
  unfold Builtin.«BaseException.__new__»
  refine PySem.wpAt_bind ?_
  show PySem.wpAt _ _ _ (stack >>= _) _ _ _
  refine PySem.wpAt_bind (PySem.wpAt_stack fun p below => PySem.wpAt_of_wpAny ?_)
  wp_walk
  refine PySem.wpAt_of_wpAny ?_
  rw [F.owner]
  repeat (first | with_reducible refine wpAny_madeHere_exc F.canon hC ?_ | with_reducible refine wpAny_loadPart_at hC ?_ | (with_reducible refine wpAny_isSubtype_exc hC ?_; first | rw [hcB] | rw [hcA] | rw [hcN]) | wp_step)
  show R _ _
  rw [Heap.size_push]
  exact hq
theorem type_callK (F : ExcBaseFacts B newId initId bmB) (hT : ∀ X : String, bm.contains (.type X) = bmB.contains (.type X)) {kw : List (Str × Value)} {fI : Addr} {Q : Fin → Shared → Prop}
    (hC : h.get? C = some (excClassObj nm q C N bs bm hdct sn sub ab col dd k0 k1 k2 k3 k5 newId))
    (hi : W.Looks (model prog w) h (typeLookup (.ref C) "__init__") (some (.ref fI))) (hb : ∀ self, W.Looks (model prog w) h (bindSpecial (.ref fI) self) (.ref fI, [self]))
    (hq : codeAny (model prog w) A (.call (.ref fI) ⟨[.ref (h.objs.size + 1)], kw⟩)
      (fun r s' => match r with | .ok (.ret v) => v = .none ∧ Q (.done (.ret (.ref (h.objs.size + 1)))) s' | .ok _ => False | .error e => E e s')
      ⟨(h.push (W.kdv_tup [])).push (excO C h.objs.size), g, d, t, os⟩) :
    wpAny (model prog w) A (Builtin.«type.__call__» ⟨[.ref C], kw⟩) Q E ⟨h, g, d, t, os⟩ := by
  repeat (first | with_reducible refine wpAny_loadPart_at hC ?_ | with_reducible refine wpAny_madeBy_exc hC ?_ | wp_step)
  refine codeAny_call_builtin_code (Code.quiet_builtin _ F.quiet) (check_newK F hT hC ?_)
  refine newK F hT hC ?_
  show wpAny _ _ _ _ _ _
  have k : ∀ b o, h.get? b = some o → ((h.push (W.kdv_tup [])).push (excO C h.objs.size)).get? b = some o := fun b o e => Heap.get?_push_of_some _ (Heap.get?_push_of_some _ e)
  have hC₁ := k _ _ hC
  have hget : ((h.push (W.kdv_tup [])).push (excO C h.objs.size)).get? (h.objs.size + 1) = some (excO C h.objs.size) := by heap_get
  have hcC : (Value.ref C :: bm).contains (.ref C) = true := by simp
  have i1 := hi.keeps k
  have b1 := (hb (.ref (h.objs.size + 1))).keeps k
  unfold isInstance
  repeat (first | with_reducible refine wpAny_loadPart_at hget ?_ | (with_reducible refine wpAny_isSubtype_exc hC₁ ?_; rw [hcC]) | wp_step)
  show wpAny _ _ (typeLookup (.ref C) _) _ _ _
  refine i1.at ?_
  refine wpAny_holding (wpAny_bind (b1.at ?_))
  refine wpAny_bind (wpAny_call (codeAny_mono hq fun r s' z => ?_))
  rcases r with e | (v | _ | _ | _) <;> first | exact z | exact z.elim | skip
  obtain ⟨rfl, z⟩ := z
  first
    | exact wpAny_pure (wpAny_pure z)
    | (wp_walk; exact z)
theorem call_ownK (F : ExcBaseFacts B newId initId bmB) (hT : ∀ X : String, bm.contains (.type X) = bmB.contains (.type X)) {kw : List (Str × Value)} {fI : Addr}
    (hC : h.get? C = some (excClassObj nm q C N bs bm hdct sn sub ab col dd k0 k1 k2 k3 k5 newId))
    (hi : W.Looks (model prog w) h (typeLookup (.ref C) "__init__") (some (.ref fI))) (hb : ∀ self, W.Looks (model prog w) h (bindSpecial (.ref fI) self) (.ref fI, [self]))
    (hq : codeAny (model prog w) (A.under (.builtin "type.__call__" ⟨[.ref C], kw⟩)) (.call (.ref fI) ⟨[.ref (h.objs.size + 1)], kw⟩) (W.InitBack (h.objs.size + 1) R)
      ⟨(h.push (W.kdv_tup [])).push (excO C h.objs.size), g, d, t, os⟩) :
    codeAny (model prog w) A (.call (.ref C) ⟨[], kw⟩) R ⟨h, g, d, t, os⟩ := by
  have f1 := tc_lookup
  have f2 := tc_bind (.ref C)
  have hTy : (⟨h, g, d, t, os⟩ : Shared).TypeIs (.ref C) "type" := ⟨_, hC, rfl⟩
  refine codeAny_of_tree ?_
  show wpAny _ _ (callAny (.ref C) _) _ _ _
  repeat (any_goals (first | assumption | with_reducible refine wpAny_loadPart_at hC ?_ | wp_step))
  refine ⟨rfl, ?_⟩
  refine codeAny_call_builtin_at (Code.quiet_builtin _ (by decide +kernel)) entry_typeCall (wpAny_check_type_call_sub hC (type_callK F hT hC hi hb ?_))
  refine codeAny_mono hq fun r s' z => ?_
  rcases r with e | (v | _ | _ | _) <;> exact z
end
section
variable {X : Cx} {C : Addr} {pins : List (Addr × Obj)} {σ : L2.St} {H : Hp} {s : Shared}
theorem run_mkEK {CX : CXT} {fI : Addr} {k : Nat} {fd : FuncData} {ps ks : List Str} {is : List Nat} {sp : Sp} {ws : List Value} {zs : List V} {Q : VK} (T : OexC X.K C) (iC : findIn X.K (.ref C) "__init__" = some (some (.ref fI))) (tI : typeIn X.K (.ref fI) = some (.type "function"))
    (F1 : FnOk X.prog X.w X.K X.mg X.base CX k fI fd ps sp) (hr : Room (k + 1) X.A) (hb : KBn X.K fd ps 1 ks (gP is) (gP is)) (hx : Passes CX X (fun _ _ _ => False)) (I1 : Inv X pins σ H s) (rz : Vals zs ws) (l2 : zs.length = ks.length)
    (q1 : ∀ a, H a = none → sp (gP is [.ref a] zs) (upd H a (exo a C none)) (fun v H2 => v = .non ∧ Q (.ref a) H2) (fun _ _ _ => False)) :
    wpAny (model X.prog X.w) X.A (call (.ref C) [] (ks.zip ws)) (EP X pins σ Q) X.xe s := by
  obtain ⟨nm, q, N, bs, bm, sn, sub, ab, col, dd, k0, k1, k2, k3, k5, hC, hbm⟩ := T.cls
  obtain ⟨hp, g, dr, tk, os⟩ := s
  have sz : hp.objs.size ≤ hp.objs.size + 1 := Nat.le_succ _
  have fresh : H (hp.objs.size + 1) = none := I1.hok.fresh sz
  have pr := q1 (hp.objs.size + 1) fresh
  have keep : ∀ b o, hp.get? b = some o → ((hp.push (kdv_tup [])).push (HandSPX.excO C hp.objs.size)).get? b = some o := fun b o e => Heap.get?_push_of_some _ (Heap.get?_push_of_some _ e)
  have there : ((hp.push (kdv_tup [])).push (HandSPX.excO C hp.objs.size)).get? (hp.objs.size + 1) = some (HandSPX.excO C hp.objs.size) := by heap_get
  have I2 : Inv X pins σ (upd H (hp.objs.size + 1) (exo (hp.objs.size + 1) C none)) ⟨(hp.push (kdv_tup [])).push (HandSPX.excO C hp.objs.size), g, dr, tk, os⟩ :=
    I1.laid (t' := tk) (a := hp.objs.size + 1) (o := exo (hp.objs.size + 1) C none) (h' := (hp.push (kdv_tup [])).push (HandSPX.excO C hp.objs.size)) keep sz (exo_ok there)
  have r1 : Vals [V.ref (hp.objs.size + 1)] [Value.ref (hp.objs.size + 1)] := .cons rfl .nil
  have r2 := hb.rel r1 rz
  have hb' := hb.to ⟨(hp.push (kdv_tup [])).push (HandSPX.excO C hp.objs.size), g, dr, tk, os⟩ [Value.ref (hp.objs.size + 1)] ws I2.kIn rfl (rz.length.symm.trans l2)
  refine wpAny_call (call_ownK F.excBase_ValueError (fun Y => HandSPX.refsVE_contains Y bm hbm) (I1.kIn _ _ hC) (looks_findIn I1.kIn iC) (fun self => bind_fn I1.kIn self tI)
    (codeAny_mono (F1.run _ X.stack _ _ ⟨[Value.ref (hp.objs.size + 1)], ks.zip ws⟩ (gP is [Value.ref (hp.objs.size + 1)] ws) _ _ (fun _ _ _ => False) (hr.make C [] (ks.zip ws)) (I2.env0.make C [] (ks.zip ws)) hb' r2 pr) fun r s' hq' => ?_))
  cases r with
  | error er => exact hx pins σ _ _ er s' I2 hq'
  | ok fl =>
    cases fl with
    | ret u =>
      obtain ⟨v, H2, I3, rv, ev, q3⟩ := I2.after hq'
      subst ev
      exact ⟨rv, ⟨V.ref (hp.objs.size + 1), H2, I3, rfl, q3⟩⟩
    | next => exact False.elim hq'
    | brk => exact False.elim hq'
    | cont => exact False.elim hq'
end
/-- the class's __init__ takes its fields by name -/
structure ErrKw (P : Program) (w : World) (K : Frag) (mg : Str → Option Value) (base : Heap) (x : Str) (C : Addr) (fs ks : List Str) (is : List Nat) : Prop where
  mgC : mg x = some (.ref C)
  ex : ErrX K C fs ["told"]
  ini : findIn K (.ref C) "__init__" = some (some (.ref (He.ma K C "__init__"))) ∧ typeIn K (.ref (He.ma K C "__init__")) = some (.type "function")
  iok : ∃ fd, KBn K fd ("self" :: fs) 1 ks (gP is) (gP is) ∧ IniOk P w K mg base C fs fd
def tErrKw (C : Addr) (fs : List Str) (m : Nat) (is : List Nat) (tk : TA) : TE := fun σ H Q => tk σ H fun zs H1 => zs.length = m ∧ (perm is zs).length = fs.length ∧ ∀ v H2, Same H1 H2 → ErrV H2 v C (fldE fs (perm is zs)) → Q v H2
section
variable {X : Cx} {x : Str} {C : Addr} {fs ks : List Str} {is : List Nat} {kws : List Keyword} {tk : TA} {p pos : Pos}
/-- E(k = v, ..), an own error made and kept -/
theorem pe_errKw (T : ErrKw X.prog X.w X.K X.mg X.base x C fs ks is) (hr : Room 2 X.A) (hx : Passes CX0 X (fun _ _ _ => False)) (hg : Gl X x) (hkw : PK X kws tk)
    (hall : (backToKw pos (keywordEach kws X.env)).all (·.1.isSome) = true := by rfl) (hks : (backToKw pos (keywordEach kws X.env)).filterMap (·.1) = ks := by rfl) (hdb : (x == ("__debug__" : Str)) = false := by decide)
    (hpl : ((backTo pos (starEach [] X.env)).any (·.1) || (backToKw pos (keywordEach kws X.env)).any (·.1.isNone)) = false := by rfl) :
    PE X (.Call (.Name x p) [] kws pos) (tErrKw C fs ks.length is tk) := by
  obtain ⟨fd, hb, iok⟩ := T.iok
  refine ⟨fun pins s σ H Q I h => ?_⟩
  refine wpAny_Call_Name_kw (ld_glob I hg T.mgC ?_ hdb)
  refine PySem.W.callWith_KW0 (h₀ := X.base) I.ok.mod.kin T.ex.ec.ox.kC hall ?_ hpl
  refine thn (hkw.run pos pins s σ H _ I h) fun ws s2 ⟨zs, H2, I2, rz, l2, hz, q2⟩ => ⟨I2.kIn, ?_⟩
  rw [hks]
  have ox := T.ex.ec.ox
  have i1 := T.ini.1
  have i2 := T.ini.2
  clear T
  show wpAny _ _ (call (.ref C) [] (ks.zip ws)) _ _ _
  generalize hp : perm is zs = vs at hz q2
  match fs, vs, iok, hz, hb, q2 with
  | [f], [v], iok, _, hb, q2 =>
    exact run_mkEK ox i1 i2 iok hr hb hx I2 rz l2 fun a ha1 => ⟨a, v, by show [V.ref a] ++ perm is zs = _; rw [hp]; rfl, upd_same, fun d hd ne => ⟨rfl, by
      rw [upd_ne ne] at hd
      rw [mkE_new ne]
      exact q2 _ _ (mkE_same ha1 hd) (mkE_err ne)⟩⟩
  | [f, g], [v, u], iok, _, hb, q2 =>
    exact run_mkEK ox i1 i2 iok hr hb hx I2 rz l2 fun a ha1 => ⟨a, v, u, by show [V.ref a] ++ perm is zs = _; rw [hp]; rfl, upd_same, fun d hd ne => ⟨rfl, by
      rw [upd_ne ne] at hd
      rw [mkE_new ne]
      exact q2 _ _ (mkE_same ha1 hd) (mkE_err ne)⟩⟩
end
end L2.Jk

set_option Elab.async false
set_option linter.all false
set_option maxRecDepth 100000
set_option maxHeartbeats 4000000
/-! Errors made by names. -/
namespace L2.K08
open PySem PySem.W PySem.Spec PySem.Calls PyProof.Rows L2.Jk
/-- the same object twice -/
def DSame : Eqv := fun x y _ => ∃ a : Addr, x = .ref a ∧ y = .ref a
theorem mon_same : Mon DSame := fun _ _ _ _ _ d => d
theorem eqG_same {X : Cx} : EqG X 0 DSame := by
  intro A pins s σ H x y u v sb I rx ry d
  obtain ⟨a, rfl, rfl⟩ := d
  cases rx
  cases ry
  exact SeqAt.EqAt.same (A := A) (s := s) (.ref a) X.prog X.w X.xe _ ⟨rfl, H, I, Ext.rfl'⟩
def DC : Eqv := fun x y H => DFlat x y H ∨ DSame x y H
theorem mon_dc : Mon DC := mon_flat.or mon_same
theorem dc_eq {X : Cx} : EqG X 0 DC := eqG_flat.or eqG_same
/-- what is equal to itself -/
def SE (x : V) : Prop := (flatV x = true ∧ eqV x x = true) ∨ ∃ a, x = .ref a
theorem SE.int (i : Int) : SE (.int i) := .inl ⟨rfl, by simp [eqV]⟩
theorem SE.str (z : Str) : SE (.str z) := .inl ⟨rfl, by simp [eqV]⟩
theorem SE.dc {x : V} (h : SE x) (H : Hp) : DC x x H := h.imp (fun ⟨a, b⟩ => ⟨a, a, b⟩) fun ⟨a, e⟩ => ⟨a, e, e⟩
theorem prs_self {D : Eqv} {xs : List V} {H : Hp} (h : ∀ x ∈ xs, D x x H) : Prs D xs xs H := ⟨rfl, fun i x y hx hy => by
  rw [hx] at hy
  cases hy
  exact h x (List.mem_of_getElem? hx)⟩
abbrev ec (K : Frag) (x : Str) : Addr := He.ga K x
def spEr : Sp := fun vs H Q _ => ∃ x y, vs = [x, y] ∧ SE x ∧ SE y ∧ ∀ H', Same H H' → Q (.bl true) H'
theorem er_read {K : Frag} {C : Addr} {f : Str} {fs ms : List Str} {gs : List (Str × V)} {x v : V} {H : Hp} {Q : VK} (T : ErrX K C fs ms) (hf : f ∈ fs) (e : ErrV H v C gs) (hl : gs.lookup f = some x) (q : Q x H) :
    ∃ (a C d : Addr) (fs : List (Str × V)) (u : V), v = .ref a ∧ ErrC K C ∧ findIn K (.ref C) f = some none ∧ H a = some (exo a C (some d)) ∧ H d = some (exd d fs) ∧ fs.lookup f = some u ∧ Q u H := by
  obtain ⟨a, d, rfl, ha, hd⟩ := e
  exact ⟨a, C, d, _, x, rfl, T.ec, T.no f hf, ha, hd, hl, q⟩
structure GEr (P : Program) (w : World) (K : Frag) (mg : Str → Option Value) (base : Heap) : Prop where
  eBadField : ErrKw P w K mg base "BadField" (ec K "BadField") ["what"] ["what"] [0]
  eBadLayout : ErrKw P w K mg base "BadLayout" (ec K "BadLayout") ["what"] ["what"] [0]
  eNoValue : ErrKw P w K mg base "NoValue" (ec K "NoValue") ["value"] ["value"] [0]
  eNoText : ErrKw P w K mg base "NoText" (ec K "NoText") ["text"] ["text"] [0]
  eNoRow : ErrKw P w K mg base "NoRow" (ec K "NoRow") ["place"] ["place"] [0]
  eNoPlace : ErrKw P w K mg base "NoPlace" (ec K "NoPlace") ["place"] ["place"] [0]
  eBadText : ErrKw P w K mg base "BadText" (ec K "BadText") ["place"] ["place"] [0]
  eLarge : ErrKw P w K mg base "Large" (ec K "Large") ["count"] ["count"] [0]
  eNoJoint : ErrKw P w K mg base "NoJoint" (ec K "NoJoint") ["k"] ["k"] [0]
  eNotWhole : ErrKw P w K mg base "NotWhole" (ec K "NotWhole") ["index"] ["index"] [0]
  eHopeless : ErrKw P w K mg base "Hopeless" (ec K "Hopeless") ["index"] ["index"] [0]
  eUnbounded : ErrKw P w K mg base "Unbounded" (ec K "Unbounded") ["index"] ["index"] [0]
  eClash : ErrKw P w K mg base "Clash" (ec K "Clash") ["one", "other"] ["other", "one"] [1, 0]
section
variable {P : Program} {w : World} {K : Frag} {mg : Str → Option Value} {base : Heap} {f : Addr} {fd : FuncData}

abbrev s_law_errors_right : Stmt := top 56
theorem sc_law_errors_right : FnScope ["_law_x", "_law_y", "_law_found", "_law_clash"] ["_law_x", "_law_y"] (defScope s_law_errors_right) := ⟨rfl, rfl, rfl, by decide +kernel, rfl, by decide +kernel, by decide +kernel⟩

theorem ok_law_errors_right (F : FunD K "_law_errors_right" "_law_errors_right" (defArgs s_law_errors_right) (defBody s_law_errors_right) (defScope s_law_errors_right) [] [] f fd) (G : GEr P w K mg base) : FnOk P w K mg base CX0 3 f fd ["_law_x", "_law_y"] spEr := by
  refine F.ok (CX := CX0) sc_law_errors_right (fun vs H Q E h => ?_) (fun cdv A outer s H vs Q E hr h => ?_)
  · obtain ⟨x, y, rfl, _⟩ := h
    rfl
  · refine ⟨_, PSs.nox (pss_cons (ps_set (i := 2) sc_law_errors_right.nd rfl (Or.inl rfl) (pe_lstS (pa_cons (pe_ef (pe_errKw G.eBadField hr pass0 (by rfl) (pk_cons (pv 0) pk_nil))) (pa_cons (pe_ef (pe_errKw G.eBadLayout hr pass0 (by rfl) (pk_cons (pv 0) pk_nil))) (pa_cons (pe_ef (pe_errKw G.eNoValue hr pass0 (by rfl) (pk_cons (pv 0) pk_nil))) (pa_cons (pe_ef (pe_errKw G.eNoText hr pass0 (by rfl) (pk_cons (pv 0) pk_nil))) pa_nil))))))
    (pss_cons (ps_set (i := 2) sc_law_errors_right.nd rfl (Or.inl rfl) (pe_op op_catS (pv 2) (pe_lstS (pa_cons (pe_ef (pe_errKw G.eNoRow hr pass0 (by rfl) (pk_cons (pv 0) pk_nil))) (pa_cons (pe_ef (pe_errKw G.eNoPlace hr pass0 (by rfl) (pk_cons (pv 0) pk_nil))) (pa_cons (pe_ef (pe_errKw G.eBadText hr pass0 (by rfl) (pk_cons (pv 0) pk_nil))) (pa_cons (pe_ef (pe_errKw G.eLarge hr pass0 (by rfl) (pk_cons (pv 0) pk_nil))) pa_nil)))))))
    (pss_cons (ps_set (i := 2) sc_law_errors_right.nd rfl (Or.inl rfl) (pe_op op_catS (pv 2) (pe_lstS (pa_cons (pe_ef (pe_errKw G.eNoJoint hr pass0 (by rfl) (pk_cons (pv 0) pk_nil))) (pa_cons (pe_ef (pe_errKw G.eNotWhole hr pass0 (by rfl) (pk_cons (pv 0) pk_nil))) (pa_cons (pe_ef (pe_errKw G.eHopeless hr pass0 (by rfl) (pk_cons (pv 0) pk_nil))) (pa_cons (pe_ef (pe_errKw G.eUnbounded hr pass0 (by rfl) (pk_cons (pv 0) pk_nil))) pa_nil)))))))
    (pss_cons (ps_set (i := 3) sc_law_errors_right.nd rfl (Or.inl rfl) (pe_errKw G.eClash hr pass0 (by rfl) (pk_cons (pv 1) (pk_cons (pv 0) pk_nil))))
    (pss_one (ps_ret (pe_and (pe_cmpR (op_eqG (rcG_list mon_dc dc_eq) (hr.mono (by decide))) (pv 2) (pe_op op_rep (pe_lstS (pa_cons (pv 0) pa_nil)) pe_int) (nomark _)) (pe_one (pe_cmpR (op_eqG (rcG_tup mon_dc dc_eq) (hr.mono (by decide))) (pe_tupS (pa_cons (pe_ef (pv 3)) (pa_cons (pe_ef (pv 3)) pa_nil))) (pe_tupS (pa_cons (pv 0) (pa_cons (pv 1) pa_nil))) (nomark _)))))))))), ?_⟩
    obtain ⟨x, y, rfl, hx, hy, q⟩ := h
    refine ⟨_, rfl, rfl, rfl, fun v1 H1 S1 e1 => ?_⟩
    obtain ⟨a1, d1, rfl, ha1, hd1⟩ := e1
    refine ⟨a1, _, d1, _, x, rfl, G.eBadField.ex.ec, G.eBadField.ex.no _ (List.mem_singleton_self _), ha1, hd1, rfl, ?_⟩
    refine ⟨_, rfl, rfl, rfl, fun v2 H2 S2 e2 => ?_⟩
    obtain ⟨a2, d2, rfl, ha2, hd2⟩ := e2
    refine ⟨a2, _, d2, _, x, rfl, G.eBadLayout.ex.ec, G.eBadLayout.ex.no _ (List.mem_singleton_self _), ha2, hd2, rfl, ?_⟩
    refine ⟨_, rfl, rfl, rfl, fun v3 H3 S3 e3 => ?_⟩
    obtain ⟨a3, d3, rfl, ha3, hd3⟩ := e3
    refine ⟨a3, _, d3, _, x, rfl, G.eNoValue.ex.ec, G.eNoValue.ex.no _ (List.mem_singleton_self _), ha3, hd3, rfl, ?_⟩
    refine ⟨_, rfl, rfl, rfl, fun v4 H4 S4 e4 => ?_⟩
    obtain ⟨a4, d4, rfl, ha4, hd4⟩ := e4
    refine ⟨a4, _, d4, _, x, rfl, G.eNoText.ex.ec, G.eNoText.ex.no _ (List.mem_singleton_self _), ha4, hd4, rfl, ?_⟩
    refine ⟨by show 4 ≤ 1000; decide, fun p1 J1 hp1 T1 ep1 => ?_⟩
    refine ⟨_, rfl, ?_⟩
    refine ⟨_, rfl, rfl, rfl, fun v5 H5 S5 e5 => ?_⟩
    obtain ⟨a5, d5, rfl, ha5, hd5⟩ := e5
    refine ⟨a5, _, d5, _, x, rfl, G.eNoRow.ex.ec, G.eNoRow.ex.no _ (List.mem_singleton_self _), ha5, hd5, rfl, ?_⟩
    refine ⟨_, rfl, rfl, rfl, fun v6 H6 S6 e6 => ?_⟩
    obtain ⟨a6, d6, rfl, ha6, hd6⟩ := e6
    refine ⟨a6, _, d6, _, x, rfl, G.eNoPlace.ex.ec, G.eNoPlace.ex.no _ (List.mem_singleton_self _), ha6, hd6, rfl, ?_⟩
    refine ⟨_, rfl, rfl, rfl, fun v7 H7 S7 e7 => ?_⟩
    obtain ⟨a7, d7, rfl, ha7, hd7⟩ := e7
    refine ⟨a7, _, d7, _, x, rfl, G.eBadText.ex.ec, G.eBadText.ex.no _ (List.mem_singleton_self _), ha7, hd7, rfl, ?_⟩
    refine ⟨_, rfl, rfl, rfl, fun v8 H8 S8 e8 => ?_⟩
    obtain ⟨a8, d8, rfl, ha8, hd8⟩ := e8
    refine ⟨a8, _, d8, _, x, rfl, G.eLarge.ex.ec, G.eLarge.ex.no _ (List.mem_singleton_self _), ha8, hd8, rfl, ?_⟩
    refine ⟨by show 4 ≤ 1000; decide, fun p2 J2 hp2 T2 ep2 => ?_⟩
    refine ⟨p1, p2, [x, x, x, x], [x, x, x, x], rfl, rfl, SqL.of (T2 _ _ (S8 _ _ (S7 _ _ (S6 _ _ (S5 _ _ ep1))))), SqL.of ep2, by show (4 : Nat) + 4 ≤ sizeLine; rw [sizeLine_eq]; decide, fun c1 K1 hc1 Sc1 ec1 => ?_⟩
    refine ⟨_, rfl, ?_⟩
    refine ⟨_, rfl, rfl, rfl, fun v9 H9 S9 e9 => ?_⟩
    obtain ⟨a9, d9, rfl, ha9, hd9⟩ := e9
    refine ⟨a9, _, d9, _, x, rfl, G.eNoJoint.ex.ec, G.eNoJoint.ex.no _ (List.mem_singleton_self _), ha9, hd9, rfl, ?_⟩
    refine ⟨_, rfl, rfl, rfl, fun v10 H10 S10 e10 => ?_⟩
    obtain ⟨a10, d10, rfl, ha10, hd10⟩ := e10
    refine ⟨a10, _, d10, _, x, rfl, G.eNotWhole.ex.ec, G.eNotWhole.ex.no _ (List.mem_singleton_self _), ha10, hd10, rfl, ?_⟩
    refine ⟨_, rfl, rfl, rfl, fun v11 H11 S11 e11 => ?_⟩
    obtain ⟨a11, d11, rfl, ha11, hd11⟩ := e11
    refine ⟨a11, _, d11, _, x, rfl, G.eHopeless.ex.ec, G.eHopeless.ex.no _ (List.mem_singleton_self _), ha11, hd11, rfl, ?_⟩
    refine ⟨_, rfl, rfl, rfl, fun v12 H12 S12 e12 => ?_⟩
    obtain ⟨a12, d12, rfl, ha12, hd12⟩ := e12
    refine ⟨a12, _, d12, _, x, rfl, G.eUnbounded.ex.ec, G.eUnbounded.ex.no _ (List.mem_singleton_self _), ha12, hd12, rfl, ?_⟩
    refine ⟨by show 4 ≤ 1000; decide, fun p3 J3 hp3 T3 ep3 => ?_⟩
    refine ⟨c1, p3, [x, x, x, x, x, x, x, x], [x, x, x, x], rfl, rfl, SqL.of (T3 _ _ (S12 _ _ (S11 _ _ (S10 _ _ (S9 _ _ ec1))))), SqL.of ep3, by show (8 : Nat) + 4 ≤ sizeLine; rw [sizeLine_eq]; decide, fun c2 K2 hc2 Sc2 ec2 => ?_⟩
    refine ⟨_, rfl, _, rfl, rfl, rfl, fun vc HC SC eC => ?_⟩
    obtain ⟨aC, dC, rfl, haC, hdC⟩ := eC
    refine ⟨_, rfl, _, rfl, by show 1 ≤ 1000; decide, fun p4 J4 hp4 T4 ep4 => ?_⟩
    refine ⟨p4, 12, [x], rfl, rfl, ep4, by decide, by decide, by show (1 : Nat) * 12 ≤ sizeLine; rw [sizeLine_eq]; decide, fun p5 hp5 => ?_⟩
    have n5 : HC p5 = none := none_of T4 hp5
    have U5 : Same HC (upd J4 p5 (.lst (List.replicate (12 : Int).toNat [x]).flatten)) := T4.trans (same_upd hp5)
    have e5 : upd J4 p5 (.lst (List.replicate (12 : Int).toNat [x]).flatten) p5 = some (.lst [x, x, x, x, x, x, x, x, x, x, x, x]) := upd_same
    generalize upd J4 p5 (.lst (List.replicate (12 : Int).toNat [x]).flatten) = J5 at U5 e5 ⊢
    refine ⟨⟨c2, p5, [x, x, x, x, x, x, x, x, x, x, x, x], [x, x, x, x, x, x, x, x, x, x, x, x], rfl, rfl, U5 _ _ (SC _ _ ec2), e5, prs_self fun z hz => ?_⟩, fun J6 U6 => ?_⟩
    · have : z = x := by
        exact List.eq_of_mem_replicate (n := 12) hz
      rw [this]
      exact hx.dc _
    have haC6 := U6 _ _ (U5 _ _ haC)
    have hdC6 := U6 _ _ (U5 _ _ hdC)
    refine ⟨true, rfl, iteT ?_⟩
    refine ⟨_, rfl, aC, _, dC, _, x, rfl, G.eClash.ex.ec, G.eClash.ex.no _ (.head _), haC6, hdC6, rfl, ?_⟩
    refine ⟨_, rfl, aC, _, dC, _, y, rfl, G.eClash.ex.ec, G.eClash.ex.no _ (.tail _ (.head _)), haC6, hdC6, rfl, ?_⟩
    refine ⟨by show 2 ≤ 1000; decide, fun t1 L1 ht1 X1 et1 => ?_⟩
    refine ⟨_, rfl, _, rfl, by show 2 ≤ 1000; decide, fun t2 L2 ht2 X2 et2 => ?_⟩
    refine ⟨⟨t1, t2, [x, y], [x, y], rfl, rfl, SqT.of (X2 _ _ et1), SqT.of et2, prs_self fun z hz => ?_⟩, fun J7 U7 => ?_⟩
    · rcases List.mem_cons.mp hz with rfl | hz
      · exact hx.dc _
      · rw [List.mem_singleton.mp hz]
        exact hy.dc _
    refine q J7 ?_
    refine Same.trans ?_ U7
    have A1 : Same H J1 := (((S1.trans S2).trans S3).trans S4).trans T1
    have A2 : Same J1 J2 := (((S5.trans S6).trans S7).trans S8).trans T2
    have A3 : Same J2 J3 := Sc1.trans (((((S9.trans S10).trans S11).trans S12)).trans T3)
    exact (((A1.trans A2).trans A3).trans Sc2).trans (((SC.trans U5).trans U6).trans (X1.trans X2))


end
end L2.K08
set_option Elab.async false
set_option linter.all false
set_option maxRecDepth 100000
set_option maxHeartbeats 4000000
/-! Fields made in the order shown, and by names. -/
namespace L2.K08
open PySem PySem.W PySem.Spec PySem.Calls PyProof.Rows L2.Jk
def xL : List V := [.str "b", .str "", .str "ba"]
def fds (x y : Nat) : List FD := [.pl (.word (.str "ba") (.int (x : Nat)) (.int (y : Nat))), .pl (.word (.str "ab") (.int (x : Nat)) .non), .pl (.number (.int (x : Nat)) (.int (y : Nat))), .pl (.fixed (.int (y : Nat))), .pl (.listed (.lst xL)),
  .pl (.ended (.str "ab") (.str "Z") (.int (x : Nat)) (.int (y : Nat))), .mk (.str "N") (.str "m") (.number (.int (x : Nat)) .non)]
theorem num_in : ∀ i : Nat, i < 8 → V.int (i : Nat) ∈ nM := by decide +kernel
theorem fix_in : ∀ i : Nat, i < 8 → 4 ≤ i → V.int (i : Nat) ∈ wM := by decide +kernel
theorem due_ok : ∀ x : Nat, x < 4 → ∀ y : Nat, y < 8 → 4 ≤ y → oDue (.str "ba") (.int (x : Nat)) (.int (y : Nat)) = none ∧ oDue (.str "ab") (.int (x : Nat)) .non = none ∧ bDue (.int (x : Nat)) (.int (y : Nat)) = none ∧ bDue (.int (x : Nat)) .non = none ∧ wDue (.int (y : Nat)) = none ∧
  eDue (.str "ab") (.str "Z") (.int (x : Nat)) (.int (y : Nat)) = none ∧ OD.due (.mk (.str "N") (.str "m") (.pl (.number (.int (x : Nat)) .non))) = none := fun x hx y hy h4 => by
  have k : ∀ x : Nat, x < 4 → ∀ y : Nat, y < 8 → 4 ≤ y → ((oDue (.str "ba") (.int (x : Nat)) (.int (y : Nat))).isNone && ((oDue (.str "ab") (.int (x : Nat)) .non).isNone && ((bDue (.int (x : Nat)) (.int (y : Nat))).isNone && ((bDue (.int (x : Nat)) .non).isNone && ((wDue (.int (y : Nat))).isNone &&
    ((eDue (.str "ab") (.str "Z") (.int (x : Nat)) (.int (y : Nat))).isNone && (OD.due (.mk (.str "N") (.str "m") (.pl (.number (.int (x : Nat)) .non)))).isNone)))))) = true := by decide +kernel
  have k := k x hx y hy h4
  simp only [Bool.and_eq_true, Option.isNone_iff_eq_none] at k
  exact k
theorem lst_in : LX.lst xL ∈ lM ∧ LX.tup xL ∈ lM ∧ lxDue (.lst xL) = none ∧ lxDue (.tup xL) = none := by decide +kernel
section
variable {K : Frag} {H : Hp} {R : VK} {E : XK} {a dx : Addr}
theorem mkWord {s l m : V} (ha : H a = none) (hx : H dx = none) (hin : PD.In (.word s l m)) (hd : PD.due (.word s l m) = none) (q : ∀ H', Same H H' → FdAt K H' a (.pl (.word s l m)) → R .non H') :
    spWord K [.ref a, s, l, m] (upd (upd H dx (.own a)) a (.ins (ca K 0) dx [])) R E :=
  ⟨a, dx, s, l, m, rfl, upd_same, hin.1, hin.2.1, hin.2.2, fun e => q _ (same_put (same_new ha hx) ha) ⟨⟨dx, upd_same⟩, hin, hd⟩, fun z e => (by have e3 := hd.symm.trans e; cases e3)⟩
theorem mkNumb {l m : V} (ha : H a = none) (hx : H dx = none) (hin : PD.In (.number l m)) (hd : PD.due (.number l m) = none) (q : ∀ H', Same H H' → FdAt K H' a (.pl (.number l m)) → R .non H') :
    spNumber K [.ref a, l, m] (upd (upd H dx (.own a)) a (.ins (ca K 1) dx [])) R E :=
  ⟨a, dx, l, m, rfl, upd_same, hin.1, hin.2, fun e => q _ (same_put (same_new ha hx) ha) ⟨⟨dx, upd_same⟩, hin, hd⟩, fun z e => (by have e3 := hd.symm.trans e; cases e3)⟩
theorem mkFix {u : V} (ha : H a = none) (hx : H dx = none) (hin : PD.In (.fixed u)) (hd : PD.due (.fixed u) = none) (q : ∀ H', Same H H' → FdAt K H' a (.pl (.fixed u)) → R .non H') :
    spFixed K [.ref a, u] (upd (upd H dx (.own a)) a (.ins (ca K 2) dx [])) R E :=
  ⟨a, dx, u, rfl, upd_same, hin, fun e => q _ (same_put (same_new ha hx) ha) ⟨⟨dx, upd_same⟩, hin, hd⟩, fun z e => (by have e3 := hd.symm.trans e; cases e3)⟩
theorem mkLst {x : LX} {u : V} (ha : H a = none) (hxx : H dx = none) (hx : x = .lst xL ∨ x = .tup xL) (hL : LXAt H u x) (q : ∀ H', Same H H' → FdAt K H' a (.pl (.listed (.lst xL))) → R .non H') :
    spListed K [.ref a, u] (upd (upd H dx (.own a)) a (.ins (ca K 3) dx [])) R E := by
  have hd : lxDue x = none := by rcases hx with rfl | rfl; exact lst_in.2.2.1; exact lst_in.2.2.2
  have hin : x ∈ lM := by rcases hx with rfl | rfl; exact lst_in.1; exact lst_in.2.1
  have he : x.els = xL := by rcases hx with rfl | rfl <;> rfl
  refine ⟨a, dx, u, x, rfl, upd_same, hin, hL.same (same_new ha hxx), fun e t H2 S2 e2 => ?_, fun z e => (by have e3 := hd.symm.trans e; cases e3)⟩
  have SH : Same H H2 := (same_new ha hxx).trans S2
  rw [he] at e2
  obtain ⟨ob, c1, c2, c3⟩ := e2
  have nt : t ≠ a := ne_of c3 (S2 _ _ upd_same) (fun z => by cases z)
  exact q _ (same_put SH ha) ⟨⟨dx, t, upd_same, ob, c1, c2, by rw [upd_ne nt]; exact c3⟩, lst_in.1, lst_in.2.2.1⟩
theorem mkEnd {s e l m : V} (ha : H a = none) (hx : H dx = none) (hin : PD.In (.ended s e l m)) (hd : PD.due (.ended s e l m) = none) (q : ∀ H', Same H H' → FdAt K H' a (.pl (.ended s e l m)) → R .non H') :
    spEnded K [.ref a, s, e, l, m] (upd (upd H dx (.own a)) a (.ins (ca K 4) dx [])) R E :=
  ⟨a, dx, s, e, l, m, rfl, upd_same, hin.1, hin.2.1, hin.2.2.1, hin.2.2.2, fun e => q _ (same_put (same_new ha hx) ha) ⟨⟨dx, upd_same⟩, hin, hd⟩, fun z e => (by have e3 := hd.symm.trans e; cases e3)⟩
theorem mkMk {n m : V} {r : Addr} {d : PD} (ha : H a = none) (hx : H dx = none) (hR : FdAt K H r (.pl d)) (hn : n ∈ mQ) (hm : m ∈ mQ) (hod : OD.due (.mk n m (.pl d)) = none) (c1 : ∃ c, n = .str ⟨#[c]⟩) (c2 : ∃ c, m = .str ⟨#[c]⟩) (q : ∀ H', Same H H' → FdAt K H' a (.mk n m d) → R .non H') :
    spMarked K [.ref a, n, m, .ref r] (upd (upd H dx (.own a)) a (.ins (ca K 5) dx [])) R E := by
  obtain ⟨hR, hin, hd⟩ := hR
  refine ⟨a, dx, n, m, .ref r, .pl d, rfl, upd_same, hn, hm, ⟨r, rfl, hR.same (same_new ha hx), hin, hd⟩, fun e H2 S2 => ?_, fun z e => (by have e3 := hod.symm.trans e; cases e3)⟩
  have SH : Same H H2 := (same_new ha hx).trans S2
  exact q _ (same_put SH ha) ⟨⟨dx, r, upd_same, hR.same (same_put SH ha)⟩, hin, hd, c1, c2⟩
end
def FdsAt (K : Frag) (H : Hp) (rs : List V) (ds : List FD) : Prop := rs.length = ds.length ∧ ∀ (i : Nat) r d, rs[i]? = some r → ds[i]? = some d → ∃ a, r = .ref a ∧ FdAt K H a d
theorem FdsAt.same {K : Frag} {H H' : Hp} {rs : List V} {ds : List FD} (S : Same H H') (h : FdsAt K H rs ds) : FdsAt K H' rs ds := ⟨h.1, fun i r d h1 h2 => let ⟨a, e, k⟩ := h.2 i r d h1 h2; ⟨a, e, k.same S⟩⟩
theorem FdsAt.nil {K : Frag} {H : Hp} : FdsAt K H [] [] := ⟨rfl, fun i r d h1 => by cases h1⟩
theorem FdsAt.cons {K : Frag} {H : Hp} {a : Addr} {d : FD} {rs : List V} {ds : List FD} (h : FdAt K H a d) (t : FdsAt K H rs ds) : FdsAt K H (.ref a :: rs) (d :: ds) := ⟨congrArg Nat.succ t.1, fun i r e h1 h2 => by
  cases i with
  | zero => cases h1; cases h2; exact ⟨a, rfl, h⟩
  | succ i => exact t.2 i r e h1 h2⟩
def spFlds (K : Frag) : Sp := fun vs H Q _ => ∃ x y : Nat, vs = [.int (x : Nat), .int (y : Nat)] ∧ x < 4 ∧ 4 ≤ y ∧ y < 8 ∧ ∀ (t p r : Addr) (rs ss : List V) H', Same H H' → H' t = some (.tup [.ref p, .ref r]) → H' p = some (.lst rs) → H' r = some (.lst ss) → FdsAt K H' rs (fds x y) → FdsAt K H' ss (fds x y) → Q (.ref t) H'
structure GFl (P : Program) (w : World) (K : Frag) (mg : Str → Option Value) (base : Heap) : Prop where
  kWord : ClsAt P w K mg base (L2.CX P w) 4 "Word" (ca K 0) ["self", "signs", "least", "most"] (spWord K)
  kNumber : ClsAt P w K mg base (L2.CX P w) 4 "Number" (ca K 1) ["self", "least", "most"] (spNumber K)
  kFixed : ClsAt P w K mg base (L2.CX P w) 4 "Fixed" (ca K 2) ["self", "width"] (spFixed K)
  kListed : ClsAt P w K mg base (L2.CX P w) 4 "Listed" (ca K 3) ["self", "texts"] (spListed K)
  kEnded : ClsAt P w K mg base (L2.CX P w) 4 "Ended" (ca K 4) ["self", "signs", "sign", "least", "most"] (spEnded K)
  kMarked : ClsAt P w K mg base (L2.CX P w) 4 "Marked" (ca K 5) ["self", "none", "mark", "field"] (spMarked K)
  nWord : ClsKw P w K mg base (L2.CX P w) 4 "Word" (ca K 0) ["self", "signs", "least", "most"] ["most", "least", "signs"] [2, 1, 0] (spWord K)
  nWord2 : ClsKw P w K mg base (L2.CX P w) 4 "Word" (ca K 0) ["self", "signs", "least", "most"] ["least", "signs", "most"] [1, 0, 2] (spWord K)
  nNumber : ClsKw P w K mg base (L2.CX P w) 4 "Number" (ca K 1) ["self", "least", "most"] ["most", "least"] [1, 0] (spNumber K)
  nFixed : ClsKw P w K mg base (L2.CX P w) 4 "Fixed" (ca K 2) ["self", "width"] ["width"] [0] (spFixed K)
  nListed : ClsKw P w K mg base (L2.CX P w) 4 "Listed" (ca K 3) ["self", "texts"] ["texts"] [0] (spListed K)
  nEnded : ClsKw P w K mg base (L2.CX P w) 4 "Ended" (ca K 4) ["self", "signs", "sign", "least", "most"] ["most", "sign", "least", "signs"] [3, 1, 2, 0] (spEnded K)
  nMarked : ClsKw P w K mg base (L2.CX P w) 4 "Marked" (ca K 5) ["self", "none", "mark", "field"] ["field", "mark", "none"] [2, 1, 0] (spMarked K)
section
variable {P : Program} {w : World} {K : Frag} {mg : Str → Option Value} {base : Heap} {f : Addr} {fd : FuncData}

abbrev s_law_fields : Stmt := top 57
theorem sc_law_fields : FnScope ["_law_x", "_law_y", "_law_some", "_law_same"] ["_law_x", "_law_y"] (defScope s_law_fields) := ⟨rfl, rfl, rfl, by decide +kernel, rfl, by decide +kernel, by decide +kernel⟩

theorem ok_law_fields (F : FunD K "_law_fields" "_law_fields" (defArgs s_law_fields) (defBody s_law_fields) (defScope s_law_fields) [] [] f fd) (G : GFl P w K mg base) : FnOk P w K mg base CX0 6 f fd ["_law_x", "_law_y"] (spFlds K) := by
  refine F.ok (CX := CX0) sc_law_fields (fun vs H Q E h => ?_) (fun cdv A outer s H vs Q E hr h => ?_)
  · obtain ⟨x, y, rfl, _⟩ := h
    rfl
  · refine ⟨_, PSs.nox (pss_cons (ps_set (i := 2) sc_law_fields.nd rfl (Or.inl rfl) (pe_lstS (pa_cons (pe_newS G.kWord hr (fun σ => passAt takes0 σ) (by rfl) (pa_cons pe_str (pa_cons (pv 0) (pa_cons (pv 1) pa_nil)))) (pa_cons (pe_newS G.kWord hr (fun σ => passAt takes0 σ) (by rfl) (pa_cons pe_str (pa_cons (pv 0) (pa_cons pe_non pa_nil)))) (pa_cons (pe_newS G.kNumber hr (fun σ => passAt takes0 σ) (by rfl) (pa_cons (pv 0) (pa_cons (pv 1) pa_nil))) (pa_cons (pe_newS G.kFixed hr (fun σ => passAt takes0 σ) (by rfl) (pa_cons (pv 1) pa_nil)) (pa_cons (pe_newS G.kListed hr (fun σ => passAt takes0 σ) (by rfl) (pa_cons (pe_lstS (pa_cons pe_str (pa_cons pe_str (pa_cons pe_str pa_nil)))) pa_nil)) pa_nil)))))))
    (pss_cons (ps_set (i := 2) sc_law_fields.nd rfl (Or.inl rfl) (pe_op op_catS (pv 2) (pe_lstS (pa_cons (pe_newS G.kEnded hr (fun σ => passAt takes0 σ) (by rfl) (pa_cons pe_str (pa_cons pe_str (pa_cons (pv 0) (pa_cons (pv 1) pa_nil))))) (pa_cons (pe_newS G.kMarked hr (fun σ => passAt takes0 σ) (by rfl) (pa_cons pe_str (pa_cons pe_str (pa_cons (pe_newS G.kNumber hr (fun σ => passAt takes0 σ) (by rfl) (pa_cons (pv 0) (pa_cons pe_non pa_nil))) pa_nil)))) pa_nil)))))
    (pss_cons (ps_set (i := 3) sc_law_fields.nd rfl (Or.inl rfl) (pe_lstS (pa_cons (pe_newKw G.nWord hr passes0 (by rfl) (pk_cons (pv 1) (pk_cons (pv 0) (pk_cons pe_str pk_nil)))) (pa_cons (pe_newKw G.nWord2 hr passes0 (by rfl) (pk_cons (pv 0) (pk_cons pe_str (pk_cons pe_non pk_nil)))) (pa_cons (pe_newKw G.nNumber hr passes0 (by rfl) (pk_cons (pv 1) (pk_cons (pv 0) pk_nil))) pa_nil)))))
    (pss_cons (ps_set (i := 3) sc_law_fields.nd rfl (Or.inl rfl) (pe_op op_catS (pv 3) (pe_lstS (pa_cons (pe_newKw G.nFixed hr passes0 (by rfl) (pk_cons (pv 1) pk_nil)) (pa_cons (pe_newKw G.nListed hr passes0 (by rfl) (pk_cons (pe_tupZ (pa_cons pe_str (pa_cons pe_str (pa_cons pe_str pa_nil)))) pk_nil)) (pa_cons (pe_newKw G.nEnded hr passes0 (by rfl) (pk_cons (pv 1) (pk_cons pe_str (pk_cons (pv 0) (pk_cons pe_str pk_nil))))) pa_nil))))))
    (pss_one (ps_ret (pe_tupS (pa_cons (pv 2) (pa_cons (pe_op op_catS (pv 3) (pe_lstS (pa_cons (pe_newKw G.nMarked hr passes0 (by rfl) (pk_cons (pe_newS G.kNumber hr (fun σ => passAt takes0 σ) (by rfl) (pa_cons (pv 0) (pa_cons pe_non pa_nil))) (pk_cons pe_str (pk_cons pe_str pk_nil)))) pa_nil))) pa_nil))))))))), ?_⟩
    obtain ⟨x, y, rfl, hx, hy4, hy, q⟩ := h
    have nx := num_in x (by omega)
    have ny := num_in y hy
    have nn : V.non ∈ nM := by decide +kernel
    have s1 : V.str "ba" ∈ sM := by decide +kernel
    have s2 : V.str "ab" ∈ sM := by decide +kernel
    have eZ : V.str "Z" ∈ eM := by decide +kernel
    have qN : V.str "N" ∈ mQ ∧ V.str "m" ∈ mQ := by decide +kernel
    obtain ⟨d1, d2, d3, d4, d5, d6, d7⟩ := due_ok x hx y hy hy4
    have cN : ∃ c, V.str "N" = .str ⟨#[c]⟩ := ⟨78, rfl⟩
    have cm : ∃ c, V.str "m" = .str ⟨#[c]⟩ := ⟨109, rfl⟩
    refine ⟨_, rfl, _, rfl, ?_⟩
    refine fun a1 dxa1 haa1 hxa1 _ => mkWord haa1 hxa1 (s := .str "ba") (l := .int x) (m := .int y) ⟨s1, nx, ny⟩ d1 fun H1 S1 F1 => ⟨rfl, ?_⟩
    refine ⟨_, rfl, ?_⟩
    refine fun a2 dxa2 haa2 hxa2 _ => mkWord haa2 hxa2 (s := .str "ab") (l := .int x) (m := .non) ⟨s2, nx, nn⟩ d2 fun H2 S2 F2 => ⟨rfl, ?_⟩
    refine ⟨_, rfl, _, rfl, ?_⟩
    refine fun a3 dxa3 haa3 hxa3 _ => mkNumb haa3 hxa3 (l := .int x) (m := .int y) ⟨nx, ny⟩ d3 fun H3 S3 F3 => ⟨rfl, ?_⟩
    refine ⟨_, rfl, ?_⟩
    refine fun a4 dxa4 haa4 hxa4 _ => mkFix haa4 hxa4 (u := .int y) (fix_in y hy hy4) d5 fun H4 S4 F4 => ⟨rfl, ?_⟩
    refine ⟨by show 3 ≤ 1000; decide, fun p5 J5 hp5 T5 ep5 => ?_⟩
    refine fun a5 dxa5 haa5 hxa5 _ => mkLst haa5 hxa5 (x := .lst xL) (.inl rfl) ⟨p5, rfl, ep5⟩ fun H5 S5 F5 => ⟨rfl, ?_⟩
    refine ⟨by show 5 ≤ 1000; decide, fun p1 J1 hp1 T1 ep1 => ?_⟩
    refine ⟨_, rfl, ?_⟩
    refine ⟨_, rfl, _, rfl, ?_⟩
    refine fun a6 dxa6 haa6 hxa6 _ => mkEnd haa6 hxa6 (s := .str "ab") (e := .str "Z") (l := .int x) (m := .int y) ⟨s2, eZ, nx, ny⟩ d6 fun H6 S6 F6 => ⟨rfl, ?_⟩
    refine ⟨_, rfl, ?_⟩
    refine fun b7 dxb7 hab7 hxb7 _ => mkNumb hab7 hxb7 (l := .int x) (m := .non) ⟨nx, nn⟩ d4 fun I7 U7 G7 => ⟨rfl, ?_⟩
    refine fun a7 dxa7 haa7 hxa7 _ => mkMk haa7 hxa7 G7 qN.1 qN.2 d7 cN cm fun H7 S7 F7 => ⟨rfl, ?_⟩
    refine ⟨by show 2 ≤ 1000; decide, fun p2 J2 hp2 T2 ep2 => ?_⟩
    have k12 : Same J1 J2 := ((S6.trans U7).trans S7).trans T2
    refine ⟨p1, p2, [.ref a1, .ref a2, .ref a3, .ref a4, .ref a5], [.ref a6, .ref a7], rfl, rfl, SqL.of (k12 _ _ ep1), SqL.of ep2, by show (5 : Nat) + 2 ≤ sizeLine; rw [sizeLine_eq]; decide, fun c1 K1 hc1 Sc1 ec1 => ?_⟩
    have FA : FdsAt K K1 [.ref a1, .ref a2, .ref a3, .ref a4, .ref a5, .ref a6, .ref a7] (fds x y) :=
      .cons (F1.same ((((((((S2.trans S3).trans S4).trans T5).trans S5).trans T1).trans k12).trans Sc1)))
      (.cons (F2.same (((((((S3.trans S4).trans T5).trans S5).trans T1).trans k12).trans Sc1)))
      (.cons (F3.same ((((((S4.trans T5).trans S5).trans T1).trans k12).trans Sc1)))
      (.cons (F4.same (((((T5.trans S5).trans T1).trans k12).trans Sc1)))
      (.cons (F5.same (((T1.trans k12).trans Sc1)))
      (.cons (F6.same ((((U7.trans S7).trans T2).trans Sc1)))
      (.cons (F7.same (T2.trans Sc1)) .nil))))))
    have kA : Same H K1 := (((((((S1.trans S2).trans S3).trans S4).trans T5).trans S5).trans T1).trans k12).trans Sc1
    refine ⟨_, rfl, _, rfl, rfl, rfl, fun b1 dxb1 hab1 hxb1 _ => mkWord hab1 hxb1 (s := .str "ba") (l := .int x) (m := .int y) ⟨s1, nx, ny⟩ d1 fun I1 U1 G1 => ⟨rfl, ?_⟩⟩
    refine ⟨_, rfl, rfl, rfl, fun b2 dxb2 hab2 hxb2 _ => mkWord hab2 hxb2 (s := .str "ab") (l := .int x) (m := .non) ⟨s2, nx, nn⟩ d2 fun I2 U2 G2 => ⟨rfl, ?_⟩⟩
    refine ⟨_, rfl, _, rfl, rfl, rfl, fun b3 dxb3 hab3 hxb3 _ => mkNumb hab3 hxb3 (l := .int x) (m := .int y) ⟨nx, ny⟩ d3 fun I3 U3 G3 => ⟨rfl, ?_⟩⟩
    refine ⟨by show 3 ≤ 1000; decide, fun q1 N1 hq1 V1 eq1 => ?_⟩
    refine ⟨_, rfl, ?_⟩
    refine ⟨_, rfl, rfl, rfl, fun b4 dxb4 hab4 hxb4 _ => mkFix hab4 hxb4 (u := .int y) (fix_in y hy hy4) d5 fun I4 U4 G4 => ⟨rfl, ?_⟩⟩
    refine ⟨by show 3 ≤ 1000; decide, fun p6 J6 hp6 T6 ep6 => ?_⟩
    refine ⟨rfl, rfl, fun b5 dxb5 hab5 hxb5 _ => mkLst hab5 hxb5 (x := .tup xL) (.inr rfl) ⟨p6, rfl, ep6⟩ fun I5 U5 G5 => ⟨rfl, ?_⟩⟩
    refine ⟨_, rfl, _, rfl, rfl, rfl, fun b6 dxb6 hab6 hxb6 _ => mkEnd hab6 hxb6 (s := .str "ab") (e := .str "Z") (l := .int x) (m := .int y) ⟨s2, eZ, nx, ny⟩ d6 fun I6 U6 G6 => ⟨rfl, ?_⟩⟩
    refine ⟨by show 3 ≤ 1000; decide, fun q2 N2 hq2 V2 eq2 => ?_⟩
    have kB : Same N1 N2 := (((U4.trans T6).trans U5).trans U6).trans V2
    refine ⟨q1, q2, [.ref b1, .ref b2, .ref b3], [.ref b4, .ref b5, .ref b6], rfl, rfl, SqL.of (kB _ _ eq1), SqL.of eq2, by show (3 : Nat) + 3 ≤ sizeLine; rw [sizeLine_eq]; decide, fun c2 K2 hc2 Sc2 ec2 => ?_⟩
    refine ⟨_, rfl, _, rfl, ?_⟩
    refine ⟨_, rfl, ?_⟩
    refine fun e7 dxe7 hae7 hxe7 _ => mkNumb hae7 hxe7 (l := .int x) (m := .non) ⟨nx, nn⟩ d4 fun I8 U8 G8 => ⟨rfl, ?_⟩
    refine ⟨rfl, rfl, fun b8 dxb8 hab8 hxb8 _ => mkMk hab8 hxb8 G8 qN.1 qN.2 d7 cN cm fun I9 U9 G9 => ⟨rfl, ?_⟩⟩
    refine ⟨by show 1 ≤ 1000; decide, fun q3 N3 hq3 V3 eq3 => ?_⟩
    have kC : Same K2 N3 := (U8.trans U9).trans V3
    refine ⟨c2, q3, [.ref b1, .ref b2, .ref b3, .ref b4, .ref b5, .ref b6], [.ref b8], rfl, rfl, SqL.of (kC _ _ ec2), SqL.of eq3, by show (6 : Nat) + 1 ≤ sizeLine; rw [sizeLine_eq]; decide, fun c3 K3 hc3 Sc3 ec3 => ?_⟩
    refine ⟨by show 2 ≤ 1000; decide, fun tt L ht SL et => ?_⟩
    have kD : Same N2 L := (((Sc2.trans kC).trans Sc3).trans SL)
    have kE : Same K1 N1 := (((U1.trans U2).trans U3).trans V1)
    have kL : Same K1 L := (kE.trans kB).trans kD
    have k1 : Same N1 L := kB.trans kD
    refine q tt c1 c3 [.ref a1, .ref a2, .ref a3, .ref a4, .ref a5, .ref a6, .ref a7] [.ref b1, .ref b2, .ref b3, .ref b4, .ref b5, .ref b6, .ref b8] L (kA.trans kL) et (kL _ _ ec1) (SL _ _ ec3) (FA.same kL) ?_
    exact .cons (G1.same (((U2.trans U3).trans V1).trans k1))
      (.cons (G2.same ((U3.trans V1).trans k1))
      (.cons (G3.same (V1.trans k1))
      (.cons (G4.same ((((T6.trans U5).trans U6).trans V2).trans kD))
      (.cons (G5.same ((U6.trans V2).trans kD))
      (.cons (G6.same (V2.trans kD))
      (.cons (G9.same ((V3.trans Sc3).trans SL)) .nil))))))


end
end L2.K08
set_option Elab.async false
set_option linter.all false
set_option maxRecDepth 100000
set_option maxHeartbeats 4000000
/-! Comparisons with instances in them: lists by !=, tuples of unlike lengths by ==, an instance != anything that is no subclass' instance. -/
namespace L2.Jk
open PySem PySem.W PySem.Spec PySem.Calls PyProof.Rows PySem.SeqAt
open AutoSeq1 (wpAny_loadPart')
open MeetsSeq MeetsSeq2 MeetsSeq3 SeqRoads2
section
variable {prog : Program} {w : World} {A : Around} {R : Result → Shared → Prop} {E : Value → Shared → Prop} {s : Shared}
/-- the two lists, read anew each turn, have N items each, and the next two are equal -/
def LsI (prog : Program) (w : World) (A : Around) (E : Value → Shared → Prop) (a b : Addr) (N : Nat) (J : Nat → Shared → Prop) : Prop :=
  ∀ i s, J i s → ∃ (its jts : Array Value) (n m : Nat), s.heap.get? a = some { cls := .type "list", data := .seq its n } ∧ s.heap.get? b = some { cls := .type "list", data := .seq jts m } ∧ its.size = N ∧ jts.size = N ∧
    ∀ (h1 : i < its.size) (h2 : i < jts.size), wpAny (model prog w) A.in1 (eqBool its[i] jts[i]) (fun r s' => r = true ∧ J (i + 1) s') E s
theorem ne_turns (a b : Addr) (N : Nat) (J : Nat → Shared → Prop) (hJ : LsI prog w A (fun e s' => R (.error e) s') a b N J) (fin : ∀ s, J N s → R (.ok (.ret (.bool false))) s) (m : Nat) :
    ∀ i : Nat, N - i = m → i ≤ N → ∀ s, J i s → wpAny (model prog w) A.in1 (Builtin.«list.__eq__.loop» ⟨[.ref a, .ref b, rawInt i, rawInt 3], []⟩) (GQ.FinOf prog w A R) (fun e s' => R (.error e) s') s := by
  induction m with
  | zero =>
    intro i hm hi s h
    obtain ⟨its, jts, n, m, ea, eb, sa, sb, _⟩ := hJ _ _ h
    obtain rfl : i = N := by omega
    have done : R (.ok (.ret (.bool false))) s := fin s h
    obtain ⟨hp, g, d, tk, os⟩ := s
    wp_walk using wpAny_loadPart' ea, wpAny_loadPart' eb
    rw [show its[((i : Nat) : Int).toNat]? = none by simp; omega, show jts[((i : Nat) : Int).toNat]? = none by simp; omega]
    wp_walk using wpAny_loadPart' ea, wpAny_loadPart' eb
    show R (.ok (.ret (.bool (its.size != jts.size)))) _
    rw [sa, sb]
    simpa using done
  | succ m ih =>
    intro i hm hi s h
    obtain ⟨its, jts, n, k, ea, eb, sa, sb, turn⟩ := hJ _ _ h
    have l1 : i < its.size := by omega
    have l2 : i < jts.size := by omega
    have one := turn l1 l2
    obtain ⟨hp, g, d, tk, os⟩ := s
    wp_walk using wpAny_loadPart' ea, wpAny_loadPart' eb
    rw [show its[((i : Nat) : Int).toNat]? = some its[i] by simp [l1], show jts[((i : Nat) : Int).toNat]? = some jts[i] by simp [l2]]
    refine wpAny_bind (wpAny_mono one (fun r s2 q2 => ?_) fun _ _ x => x)
    obtain ⟨rfl, q2⟩ := q2
    have next := ih (i + 1) (by omega) (by omega) s2 q2
    obtain ⟨hp2, g2, d2, tk2, os2⟩ := s2
    wp_walk
    rw [show ((i : Int) + 1) = ((i + 1 : Nat) : Int) by omega]
    refine ⟨plainId_quiet plain_eq_loop _, codeAny_builtin entry_eq_loop ?_⟩
    rw [Around.under_plainId plain_eq_loop _]
    exact next
theorem list_ne_same (a b : Addr) (N : Nat) (J : Nat → Shared → Prop) (hJ : LsI prog w A (fun e s' => R (.error e) s') a b N J) (fin : ∀ s, J N s → R (.ok (.ret (.bool false))) s) (h : J 0 s) :
    wpAny (model prog w) A.in1 (Builtin.«list.__ne__» ⟨[.ref a, .ref b], []⟩) (GQ.FinOf prog w A R) (fun e s' => R (.error e) s') s := by
  obtain ⟨its, jts, n, m, ea, eb, sa, sb, _⟩ := hJ _ _ h
  have all := ne_turns (A := A) (R := R) a b N J hJ fin _ 0 rfl (Nat.zero_le _) s h
  obtain ⟨hp, g, d, tk, os⟩ := s
  have f3 := AutoSeq1.sub_list_list
  have same : ¬ (its.size != jts.size) = true := by simp [sa, sb]
  wp_walk using wpAny_loadPart' ea, wpAny_loadPart' eb
  refine ⟨plainId_quiet plain_eq_loop _, codeAny_builtin entry_eq_loop ?_⟩
  rw [Around.under_plainId plain_eq_loop _]
  exact all
/-- == of tuples of unlike lengths whose items are equal as far as both go -/
theorem tup_eq_pre (l b : Addr) (its jts : Array Value) (n n2 : Nat) (dd dd2 : Option Addr) (sl sl2 : Array (Option Value)) (hsz : jts.size < its.size) (J : Nat → Shared → Prop)
    (turn : ∀ i (h1 : i < its.size) (h2 : i < jts.size) s, J i s → wpAny (model prog w) A.in1 (eqBool its[i] jts[i]) (fun r s' => r = true ∧ J (i + 1) s') (fun e s' => R (.error e) s') s)
    (fin : ∀ s, J jts.size s → R (.ok (.ret (.bool false))) s) (hl : s.heap.get? l = some { cls := .type "tuple", dict := dd, data := .seq its n, slots := sl }) (hb : s.heap.get? b = some { cls := .type "tuple", dict := dd2, data := .seq jts n2, slots := sl2 })
    (h : J 0 s) : wpAny (model prog w) A.in1 (Builtin.«tuple.__eq__» ⟨[.ref l, .ref b], []⟩) (GQ.FinOf prog w A R) (fun e s' => R (.error e) s') s := by
  have f2 := AutoSeq1.sub_tuple_tuple
  have len : (its.toList.zip jts.toList).length = jts.size := by simp; omega
  have h0 := h
  obtain ⟨hp, g, d, tk, os⟩ := s
  wp_walk using wpAny_loadPart' hl, wpAny_loadPart' hb, wpAny_forIn_list _ (fun rest b s' => b.1 = none ∧ ∃ i, rest = (its.toList.zip jts.toList).drop i ∧ i ≤ jts.size ∧ J i s') _
  case turn =>
    rintro ⟨y, x⟩ rest b s' ⟨hb', i, hz, hi, hJ⟩
    have lt : i < (its.toList.zip jts.toList).length := by
      refine Nat.lt_of_not_le fun z => ?_
      rw [List.drop_of_length_le z] at hz
      cases hz
    have h2 : i < jts.size := len ▸ lt
    have h1 : i < its.size := by omega
    rw [List.drop_eq_getElem_cons lt] at hz
    obtain ⟨e1, e2⟩ := List.cons.inj hz
    obtain rfl : y = its[i] := by simpa using congrArg Prod.fst e1
    obtain rfl : x = jts[i] := by simpa using congrArg Prod.snd e1
    refine wpAny_bind (wpAny_mono (turn i h1 h2 s' hJ) (fun r s2 q2 => ?_) fun _ _ x => x)
    obtain ⟨rfl, q2⟩ := q2
    wp_walk
    exact ⟨rfl, i + 1, e2, h2, q2⟩
  case fin =>
    rintro ⟨b1, b2⟩ s' ⟨hb', i, hz, hi, hJ⟩
    dsimp only at hb'
    subst hb'
    have ge : jts.size ≤ i := by
      refine Nat.le_of_not_lt fun z => ?_
      rw [List.drop_eq_getElem_cons (by rw [len]; exact z)] at hz
      cases hz
    obtain rfl : i = jts.size := by omega
    have hR := fin s' hJ
    have ns : (its.size == jts.size) = false := beq_eq_false_iff_ne.mpr (by omega)
    wp_walk
    simpa [Builtin.Tuple.tupleCompareSizes, ns] using hR
  case h => exact ⟨rfl, 0, rfl, Nat.zero_le _, h0⟩
end
section
variable {X : Cx} {n : Nat} {D : Eqv}
/-- xs != ys of two lists whose items D says to be equal -/
def rNeL (D : Eqv) : R2 := fun x y H Q => DList D x y H ∧ ∀ H', Same H H' → Q (.bl false) H'
theorem op_neL (hD : Mon D) (h : EqG X n D) (hr : Room (n + 1) X.A) : OpR X (compareOp .NotEq) (rNeL D) := by
  intro pins s σ H x y v u Q I rx ry hq
  obtain ⟨⟨a, b, xs, ys, rfl, rfl, ha, hb, p⟩, q⟩ := hq
  cases rx
  cases ry
  obtain ⟨_, its, n1, r, e⟩ := I.hok a _ ha
  obtain ⟨_, jts, n2, r2, e2⟩ := I.hok b _ hb
  show wpAny (model X.prog X.w) X.A (richCompare .NotEq (.ref a) (.ref b)) (EP X pins σ Q) X.xe s
  refine wpAny_richCompare_same_room (op := .NotEq) ⟨_, e, rfl⟩ ⟨_, e2, rfl⟩ PySem.F.slot_list_ne (GQ.call_here PySem.F.slot_list_ne ⟨_, e, rfl⟩ PySem.F.entry_list_ne (PySem.F.args_list_ne_2 _ _) ?_) hr.units0
  refine list_ne_same (R := wants (fun v s' => v ≠ .notImplemented ∧ EP X pins σ Q v s') X.xe) a b xs.length (fun _ s' => LoopI X pins σ H s') (fun i s' q => ?_) (fun s' k => ⟨(fun x => nomatch x), ?_⟩) ⟨H, I, Ext.rfl'⟩
  · obtain ⟨H1, I1, e1⟩ := id q
    obtain ⟨z, its, k, r, e⟩ := I1.hok a _ (e1 _ _ ha)
    obtain ⟨z2, its2, k2, r2, e2⟩ := I1.hok b _ (e1 _ _ hb)
    refine ⟨its.toArray, its2.toArray, k, k2, e, e2, by rw [List.size_toArray, ← r.length], by rw [List.size_toArray, ← r2.length, ← p.1], fun h1 h2 => ?_⟩
    exact turnG hD h ⟨hr, rfl⟩ p r r2 i h1 h2 s' q
  · obtain ⟨H', I', x⟩ := k
    exact ⟨.bl false, H', I', rfl, q H' x⟩
/-- t == u of two tuples, the second one shorter, whose items D says to be equal as far as it goes -/
def rEqP (X : Cx) (D : Eqv) : R2 := fun x y H Q => ∃ a b xs ys, x = .ref a ∧ y = .ref b ∧ SqT X.K H a xs ∧ SqT X.K H b ys ∧ ys.length < xs.length ∧ Prs D (xs.take ys.length) ys H ∧ ∀ H', Same H H' → Q (.bl false) H'
theorem op_eqP (hD : Mon D) (h : EqG X n D) (hr : Room (n + 1) X.A) : OpR X (compareOp .Eq) (rEqP X D) := by
  intro pins s σ H x y v u Q I rx ry hq
  obtain ⟨a, b, xs, ys, rfl, rfl, ha, hb, hlt, p, q⟩ := hq
  cases rx
  cases ry
  obtain ⟨its, r, e, z⟩ := I.tuple ha
  obtain ⟨jts, r2, e2, z2⟩ := I.tuple hb
  have hsz : jts.toArray.size < its.toArray.size := by rw [List.size_toArray, List.size_toArray, ← r.length, ← r2.length]; exact hlt
  obtain ⟨⟨c1, d1, t1, s1⟩, g1, k1, n1, e1⟩ := id e
  obtain ⟨⟨c2, d2, t2, s2⟩, g2, k2, n2, e22⟩ := id e2
  dsimp only at k1 e1 k2 e22
  subst k1 e1 k2 e22
  show wpAny (model X.prog X.w) X.A (richCompare .Eq (.ref a) (.ref b)) (EP X pins σ Q) X.xe s
  refine wpAny_richCompare_same_room (op := .Eq) ⟨_, g1, rfl⟩ ⟨_, g2, rfl⟩ PySem.F.slot_tuple_eq (GQ.call_here PySem.F.slot_tuple_eq ⟨_, g1, rfl⟩ PySem.F.entry_tuple_eq (PySem.F.args_tuple_eq_2 _ _) ?_) hr.units0
  refine tup_eq_pre (R := wants (fun v s' => v ≠ .notImplemented ∧ EP X pins σ Q v s') X.xe) a b its.toArray jts.toArray n1 n2 d1 d2 s1 s2 hsz (fun _ s' => LoopI X pins σ H s') (fun i h1 h2 s' k => ?_) (fun s' k => ⟨(fun x => nomatch x), ?_⟩) g1 g2 ⟨H, I, Ext.rfl'⟩
  · have h1' : i < (its.take ys.length).toArray.size := by
      rw [List.size_toArray, List.length_take, ← r.length]
      rw [List.size_toArray, ← r2.length] at h2
      omega
    have t := turnG hD h ⟨hr, rfl⟩ p (Vals.take ys.length r) r2 i h1' h2 s' k
    have et : (its.take ys.length).toArray[i] = its.toArray[i] := by simp
    rw [et] at t
    exact t
  · obtain ⟨H', I', x⟩ := k
    exact ⟨.bl false, H', I', rfl, q H' x⟩
end
section
variable {X : Cx} {CX : CXT} {E : XK}
/-- x != y, x an instance with an own __eq__ and no __ne__, y a reference whose class does not come first -/
def rNeA (X : Cx) (CX : CXT) (E : XK) : R2 := fun x y H Q => ∃ (a b C dx : Addr) (fs : List (Str × V)) (t : Value), x = .ref a ∧ y = .ref b ∧ H a = some (.ins C dx fs) ∧ EqcC X.K C ∧ TyE X.K H y t ∧ notFirst X.K C t = true ∧
  ∃ (k : Nat) (fd : FuncData) (ps : List Str) (sp : Sp), keepIn X.K (.ref (He.ma X.K C "__eq__")) = true ∧ FnOk X.prog X.w X.K X.mg X.base CX k (He.ma X.K C "__eq__") fd ps sp ∧ Room (k + 1) X.A ∧ Binds X.K fd ps [] ∧ sp [x, y] H (fun v H' => ∃ b, v = .bl b ∧ Q (.bl !b) H') E
theorem op_neA (hx : Passes CX X E) : OpR X (compareOp .NotEq) (rNeA X CX E) := by
  intro pins s σ H x y v u Q I rx ry h
  obtain ⟨a, b, C, dx, fs, t, rfl, rfl, ha, T, ty, nf, k, fd, ps, sp, kp, G, hr, hb, q⟩ := h
  cases rx
  obtain ⟨mA, J, _⟩ := ins_get I.hok ha
  obtain ⟨od, J, _⟩ := J.look
  obtain ⟨P, Z, p, _⟩ := kit_ofE I ry ty
  cases ry
  have hty : Looks (model X.prog X.w) s.heap (typeOf (.ref b)) t := Z.ty _ _ I.kIn p
  obtain ⟨nm, qn, N, bs, hdct, sn, sub, ab, col, dd, k0, k1, k2, k3, k5, nid, hC, ok, ne1, ne2⟩ := T.cls
  have hn : s.heap.Ns N (s.heap.nsMap N) := .of_isNs (isNs_of_in I.kIn ok)
  obtain ⟨of, hof, hcl⟩ := Option.map_eq_some_iff.mp (show (X.K.lookup (He.ma X.K C "__eq__")).map (·.cls) = some (.type "function") from beq_iff_eq.mp T.fn)
  have own : s.heap.OwnEqNoNe a C (He.ma X.K C "__eq__") "object" [.type "object"] := ⟨_, of, nm, qn, N, bs, hdct, sn, sub, ab, col, dd, k0, k1, k2, k3, k5, nid, _, _, J.at_, rfl, I.kIn _ _ hC, hn, ns_at_of I.kIn hn ne1,
    I.kIn _ _ hof, hcl, F.cmp_object.mro, F.cmp_object.eq.lookup, ns_none_of I.kIn hn ne2⟩
  have kin := I.kIn
  have fin : wpAny (model X.prog X.w) X.A (tryCompare (.ref a) "__ne__" (.ref b)) (fun r s' => ∃ v, r = some v ∧ EP X pins σ Q v s') X.xe s := by
    have c := run_in1 (us := [.ref a, .ref b]) (vs := [.ref a, .ref b]) G hr.in1 hb hx I (.cons rfl (.cons rfl .nil)) q
    obtain ⟨hp, g, d, tk, os⟩ := s
    refine tryCompare_ne_ownEq F.cmp_object own (by have := hr.units; omega) (wpAny_mono c (fun z s' hz => ?_) fun _ _ e => e)
    obtain ⟨v', H', I', r', b', rfl, q'⟩ := hz
    obtain rfl : z = Value.bool b' := r'
    exact ⟨b', rfl, _, rfl, .bl !b', H', I', rfl, q'⟩
  show wpAny (model X.prog X.w) X.A (richCompare .NotEq (.ref a) (.ref b)) (EP X pins σ Q) X.xe s
  unfold richCompare
  simp only [oneThing_ref]
  refine wpAny_holding (wpAny_bind (wpAny_cRoomFor (by have := hr.units; omega) ?_))
  rw [cmpInfo_NotEq]
  dsimp only
  refine wpAny_bind (J.type.here (wpAny_bind (hty.here ?_)))
  have last : wpAny (model X.prog X.w) X.A (tryCompare (.ref a) "__ne__" (.ref b)) (fun r s' => ∃ v, r = some v ∧ EP X pins σ Q v s') X.xe s := fin
  split
  · rename_i z
    have e : subIn X.K t (.ref C) = some false := by
      rcases Bool.or_eq_true_iff.mp nf with e | e
      · rw [beq_iff_eq.mp e] at z
        simp at z
      · exact beq_iff_eq.mp e
    refine wpAny_bind ((looks_subIn kin e).here ?_)
    simp only [Bool.false_eq_true, if_false]
    refine wpAny_bind (wpAny_mono last (fun r s' z => ?_) fun _ _ e => e)
    obtain ⟨v, rfl, hq⟩ := z
    exact wpAny_pure hq
  · refine wpAny_bind (wpAny_pure ?_)
    simp only [Bool.false_eq_true, if_false]
    refine wpAny_bind (wpAny_mono last (fun r s' z => ?_) fun _ _ e => e)
    obtain ⟨v, rfl, hq⟩ := z
    exact wpAny_pure hq
end
end L2.Jk

set_option Elab.async false
set_option linter.all false
set_option maxRecDepth 100000
set_option maxHeartbeats 4000000
/-! == of fields and of lists of fields. -/
namespace L2.K08
open PySem PySem.W PySem.Spec PySem.Calls PyProof.Rows L2.Jk
structure EQ2 (P : Program) (w : World) (K : Frag) (mg : Str → Option Value) (base : Heap) (C : Addr) (sp : Sp) : Prop where
  ok : ∃ fd, FnOk P w K mg base CX0 2 (He.ma K C "__eq__") fd ["self", "other"] sp ∧ Binds K fd ["self", "other"] []
structure GQ8 (P : Program) (w : World) (K : Frag) (mg : Str → Option Value) (base : Heap) : Prop extends G5 P w K mg base where
  eMarked : EQ2 P w K mg base (ca K 5) (spEqMarked K)
def DNum (K : Frag) : Eqv := DIns (ca K 1) fun a b H => ∃ l m : V, FieldAt K H a (.number l m) ∧ FieldAt K H b (.number l m) ∧ PD.In (.number l m) ∧ PD.due (.number l m) = none
def DFD (K : Frag) : Eqv := fun x y H => ∃ (a b : Addr) (d : FD), x = .ref a ∧ y = .ref b ∧ FdAt K H a d ∧ FdAt K H b d
theorem monFD {K : Frag} : Mon (DFD K) := fun x y H H' e ⟨a, b, d, h1, h2, h3, h4⟩ => ⟨a, b, d, h1, h2, h3.same e, h4.same e⟩
section
variable {P : Program} {w : World} {K : Frag} {mg : Str → Option Value} {base : Heap} {f : Addr} {fd : FuncData}
theorem rcNum (G : GQ8 P w K mg base) {X : Cx} (e1 : X.prog = P) (e2 : X.w = w) (e3 : X.K = K) (e4 : X.mg = mg) (e5 : X.base = base) : RcG X 1 (DNum K) := by
  subst e1 e2 e3 e4 e5
  obtain ⟨fde, Fe, Be⟩ := G.eNumber.ok
  exact rcG_ins (E := E0) (Fe.imp fun vs H Q E ⟨a, b, e, ⟨l, m, g1, g2, g3, g4⟩, q⟩ => ⟨a, .ref b, l, m, e, g1, g3, g4, .inl ⟨b, rfl, g2, q _ Ext.rfl'⟩⟩) (G.kc 1 (by decide)).eq.find (G.kc 1 (by decide)).eq.fn Be pass0
theorem eqFD (G : GQ8 P w K mg base) {X : Cx} (e1 : X.prog = P) (e2 : X.w = w) (e3 : X.K = K) (e4 : X.mg = mg) (e5 : X.base = base) : EqG X 2 (DFD K) := by
  subst e1 e2 e3 e4 e5
  have h0 : EqG X 1 (DIns (ca X.K 0) fun a b H => ∃ s l m : V, FieldAt X.K H a (.word s l m) ∧ FieldAt X.K H b (.word s l m) ∧ PD.In (.word s l m) ∧ PD.due (.word s l m) = none) := by
    obtain ⟨fde, Fe, Be⟩ := G.eWord.ok
    exact eqG_ins (E := E0) (Fe.imp fun vs H Q E ⟨a, b, e, ⟨s, l, m, g1, g2, g3, g4⟩, q⟩ => ⟨a, .ref b, s, l, m, e, g1, g3, g4, .inl ⟨b, rfl, g2, q _ Ext.rfl'⟩⟩) (G.kc 0 (by decide)).eq.find (G.kc 0 (by decide)).eq.fn Be pass0
  have h1 : EqG X 1 (DIns (ca X.K 1) fun a b H => ∃ l m : V, FieldAt X.K H a (.number l m) ∧ FieldAt X.K H b (.number l m) ∧ PD.In (.number l m) ∧ PD.due (.number l m) = none) := by
    obtain ⟨fde, Fe, Be⟩ := G.eNumber.ok
    exact eqG_ins (E := E0) (Fe.imp fun vs H Q E ⟨a, b, e, ⟨l, m, g1, g2, g3, g4⟩, q⟩ => ⟨a, .ref b, l, m, e, g1, g3, g4, .inl ⟨b, rfl, g2, q _ Ext.rfl'⟩⟩) (G.kc 1 (by decide)).eq.find (G.kc 1 (by decide)).eq.fn Be pass0
  have h2 : EqG X 1 (DIns (ca X.K 2) fun a b H => ∃ v : V, FieldAt X.K H a (.fixed v) ∧ FieldAt X.K H b (.fixed v) ∧ PD.In (.fixed v) ∧ PD.due (.fixed v) = none) := by
    obtain ⟨fde, Fe, Be⟩ := G.eFixed.ok
    exact eqG_ins (E := E0) (Fe.imp fun vs H Q E ⟨a, b, e, ⟨v, g1, g2, g3, g4⟩, q⟩ => ⟨a, .ref b, v, e, g1, g3, g4, .inl ⟨b, rfl, g2, q _ Ext.rfl'⟩⟩) (G.kc 2 (by decide)).eq.find (G.kc 2 (by decide)).eq.fn Be pass0
  have h3 : EqG X 1 (DIns (ca X.K 3) fun a b H => ∃ x : LX, FieldAt X.K H a (.listed x) ∧ FieldAt X.K H b (.listed x) ∧ PD.In (.listed x) ∧ PD.due (.listed x) = none) := by
    obtain ⟨fde, Fe, Be⟩ := G.eListed.ok
    exact eqG_ins (E := E0) (Fe.imp fun vs H Q E ⟨a, b, e, ⟨x, g1, g2, g3, g4⟩, q⟩ => ⟨a, .ref b, x, e, g1, g3, g4, .inl ⟨b, rfl, g2, q _ Ext.rfl'⟩⟩) (G.kc 3 (by decide)).eq.find (G.kc 3 (by decide)).eq.fn Be pass0
  have h4 : EqG X 1 (DIns (ca X.K 4) fun a b H => ∃ s e l m : V, FieldAt X.K H a (.ended s e l m) ∧ FieldAt X.K H b (.ended s e l m) ∧ PD.In (.ended s e l m) ∧ PD.due (.ended s e l m) = none) := by
    obtain ⟨fde, Fe, Be⟩ := G.eEnded.ok
    exact eqG_ins (E := E0) (Fe.imp fun vs H Q E ⟨a, b, ee, ⟨s, e, l, m, g1, g2, g3, g4⟩, q⟩ => ⟨a, .ref b, s, e, l, m, ee, g1, g3, g4, .inl ⟨b, rfl, g2, q _ Ext.rfl'⟩⟩) (G.kc 4 (by decide)).eq.find (G.kc 4 (by decide)).eq.fn Be pass0
  have h5 : EqG X 2 (DIns (ca X.K 5) fun a b H => ∃ (n m : V) (d : PD), MkAt X.K H a n m d ∧ MkAt X.K H b n m d ∧ d.In ∧ d.due = none ∧ scal n n = true ∧ scal m m = true) := by
    obtain ⟨fde, Fe, Be⟩ := G.eMarked.ok
    exact eqG_ins (E := E0) (Fe.imp fun vs H Q E ⟨a, b, e, ⟨n, m, d, g1, g2, g3, g4, g5, g6⟩, q⟩ => ⟨a, .ref b, n, m, d, e, g1, g3, g4, g5, g6, .inl ⟨b, rfl, g2, q _ Ext.rfl'⟩⟩) (G.kc 5 (by decide)).eq.find (G.kc 5 (by decide)).eq.fn Be pass0
  refine (EqG.or h5 ((EqG.or h0 (EqG.or h1 (EqG.or h2 (EqG.or h3 h4)))).mono (by decide))).imp fun x y H ⟨a, b, d, q1, q2, q3, q4⟩ => ?_
  cases d with
  | mk n m d =>
    obtain ⟨k3, k5, k6, ⟨c1, rfl⟩, c2, rfl⟩ := q3
    have k4 := q4.1
    obtain ⟨dx, y1, hi, _⟩ := id k3
    obtain ⟨dy, y2, hj, _⟩ := id k4
    exact .inl ⟨a, b, dx, dy, _, _, q1, q2, hi, hj, _, _, d, k3, k4, k5, k6, rfl, rfl⟩
  | pl d =>
    obtain ⟨q3, q5, q6⟩ := q3
    have q4 := q4.1
    obtain ⟨dx, fs, hi, _⟩ := q3.ins
    obtain ⟨dy, gs, hj, _⟩ := q4.ins
    refine .inr ?_
    cases d with
    | word s l m => exact .inl ⟨a, b, dx, dy, fs, gs, q1, q2, hi, hj, s, l, m, q3, q4, q5, q6⟩
    | number l m => exact .inr (.inl ⟨a, b, dx, dy, fs, gs, q1, q2, hi, hj, l, m, q3, q4, q5, q6⟩)
    | fixed v => exact .inr (.inr (.inl ⟨a, b, dx, dy, fs, gs, q1, q2, hi, hj, v, q3, q4, q5, q6⟩))
    | listed x => exact .inr (.inr (.inr (.inl ⟨a, b, dx, dy, fs, gs, q1, q2, hi, hj, x, q3, q4, q5, q6⟩)))
    | ended s e l m => exact .inr (.inr (.inr (.inr ⟨a, b, dx, dy, fs, gs, q1, q2, hi, hj, s, e, l, m, q3, q4, q5, q6⟩)))
theorem prs_fds {H : Hp} {rs ss : List V} {ds : List FD} (h1 : FdsAt K H rs ds) (h2 : FdsAt K H ss ds) : Prs (DFD K) rs ss H := ⟨h1.1.trans h2.1.symm, fun i x y hx hy => by
  obtain ⟨d, hd⟩ : ∃ d, ds[i]? = some d := by
    have lt := (List.getElem?_eq_some_iff.mp hx).1
    rw [h1.1] at lt
    exact ⟨_, List.getElem?_eq_getElem lt⟩
  obtain ⟨a, rfl, ha⟩ := h1.2 i x d hx hd
  obtain ⟨b, rfl, hb⟩ := h2.2 i y d hy hd
  exact ⟨a, b, d, rfl, rfl, ha, hb⟩⟩
end
end L2.K08

set_option Elab.async false
set_option linter.all false
set_option maxRecDepth 100000
set_option maxHeartbeats 4000000
/-! Fields keep what they were made with. -/
namespace L2.K08
open PySem PySem.W PySem.Spec PySem.Calls PyProof.Rows L2.Jk
theorem FdsAt.get {K : Frag} {H : Hp} {rs : List V} {ds : List FD} (h : FdsAt K H rs ds) {i : Nat} {d : FD} (hd : ds[i]? = some d) : ∃ a, rs[i]? = some (.ref a) ∧ FdAt K H a d := by
  obtain ⟨r, hr⟩ : ∃ r, rs[i]? = some r := by
    have lt := (List.getElem?_eq_some_iff.mp hd).1
    rw [← h.1] at lt
    exact ⟨_, List.getElem?_eq_getElem lt⟩
  obtain ⟨a, rfl, ha⟩ := h.2 i r d hr hd
  exact ⟨a, hr, ha⟩
def DU (K : Frag) : Eqv := fun x y H => DFlat x y H ∨ DTup K DFlat x y H
theorem monU {K : Frag} : Mon (DU K) := Mon.or mon_flat (mon_tup mon_flat)
theorem eqU {K : Frag} {X : Cx} (e : X.K = K) : EqG X 1 (DU K) := by
  subst e
  exact EqG.or (eqG_flat.mono (by decide)) (eqG_tup mon_flat eqG_flat)
theorem prs_cons {D : Eqv} {x y : V} {xs ys : List V} {H : Hp} (h : D x y H) (t : Prs D xs ys H) : Prs D (x :: xs) (y :: ys) H := ⟨congrArg Nat.succ t.1, fun i a b ha hb => by
  cases i with
  | zero => cases ha; cases hb; exact h
  | succ i => exact t.2 i a b ha hb⟩
theorem prs_nil {D : Eqv} {H : Hp} : Prs D [] [] H := ⟨rfl, fun i a b ha hb => by cases ha⟩
theorem du_int {K : Frag} {H : Hp} (i : Int) : DU K (.int i) (.int i) H := .inl ⟨rfl, rfl, by simp [eqV]⟩
theorem du_str {K : Frag} {H : Hp} (z : Str) : DU K (.str z) (.str z) H := .inl ⟨rfl, rfl, by simp [eqV]⟩
def spKept (K : Frag) : Sp := fun vs H Q _ => ∃ (p : Addr) (rs : List V) (x y : Nat), vs = [.ref p, .int (x : Nat), .int (y : Nat)] ∧ x < 4 ∧ 4 ≤ y ∧ y < 8 ∧ SqL K H p rs ∧ FdsAt K H rs (fds x y) ∧ ∀ H', Same H H' → Q (.bl true) H'
section
variable {P : Program} {w : World} {K : Frag} {mg : Str → Option Value} {base : Heap} {f : Addr} {fd : FuncData}

abbrev s_law_kept_right : Stmt := top 58
theorem sc_law_kept_right : FnScope ["_law_some", "_law_x", "_law_y", "_law_found", "_law_due"] ["_law_some", "_law_x", "_law_y"] (defScope s_law_kept_right) := ⟨rfl, rfl, rfl, by decide +kernel, rfl, by decide +kernel, by decide +kernel⟩

theorem ok_law_kept_right (F : FunD K "_law_kept_right" "_law_kept_right" (defArgs s_law_kept_right) (defBody s_law_kept_right) (defScope s_law_kept_right) [] [] f fd) (G : GQ8 P w K mg base) (L : GFl P w K mg base) : FnOk P w K mg base CX0 6 f fd ["_law_some", "_law_x", "_law_y"] (spKept K) := by
  refine F.ok (CX := CX0) sc_law_kept_right (fun vs H Q E h => ?_) (fun cdv A outer s H vs Q E hr h => ?_)
  · obtain ⟨p, rs, x, y, rfl, _⟩ := h
    rfl
  · refine ⟨_, PSs.nox (pss_cons (ps_set (i := 3) sc_law_kept_right.nd rfl (Or.inl rfl) (pe_lstS (pa_cons (pe_fldK (K := K) rfl (pe_ix ix_list (pv 0) pe_int (fun _ _ => rfl))) (pa_cons (pe_fldK (K := K) rfl (pe_ix ix_list (pv 0) pe_int (fun _ _ => rfl))) (pa_cons (pe_fldK (K := K) rfl (pe_ix ix_list (pv 0) pe_int (fun _ _ => rfl))) (pa_cons (pe_fldK (K := K) rfl (pe_ix ix_list (pv 0) pe_int (fun _ _ => rfl))) (pa_cons (pe_fldK (K := K) rfl (pe_ix ix_list (pv 0) pe_int (fun _ _ => rfl))) (pa_cons (pe_fldK (K := K) rfl (pe_ix ix_list (pv 0) pe_int (fun _ _ => rfl))) (pa_cons (pe_fldK (K := K) rfl (pe_ix ix_list (pv 0) pe_int (fun _ _ => rfl))) pa_nil)))))))))
    (pss_cons (ps_set (i := 3) sc_law_kept_right.nd rfl (Or.inl rfl) (pe_op op_catS (pv 3) (pe_lstS (pa_cons (pe_fldK (K := K) rfl (pe_ix ix_list (pv 0) pe_int (fun _ _ => rfl))) (pa_cons (pe_fldK (K := K) rfl (pe_ix ix_list (pv 0) pe_int (fun _ _ => rfl))) (pa_cons (pe_fldK (K := K) rfl (pe_ix ix_list (pv 0) pe_int (fun _ _ => rfl))) (pa_cons (pe_fldK (K := K) rfl (pe_ix ix_list (pv 0) pe_int (fun _ _ => rfl))) (pa_cons (pe_fldK (K := K) rfl (pe_ix ix_list (pv 0) pe_int (fun _ _ => rfl))) (pa_cons (pe_fldK (K := K) rfl (pe_ix ix_list (pv 0) pe_int (fun _ _ => rfl))) pa_nil)))))))))
    (pss_cons (ps_set (i := 4) sc_law_kept_right.nd rfl (Or.inl rfl) (pe_lstS (pa_cons pe_str (pa_cons (pv 1) (pa_cons (pv 2) (pa_cons (pv 1) (pa_cons (pv 2) (pa_cons (pv 2) (pa_cons (pe_tupZ (pa_cons pe_str (pa_cons pe_str (pa_cons pe_str pa_nil)))) (pa_cons pe_str (pa_cons pe_str (pa_cons (pv 1) (pa_cons (pv 2) (pa_cons pe_str (pa_cons pe_str pa_nil)))))))))))))))
    (pss_one (ps_ret (pe_and (pe_cmpR (op_eqG (rcG_list (monU (K := K)) (eqU rfl)) (hr.mono (by decide))) (pv 3) (pv 4) (nomark _)) (pe_and (pe_cmpR (op_eqG (rcNum G rfl rfl rfl rfl rfl) (hr.mono (by decide))) (pe_fldK (K := K) rfl (pe_ix ix_list (pv 0) pe_int (fun _ _ => rfl))) (pe_newS L.kNumber hr (fun σ => passAt takes0 σ) (by rfl) (pa_cons (pv 1) (pa_cons pe_non pa_nil))) (nomark _)) (pe_one (pe_cmpR op_isN (pe_fldK (K := K) rfl (pe_ix ix_list (pv 0) pe_int (fun _ _ => rfl))) pe_non (nomark _)))))))))), ?_⟩
    obtain ⟨p, rs, x, y, rfl, hx, hy4, hy, sp, F, q⟩ := h
    obtain ⟨d1, d2, d3, d4, d5, d6, d7⟩ := due_ok x hx y hy hy4
    have nx := num_in x (by omega)
    have nn : V.non ∈ nM := by decide +kernel
    obtain ⟨a0, e0, ⟨⟨dx0, h0⟩, _⟩⟩ := F.get (i := 0) rfl
    obtain ⟨a1, e1, ⟨⟨dx1, h1⟩, _⟩⟩ := F.get (i := 1) rfl
    obtain ⟨a2, e2, ⟨⟨dx2, h2⟩, _⟩⟩ := F.get (i := 2) rfl
    obtain ⟨a3, e3, ⟨⟨dx3, h3⟩, _⟩⟩ := F.get (i := 3) rfl
    obtain ⟨a4, e4, ⟨⟨dx4, t4, h4, k4⟩, _⟩⟩ := F.get (i := 4) rfl
    obtain ⟨a5, e5, ⟨⟨dx5, h5⟩, _⟩⟩ := F.get (i := 5) rfl
    obtain ⟨a6, e6, ⟨⟨dx6, y6, h6, k6⟩, i6, j6, _⟩⟩ := F.get (i := 6) rfl
    refine ⟨_, rfl, p, _, _, _, rfl, rfl, sp, atI_nat (j := 0) e0, a0, _, _, _, _, rfl, h0, G.cWord.cl, G.cWord.no _ (by decide +kernel), lWord_signs, ?_⟩
    refine ⟨_, rfl, p, _, _, _, rfl, rfl, sp, atI_nat (j := 0) e0, a0, _, _, _, _, rfl, h0, G.cWord.cl, G.cWord.no _ (by decide +kernel), lWord_least, ?_⟩
    refine ⟨_, rfl, p, _, _, _, rfl, rfl, sp, atI_nat (j := 0) e0, a0, _, _, _, _, rfl, h0, G.cWord.cl, G.cWord.no _ (by decide +kernel), lWord_most, ?_⟩
    refine ⟨_, rfl, p, _, _, _, rfl, rfl, sp, atI_nat (j := 2) e2, a2, _, _, _, _, rfl, h2, G.cNumber.cl, G.cNumber.no _ (by decide +kernel), lNumber_least, ?_⟩
    refine ⟨_, rfl, p, _, _, _, rfl, rfl, sp, atI_nat (j := 2) e2, a2, _, _, _, _, rfl, h2, G.cNumber.cl, G.cNumber.no _ (by decide +kernel), lNumber_most, ?_⟩
    refine ⟨_, rfl, p, _, _, _, rfl, rfl, sp, atI_nat (j := 3) e3, a3, _, _, _, _, rfl, h3, G.cFixed.cl, G.cFixed.no _ (by decide +kernel), lFixed_width, ?_⟩
    refine ⟨_, rfl, p, _, _, _, rfl, rfl, sp, atI_nat (j := 4) e4, a4, _, _, _, _, rfl, h4, G.cListed.cl, G.cListed.no _ (by decide +kernel), lListed_texts, ?_⟩
    refine ⟨by show 7 ≤ 1000; decide, fun p1 J1 hp1 T1 ep1 => ?_⟩
    refine ⟨_, rfl, ?_⟩
    refine ⟨_, rfl, p, _, _, _, rfl, rfl, (T1.seq sp), atI_nat (j := 5) e5, a5, _, _, _, _, rfl, (T1 _ _ h5), G.cEnded.cl, G.cEnded.no _ (by decide +kernel), lEnded_signs, ?_⟩
    refine ⟨_, rfl, p, _, _, _, rfl, rfl, (T1.seq sp), atI_nat (j := 5) e5, a5, _, _, _, _, rfl, (T1 _ _ h5), G.cEnded.cl, G.cEnded.no _ (by decide +kernel), lEnded_sign, ?_⟩
    refine ⟨_, rfl, p, _, _, _, rfl, rfl, (T1.seq sp), atI_nat (j := 5) e5, a5, _, _, _, _, rfl, (T1 _ _ h5), G.cEnded.cl, G.cEnded.no _ (by decide +kernel), lEnded_least, ?_⟩
    refine ⟨_, rfl, p, _, _, _, rfl, rfl, (T1.seq sp), atI_nat (j := 5) e5, a5, _, _, _, _, rfl, (T1 _ _ h5), G.cEnded.cl, G.cEnded.no _ (by decide +kernel), lEnded_most, ?_⟩
    refine ⟨_, rfl, p, _, _, _, rfl, rfl, (T1.seq sp), atI_nat (j := 6) e6, a6, _, _, _, _, rfl, (T1 _ _ h6), G.cMarked.cl, G.cMarked.no _ (by decide +kernel), lMarked_none, ?_⟩
    refine ⟨_, rfl, p, _, _, _, rfl, rfl, (T1.seq sp), atI_nat (j := 6) e6, a6, _, _, _, _, rfl, (T1 _ _ h6), G.cMarked.cl, G.cMarked.no _ (by decide +kernel), lMarked_mark, ?_⟩
    refine ⟨by show 6 ≤ 1000; decide, fun p2 J2 hp2 T2 ep2 => ?_⟩
    refine ⟨p1, p2, [.str "ba", .int x, .int y, .int x, .int y, .int y, .ref t4], [.str "ab", .str "Z", .int x, .int y, .str "N", .str "m"], rfl, rfl, SqL.of (T2 _ _ ep1), SqL.of ep2, by show (7 : Nat) + 6 ≤ sizeLine; rw [sizeLine_eq]; decide, fun c1 K1 hc1 Sc1 ec1 => ?_⟩
    refine ⟨_, rfl, _, rfl, _, rfl, _, rfl, _, rfl, ?_⟩
    refine ⟨by show 3 ≤ 1000; decide, fun p3 J3 hp3 T3 ep3 => ?_⟩
    refine ⟨_, rfl, _, rfl, ?_⟩
    refine ⟨by show 13 ≤ 1000; decide, fun p4 J4 hp4 T4 ep4 => ?_⟩
    have k34 := T3.trans T4
    have kk : Same H J4 := ((T1.trans T2).trans Sc1).trans k34
    refine ⟨_, rfl, _, rfl, ⟨c1, p4, _, _, rfl, rfl, k34 _ _ ec1, ep4, ?_⟩, fun J5 T5 => ?_⟩
    · exact prs_cons (du_str _) (prs_cons (du_int _) (prs_cons (du_int _) (prs_cons (du_int _) (prs_cons (du_int _) (prs_cons (du_int _) (prs_cons (.inr ⟨t4, p3, xL, xL, rfl, rfl, (k4.same kk).sq, (ep3.same T4).sq, prs_self fun z hz => (by
        have k : ∀ z ∈ xL, flatV z = true ∧ flatV z = true ∧ eqV z z = true := by decide +kernel
        exact k z hz)⟩) (prs_cons (du_str _) (prs_cons (du_str _) (prs_cons (du_int _) (prs_cons (du_int _) (prs_cons (du_str _) (prs_cons (du_str _) prs_nil))))))))))))
    have kk5 : Same H J5 := kk.trans T5
    refine ⟨true, rfl, iteT ?_⟩
    refine ⟨_, rfl, p, _, _, _, rfl, rfl, (kk5.seq sp), atI_nat (j := 6) e6, a6, _, _, _, _, rfl, (kk5 _ _ h6), G.cMarked.cl, G.cMarked.no _ (by decide +kernel), lMarked_field, ?_⟩
    refine ⟨_, rfl, ?_⟩
    refine fun e7 dxe7 hae7 hxe7 _ => mkNumb hae7 hxe7 (l := .int x) (m := .non) ⟨nx, nn⟩ d4 fun I8 U8 G8 => ⟨rfl, ?_⟩
    have kk6 := kk5.trans U8
    obtain ⟨G8, gi, gd⟩ := G8
    obtain ⟨ex, fs1, ei, _⟩ := (k6.same kk6).ins
    obtain ⟨ey, fs2, ej, _⟩ := G8.ins
    refine ⟨⟨y6, e7, ex, ey, fs1, fs2, rfl, rfl, ei, ej, _, _, k6.same kk6, G8, gi, gd⟩, fun J9 T9 => ?_⟩
    have kk9 : Same H J9 := kk6.trans T9
    refine ⟨true, rfl, iteT ?_⟩
    refine ⟨_, rfl, p, _, _, _, rfl, rfl, (kk9.seq sp), atI_nat (j := 1) e1, a1, _, _, _, _, rfl, (kk9 _ _ h1), G.cWord.cl, G.cWord.no _ (by decide +kernel), lWord_most, ?_⟩
    refine ⟨rfl, ?_⟩
    rw [decide_eq_true rfl]
    exact q J9 kk9


end
end L2.K08
set_option Elab.async false
set_option linter.all false
set_option maxRecDepth 100000
set_option maxHeartbeats 4000000
/-! The fields of the law: what least_texts gives of them, and their values. -/
namespace L2.K08
open PySem PySem.W PySem.Spec PySem.Calls PyProof.Rows L2.Jk
theorem srtC_two {z : Str} {a b : Nat} (h : z.cps.toList = [b, a] ∨ z.cps.toList = [a, b]) (hab : a < b) : srtC z = [a, b] := by
  unfold srtC
  have e : List.mergeSort [a, b] (fun a b => decide (a ≤ b)) = [a, b] := List.mergeSort_of_pairwise (by
    refine .cons (fun x hx => ?_) (.cons (fun x hx => (by cases hx)) .nil)
    rw [List.mem_singleton.mp hx]
    exact decide_eq_true (Nat.le_of_lt hab))
  rcases h with h | h
  · rw [h]
    have p : (List.mergeSort [b, a] fun a b => decide (a ≤ b)).Perm [a, b] := (List.mergeSort_perm _ _).trans (.swap _ _ _)
    have s := List.pairwise_mergeSort (le := fun a b : Nat => decide (a ≤ b)) (fun a b c h k => by simp at *; omega) (fun a b => by simp; omega) [b, a]
    refine List.Perm.eq_of_pairwise (le := fun a b : Nat => decide (a ≤ b) = true) (fun x y _ _ h1 h2 => Nat.le_antisymm (of_decide_eq_true h1) (of_decide_eq_true h2)) s ?_ p
    refine .cons (fun x hx => ?_) (.cons (fun x hx => (by cases hx)) .nil)
    rw [List.mem_singleton.mp hx]
    exact decide_eq_true (Nat.le_of_lt hab)
  · rw [h]
    exact e
theorem srt_ba : srtC "ba" = [97, 98] := srtC_two (.inl (by decide +kernel)) (by decide)
theorem srt_ab : srtC "ab" = [97, 98] := srtC_two (.inr (by decide +kernel)) (by decide)
theorem str_ext {a b : Str} (h : a.cps.toList = b.cps.toList) : a = b := by
  obtain ⟨x⟩ := a
  obtain ⟨y⟩ := b
  have h : x.toList = y.toList := h
  rw [Array.toList_inj.mp h]
theorem len_eq (t : Str) : t.length = t.cps.toList.length := (Array.length_toList ..).symm
theorem app_l (a b : Str) : (a ++ b).cps.toList = a.cps.toList ++ b.cps.toList := by
  show (a.cps ++ b.cps).toList = _
  rw [Array.toList_append]
theorem le_iff {a b : Str} : leLL a b = true ↔ a.length < b.length ∨ (a.length = b.length ∧ a.cps.toList ≤ b.cps.toList) := decide_eq_true_iff
theorem le_trans {a b c : Str} (h : leLL a b = true) (k : leLL b c = true) : leLL a c = true := by
  rw [le_iff] at h k ⊢
  rcases h with h | ⟨h1, h2⟩ <;> rcases k with k | ⟨k1, k2⟩
  · exact .inl (by omega)
  · exact .inl (by omega)
  · exact .inl (by omega)
  · exact .inr ⟨by omega, List.le_trans h2 k2⟩
theorem le_total (a b : Str) : leLL a b = true ∨ leLL b a = true := by
  rw [le_iff, le_iff]
  rcases Nat.lt_trichotomy a.length b.length with h | h | h
  · exact .inl (.inl h)
  · rcases List.le_total a.cps.toList b.cps.toList with k | k
    · exact .inl (.inr ⟨h, k⟩)
    · exact .inr (.inr ⟨h.symm, k⟩)
  · exact .inr (.inl h)
theorem le_anti {a b : Str} (h : leLL a b = true) (k : leLL b a = true) : a = b := by
  rw [le_iff] at h k
  rcases h with h | ⟨_, h⟩ <;> rcases k with k | ⟨_, k⟩
  · omega
  · omega
  · omega
  · exact str_ext (List.le_antisymm h k)
theorem srt_le (L : List Str) : (srtLL L).Pairwise fun a b => leLL a b = true := by
  refine List.pairwise_mergeSort (le := leLL) (fun a b c h k => le_trans h k) (fun a b => ?_) L
  rcases le_total a b with h | h
  · rw [h]; rfl
  · rw [h, Bool.or_true]
theorem srt_perm (L : List Str) : (srtLL L).Perm L := List.mergeSort_perm _ _
/-- two sorted lists with the same texts are the same -/
theorem sorted_eq {A B : List Str} (p : A.Perm B) (hA : A.Pairwise fun a b => leLL a b = true) (hB : B.Pairwise fun a b => leLL a b = true) : A = B :=
  List.Perm.eq_of_pairwise (fun _ _ _ _ h k => le_anti h k) hA hB p

def okT (d : FD) (t : Str) : Bool := d.txOk t && (d.hasT t && (d.nuOk t && (flatV (d.valF t) && (decide (lenV (d.valF t) ≤ 900) && (d.hasV (d.valF t) && (vaOk (d.valF t) && (d.tfOk (d.valF t) && decide (d.textF (d.valF t) = t))))))))
def chkD (d : FD) (L : List Str) : Bool := decide (2 ≤ L.length) && L.all (okT d)
theorem upTake {cs : List Nat} {l : Nat} : ∀ {k : Nat} (j c : Nat), c ≤ (up cs l k).length → (up cs l (k + j)).take c = (up cs l k).take c
  | k, 0, c, _ => rfl
  | k, j + 1, c, h => by
    have ih := upTake (k := k) j c h
    have hl : c ≤ (up cs l (k + j)).length := by
      have z := congrArg List.length ih
      rw [List.length_take, List.length_take] at z
      omega
    show ((up cs l (k + j) ++ W cs (l + (k + j)))).take c = _
    rw [List.take_append_of_le_length hl, ih]
theorem up2 : ∀ l : Nat, l < 4 → 6 ≤ (up [97, 98] l 3).length := by decide +kernel
theorem chk0 : ∀ x : Nat, x < 4 → ∀ y : Nat, y < 8 → 4 ≤ y → ∀ c : Nat, c < 7 → 2 ≤ c → chkD (.pl (.word (.str "ba") (.int (x : Nat)) (.int (y : Nat)))) ((up [97, 98] x ((y : Int) + 1 - (x : Int)).toNat).take c) = true := by decide +kernel
theorem chk1 : ∀ x : Nat, x < 4 → ∀ c : Nat, c < 7 → 2 ≤ c → chkD (.pl (.word (.str "ab") (.int (x : Nat)) .non)) ((up [97, 98] x 3).take c) = true := by decide +kernel
theorem chk2 : ∀ x : Nat, x < 4 → ∀ y : Nat, y < 8 → 4 ≤ y → ∀ c : Nat, c < 7 → 2 ≤ c → chkD (.pl (.number (.int (x : Nat)) (.int (y : Nat)))) ((numsL x ((y : Int) + 1 - (x : Int)).toNat).take c) = true := by decide +kernel
theorem chk3 : ∀ y : Nat, y < 8 → 4 ≤ y → ∀ c : Nat, c < 7 → 2 ≤ c → chkD (.pl (.fixed (.int (y : Nat)))) ((List.range c).map fun i => Txt.zfill (T i) (y : Nat)) = true := by decide +kernel
theorem chk4 : ∀ c : Nat, c < 7 → 2 ≤ c → chkD (.pl (.listed (.lst xL))) ((["", "b", "ba"] : List Str).take c) = true := by decide +kernel
theorem chk5 : ∀ x : Nat, x < 4 → ∀ y : Nat, y < 8 → 4 ≤ y → ∀ c : Nat, c < 7 → 2 ≤ c → chkD (.pl (.ended (.str "ab") (.str "Z") (.int (x : Nat)) (.int (y : Nat)))) (((up [97, 98] x ((y : Int) + 1 - (x : Int)).toNat).map fun t => t ++ ("Z" : Str)).take c) = true := by decide +kernel
def mkL (x c : Nat) : List Str := "N" :: (List.range c).map fun i => ("m" : Str) ++ T (x + i)
theorem chk6 : ∀ x : Nat, x < 4 → ∀ c : Nat, c < 7 → 2 ≤ c → chkD (.mk (.str "N") (.str "m") (.number (.int (x : Nat)) .non)) ((mkL x c).take c) = true := by decide +kernel
theorem mk_sorted : ∀ x : Nat, x < 4 → ∀ c : Nat, c < 7 → (mkL x c).Pairwise fun a b => leLL a b = true := by decide +kernel
def xT : List Str := ["b", "", "ba"]
def xS : List Str := ["", "b", "ba"]
theorem lst_sorted : srtLL xT = xS := sorted_eq ((srt_perm _).trans (by decide +kernel)) (srt_le _) (by decide +kernel)
theorem told_ok {x y c : Nat} (hx : x < 4) (h4 : 4 ≤ y) (hy : y < 8) (hc2 : 2 ≤ c) (hc : c < 7) {d : FD} (hd : d ∈ fds x y) : chkD d ((LF d c).take c) = true := by
  unfold fds at hd
  rcases List.mem_cons.mp hd with rfl | hd
  · have e : LF (.pl (.word (.str "ba") (.int (x : Nat)) (.int (y : Nat)))) c = up [97, 98] x ((y : Int) + 1 - (x : Int)).toNat := by
      show up (srtC "ba") x ((y : Int) + 1 - (x : Int)).toNat = _
      rw [srt_ba]
    rw [e]
    exact chk0 x hx y hy h4 c hc hc2
  rcases List.mem_cons.mp hd with rfl | hd
  · have e : (LF (.pl (.word (.str "ab") (.int (x : Nat)) .non)) c).take c = (up [97, 98] x 3).take c := by
      show (up (srtC "ab") x (c + 5)).take c = _
      rw [srt_ab, show c + 5 = 3 + (c + 2) by omega]
      have := up2 x hx
      exact upTake _ _ (by omega)
    rw [e]
    exact chk1 x hx c hc hc2
  rcases List.mem_cons.mp hd with rfl | hd
  · exact chk2 x hx y hy h4 c hc hc2
  rcases List.mem_cons.mp hd with rfl | hd
  · have e : (LF (.pl (.fixed (.int (y : Nat)))) c).take c = (List.range c).map fun i => Txt.zfill (T i) (y : Nat) := by
      show ((List.range (10 ^ y)).map fun i => Txt.zfill (T i) (y : Nat)).take c = _
      have h10 : 10 ≤ 10 ^ y := Nat.le_self_pow (by omega) 10
      rw [← List.map_take, List.take_range, Nat.min_eq_left (by omega)]
    rw [e]
    exact chk3 y hy h4 c hc hc2
  rcases List.mem_cons.mp hd with rfl | hd
  · have e : LF (.pl (.listed (.lst xL))) c = xS := lst_sorted
    rw [e]
    exact chk4 c hc hc2
  rcases List.mem_cons.mp hd with rfl | hd
  · have e : LF (.pl (.ended (.str "ab") (.str "Z") (.int (x : Nat)) (.int (y : Nat)))) c = (up [97, 98] x ((y : Int) + 1 - (x : Int)).toNat).map fun t => t ++ ("Z" : Str) := by
      show (up (srtC "ab") x ((y : Int) + 1 - (x : Int)).toNat).map (fun t => t ++ ("Z" : Str)) = _
      rw [srt_ab]
    rw [e]
    exact chk5 x hx y hy h4 c hc hc2
  rcases List.mem_cons.mp hd with rfl | hd
  · have e : LF (.mk (.str "N") (.str "m") (.number (.int (x : Nat)) .non)) c = mkL x c := by
      show srtLL (("N" : Str) :: (((List.range (c + 10000)).map fun i => T (x + i)).take c).map fun t => ("m" : Str) ++ t) = _
      rw [← List.map_take, List.take_range, Nat.min_eq_left (by omega), List.map_map]
      exact sorted_eq (srt_perm _) (srt_le _) (mk_sorted x hx c hc)
    rw [e]
    exact chk6 x hx c hc hc2
  · cases hd
theorem told_len {d : FD} {L : List Str} (h : chkD d L = true) : 2 ≤ L.length := of_decide_eq_true (Bool.and_eq_true_iff.mp h).1
theorem told_all {d : FD} {L : List Str} (h : chkD d L = true) {t : Str} (ht : t ∈ L) : okT d t = true := List.all_eq_true.mp (Bool.and_eq_true_iff.mp h).2 t ht
theorem okT_all {d : FD} {t : Str} (h : okT d t = true) : d.txOk t = true ∧ d.hasT t = true ∧ d.nuOk t = true ∧ flatV (d.valF t) = true ∧ lenV (d.valF t) ≤ 900 ∧ d.hasV (d.valF t) = true ∧ vaOk (d.valF t) = true ∧ d.tfOk (d.valF t) = true ∧ d.textF (d.valF t) = t := by
  unfold okT at h
  simp only [Bool.and_eq_true, decide_eq_true_eq] at h
  exact h
theorem ltf_ok {x y c : Nat} (hx : x < 4) (h4 : 4 ≤ y) (hy : y < 8) (hc : c < 7) {d : FD} (hd : d ∈ fds x y) : LtF d c ∧ d.dep < 2 ∧ DrF d := by
  unfold fds at hd
  have bd : ∀ k : Nat, 8 ≤ k + x → BdOk x (.int (y : Nat)) k := fun k hk => .inr ⟨y, rfl, by omega, by omega⟩
  have m1 : (V.int (y : Nat)) = .non ∨ ∃ j : Nat, V.int (y : Nat) = .int (j : Nat) ∧ x ≤ j ∧ j ≤ 1000 := .inr ⟨y, rfl, by omega, by omega⟩
  have m2 : (V.int (y : Nat)) = .non ∨ ∃ j : Nat, V.int (y : Nat) = .int (j : Nat) ∧ x ≤ j ∧ j ≤ 2000 := .inr ⟨y, rfl, by omega, by omega⟩
  have la : ("ba" : Str).length = 2 ∧ ("ab" : Str).length = 2 ∧ ("Z" : Str).length = 1 ∧ ("N" : Str).length = 1 ∧ ("m" : Str).length = 1 := by decide +kernel
  rcases List.mem_cons.mp hd with rfl | hd
  · exact ⟨.pl (.word (by omega) (by omega) (by omega) m1 (by omega)), Nat.zero_lt_two, .pl (.word trivial trivial (bd 10 (by omega)))⟩
  rcases List.mem_cons.mp hd with rfl | hd
  · exact ⟨.pl (.word (by omega) (by omega) (by omega) (.inl rfl) (by omega)), Nat.zero_lt_two, .pl (.word trivial trivial (.inl rfl))⟩
  rcases List.mem_cons.mp hd with rfl | hd
  · exact ⟨.pl (.number (by omega) m2 (by omega)), Nat.zero_lt_two, .pl (.number (by omega) (bd 120 (by omega)))⟩
  rcases List.mem_cons.mp hd with rfl | hd
  · exact ⟨.pl (.fixed (by omega) (by omega) (by omega)), Nat.zero_lt_two, .pl (.fixed (by omega) (by omega))⟩
  rcases List.mem_cons.mp hd with rfl | hd
  · exact ⟨.pl (.listed (ts := xT) rfl (by decide +kernel) (by omega)), Nat.zero_lt_two, .pl (.listed (ts := xT) (by decide +kernel) (by decide +kernel) (by decide) (by decide))⟩
  rcases List.mem_cons.mp hd with rfl | hd
  · exact ⟨.pl (.ended (by omega) (by omega) (by omega) (by omega) m1 (by omega)), Nat.zero_lt_two, .pl (.ended trivial trivial trivial trivial (bd 10 (by omega)))⟩
  rcases List.mem_cons.mp hd with rfl | hd
  · exact ⟨.mk (by omega) (by omega) (.number (by omega) (.inl rfl) (by omega)), Nat.one_lt_two, .mk trivial (.number (by omega) (.inl rfl))⟩
  · cases hd
end L2.K08

set_option Elab.async false
set_option linter.all false
set_option maxRecDepth 100000
set_option maxHeartbeats 4000000
/-! Calls by names tell the same. -/
namespace L2.K08
open PySem PySem.W PySem.Spec PySem.Calls PyProof.Rows L2.Jk
theorem FieldAt.extN {K : Frag} {H H' : Hp} {a : Addr} (S : LamX.ExtN H H') : ∀ {d : PD}, FieldAt K H a d → FieldAt K H' a d
  | .word .., ⟨dx, h⟩ => ⟨dx, S _ _ h (fun _ z => by cases z)⟩
  | .number .., ⟨dx, h⟩ => ⟨dx, S _ _ h (fun _ z => by cases z)⟩
  | .fixed _, ⟨dx, h⟩ => ⟨dx, S _ _ h (fun _ z => by cases z)⟩
  | .listed _, ⟨dx, t, h, o, c, d, k⟩ => ⟨dx, t, S _ _ h (fun _ z => by cases z), o, c, d, S _ _ k (fun _ z => by cases z)⟩
  | .ended .., ⟨dx, h⟩ => ⟨dx, S _ _ h (fun _ z => by cases z)⟩
theorem FdAt.extN {K : Frag} {H H' : Hp} {a : Addr} (S : LamX.ExtN H H') : ∀ {d : FD}, FdAt K H a d → FdAt K H' a d
  | .pl _, ⟨h, i⟩ => ⟨h.extN S, i⟩
  | .mk _ _ _, ⟨⟨dx, y, h, k⟩, i⟩ => ⟨⟨dx, y, S _ _ h (fun _ z => by cases z), k.extN S⟩, i⟩
theorem flat_same : ∀ {v : V}, flatV v = true → eqV v v = true
  | .non, _ => rfl
  | .bl b, _ => by cases b <;> rfl
  | .int i, _ => by show (i == i) = true; exact beq_self_eq_true i
  | .str z, _ => by show (z == z) = true; exact beq_self_eq_true z
def spCalls (K : Frag) (P0 : Addr) : Sp := fun vs H Q _ => ∃ (a : Addr) (x y c : Nat) (d : FD), vs = [.ref a, .int (c : Nat)] ∧ x < 4 ∧ 4 ≤ y ∧ y < 8 ∧ 2 ≤ c ∧ c < 7 ∧ d ∈ fds x y ∧ FdAt K H a d ∧ LamX.Tabs [(P0, qLam)] H ∧
  ∀ H', LamX.ExtN H H' → LamX.Tabs [(P0, qLam)] H' → Q (.bl true) H'
structure GCl (P : Program) (w : World) (K : Frag) (mg : Str → Option Value) (base : Heap) (P0 : Addr) : Prop where
  len : mg "len" = none
  lt : FnAt P w K mg base CX0 4 "least_texts" ["field", "count"] (spLt K P0 2)
  ltK : FnKw P w K mg base CX0 4 "least_texts" ["field", "count"] ["count", "field"] [1, 0] (spLt K P0 2)
  vo : FnAt P w K mg base (L2.CX P w) 5 "value_of" ["field", "text"] (spValueOf K)
  voK : FnKw P w K mg base (L2.CX P w) 5 "value_of" ["field", "text"] ["text", "field"] [1, 0] (spValueOf K)
  toK : FnKw P w K mg base (L2.CX P w) 6 "text_of" ["field", "value"] ["value", "field"] [1, 0] (spTextOf K)
  ib : FnAt P w K mg base (L2.CX P w) 6 "is_before" ["field", "one", "other"] (spIsBef K)
  ibK : FnKw P w K mg base (L2.CX P w) 6 "is_before" ["field", "one", "other"] ["other", "field", "one"] [1, 2, 0] (spIsBef K)
  iw : FnAt P w K mg base CX0 3 "is_whole" ["field"] (spIw K)
  iwK : FnKw P w K mg base CX0 3 "is_whole" ["field"] ["field"] [0] (spIw K)
  hb : FnAt P w K mg base CX0 2 "has_beginnings_first" ["field"] (spHb K 2)
  hbK : FnKw P w K mg base CX0 2 "has_beginnings_first" ["field"] ["field"] [0] (spHb K 2)
section
variable {P : Program} {w : World} {K : Frag} {mg : Str → Option Value} {base : Heap} {f : Addr} {fd : FuncData}

abbrev s_law_calls_right : Stmt := top 59
theorem sc_law_calls_right : FnScope ["_law_kind", "_law_many", "_law_told", "_law_things", "_law_each", "_law_thing"] ["_law_kind", "_law_many"] (defScope s_law_calls_right) := ⟨rfl, rfl, rfl, by decide +kernel, rfl, by decide +kernel, by decide +kernel⟩

theorem ok_law_calls_right (F : FunD K "_law_calls_right" "_law_calls_right" (defArgs s_law_calls_right) (defBody s_law_calls_right) (defScope s_law_calls_right) [] [] f fd) {P0 : Addr} (G : GCl P w K mg base P0) : FnOk P w K mg base CX0 7 f fd ["_law_kind", "_law_many"] (spCalls K P0) := by
  refine F.ok (CX := CX0) sc_law_calls_right (fun vs H Q E h => ?_) (fun cdv A outer s H vs Q E hr h => ?_)
  · obtain ⟨a, x, y, c, d, rfl, _⟩ := h
    rfl
  · refine ⟨_, PSs.nox (pss_cons (ps_set (i := 2) sc_law_calls_right.nd rfl (Or.inl rfl) (pe_fnKw G.ltK (hr.mono (by decide)) pass0 (by rfl) (pk_cons (pv 1) (pk_cons (pv 0) pk_nil))))
    (pss_cons (ps_if (PW.pt (pw_or (pt_cmpR (op_neL mon_flat eqG_flat (hr.mono (by decide))) (pv 2) (pe_fn (E := fun _ _ _ => False) G.lt (hr.mono (by decide)) pass0 (by rfl) (pa_cons (pv 0) (pa_cons (pv 1) pa_nil))) (nomark _)) (pw_or1 (pt_cmpR op_lt (pe_callB call_len_seq (by rfl) G.len (by decide +kernel) (pa_cons (pv 2) pa_nil)) pe_int (nomark _)))))
      (pss_one (ps_ret pe_bl))
      pss_nil)
    (pss_cons (ps_setLc (i := 3) (own := [("_law_each", 4)]) (g := gName 4) (tt := tYes) (by rfl) sc_law_calls_right.nd rfl rfl (sw_true rfl rfl rfl (by decide +kernel)) (pi_list (pv 2)) (blkOk_by (N := ["_law_kind", "_law_many", "_law_told", "_law_things", "_law_each", "_law_thing"]) (sc := defScope s_law_calls_right) (by decide +kernel)) (fun _ _ _ _ _ => pg_name (i := 4) sc_law_calls_right.nd rfl (Or.inl rfl)) (fun _ _ _ _ _ => pts_nil) (fun _ _ _ _ _ => (pe_fnKw G.voK (hr.mono (by decide)) passes0 (by rfl) (pk_cons (pv 4) (pk_cons (pv 0) pk_nil)))))
    (pss_cons (ps_if (pt_cmpR (op_neL mon_flat eqG_flat (hr.mono (by decide))) (pv 3) (pe_lc (own := [("_law_each", 4)]) (g := gName 4) (tt := tYes) rfl sc_law_calls_right.nd (pi_list (pv 2)) (blkOk_by (N := ["_law_kind", "_law_many", "_law_told", "_law_things", "_law_each", "_law_thing"]) (sc := defScope s_law_calls_right) (by decide +kernel)) (fun _ _ _ _ _ => pg_name (i := 4) sc_law_calls_right.nd rfl (Or.inl rfl)) (fun _ _ _ _ _ => pts_nil) (fun _ _ _ _ _ => (pe_fn (E := fun _ _ _ => False) G.vo (hr.mono (by decide)) passes0 (by rfl) (pa_cons (pv 0) (pa_cons (pv 4) pa_nil))))) (nomark _))
      (pss_one (ps_ret pe_bl))
      pss_nil)
    (pss_cons (ps_if (pt_cmpR (op_neL mon_flat eqG_flat (hr.mono (by decide))) (pe_lc (own := [("_law_thing", 5)]) (g := gName 5) (tt := tYes) rfl sc_law_calls_right.nd (pi_list (pv 3)) (blkOk_by (N := ["_law_kind", "_law_many", "_law_told", "_law_things", "_law_each", "_law_thing"]) (sc := defScope s_law_calls_right) (by decide +kernel)) (fun _ _ _ _ _ => pg_name (i := 5) sc_law_calls_right.nd rfl (Or.inl rfl)) (fun _ _ _ _ _ => pts_nil) (fun _ _ _ _ _ => (pe_fnKw G.toK (hr.mono (by decide)) passes0 (by rfl) (pk_cons (pv 5) (pk_cons (pv 0) pk_nil))))) (pv 2) (nomark _))
      (pss_one (ps_ret pe_bl))
      pss_nil)
    (pss_cons (ps_for PassesOwn.never rfl (pi_list (pv 3)) (pg_name (i := 5) sc_law_calls_right.nd rfl (Or.inl rfl))
      (pss_one (ps_if (pt_cmpR op_ne (pe_fnKw G.ibK (hr.mono (by decide)) passes0 (by rfl) (pk_cons (pv 5) (pk_cons (pv 0) (pk_cons (pe_ix ix_list (pv 3) pe_int (fun _ _ => rfl)) pk_nil)))) (pe_fn (E := fun _ _ _ => False) G.ib (hr.mono (by decide)) passes0 (by rfl) (pa_cons (pv 0) (pa_cons (pe_ix ix_list (pv 3) pe_int (fun _ _ => rfl)) (pa_cons (pv 5) pa_nil)))) (nomark _))
        (pss_one (ps_ret pe_bl))
        pss_nil)))
    (pss_one (ps_ret (pe_and (pe_cmpR op_eq (pe_fnKw G.iwK (hr.mono (by decide)) pass0 (by rfl) (pk_cons (pv 0) pk_nil)) (pe_fn (E := fun _ _ _ => False) G.iw (hr.mono (by decide)) pass0 (by rfl) (pa_cons (pv 0) pa_nil)) (nomark _)) (pe_one (pe_cmpR op_eq (pe_fnKw G.hbK (hr.mono (by decide)) pass0 (by rfl) (pk_cons (pv 0) pk_nil)) (pe_fn (E := fun _ _ _ => False) G.hb (hr.mono (by decide)) pass0 (by rfl) (pa_cons (pv 0) pa_nil)) (nomark _)))))))))))), ?_⟩
    obtain ⟨a, x, y, c, d, rfl, hx, h4, hy, hc2, hc, hd, hF, hT, q⟩ := h
    obtain ⟨l1, l2, l3⟩ := ltf_ok hx h4 hy hc hd
    have CK := told_ok hx h4 hy hc2 hc hd
    have hlen := told_len CK
    have hall : ∀ t ∈ (LF d c).take c, okT d t = true := fun t ht => told_all CK ht
    have hle : ((LF d c).take c).length ≤ c := by rw [List.length_take]; omega
    refine ⟨_, rfl, _, rfl, rfl, a, d, c, rfl, hF, l1, l2, hT, fun p1 H1 E1 T1 N1 e1 => ?_⟩
    refine ⟨_, rfl, _, rfl, _, rfl, a, d, c, rfl, hF.extN E1, l1, l2, T1, fun p2 H2 E2 T2 N2 e2 => ?_⟩
    generalize (LF d c).take c = ts at CK hlen hall hle e1 e2
    have flS : ∀ z ∈ ts.map V.str, DFlat z z H2 := fun z hz => by
      obtain ⟨t, _, rfl⟩ := List.mem_map.mp hz
      exact ⟨rfl, rfl, by simp [eqV]⟩
    have e12 := E2 _ _ e1 (fun _ z => by cases z)
    refine ⟨⟨p1, p2, _, _, rfl, rfl, e12, e2, prs_self flS⟩, fun H3 S3 => ?_⟩
    have EN : LamX.ExtN H H3 := (E1.trans E2).trans (extN_sm S3)
    have T3 := tabs_sm T2 S3
    have F3 : FdAt K H3 a d := hF.extN EN
    have e3 := S3 _ _ e12
    have okk : ∀ {t : Str}, t ∈ ts → d.txOk t = true ∧ d.hasT t = true ∧ d.nuOk t = true ∧ flatV (d.valF t) = true ∧ lenV (d.valF t) ≤ 900 ∧ d.hasV (d.valF t) = true ∧ vaOk (d.valF t) = true ∧ d.tfOk (d.valF t) = true ∧ d.textF (d.valF t) = t := fun h => okT_all (hall _ h)
    have nof : ∀ {b : Bool} {A : Prop}, b = true → b = false → A := fun h k => by rw [h] at k; cases k
    refine ⟨_, rfl, iteF ?_⟩
    refine ⟨_, rfl, p1, _, rfl, .inl (SqL.of e3), _, _, rfl, rfl, _, rfl, ?_⟩
    refine ite2 (fun h1 => ?_) (fun _ => ?_)
    · have z := of_decide_eq_true h1
      rw [List.length_map] at z
      omega
    refine ⟨_, rfl, p1, rfl, ⟨_, SqL.of e3⟩, fun D hD => ?_⟩
    refine lc_list (K := K) (a := p1) (xs := ts.map V.str) (LcP H3 D fun n => (ts.take n).map fun t => d.valF t) (LcP.start hD rfl) (fun i J hi pJ => SqL.of (pJ.1 _ _ e3)) ?_ ?_
    · intro i z J hz pJ
      obtain ⟨t, ht, rfl⟩ := map_get hz
      obtain ⟨o1, o2, o3, _⟩ := okk (List.mem_of_getElem? ht)
      have hi := (List.getElem?_eq_some_iff.mp ht).1
      refine ⟨rfl, _, rfl, _, rfl, rfl, a, d, t, rfl, F3.same pJ.1, o1, fun _ => ⟨o3, ?_⟩, nof o2⟩
      exact pJ.put (Same.refl _) (by rw [tk_snoc ht, List.map_append]; rfl) (by omega)
    rintro J4 ⟨S4, _, eD, _⟩
    rw [List.length_map] at eD
    dsimp only at eD
    rw [List.take_of_length_le (Nat.le_refl _)] at eD
    refine ⟨_, rfl, _, rfl, p1, rfl, ⟨_, SqL.of (S4 _ _ e3)⟩, fun D2 hD2 => ?_⟩
    refine lc_list (K := K) (a := p1) (xs := ts.map V.str) (LcP J4 D2 fun n => (ts.take n).map fun t => d.valF t) (LcP.start hD2 rfl) (fun i J hi pJ => SqL.of (pJ.1 _ _ (S4 _ _ e3))) ?_ ?_
    · intro i z J hz pJ
      obtain ⟨t, ht, rfl⟩ := map_get hz
      obtain ⟨o1, o2, o3, _⟩ := okk (List.mem_of_getElem? ht)
      have hi := (List.getElem?_eq_some_iff.mp ht).1
      refine ⟨rfl, _, rfl, _, rfl, a, d, t, rfl, (F3.same S4).same pJ.1, o1, fun _ => ⟨o3, ?_⟩, nof o2⟩
      exact pJ.put (Same.refl _) (by rw [tk_snoc ht, List.map_append]; rfl) (by omega)
    rintro J5 ⟨S5, _, eD2, _⟩
    rw [List.length_map] at eD2
    dsimp only at eD2
    rw [List.take_of_length_le (Nat.le_refl _)] at eD2
    have flV : ∀ z ∈ ts.map (fun t => d.valF t), DFlat z z J5 := fun z hz => by
      obtain ⟨t, ht, rfl⟩ := List.mem_map.mp hz
      have fl := (okk ht).2.2.2.1
      exact ⟨fl, fl, flat_same fl⟩
    refine ⟨⟨D, D2, _, _, rfl, rfl, S5 _ _ eD, eD2, prs_self flV⟩, fun H6 S6 => ?_⟩
    refine ⟨_, rfl, iteF ?_⟩
    have k36 : Same H3 H6 := (S4.trans S5).trans S6
    have eD6 := S6 _ _ (S5 _ _ eD)
    refine ⟨_, rfl, D, rfl, ⟨_, SqL.of eD6⟩, fun D3 hD3 => ?_⟩
    refine lc_list (K := K) (a := D) (xs := ts.map fun t => d.valF t) (LcP H6 D3 fun n => (ts.take n).map V.str) (LcP.start hD3 rfl) (fun i J hi pJ => SqL.of (pJ.1 _ _ eD6)) ?_ ?_
    · intro i z J hz pJ
      obtain ⟨t, ht, rfl⟩ := map_get hz
      obtain ⟨o1, o2, o3, o4, o5, o6, o7, o8, o9⟩ := okk (List.mem_of_getElem? ht)
      have hi := (List.getElem?_eq_some_iff.mp ht).1
      refine ⟨rfl, _, rfl, _, rfl, rfl, a, d, d.valF t, rfl, (F3.same k36).same pJ.1, o4, o5, fun _ => ⟨o7, o8, fun J' SJ => ?_⟩, nof o6⟩
      rw [o9]
      exact pJ.put SJ (by rw [tk_snoc ht, List.map_append]; rfl) (by omega)
    rintro J7 ⟨S7, _, eD3, _⟩
    rw [List.length_map] at eD3
    dsimp only at eD3
    rw [List.take_of_length_le (Nat.le_refl _)] at eD3
    have flS7 : ∀ z ∈ ts.map V.str, DFlat z z J7 := fun z hz => by
      obtain ⟨t, _, rfl⟩ := List.mem_map.mp hz
      exact ⟨rfl, rfl, by simp [eqV]⟩
    refine ⟨_, rfl, ⟨D3, p1, _, _, rfl, rfl, eD3, S7 _ _ (k36 _ _ e3), prs_self flS7⟩, fun H8 S8 => ?_⟩
    refine ⟨_, rfl, iteF ?_⟩
    have k38 : Same H3 H8 := (k36.trans S7).trans S8
    have eD8 := S8 _ _ (S7 _ _ eD6)
    obtain ⟨t0, ht0⟩ : ∃ t0, ts[0]? = some t0 := ⟨_, List.getElem?_eq_getElem (by omega)⟩
    obtain ⟨_, _, _, f4, f5, f6, _⟩ := okk (List.mem_of_getElem? ht0)
    have hv0 : (ts.map fun t => d.valF t)[0]? = some (d.valF t0) := by rw [List.getElem?_map, ht0]; rfl
    refine ⟨_, rfl, D, rfl, ⟨_, SqL.of eD8⟩, for_list (K := K) (a := D) (xs := ts.map fun t => d.valF t) (fun i σ J => (∃ v4 v5, σ = [some (.ref a), some (.int (c : Nat)), some (.ref p1), some (.ref D), v4, v5]) ∧ Same H8 J) ⟨⟨_, _, rfl⟩, Same.refl _⟩ (fun i σ J _ h => SqL.of (h.2 _ _ eD8)) ?_ ?_⟩
    · rintro i z σ J hz ⟨⟨v4, v5, rfl⟩, SJ⟩
      obtain ⟨t, ht, rfl⟩ := map_get hz
      obtain ⟨_, _, _, o4, o5, o6, _⟩ := okk (List.mem_of_getElem? ht)
      have FJ := (F3.same k38).same SJ
      refine ⟨_, rfl, _, rfl, _, rfl, D, _, _, _, rfl, rfl, SqL.of (SJ _ _ eD8), atI_nat (j := 0) hv0, rfl, a, d, d.valF t0, d.valF t, rfl, FJ, f4, f5, nof f6, fun _ => ⟨o4, o5, nof o6, fun _ => ?_⟩⟩
      refine ⟨_, rfl, _, rfl, D, _, _, _, rfl, rfl, SqL.of (SJ _ _ eD8), atI_nat (j := 0) hv0, _, rfl, a, d, d.valF t0, d.valF t, rfl, FJ, f4, f5, nof f6, fun _ => ⟨o4, o5, nof o6, fun _ => ?_⟩⟩
      refine ⟨rfl, ?_⟩
      rw [decide_eq_true rfl]
      exact ⟨_, rfl, iteF ⟨⟨_, _, rfl⟩, SJ⟩⟩
    · rintro σ J ⟨⟨v4, v5, rfl⟩, SJ⟩
      have FJ := (F3.same k38).same SJ
      refine ⟨_, rfl, rfl, a, d, rfl, FJ, l3, fun J9 S9 => ?_⟩
      refine ⟨_, rfl, a, d, rfl, FJ.same S9, l3, fun J10 S10 => ?_⟩
      refine ⟨rfl, ?_⟩
      rw [decide_eq_true rfl]
      refine ⟨true, rfl, iteT ?_⟩
      have S810 := S9.trans S10
      refine ⟨_, rfl, rfl, a, d, rfl, FJ.same S810, l3, l2, fun J11 S11 => ?_⟩
      refine ⟨_, rfl, a, d, rfl, (FJ.same S810).same S11, l3, l2, fun J12 S12 => ?_⟩
      refine ⟨rfl, ?_⟩
      rw [decide_eq_true rfl]
      have kE : Same H3 J12 := ((k38.trans SJ).trans S810).trans (S11.trans S12)
      exact q J12 (EN.trans (extN_sm kE)) (tabs_sm T3 kE)

end
end L2.K08

set_option Elab.async false
set_option linter.all false
set_option maxRecDepth 100000
set_option maxHeartbeats 4000000
/-! The law. -/
namespace L2.K08
open PySem PySem.W PySem.Spec PySem.Calls PyProof.Rows L2.Jk
def spLaw (K : Frag) (P0 : Addr) : Sp := fun vs H Q _ => ∃ (a : Addr) (ns : List Int), vs = [.ref a] ∧ SqL K H a (ns.map V.int) ∧ ns.length ≤ 63 ∧ LamX.Tabs [(P0, qLam)] H ∧ ∀ H', Q (.bl true) H'
theorem cut_int {ns : List Int} {i : Nat} {x : V} (h : (cutV (ns.map V.int ++ [.int 0]) none (some 3))[i]? = some x) : ∃ n, x = .int n := by
  have m : x ∈ ns.map V.int ++ [.int 0] := List.mem_of_mem_drop (List.mem_of_mem_take (List.mem_of_getElem? h))
  rcases List.mem_append.mp m with m | m
  · obtain ⟨n, _, rfl⟩ := List.mem_map.mp m
    exact ⟨n, rfl⟩
  · exact ⟨0, List.mem_singleton.mp m⟩
theorem StAt.same {H H' : Hp} {a : Addr} (h : StAt H a) (s : Same H H') : StAt H' a := by
  obtain ⟨p, q, r, h, k⟩ := h
  exact ⟨p, q, r, s _ _ h, k⟩
theorem StAt.extN {H H' : Hp} {a : Addr} (h : StAt H a) (s : LamX.ExtN H H') : StAt H' a := by
  obtain ⟨p, q, r, h, k⟩ := h
  exact ⟨p, q, r, s _ _ h (fun _ z => by cases z), k⟩
theorem StAt.ne {H : Hp} {a b : Addr} (h : StAt H a) (n : H b = none) : b ≠ a := by
  rintro rfl
  obtain ⟨p, q, r, h, _⟩ := h
  rw [n] at h
  cases h
theorem tabs_but {T : List (Addr × Str)} {H H' : Hp} {s : Addr} {xs : List V} (t : LamX.Tabs T H) (hs : H s = some (.lst xs)) (B : But s H H') : LamX.Tabs T H' := fun p hp => by
  obtain ⟨ps, h1, h2, h3⟩ := t p hp
  refine ⟨ps, B _ _ (ne_of h1 hs (fun z => by cases z)) h1, h2, fun pos cv hc => ?_⟩
  obtain ⟨c, e1, e2⟩ := h3 pos cv hc
  exact ⟨c, e1, B _ _ (ne_of e2 hs (fun z => by unfold LamX.CodeO at z; cases z)) e2⟩
theorem FieldAt.but {K : Frag} {H H' : Hp} {a s : Addr} {xs : List V} (hs : H s = some (.lst xs)) (S : But s H H') : ∀ {d : PD}, FieldAt K H a d → FieldAt K H' a d
  | .word .., ⟨dx, h⟩ => ⟨dx, S _ _ (ne_of h hs (fun z => by cases z)) h⟩
  | .number .., ⟨dx, h⟩ => ⟨dx, S _ _ (ne_of h hs (fun z => by cases z)) h⟩
  | .fixed _, ⟨dx, h⟩ => ⟨dx, S _ _ (ne_of h hs (fun z => by cases z)) h⟩
  | .listed _, ⟨dx, t, h, o, c, d, k⟩ => ⟨dx, t, S _ _ (ne_of h hs (fun z => by cases z)) h, o, c, d, S _ _ (ne_of k hs (fun z => by cases z)) k⟩
  | .ended .., ⟨dx, h⟩ => ⟨dx, S _ _ (ne_of h hs (fun z => by cases z)) h⟩
theorem FdAt.but {K : Frag} {H H' : Hp} {a s : Addr} {xs : List V} (hs : H s = some (.lst xs)) (S : But s H H') : ∀ {d : FD}, FdAt K H a d → FdAt K H' a d
  | .pl _, ⟨h, i⟩ => ⟨h.but hs S, i⟩
  | .mk _ _ _, ⟨⟨dx, y, h, k⟩, i⟩ => ⟨⟨dx, y, S _ _ (ne_of h hs (fun z => by cases z)) h, k.but hs S⟩, i⟩
theorem FdsAt.but {K : Frag} {H H' : Hp} {s : Addr} {xs : List V} {rs : List V} {ds : List FD} (hs : H s = some (.lst xs)) (S : But s H H') (h : FdsAt K H rs ds) : FdsAt K H' rs ds := ⟨h.1, fun i r d h1 h2 => let ⟨a, e, k⟩ := h.2 i r d h1 h2; ⟨a, e, k.but hs S⟩⟩
theorem FdsAt.extN {K : Frag} {H H' : Hp} {rs : List V} {ds : List FD} (S : LamX.ExtN H H') (h : FdsAt K H rs ds) : FdsAt K H' rs ds := ⟨h.1, fun i r d h1 h2 => let ⟨a, e, k⟩ := h.2 i r d h1 h2; ⟨a, e, k.extN S⟩⟩
theorem StAt.lst {H : Hp} {s : Addr} (h : StAt H s) : ∃ p q r : Int, H s = some (.lst [.int p, .int q, .int r]) := let ⟨p, q, r, h, _⟩ := h; ⟨p, q, r, h⟩
structure GLw (P : Program) (w : World) (K : Frag) (mg : Str → Option Value) (base : Heap) (P0 : Addr) : Prop extends GQ8 P w K mg base where
  law_state : FnAt P w K mg base CX0 1 "_law_state" ["_law_source"] spState
  law_digit : FnAt P w K mg base CX0 1 "_law_digit" ["_law_state_here", "_law_base"] spDigit
  law_errors_right : FnAt P w K mg base CX0 3 "_law_errors_right" ["_law_x", "_law_y"] spEr
  law_fields : FnAt P w K mg base CX0 6 "_law_fields" ["_law_x", "_law_y"] (spFlds K)
  law_kept_right : FnAt P w K mg base CX0 6 "_law_kept_right" ["_law_some", "_law_x", "_law_y"] (spKept K)
  law_calls_right : FnAt P w K mg base CX0 7 "_law_calls_right" ["_law_kind", "_law_many"] (spCalls K P0)
section
variable {P : Program} {w : World} {K : Frag} {mg : Str → Option Value} {base : Heap} {f : Addr} {fd : FuncData}

abbrev s_law : Stmt := top 60
theorem sc_law : FnScope ["_law_script", "_law_cell", "_law_s", "_law_x", "_law_y", "_law_some", "_law_same", "_law_kind"] ["_law_script"] (defScope s_law) := ⟨rfl, rfl, rfl, by decide +kernel, rfl, by decide +kernel, by decide +kernel⟩

theorem ok_law (F : FunD K "law" "law" (defArgs s_law) (defBody s_law) (defScope s_law) [] [] f fd) {P0 : Addr} (G : GLw P w K mg base P0) : FnOk P w K mg base CX0 8 f fd ["_law_script"] (spLaw K P0) := by
  refine F.ok (CX := CX0) sc_law (fun vs H Q E h => ?_) (fun cdv A outer s H vs Q E hr h => ?_)
  · obtain ⟨_, _, rfl, _⟩ := h
    rfl
  · refine ⟨_, PSs.nox (pss_cons (ps_for PassesOwn.never rfl (pi_list (pe_slice sl_listS (pe_op op_catS (pv 0) (pe_lstS (pa_cons pe_int pa_nil))) po_none (po_some pe_int))) (pg_name (i := 1) sc_law.nd rfl (Or.inl rfl))
      (pss_cons (ps_set (i := 2) sc_law.nd rfl (Or.inl rfl) (pe_fn G.law_state (hr.mono (by decide)) pass0 (by rfl) (pa_cons (pv 1) pa_nil)))
      (pss_cons (ps_par (i := 3) (j := 4) (by rfl) sc_law.nd rfl rfl (by decide) rfl rfl (pa_cons (pe_fn G.law_digit (hr.mono (by decide)) pass0 (by rfl) (pa_cons (pv 2) (pa_cons pe_int pa_nil))) (pa_cons (pe_op op_add pe_int (pe_fn G.law_digit (hr.mono (by decide)) pass0 (by rfl) (pa_cons (pv 2) (pa_cons pe_int pa_nil)))) pa_nil)) (by rfl))
      (pss_cons (ps_asg (pe_fn G.law_fields (hr.mono (by decide)) pass0 (by rfl) (pa_cons (pv 3) (pa_cons (pv 4) pa_nil))) (pg_tup rfl (pgs_cons (pg_name (i := 5) sc_law.nd rfl (Or.inl rfl)) (pgs_cons (pg_name (i := 6) sc_law.nd rfl (Or.inl rfl)) pgs_nil))))
      (pss_cons (ps_if (PW.pt (pw_or (pt_cmpR (op_neL monFD (eqFD G.toGQ8 rfl rfl rfl rfl rfl) (hr.mono (by decide))) (pv 5) (pv 6) (nomark _)) (pw_or (pt_not (pt_val (pe_fn G.law_errors_right (hr.mono (by decide)) pass0 (by rfl) (pa_cons (pv 3) (pa_cons (pv 4) pa_nil))))) (pw_or1 (pt_not (pt_val (pe_fn G.law_errors_right (hr.mono (by decide)) pass0 (by rfl) (pa_cons (pe_lstS (pa_cons (pv 3) pa_nil)) (pa_cons pe_str pa_nil)))))))))
        (pss_one (ps_ret pe_bl))
        pss_nil)
      (pss_cons (ps_if (pt_not (pt_val (pe_fn G.law_kept_right (hr.mono (by decide)) pass0 (by rfl) (pa_cons (pv 5) (pa_cons (pv 3) (pa_cons (pv 4) pa_nil))))))
        (pss_one (ps_ret pe_bl))
        pss_nil)
      (pss_one (ps_for PassesOwn.never rfl (pi_list (pv 5)) (pg_name (i := 7) sc_law.nd rfl (Or.inl rfl))
        (pss_one (ps_if (pt_not (pt_val (pe_fn G.law_calls_right (hr.mono (by decide)) pass0 (by rfl) (pa_cons (pv 7) (pa_cons (pe_op op_add pe_int (pe_fn G.law_digit (hr.mono (by decide)) pass0 (by rfl) (pa_cons (pv 2) (pa_cons pe_int pa_nil)))) pa_nil)))))
          (pss_one (ps_ret pe_bl))
          pss_nil))))))))))
    (pss_one (ps_ret pe_bl))), ?_⟩
    obtain ⟨a, ns, rfl, hS, hl, hT, q⟩ := h
    refine ⟨_, rfl, by show 1 ≤ 1000; decide, fun p0 H0 hp0 S0 e0 => ⟨a, p0, _, _, rfl, rfl, hS.ext S0, SqL.of e0, by rw [List.length_map, sizeLine_eq]; show ns.length + 1 ≤ 16777216; omega, fun p1 H1 hp1 S1 e1 => ?_⟩⟩
    refine ⟨_, rfl, p1, _, rfl, SqL.of e1, fun p2 H2 hp2 S2 e2 => ⟨p2, rfl, ⟨_, SqL.of e2⟩, ?_⟩⟩
    have T2 := tabs_sm hT ((S0.trans S1).trans S2)
    refine for_list (K := K) (a := p2) (xs := cutV (ns.map V.int ++ [.int 0]) none (some 3)) (fun i σ J => (∃ v1 v2 v3 v4 v5 v6 v7, σ = [some (.ref a), v1, v2, v3, v4, v5, v6, v7]) ∧ J p2 = some (.lst (cutV (ns.map V.int ++ [.int 0]) none (some 3))) ∧ LamX.Tabs [(P0, qLam)] J) ⟨⟨_, _, _, _, _, _, _, rfl⟩, e2, T2⟩ (fun i σ J _ h => SqL.of h.2.1) ?_ ?_
    · rintro i0 v σ J hx0 ⟨⟨v1, v2, v3, v4, v5, v6, v7, rfl⟩, eJ, TJ⟩
      obtain ⟨n, rfl⟩ := cut_int hx0
      refine ⟨_, rfl, n, rfl, fun s J1 hs SJ st => ?_⟩
      have n2 : p2 ≠ s := ne_of_none eJ hs
      refine ⟨_, rfl, s, 4, rfl, st, by decide, by decide, fun d1 J2 a1 b1 B1 st1 => ?_⟩
      refine ⟨_, rfl, s, 4, rfl, st1, by decide, by decide, fun d2 J3 a2 b2 B2 st2 => ⟨_, _, rfl, rfl, _, _, rfl, ?_⟩⟩
      obtain ⟨x, rfl⟩ : ∃ x : Nat, d1 = (x : Nat) := ⟨d1.toNat, by omega⟩
      obtain ⟨z, rfl⟩ : ∃ z : Nat, d2 = (z : Nat) := ⟨d2.toNat, by omega⟩
      have e3 := B2 _ _ n2 (B1 _ _ n2 (SJ _ _ eJ))
      obtain ⟨_, _, _, l0⟩ := st.lst
      obtain ⟨_, _, _, l1⟩ := st1.lst
      have T3 := tabs_but (tabs_but (tabs_sm TJ SJ) l0 B1) l1 B2
      refine ⟨_, rfl, _, rfl, x, 4 + z, rfl, by omega, by omega, by omega, fun t p r rs ss J4 S4 et ep er F1 F2 => ?_⟩
      refine ⟨t, _, rfl, SqT.of et, rfl, _, _, rfl, _, _, rfl, rfl, ?_⟩
      refine ⟨_, rfl, _, rfl, ⟨p, r, rs, ss, rfl, rfl, ep, er, prs_fds F1 F2⟩, fun J5 S5 => ?_⟩
      refine ⟨_, rfl, iteF ?_⟩
      refine ⟨_, rfl, _, rfl, _, _, rfl, SE.int _, SE.int _, fun J6 S6 => ?_⟩
      refine ⟨_, rfl, iteF ?_⟩
      refine ⟨_, rfl, by show 1 ≤ 1000; decide, fun q1 J7 hq1 S7 eq1 => ?_⟩
      refine ⟨_, _, rfl, .inr ⟨q1, rfl⟩, SE.str _, fun J8 S8 => ?_⟩
      refine ⟨_, rfl, iteF ?_⟩
      have k48 : Same J4 J8 := ((S5.trans S6).trans S7).trans S8
      refine ⟨_, rfl, _, rfl, _, rfl, p, rs, x, 4 + z, rfl, by omega, by omega, by omega, SqL.of (k48 _ _ ep), F1.same k48, fun J9 S9 => ?_⟩
      refine ⟨_, rfl, iteF ?_⟩
      have k49 := k48.trans S9
      have k39 := S4.trans k49
      obtain ⟨u1, u2, u3, l2⟩ := st2.lst
      have np : p ≠ s := fun e => by
        have ll := S4 _ _ l2
        rw [← e, ep] at ll
        injection ll with ll
        injection ll with ll
        have := F1.1
        rw [ll] at this
        cases this
      refine ⟨_, rfl, p, rfl, ⟨_, SqL.of (k49 _ _ ep)⟩, ?_⟩
      refine for_list (K := K) (a := p) (xs := rs) (fun i σ J => (∃ v7, σ = [some (.ref a), some (.int n), some (.ref s), some (.int (x : Nat)), some (.int (4 + z : Nat)), some (.ref p), some (.ref r), v7]) ∧ J p2 = some (.lst (cutV (ns.map V.int ++ [.int 0]) none (some 3))) ∧ LamX.Tabs [(P0, qLam)] J ∧ J p = some (.lst rs) ∧ FdsAt K J rs (fds x (4 + z)) ∧ StAt J s) ⟨⟨_, rfl⟩, k39 _ _ e3, tabs_sm T3 k39, k49 _ _ ep, F1.same k49, st2.same k39⟩ (fun i σ J _ h => SqL.of h.2.2.2.1) ?_ ?_
      · rintro j f0 σ M hj ⟨⟨v8, rfl⟩, m1, m2, m3, m4, m5⟩
        obtain ⟨dd, hdd⟩ : ∃ dd, (fds x (4 + z))[j]? = some dd := by
          have lt := (List.getElem?_eq_some_iff.mp hj).1
          rw [m4.1] at lt
          exact ⟨_, List.getElem?_eq_getElem lt⟩
        obtain ⟨fa, rfl, hfa⟩ := m4.2 j f0 dd hj hdd
        obtain ⟨_, _, _, l5⟩ := m5.lst
        refine ⟨_, rfl, _, rfl, s, 5, rfl, m5, by decide, by decide, fun d3 M1 a3 b3 B3 st3 => ⟨_, _, rfl, rfl, ?_⟩⟩
        obtain ⟨c, rfl⟩ : ∃ c : Nat, d3 = (c : Nat) := ⟨d3.toNat, by omega⟩
        refine ⟨fa, x, 4 + z, 2 + c, dd, rfl, by omega, by omega, by omega, by omega, by omega, List.mem_of_getElem? hdd, hfa.but l5 B3, tabs_but m2 l5 B3, fun M2 E2 T2' => ?_⟩
        refine ⟨_, rfl, iteF ?_⟩
        exact ⟨⟨_, rfl⟩, E2 _ _ (B3 _ _ n2 m1) (fun _ z => by cases z), T2', E2 _ _ (B3 _ _ np m3) (fun _ z => by cases z), (m4.but l5 B3).extN E2, st3.extN E2⟩
      · rintro σ M ⟨⟨v8, rfl⟩, m1, m2, _⟩
        exact ⟨⟨_, _, _, _, _, _, _, rfl⟩, m1, m2⟩
    · rintro σ J _
      exact q J

end
end L2.K08

set_option Elab.async false
set_option linter.all false
set_option maxRecDepth 100000
set_option maxHeartbeats 4000000
namespace L2.K08
open PySem PySem.W PySem.Spec PySem.Calls PyProof.Rows L2.Jk

theorem facts {P : Program} {w : World} {K : Frag} {h : Heap} {mg : Str → Option Value} {base : Heap} (X : K.In h) (G : h.Ns mainGlobals mg) (c : He.SaysD fa fn K) (m : ex K = true) (TB : LamX.TabB base mg (He.cT K ("shorter_first", none)).1 (He.cT K ("shorter_first", none)).2) :
    GLw P w K mg base (He.cT K ("shorter_first", none)).2 := by
  obtain ⟨mE, m⟩ := Bool.and_eq_true_iff.mp m
  have er : ∀ e ∈ erL, errB K (He.ga K e.1) e.2 ["told"] = true ∧ (findIn K (.ref (He.ga K e.1)) "__init__" = some (some (.ref (He.ma K (He.ga K e.1) "__init__"))) ∧ typeIn K (.ref (He.ma K (He.ga K e.1) "__init__")) = some (.type "function")) ∧ exmOne K (.ref (He.ga K e.1)) (.ref (He.ga K e.1)) = some true := fun e he => by
    have y := List.all_eq_true.mp mE e he
    obtain ⟨y1, y⟩ := Bool.and_eq_true_iff.mp y
    obtain ⟨y2, y⟩ := Bool.and_eq_true_iff.mp y
    obtain ⟨y3, y4⟩ := Bool.and_eq_true_iff.mp y
    exact ⟨y1, ⟨He.eqO_ok y2, of_decide_eq_true y3⟩, of_decide_eq_true y4⟩
  obtain ⟨m0, m1⟩ := Bool.and_eq_true_iff.mp m
  obtain ⟨z1, m0⟩ := Bool.and_eq_true_iff.mp m0
  obtain ⟨z2, m0⟩ := Bool.and_eq_true_iff.mp m0
  obtain ⟨z3, m0⟩ := Bool.and_eq_true_iff.mp m0
  obtain ⟨z4, m0⟩ := Bool.and_eq_true_iff.mp m0
  obtain ⟨z5, z6⟩ := Bool.and_eq_true_iff.mp m0
  have more : ∀ i, i < 6 → KC K (ca K i) ∧ kitOne K (.type "NoneType") (.ref (ca K i)) = some false ∧ kitOne K (.type "str") (.ref (ca K i)) = some false ∧ kitOne K (.ref (ca K i)) (.type "str") = some false ∧ ∀ j, j < 6 → kitOne K (.ref (ca K i)) (.ref (ca K j)) = some (decide (i = j)) := fun i hi => by
    have y := List.all_eq_true.mp m1 i (List.mem_range.mpr hi)
    obtain ⟨y1, y⟩ := Bool.and_eq_true_iff.mp y
    obtain ⟨y2, y⟩ := Bool.and_eq_true_iff.mp y
    obtain ⟨y3, y⟩ := Bool.and_eq_true_iff.mp y
    obtain ⟨y4, y5⟩ := Bool.and_eq_true_iff.mp y
    obtain ⟨x1, y1⟩ := Bool.and_eq_true_iff.mp y1
    obtain ⟨x2, y1⟩ := Bool.and_eq_true_iff.mp y1
    obtain ⟨x3, y1⟩ := Bool.and_eq_true_iff.mp y1
    obtain ⟨x4, x5⟩ := Bool.and_eq_true_iff.mp y1
    exact ⟨⟨He.eqO_ok x1, of_decide_eq_true x2, x3, eqcB_ok x4, x5⟩, of_decide_eq_true y2, of_decide_eq_true y3, of_decide_eq_true y4, fun j hj => of_decide_eq_true (List.all_eq_true.mp y5 j (List.mem_range.mpr hj))⟩
  obtain ⟨x0a, x0b, x0c⟩ := er ("BadField", ["what"]) (by unfold erL; simp)
  have X0 := errB_ok x0a
  obtain ⟨fdx0, Fx0⟩ := c.def_ 0 (d := ⟨("BadField", some "__init__"), "__init__", "BadField.__init__", defArgs (inClass (top 2) 0), defBody (inClass (top 2) 0), defScope (inClass (top 2) 0), [], []⟩) rfl
  have eBadField : ErrKw P w K mg base "BadField" (ec K "BadField") ["what"] ["what"] [0] := ⟨He.glo_ok X G (c.fact 1 (f := .glo "BadField") rfl), X0, x0b, ⟨fdx0, kbn_of Fx0 1 ["what"] [0] (fun _ _ _ _ _ _ us ws l1 l2 => match us, ws, l1, l2 with | [_], [_], _, _ => rfl), ok_init1 Fx0 (⟨rfl, rfl, rfl, by decide +kernel, rfl, by decide +kernel, by decide +kernel⟩ : FnScope ["self", "what"] ["self", "what"] (defScope (inClass (top 2) 0))) X0 rfl rfl (by decide +kernel) (by decide +kernel)⟩⟩
  obtain ⟨fdtx0, Ftx0⟩ := c.def_ 1 (d := ⟨("BadField", some "told"), "told", "BadField.told", defArgs (inClass (top 2) 1), defBody (inClass (top 2) 1), defScope (inClass (top 2) 1), [], []⟩) rfl
  have fBadField : ErrAt P w K mg base "BadField" (He.ga K "BadField") ["what"] "refused badfield" := ⟨He.glo_ok X G (c.fact 1 (f := .glo "BadField") rfl), X0, x0b, ⟨fdx0, FunD.bindsN (ps := ["self", "what"]) Fx0 (fun _ _ _ _ _ _ us hl => match us, hl with | [_, _], _ => rfl), ok_init1 Fx0 (⟨rfl, rfl, rfl, by decide +kernel, rfl, by decide +kernel, by decide +kernel⟩ : FnScope ["self", "what"] ["self", "what"] (defScope (inClass (top 2) 0))) X0 rfl rfl (by decide +kernel) (by decide +kernel)⟩, ⟨fdtx0, FunD.bindsN (ps := ["self"]) Ftx0 (fun _ _ _ _ _ _ us hl => match us, hl with | [_], _ => rfl), Ftx0.kp, ok_told Ftx0 (⟨rfl, rfl, rfl, by decide +kernel, rfl, by decide +kernel, by decide +kernel⟩ : FnScope ["self"] ["self"] (defScope (inClass (top 2) 1)))⟩⟩
  obtain ⟨x1a, x1b, x1c⟩ := er ("BadLayout", ["what"]) (by unfold erL; simp)
  have X1 := errB_ok x1a
  obtain ⟨fdx1, Fx1⟩ := c.def_ 2 (d := ⟨("BadLayout", some "__init__"), "__init__", "BadLayout.__init__", defArgs (inClass (top 5) 0), defBody (inClass (top 5) 0), defScope (inClass (top 5) 0), [], []⟩) rfl
  have eBadLayout : ErrKw P w K mg base "BadLayout" (ec K "BadLayout") ["what"] ["what"] [0] := ⟨He.glo_ok X G (c.fact 2 (f := .glo "BadLayout") rfl), X1, x1b, ⟨fdx1, kbn_of Fx1 1 ["what"] [0] (fun _ _ _ _ _ _ us ws l1 l2 => match us, ws, l1, l2 with | [_], [_], _, _ => rfl), ok_init1 Fx1 (⟨rfl, rfl, rfl, by decide +kernel, rfl, by decide +kernel, by decide +kernel⟩ : FnScope ["self", "what"] ["self", "what"] (defScope (inClass (top 5) 0))) X1 rfl rfl (by decide +kernel) (by decide +kernel)⟩⟩
  obtain ⟨x2a, x2b, x2c⟩ := er ("NoValue", ["value"]) (by unfold erL; simp)
  have X2 := errB_ok x2a
  obtain ⟨fdx2, Fx2⟩ := c.def_ 4 (d := ⟨("NoValue", some "__init__"), "__init__", "NoValue.__init__", defArgs (inClass (top 3) 0), defBody (inClass (top 3) 0), defScope (inClass (top 3) 0), [], []⟩) rfl
  have eNoValue : ErrKw P w K mg base "NoValue" (ec K "NoValue") ["value"] ["value"] [0] := ⟨He.glo_ok X G (c.fact 3 (f := .glo "NoValue") rfl), X2, x2b, ⟨fdx2, kbn_of Fx2 1 ["value"] [0] (fun _ _ _ _ _ _ us ws l1 l2 => match us, ws, l1, l2 with | [_], [_], _, _ => rfl), ok_init1 Fx2 (⟨rfl, rfl, rfl, by decide +kernel, rfl, by decide +kernel, by decide +kernel⟩ : FnScope ["self", "value"] ["self", "value"] (defScope (inClass (top 3) 0))) X2 rfl rfl (by decide +kernel) (by decide +kernel)⟩⟩
  obtain ⟨fdtx2, Ftx2⟩ := c.def_ 5 (d := ⟨("NoValue", some "told"), "told", "NoValue.told", defArgs (inClass (top 3) 1), defBody (inClass (top 3) 1), defScope (inClass (top 3) 1), [], []⟩) rfl
  have fNoValue : ErrAt P w K mg base "NoValue" (He.ga K "NoValue") ["value"] "refused novalue" := ⟨He.glo_ok X G (c.fact 3 (f := .glo "NoValue") rfl), X2, x2b, ⟨fdx2, FunD.bindsN (ps := ["self", "value"]) Fx2 (fun _ _ _ _ _ _ us hl => match us, hl with | [_, _], _ => rfl), ok_init1 Fx2 (⟨rfl, rfl, rfl, by decide +kernel, rfl, by decide +kernel, by decide +kernel⟩ : FnScope ["self", "value"] ["self", "value"] (defScope (inClass (top 3) 0))) X2 rfl rfl (by decide +kernel) (by decide +kernel)⟩, ⟨fdtx2, FunD.bindsN (ps := ["self"]) Ftx2 (fun _ _ _ _ _ _ us hl => match us, hl with | [_], _ => rfl), Ftx2.kp, ok_told Ftx2 (⟨rfl, rfl, rfl, by decide +kernel, rfl, by decide +kernel, by decide +kernel⟩ : FnScope ["self"] ["self"] (defScope (inClass (top 3) 1)))⟩⟩
  obtain ⟨x3a, x3b, x3c⟩ := er ("NoText", ["text"]) (by unfold erL; simp)
  have X3 := errB_ok x3a
  obtain ⟨fdx3, Fx3⟩ := c.def_ 6 (d := ⟨("NoText", some "__init__"), "__init__", "NoText.__init__", defArgs (inClass (top 4) 0), defBody (inClass (top 4) 0), defScope (inClass (top 4) 0), [], []⟩) rfl
  have eNoText : ErrKw P w K mg base "NoText" (ec K "NoText") ["text"] ["text"] [0] := ⟨He.glo_ok X G (c.fact 4 (f := .glo "NoText") rfl), X3, x3b, ⟨fdx3, kbn_of Fx3 1 ["text"] [0] (fun _ _ _ _ _ _ us ws l1 l2 => match us, ws, l1, l2 with | [_], [_], _, _ => rfl), ok_init1 Fx3 (⟨rfl, rfl, rfl, by decide +kernel, rfl, by decide +kernel, by decide +kernel⟩ : FnScope ["self", "text"] ["self", "text"] (defScope (inClass (top 4) 0))) X3 rfl rfl (by decide +kernel) (by decide +kernel)⟩⟩
  obtain ⟨fdtx3, Ftx3⟩ := c.def_ 7 (d := ⟨("NoText", some "told"), "told", "NoText.told", defArgs (inClass (top 4) 1), defBody (inClass (top 4) 1), defScope (inClass (top 4) 1), [], []⟩) rfl
  have fNoText : ErrAt P w K mg base "NoText" (He.ga K "NoText") ["text"] "refused notext" := ⟨He.glo_ok X G (c.fact 4 (f := .glo "NoText") rfl), X3, x3b, ⟨fdx3, FunD.bindsN (ps := ["self", "text"]) Fx3 (fun _ _ _ _ _ _ us hl => match us, hl with | [_, _], _ => rfl), ok_init1 Fx3 (⟨rfl, rfl, rfl, by decide +kernel, rfl, by decide +kernel, by decide +kernel⟩ : FnScope ["self", "text"] ["self", "text"] (defScope (inClass (top 4) 0))) X3 rfl rfl (by decide +kernel) (by decide +kernel)⟩, ⟨fdtx3, FunD.bindsN (ps := ["self"]) Ftx3 (fun _ _ _ _ _ _ us hl => match us, hl with | [_], _ => rfl), Ftx3.kp, ok_told Ftx3 (⟨rfl, rfl, rfl, by decide +kernel, rfl, by decide +kernel, by decide +kernel⟩ : FnScope ["self"] ["self"] (defScope (inClass (top 4) 1)))⟩⟩
  obtain ⟨x4a, x4b, x4c⟩ := er ("NoRow", ["place"]) (by unfold erL; simp)
  have X4 := errB_ok x4a
  obtain ⟨fdx4, Fx4⟩ := c.def_ 8 (d := ⟨("NoRow", some "__init__"), "__init__", "NoRow.__init__", defArgs (inClass (top 6) 0), defBody (inClass (top 6) 0), defScope (inClass (top 6) 0), [], []⟩) rfl
  have eNoRow : ErrKw P w K mg base "NoRow" (ec K "NoRow") ["place"] ["place"] [0] := ⟨He.glo_ok X G (c.fact 5 (f := .glo "NoRow") rfl), X4, x4b, ⟨fdx4, kbn_of Fx4 1 ["place"] [0] (fun _ _ _ _ _ _ us ws l1 l2 => match us, ws, l1, l2 with | [_], [_], _, _ => rfl), ok_init1 Fx4 (⟨rfl, rfl, rfl, by decide +kernel, rfl, by decide +kernel, by decide +kernel⟩ : FnScope ["self", "place"] ["self", "place"] (defScope (inClass (top 6) 0))) X4 rfl rfl (by decide +kernel) (by decide +kernel)⟩⟩
  obtain ⟨x5a, x5b, x5c⟩ := er ("NoPlace", ["place"]) (by unfold erL; simp)
  have X5 := errB_ok x5a
  obtain ⟨fdx5, Fx5⟩ := c.def_ 10 (d := ⟨("NoPlace", some "__init__"), "__init__", "NoPlace.__init__", defArgs (inClass (top 11) 0), defBody (inClass (top 11) 0), defScope (inClass (top 11) 0), [], []⟩) rfl
  have eNoPlace : ErrKw P w K mg base "NoPlace" (ec K "NoPlace") ["place"] ["place"] [0] := ⟨He.glo_ok X G (c.fact 6 (f := .glo "NoPlace") rfl), X5, x5b, ⟨fdx5, kbn_of Fx5 1 ["place"] [0] (fun _ _ _ _ _ _ us ws l1 l2 => match us, ws, l1, l2 with | [_], [_], _, _ => rfl), ok_init1 Fx5 (⟨rfl, rfl, rfl, by decide +kernel, rfl, by decide +kernel, by decide +kernel⟩ : FnScope ["self", "place"] ["self", "place"] (defScope (inClass (top 11) 0))) X5 rfl rfl (by decide +kernel) (by decide +kernel)⟩⟩
  obtain ⟨x6a, x6b, x6c⟩ := er ("BadText", ["place"]) (by unfold erL; simp)
  have X6 := errB_ok x6a
  obtain ⟨fdx6, Fx6⟩ := c.def_ 12 (d := ⟨("BadText", some "__init__"), "__init__", "BadText.__init__", defArgs (inClass (top 14) 0), defBody (inClass (top 14) 0), defScope (inClass (top 14) 0), [], []⟩) rfl
  have eBadText : ErrKw P w K mg base "BadText" (ec K "BadText") ["place"] ["place"] [0] := ⟨He.glo_ok X G (c.fact 7 (f := .glo "BadText") rfl), X6, x6b, ⟨fdx6, kbn_of Fx6 1 ["place"] [0] (fun _ _ _ _ _ _ us ws l1 l2 => match us, ws, l1, l2 with | [_], [_], _, _ => rfl), ok_init1 Fx6 (⟨rfl, rfl, rfl, by decide +kernel, rfl, by decide +kernel, by decide +kernel⟩ : FnScope ["self", "place"] ["self", "place"] (defScope (inClass (top 14) 0))) X6 rfl rfl (by decide +kernel) (by decide +kernel)⟩⟩
  obtain ⟨x7a, x7b, x7c⟩ := er ("Large", ["count"]) (by unfold erL; simp)
  have X7 := errB_ok x7a
  obtain ⟨fdx7, Fx7⟩ := c.def_ 14 (d := ⟨("Large", some "__init__"), "__init__", "Large.__init__", defArgs (inClass (top 7) 0), defBody (inClass (top 7) 0), defScope (inClass (top 7) 0), [], []⟩) rfl
  have eLarge : ErrKw P w K mg base "Large" (ec K "Large") ["count"] ["count"] [0] := ⟨He.glo_ok X G (c.fact 8 (f := .glo "Large") rfl), X7, x7b, ⟨fdx7, kbn_of Fx7 1 ["count"] [0] (fun _ _ _ _ _ _ us ws l1 l2 => match us, ws, l1, l2 with | [_], [_], _, _ => rfl), ok_init1 Fx7 (⟨rfl, rfl, rfl, by decide +kernel, rfl, by decide +kernel, by decide +kernel⟩ : FnScope ["self", "count"] ["self", "count"] (defScope (inClass (top 7) 0))) X7 rfl rfl (by decide +kernel) (by decide +kernel)⟩⟩
  obtain ⟨x8a, x8b, x8c⟩ := er ("NoJoint", ["k"]) (by unfold erL; simp)
  have X8 := errB_ok x8a
  obtain ⟨fdx8, Fx8⟩ := c.def_ 16 (d := ⟨("NoJoint", some "__init__"), "__init__", "NoJoint.__init__", defArgs (inClass (top 8) 0), defBody (inClass (top 8) 0), defScope (inClass (top 8) 0), [], []⟩) rfl
  have eNoJoint : ErrKw P w K mg base "NoJoint" (ec K "NoJoint") ["k"] ["k"] [0] := ⟨He.glo_ok X G (c.fact 9 (f := .glo "NoJoint") rfl), X8, x8b, ⟨fdx8, kbn_of Fx8 1 ["k"] [0] (fun _ _ _ _ _ _ us ws l1 l2 => match us, ws, l1, l2 with | [_], [_], _, _ => rfl), ok_init1 Fx8 (⟨rfl, rfl, rfl, by decide +kernel, rfl, by decide +kernel, by decide +kernel⟩ : FnScope ["self", "k"] ["self", "k"] (defScope (inClass (top 8) 0))) X8 rfl rfl (by decide +kernel) (by decide +kernel)⟩⟩
  obtain ⟨x9a, x9b, x9c⟩ := er ("NotWhole", ["index"]) (by unfold erL; simp)
  have X9 := errB_ok x9a
  obtain ⟨fdx9, Fx9⟩ := c.def_ 18 (d := ⟨("NotWhole", some "__init__"), "__init__", "NotWhole.__init__", defArgs (inClass (top 9) 0), defBody (inClass (top 9) 0), defScope (inClass (top 9) 0), [], []⟩) rfl
  have eNotWhole : ErrKw P w K mg base "NotWhole" (ec K "NotWhole") ["index"] ["index"] [0] := ⟨He.glo_ok X G (c.fact 10 (f := .glo "NotWhole") rfl), X9, x9b, ⟨fdx9, kbn_of Fx9 1 ["index"] [0] (fun _ _ _ _ _ _ us ws l1 l2 => match us, ws, l1, l2 with | [_], [_], _, _ => rfl), ok_init1 Fx9 (⟨rfl, rfl, rfl, by decide +kernel, rfl, by decide +kernel, by decide +kernel⟩ : FnScope ["self", "index"] ["self", "index"] (defScope (inClass (top 9) 0))) X9 rfl rfl (by decide +kernel) (by decide +kernel)⟩⟩
  obtain ⟨x10a, x10b, x10c⟩ := er ("Hopeless", ["index"]) (by unfold erL; simp)
  have X10 := errB_ok x10a
  obtain ⟨fdx10, Fx10⟩ := c.def_ 20 (d := ⟨("Hopeless", some "__init__"), "__init__", "Hopeless.__init__", defArgs (inClass (top 10) 0), defBody (inClass (top 10) 0), defScope (inClass (top 10) 0), [], []⟩) rfl
  have eHopeless : ErrKw P w K mg base "Hopeless" (ec K "Hopeless") ["index"] ["index"] [0] := ⟨He.glo_ok X G (c.fact 11 (f := .glo "Hopeless") rfl), X10, x10b, ⟨fdx10, kbn_of Fx10 1 ["index"] [0] (fun _ _ _ _ _ _ us ws l1 l2 => match us, ws, l1, l2 with | [_], [_], _, _ => rfl), ok_init1 Fx10 (⟨rfl, rfl, rfl, by decide +kernel, rfl, by decide +kernel, by decide +kernel⟩ : FnScope ["self", "index"] ["self", "index"] (defScope (inClass (top 10) 0))) X10 rfl rfl (by decide +kernel) (by decide +kernel)⟩⟩
  obtain ⟨x11a, x11b, x11c⟩ := er ("Unbounded", ["index"]) (by unfold erL; simp)
  have X11 := errB_ok x11a
  obtain ⟨fdx11, Fx11⟩ := c.def_ 22 (d := ⟨("Unbounded", some "__init__"), "__init__", "Unbounded.__init__", defArgs (inClass (top 12) 0), defBody (inClass (top 12) 0), defScope (inClass (top 12) 0), [], []⟩) rfl
  have eUnbounded : ErrKw P w K mg base "Unbounded" (ec K "Unbounded") ["index"] ["index"] [0] := ⟨He.glo_ok X G (c.fact 12 (f := .glo "Unbounded") rfl), X11, x11b, ⟨fdx11, kbn_of Fx11 1 ["index"] [0] (fun _ _ _ _ _ _ us ws l1 l2 => match us, ws, l1, l2 with | [_], [_], _, _ => rfl), ok_init1 Fx11 (⟨rfl, rfl, rfl, by decide +kernel, rfl, by decide +kernel, by decide +kernel⟩ : FnScope ["self", "index"] ["self", "index"] (defScope (inClass (top 12) 0))) X11 rfl rfl (by decide +kernel) (by decide +kernel)⟩⟩
  obtain ⟨x12a, x12b, x12c⟩ := er ("Clash", ["one", "other"]) (by unfold erL; simp)
  have X12 := errB_ok x12a
  obtain ⟨fdx12, Fx12⟩ := c.def_ 24 (d := ⟨("Clash", some "__init__"), "__init__", "Clash.__init__", defArgs (inClass (top 13) 0), defBody (inClass (top 13) 0), defScope (inClass (top 13) 0), [], []⟩) rfl
  have eClash : ErrKw P w K mg base "Clash" (ec K "Clash") ["one", "other"] ["other", "one"] [1, 0] := ⟨He.glo_ok X G (c.fact 13 (f := .glo "Clash") rfl), X12, x12b, ⟨fdx12, kbn_of Fx12 1 ["other", "one"] [1, 0] (fun _ _ _ _ _ _ us ws l1 l2 => match us, ws, l1, l2 with | [_], [_, _], _, _ => rfl), ok_init2 Fx12 (⟨rfl, rfl, rfl, by decide +kernel, rfl, by decide +kernel, by decide +kernel⟩ : FnScope ["self", "one", "other"] ["self", "one", "other"] (defScope (inClass (top 13) 0))) X12 rfl rfl (by decide +kernel) (by decide +kernel) rfl (by decide +kernel) (by decide +kernel)⟩⟩
  have g0 : G0 P w K mg base := ⟨⟨He.free_ok X G (c.fact 53 (f := .free "abs") rfl), He.free_ok X G (c.fact 54 (f := .free "int") rfl), He.free_ok X G (c.fact 55 (f := .free "bool") rfl), He.free_ok X G (c.fact 56 (f := .free "isinstance") rfl), He.free_ok X G (c.fact 57 (f := .free "range") rfl), He.free_ok X G (c.fact 58 (f := .free "len") rfl), He.free_ok X G (c.fact 59 (f := .free "set") rfl), He.free_ok X G (c.fact 60 (f := .free "type") rfl), He.free_ok X G (c.fact 61 (f := .free "str") rfl), He.free_ok X G (c.fact 62 (f := .free "reversed") rfl), He.free_ok X G (c.fact 63 (f := .free "tuple") rfl), He.free_ok X G (c.fact 64 (f := .free "list") rfl), He.free_ok X G (c.fact 65 (f := .free "any") rfl), He.free_ok X G (c.fact 66 (f := .free "all") rfl)⟩, He.str_ok X G (c.fact 69 (f := .str "SIGNS" SG) rfl), He.str_ok X G (c.fact 70 (f := .str "DIGITS" DG) rfl), fBadField⟩
  obtain ⟨fdf1, Ff1⟩ := c.def_ 73 (d := ⟨("is_made_of", none), "is_made_of", "is_made_of", defArgs (top 18), defBody (top 18), defScope (top 18), [], []⟩) rfl
  have Af1 : FnAt P w K mg base CX0 1 "is_made_of" ["text", "signs"] _ := ⟨_, fdf1, He.glo_ok X G (c.fact 20 (f := .glo "is_made_of") rfl), Ff1.kp, ok_made_of Ff1 g0, FunD.bindsN (ps := ["text", "signs"]) Ff1 (fun _ _ _ _ _ _ us hl => match us, hl with | [_, _], _ => rfl)⟩
  obtain ⟨fdf2, Ff2⟩ := c.def_ 74 (d := ⟨("is_sign", none), "is_sign", "is_sign", defArgs (top 19), defBody (top 19), defScope (top 19), [], []⟩) rfl
  have Af2 : FnAt P w K mg base CX0 1 "is_sign" ["thing"] _ := ⟨_, fdf2, He.glo_ok X G (c.fact 21 (f := .glo "is_sign") rfl), Ff2.kp, ok_is_sign Ff2 g0, FunD.bindsN (ps := ["thing"]) Ff2 (fun _ _ _ _ _ _ us hl => match us, hl with | [_], _ => rfl)⟩
  obtain ⟨fdf3, Ff3⟩ := c.def_ 76 (d := ⟨("is_number", none), "is_number", "is_number", defArgs (top 22), defBody (top 22), defScope (top 22), [], []⟩) rfl
  have Af3 : FnAt P w K mg base CX0 1 "is_number" ["thing"] _ := ⟨_, fdf3, He.glo_ok X G (c.fact 23 (f := .glo "is_number") rfl), Ff3.kp, ok_is_number Ff3 g0, FunD.bindsN (ps := ["thing"]) Ff3 (fun _ _ _ _ _ _ us hl => match us, hl with | [_], _ => rfl)⟩
  obtain ⟨fdf4, Ff4⟩ := c.def_ 78 (d := ⟨("digits_of", none), "digits_of", "digits_of", defArgs (top 24), defBody (top 24), defScope (top 24), [], []⟩) rfl
  have Af4 : FnAt P w K mg base CX0 1 "digits_of" ["number"] _ := ⟨_, fdf4, He.glo_ok X G (c.fact 25 (f := .glo "digits_of") rfl), Ff4.kp, ok_digits_of Ff4 g0, FunD.bindsN (ps := ["number"]) Ff4 (fun _ _ _ _ _ _ us hl => match us, hl with | [_], _ => rfl)⟩
  have g1 : G1 P w K mg base := ⟨g0, Af1, Af2, Af3, Af4⟩
  obtain ⟨fdf5, Ff5⟩ := c.def_ 75 (d := ⟨("are_signs", none), "are_signs", "are_signs", defArgs (top 20), defBody (top 20), defScope (top 20), [], []⟩) rfl
  have Af5 : FnAt P w K mg base CX0 2 "are_signs" ["thing"] _ := ⟨_, fdf5, He.glo_ok X G (c.fact 22 (f := .glo "are_signs") rfl), Ff5.kp, ok_are_signs Ff5 g1, FunD.bindsN (ps := ["thing"]) Ff5 (fun _ _ _ _ _ _ us hl => match us, hl with | [_], _ => rfl)⟩
  have g2 : G2 P w K mg base := ⟨g1, Af5⟩
  obtain ⟨fdf6, Ff6⟩ := c.def_ 81 (d := ⟨("check_signs", none), "check_signs", "check_signs", defArgs (top 28), defBody (top 28), defScope (top 28), [], []⟩) rfl
  have Af6 : FnAt P w K mg base (L2.CX P w) 3 "check_signs" ["signs"] _ := ⟨_, fdf6, He.glo_ok X G (c.fact 28 (f := .glo "check_signs") rfl), Ff6.kp, ok_check_signs Ff6 g2, FunD.bindsN (ps := ["signs"]) Ff6 (fun _ _ _ _ _ _ us hl => match us, hl with | [_], _ => rfl)⟩
  obtain ⟨fdf7, Ff7⟩ := c.def_ 82 (d := ⟨("check_span", none), "check_span", "check_span", defArgs (top 29), defBody (top 29), defScope (top 29), [], []⟩) rfl
  have Af7 : FnAt P w K mg base (L2.CX P w) 3 "check_span" ["least", "most"] _ := ⟨_, fdf7, He.glo_ok X G (c.fact 29 (f := .glo "check_span") rfl), Ff7.kp, ok_check_span Ff7 g2, FunD.bindsN (ps := ["least", "most"]) Ff7 (fun _ _ _ _ _ _ us hl => match us, hl with | [_, _], _ => rfl)⟩
  obtain ⟨fdf8, Ff8⟩ := c.def_ 85 (d := ⟨("has_words_with", none), "has_words_with", "has_words_with", defArgs (top 32), defBody (top 32), defScope (top 32), [], []⟩) rfl
  have Af8 : FnAt P w K mg base CX0 1 "has_words_with" ["field", "sign"] _ := ⟨_, fdf8, He.glo_ok X G (c.fact 32 (f := .glo "has_words_with") rfl), Ff8.kp, ok_has_words Ff8 g0, FunD.bindsN (ps := ["field", "sign"]) Ff8 (fun _ _ _ _ _ _ us hl => match us, hl with | [_, _], _ => rfl)⟩
  have cWord : C0 K mg "Word" ["signs", "least", "most"] := ⟨He.glo_ok X G (c.fact 14 (f := .glo "Word") rfl), He.cls_ok (c.fact 71 (f := .cls "Word") rfl), (fun f hf => by
    rcases List.mem_cons.mp hf with rfl | hf
    · exact He.noat_ok (c.fact 73 (f := .noat "Word" "signs") rfl)
    rcases List.mem_cons.mp hf with rfl | hf
    · exact He.noat_ok (c.fact 74 (f := .noat "Word" "least") rfl)
    rcases List.mem_cons.mp hf with rfl | hf
    · exact He.noat_ok (c.fact 75 (f := .noat "Word" "most") rfl)
    cases hf)⟩
  have cNumber : C0 K mg "Number" ["least", "most"] := ⟨He.glo_ok X G (c.fact 15 (f := .glo "Number") rfl), He.cls_ok (c.fact 82 (f := .cls "Number") rfl), (fun f hf => by
    rcases List.mem_cons.mp hf with rfl | hf
    · exact He.noat_ok (c.fact 84 (f := .noat "Number" "least") rfl)
    rcases List.mem_cons.mp hf with rfl | hf
    · exact He.noat_ok (c.fact 85 (f := .noat "Number" "most") rfl)
    cases hf)⟩
  have cFixed : C0 K mg "Fixed" ["width"] := ⟨He.glo_ok X G (c.fact 16 (f := .glo "Fixed") rfl), He.cls_ok (c.fact 92 (f := .cls "Fixed") rfl), (fun f hf => by
    rcases List.mem_cons.mp hf with rfl | hf
    · exact He.noat_ok (c.fact 94 (f := .noat "Fixed" "width") rfl)
    cases hf)⟩
  have cListed : C0 K mg "Listed" ["texts"] := ⟨He.glo_ok X G (c.fact 17 (f := .glo "Listed") rfl), He.cls_ok (c.fact 101 (f := .cls "Listed") rfl), (fun f hf => by
    rcases List.mem_cons.mp hf with rfl | hf
    · exact He.noat_ok (c.fact 103 (f := .noat "Listed" "texts") rfl)
    cases hf)⟩
  have cEnded : C0 K mg "Ended" ["signs", "sign", "least", "most"] := ⟨He.glo_ok X G (c.fact 18 (f := .glo "Ended") rfl), He.cls_ok (c.fact 110 (f := .cls "Ended") rfl), (fun f hf => by
    rcases List.mem_cons.mp hf with rfl | hf
    · exact He.noat_ok (c.fact 112 (f := .noat "Ended" "signs") rfl)
    rcases List.mem_cons.mp hf with rfl | hf
    · exact He.noat_ok (c.fact 113 (f := .noat "Ended" "sign") rfl)
    rcases List.mem_cons.mp hf with rfl | hf
    · exact He.noat_ok (c.fact 114 (f := .noat "Ended" "least") rfl)
    rcases List.mem_cons.mp hf with rfl | hf
    · exact He.noat_ok (c.fact 115 (f := .noat "Ended" "most") rfl)
    cases hf)⟩
  have cMarked : C0 K mg "Marked" ["none", "mark", "field"] := ⟨He.glo_ok X G (c.fact 19 (f := .glo "Marked") rfl), He.cls_ok (c.fact 122 (f := .cls "Marked") rfl), (fun f hf => by
    rcases List.mem_cons.mp hf with rfl | hf
    · exact He.noat_ok (c.fact 124 (f := .noat "Marked" "none") rfl)
    rcases List.mem_cons.mp hf with rfl | hf
    · exact He.noat_ok (c.fact 125 (f := .noat "Marked" "mark") rfl)
    rcases List.mem_cons.mp hf with rfl | hf
    · exact He.noat_ok (c.fact 126 (f := .noat "Marked" "field") rfl)
    cases hf)⟩
  have g3 : G3 P w K mg base := ⟨g2, Af6, Af7, Af8, cWord, cNumber, cFixed, cListed, cEnded, cMarked⟩
  have g4 : G4 P w K mg base := ⟨g3, fun i hi => (more i hi).1, He.eqO_ok z5, of_decide_eq_true z6, fun i j hi hj => (more i hi).2.2.2.2 j hj, fun j hj => (more j hj).2.1, fun j hj => (more j hj).2.2.1⟩
  obtain ⟨fdhWord, FhWord⟩ := c.def_ 28 (d := ⟨("Word", some "has_sign"), "has_sign", "Word.has_sign", defArgs (inClass (top 33) 7), defBody (inClass (top 33) 7), defScope (inClass (top 33) 7), [], []⟩) rfl
  obtain ⟨fdeWord, FeWord⟩ := c.def_ 27 (d := ⟨("Word", some "__eq__"), "__eq__", "Word.__eq__", defArgs (inClass (top 33) 1), defBody (inClass (top 33) 1), defScope (inClass (top 33) 1), [], []⟩) rfl
  have hWord : HM P w K mg base 2 (ca K 0) "has_sign" ["self", "sign"] (spHasWord K) := ⟨He.meth_ok (c.fact 76 (f := .meth "Word" "has_sign") rfl), fdhWord, ok_Word_has FhWord g3, FunD.bindsN (ps := ["self", "sign"]) FhWord (fun _ _ _ _ _ _ us hl => match us, hl with | [_, _], _ => rfl)⟩
  have qWord : EQ P w K mg base (ca K 0) (spEqWord K) := ⟨fdeWord, ok_Word_eq FeWord g4, FunD.bindsN (ps := ["self", "other"]) FeWord (fun _ _ _ _ _ _ us hl => match us, hl with | [_, _], _ => rfl)⟩
  obtain ⟨fdhNumber, FhNumber⟩ := c.def_ 36 (d := ⟨("Number", some "has_sign"), "has_sign", "Number.has_sign", defArgs (inClass (top 34) 7), defBody (inClass (top 34) 7), defScope (inClass (top 34) 7), [], []⟩) rfl
  obtain ⟨fdeNumber, FeNumber⟩ := c.def_ 35 (d := ⟨("Number", some "__eq__"), "__eq__", "Number.__eq__", defArgs (inClass (top 34) 1), defBody (inClass (top 34) 1), defScope (inClass (top 34) 1), [], []⟩) rfl
  have hNumber : HM P w K mg base 2 (ca K 1) "has_sign" ["self", "sign"] (spHasNumber K) := ⟨He.meth_ok (c.fact 86 (f := .meth "Number" "has_sign") rfl), fdhNumber, ok_Number_has FhNumber g3, FunD.bindsN (ps := ["self", "sign"]) FhNumber (fun _ _ _ _ _ _ us hl => match us, hl with | [_, _], _ => rfl)⟩
  have qNumber : EQ P w K mg base (ca K 1) (spEqNumber K) := ⟨fdeNumber, ok_Number_eq FeNumber g4, FunD.bindsN (ps := ["self", "other"]) FeNumber (fun _ _ _ _ _ _ us hl => match us, hl with | [_, _], _ => rfl)⟩
  obtain ⟨fdhFixed, FhFixed⟩ := c.def_ 44 (d := ⟨("Fixed", some "has_sign"), "has_sign", "Fixed.has_sign", defArgs (inClass (top 35) 7), defBody (inClass (top 35) 7), defScope (inClass (top 35) 7), [], []⟩) rfl
  obtain ⟨fdeFixed, FeFixed⟩ := c.def_ 43 (d := ⟨("Fixed", some "__eq__"), "__eq__", "Fixed.__eq__", defArgs (inClass (top 35) 1), defBody (inClass (top 35) 1), defScope (inClass (top 35) 1), [], []⟩) rfl
  have hFixed : HM P w K mg base 2 (ca K 2) "has_sign" ["self", "sign"] (spHasFixed K) := ⟨He.meth_ok (c.fact 95 (f := .meth "Fixed" "has_sign") rfl), fdhFixed, ok_Fixed_has FhFixed g3, FunD.bindsN (ps := ["self", "sign"]) FhFixed (fun _ _ _ _ _ _ us hl => match us, hl with | [_, _], _ => rfl)⟩
  have qFixed : EQ P w K mg base (ca K 2) (spEqFixed K) := ⟨fdeFixed, ok_Fixed_eq FeFixed g4, FunD.bindsN (ps := ["self", "other"]) FeFixed (fun _ _ _ _ _ _ us hl => match us, hl with | [_, _], _ => rfl)⟩
  obtain ⟨fdhListed, FhListed⟩ := c.def_ 52 (d := ⟨("Listed", some "has_sign"), "has_sign", "Listed.has_sign", defArgs (inClass (top 36) 7), defBody (inClass (top 36) 7), defScope (inClass (top 36) 7), [], []⟩) rfl
  obtain ⟨fdeListed, FeListed⟩ := c.def_ 51 (d := ⟨("Listed", some "__eq__"), "__eq__", "Listed.__eq__", defArgs (inClass (top 36) 1), defBody (inClass (top 36) 1), defScope (inClass (top 36) 1), [], []⟩) rfl
  have hListed : HM P w K mg base 2 (ca K 3) "has_sign" ["self", "sign"] (spHasListed K) := ⟨He.meth_ok (c.fact 104 (f := .meth "Listed" "has_sign") rfl), fdhListed, ok_Listed_has FhListed g3, FunD.bindsN (ps := ["self", "sign"]) FhListed (fun _ _ _ _ _ _ us hl => match us, hl with | [_, _], _ => rfl)⟩
  have qListed : EQ P w K mg base (ca K 3) (spEqListed K) := ⟨fdeListed, ok_Listed_eq FeListed g4, FunD.bindsN (ps := ["self", "other"]) FeListed (fun _ _ _ _ _ _ us hl => match us, hl with | [_, _], _ => rfl)⟩
  obtain ⟨fdhEnded, FhEnded⟩ := c.def_ 60 (d := ⟨("Ended", some "has_sign"), "has_sign", "Ended.has_sign", defArgs (inClass (top 37) 7), defBody (inClass (top 37) 7), defScope (inClass (top 37) 7), [], []⟩) rfl
  obtain ⟨fdeEnded, FeEnded⟩ := c.def_ 59 (d := ⟨("Ended", some "__eq__"), "__eq__", "Ended.__eq__", defArgs (inClass (top 37) 1), defBody (inClass (top 37) 1), defScope (inClass (top 37) 1), [], []⟩) rfl
  have hEnded : HM P w K mg base 2 (ca K 4) "has_sign" ["self", "sign"] (spHasEnded K) := ⟨He.meth_ok (c.fact 116 (f := .meth "Ended" "has_sign") rfl), fdhEnded, ok_Ended_has FhEnded g3, FunD.bindsN (ps := ["self", "sign"]) FhEnded (fun _ _ _ _ _ _ us hl => match us, hl with | [_, _], _ => rfl)⟩
  have qEnded : EQ P w K mg base (ca K 4) (spEqEnded K) := ⟨fdeEnded, ok_Ended_eq FeEnded g4, FunD.bindsN (ps := ["self", "other"]) FeEnded (fun _ _ _ _ _ _ us hl => match us, hl with | [_, _], _ => rfl)⟩
  have g5 : G5 P w K mg base := ⟨g4, hWord, qWord, hNumber, qNumber, hFixed, qFixed, hListed, qListed, hEnded, qEnded⟩
  obtain ⟨fdp1, Fp1⟩ := c.def_ 83 (d := ⟨("is_within", none), "is_within", "is_within", defArgs (top 30), defBody (top 30), defScope (top 30), [], []⟩) rfl
  have Ap1 : FnAt P w K mg base CX0 1 "is_within" ["field", "amount"] _ := ⟨_, fdp1, He.glo_ok X G (c.fact 30 (f := .glo "is_within") rfl), Fp1.kp, ok_is_within Fp1 g0, FunD.bindsN (ps := ["field", "amount"]) Fp1 (fun _ _ _ _ _ _ us hl => match us, hl with | [_, _], _ => rfl)⟩
  obtain ⟨fdp0, Fp0⟩ := c.def_ 77 (d := ⟨("is_numeral", none), "is_numeral", "is_numeral", defArgs (top 23), defBody (top 23), defScope (top 23), [], []⟩) rfl
  have Ap0 : FnAt P w K mg base CX0 2 "is_numeral" ["text"] _ := ⟨_, fdp0, He.glo_ok X G (c.fact 24 (f := .glo "is_numeral") rfl), Fp0.kp, ok_is_numeral Fp0 g1, FunD.bindsN (ps := ["text"]) Fp0 (fun _ _ _ _ _ _ us hl => match us, hl with | [_], _ => rfl)⟩
  obtain ⟨fdp2, Fp2⟩ := c.def_ 79 (d := ⟨("number_of", none), "number_of", "number_of", defArgs (top 25), defBody (top 25), defScope (top 25), [], []⟩) rfl
  have Ap2 : FnAt P w K mg base CX0 1 "number_of" ["digits"] _ := ⟨_, fdp2, He.glo_ok X G (c.fact 26 (f := .glo "number_of") rfl), Fp2.kp, ok_number_of Fp2 g0, FunD.bindsN (ps := ["digits"]) Fp2 (fun _ _ _ _ _ _ us hl => match us, hl with | [_], _ => rfl)⟩
  have q1 : P1 P w K mg base := ⟨g5, Ap1, Ap0, Ap2⟩
  obtain ⟨fdp3, Fp3⟩ := c.def_ 80 (d := ⟨("greatest_of", none), "greatest_of", "greatest_of", defArgs (top 26), defBody (top 26), defScope (top 26), [], []⟩) rfl
  have Ap3 : FnAt P w K mg base CX0 2 "greatest_of" ["width"] _ := ⟨_, fdp3, He.glo_ok X G (c.fact 27 (f := .glo "greatest_of") rfl), Fp3.kp, ok_greatest_of Fp3 q1, FunD.bindsN (ps := ["width"]) Fp3 (fun _ _ _ _ _ _ us hl => match us, hl with | [_], _ => rfl)⟩
  obtain ⟨fdp4, Fp4⟩ := c.def_ 84 (d := ⟨("is_word_of", none), "is_word_of", "is_word_of", defArgs (top 31), defBody (top 31), defScope (top 31), [], []⟩) rfl
  have Ap4 : FnAt P w K mg base CX0 2 "is_word_of" ["field", "thing"] _ := ⟨_, fdp4, He.glo_ok X G (c.fact 31 (f := .glo "is_word_of") rfl), Fp4.kp, ok_is_word_of Fp4 q1, FunD.bindsN (ps := ["field", "thing"]) Fp4 (fun _ _ _ _ _ _ us hl => match us, hl with | [_, _], _ => rfl)⟩
  have q2 : P2 P w K mg base := ⟨q1, Ap3, Ap4⟩
  obtain ⟨fdmhvWord, FmhvWord⟩ := c.def_ 29 (d := ⟨("Word", some "has_value"), "has_value", "Word.has_value", defArgs (inClass (top 33) 2), defBody (inClass (top 33) 2), defScope (inClass (top 33) 2), [], []⟩) rfl
  have hvWord : HM P w K mg base 3 (ca K 0) "has_value" ["self", "thing"] (spHVWord K) := ⟨He.meth_ok (c.fact 77 (f := .meth "Word" "has_value") rfl), fdmhvWord, (ok_Word_has_value FmhvWord q2).mono (by decide), FunD.bindsN (ps := ["self", "thing"]) FmhvWord (fun _ _ _ _ _ _ us hl => match us, hl with | [_, _], _ => rfl)⟩
  obtain ⟨fdmhvNumber, FmhvNumber⟩ := c.def_ 37 (d := ⟨("Number", some "has_value"), "has_value", "Number.has_value", defArgs (inClass (top 34) 2), defBody (inClass (top 34) 2), defScope (inClass (top 34) 2), [], []⟩) rfl
  have hvNumber : HM P w K mg base 3 (ca K 1) "has_value" ["self", "thing"] (spHVNumber K) := ⟨He.meth_ok (c.fact 87 (f := .meth "Number" "has_value") rfl), fdmhvNumber, (ok_Number_has_value FmhvNumber q2).mono (by decide), FunD.bindsN (ps := ["self", "thing"]) FmhvNumber (fun _ _ _ _ _ _ us hl => match us, hl with | [_, _], _ => rfl)⟩
  obtain ⟨fdmhvFixed, FmhvFixed⟩ := c.def_ 45 (d := ⟨("Fixed", some "has_value"), "has_value", "Fixed.has_value", defArgs (inClass (top 35) 2), defBody (inClass (top 35) 2), defScope (inClass (top 35) 2), [], []⟩) rfl
  have hvFixed : HM P w K mg base 3 (ca K 2) "has_value" ["self", "thing"] (spHVFixed K) := ⟨He.meth_ok (c.fact 96 (f := .meth "Fixed" "has_value") rfl), fdmhvFixed, (ok_Fixed_has_value FmhvFixed q2).mono (by decide), FunD.bindsN (ps := ["self", "thing"]) FmhvFixed (fun _ _ _ _ _ _ us hl => match us, hl with | [_, _], _ => rfl)⟩
  obtain ⟨fdmhvListed, FmhvListed⟩ := c.def_ 53 (d := ⟨("Listed", some "has_value"), "has_value", "Listed.has_value", defArgs (inClass (top 36) 2), defBody (inClass (top 36) 2), defScope (inClass (top 36) 2), [], []⟩) rfl
  have hvListed : HM P w K mg base 3 (ca K 3) "has_value" ["self", "thing"] (spHVListed K) := ⟨He.meth_ok (c.fact 105 (f := .meth "Listed" "has_value") rfl), fdmhvListed, (ok_Listed_has_value FmhvListed q2).mono (by decide), FunD.bindsN (ps := ["self", "thing"]) FmhvListed (fun _ _ _ _ _ _ us hl => match us, hl with | [_, _], _ => rfl)⟩
  obtain ⟨fdmhvEnded, FmhvEnded⟩ := c.def_ 61 (d := ⟨("Ended", some "has_value"), "has_value", "Ended.has_value", defArgs (inClass (top 37) 2), defBody (inClass (top 37) 2), defScope (inClass (top 37) 2), [], []⟩) rfl
  have hvEnded : HM P w K mg base 3 (ca K 4) "has_value" ["self", "thing"] (spHVEnded K) := ⟨He.meth_ok (c.fact 117 (f := .meth "Ended" "has_value") rfl), fdmhvEnded, (ok_Ended_has_value FmhvEnded q2).mono (by decide), FunD.bindsN (ps := ["self", "thing"]) FmhvEnded (fun _ _ _ _ _ _ us hl => match us, hl with | [_, _], _ => rfl)⟩
  obtain ⟨fdmtfWord, FmtfWord⟩ := c.def_ 30 (d := ⟨("Word", some "text_for"), "text_for", "Word.text_for", defArgs (inClass (top 33) 3), defBody (inClass (top 33) 3), defScope (inClass (top 33) 3), [], []⟩) rfl
  have tfWord : HM P w K mg base 3 (ca K 0) "text_for" ["self", "value"] (spTFWord K) := ⟨He.meth_ok (c.fact 78 (f := .meth "Word" "text_for") rfl), fdmtfWord, (ok_Word_text_for FmtfWord q2).mono (by decide), FunD.bindsN (ps := ["self", "value"]) FmtfWord (fun _ _ _ _ _ _ us hl => match us, hl with | [_, _], _ => rfl)⟩
  obtain ⟨fdmtfNumber, FmtfNumber⟩ := c.def_ 38 (d := ⟨("Number", some "text_for"), "text_for", "Number.text_for", defArgs (inClass (top 34) 3), defBody (inClass (top 34) 3), defScope (inClass (top 34) 3), [], []⟩) rfl
  have tfNumber : HM P w K mg base 3 (ca K 1) "text_for" ["self", "value"] (spTFNumber K) := ⟨He.meth_ok (c.fact 88 (f := .meth "Number" "text_for") rfl), fdmtfNumber, (ok_Number_text_for FmtfNumber q2).mono (by decide), FunD.bindsN (ps := ["self", "value"]) FmtfNumber (fun _ _ _ _ _ _ us hl => match us, hl with | [_, _], _ => rfl)⟩
  obtain ⟨fdmtfFixed, FmtfFixed⟩ := c.def_ 46 (d := ⟨("Fixed", some "text_for"), "text_for", "Fixed.text_for", defArgs (inClass (top 35) 3), defBody (inClass (top 35) 3), defScope (inClass (top 35) 3), [], []⟩) rfl
  have tfFixed : HM P w K mg base 3 (ca K 2) "text_for" ["self", "value"] (spTFFixed K) := ⟨He.meth_ok (c.fact 97 (f := .meth "Fixed" "text_for") rfl), fdmtfFixed, (ok_Fixed_text_for FmtfFixed q2).mono (by decide), FunD.bindsN (ps := ["self", "value"]) FmtfFixed (fun _ _ _ _ _ _ us hl => match us, hl with | [_, _], _ => rfl)⟩
  obtain ⟨fdmtfListed, FmtfListed⟩ := c.def_ 54 (d := ⟨("Listed", some "text_for"), "text_for", "Listed.text_for", defArgs (inClass (top 36) 3), defBody (inClass (top 36) 3), defScope (inClass (top 36) 3), [], []⟩) rfl
  have tfListed : HM P w K mg base 3 (ca K 3) "text_for" ["self", "value"] (spTFListed K) := ⟨He.meth_ok (c.fact 106 (f := .meth "Listed" "text_for") rfl), fdmtfListed, (ok_Listed_text_for FmtfListed q2).mono (by decide), FunD.bindsN (ps := ["self", "value"]) FmtfListed (fun _ _ _ _ _ _ us hl => match us, hl with | [_, _], _ => rfl)⟩
  obtain ⟨fdmtfEnded, FmtfEnded⟩ := c.def_ 62 (d := ⟨("Ended", some "text_for"), "text_for", "Ended.text_for", defArgs (inClass (top 37) 3), defBody (inClass (top 37) 3), defScope (inClass (top 37) 3), [], []⟩) rfl
  have tfEnded : HM P w K mg base 3 (ca K 4) "text_for" ["self", "value"] (spTFEnded K) := ⟨He.meth_ok (c.fact 118 (f := .meth "Ended" "text_for") rfl), fdmtfEnded, (ok_Ended_text_for FmtfEnded q2).mono (by decide), FunD.bindsN (ps := ["self", "value"]) FmtfEnded (fun _ _ _ _ _ _ us hl => match us, hl with | [_, _], _ => rfl)⟩
  obtain ⟨fdmhtWord, FmhtWord⟩ := c.def_ 31 (d := ⟨("Word", some "has_text"), "has_text", "Word.has_text", defArgs (inClass (top 33) 4), defBody (inClass (top 33) 4), defScope (inClass (top 33) 4), [], []⟩) rfl
  have htWord : HM P w K mg base 3 (ca K 0) "has_text" ["self", "text"] (spHTWord K) := ⟨He.meth_ok (c.fact 79 (f := .meth "Word" "has_text") rfl), fdmhtWord, (ok_Word_has_text FmhtWord q2).mono (by decide), FunD.bindsN (ps := ["self", "text"]) FmhtWord (fun _ _ _ _ _ _ us hl => match us, hl with | [_, _], _ => rfl)⟩
  obtain ⟨fdmhtNumber, FmhtNumber⟩ := c.def_ 39 (d := ⟨("Number", some "has_text"), "has_text", "Number.has_text", defArgs (inClass (top 34) 4), defBody (inClass (top 34) 4), defScope (inClass (top 34) 4), [], []⟩) rfl
  have htNumber : HM P w K mg base 3 (ca K 1) "has_text" ["self", "text"] (spHTNumber K) := ⟨He.meth_ok (c.fact 89 (f := .meth "Number" "has_text") rfl), fdmhtNumber, (ok_Number_has_text FmhtNumber q2).mono (by decide), FunD.bindsN (ps := ["self", "text"]) FmhtNumber (fun _ _ _ _ _ _ us hl => match us, hl with | [_, _], _ => rfl)⟩
  obtain ⟨fdmhtFixed, FmhtFixed⟩ := c.def_ 47 (d := ⟨("Fixed", some "has_text"), "has_text", "Fixed.has_text", defArgs (inClass (top 35) 4), defBody (inClass (top 35) 4), defScope (inClass (top 35) 4), [], []⟩) rfl
  have htFixed : HM P w K mg base 3 (ca K 2) "has_text" ["self", "text"] (spHTFixed K) := ⟨He.meth_ok (c.fact 98 (f := .meth "Fixed" "has_text") rfl), fdmhtFixed, (ok_Fixed_has_text FmhtFixed q2).mono (by decide), FunD.bindsN (ps := ["self", "text"]) FmhtFixed (fun _ _ _ _ _ _ us hl => match us, hl with | [_, _], _ => rfl)⟩
  obtain ⟨fdmhtListed, FmhtListed⟩ := c.def_ 55 (d := ⟨("Listed", some "has_text"), "has_text", "Listed.has_text", defArgs (inClass (top 36) 4), defBody (inClass (top 36) 4), defScope (inClass (top 36) 4), [], []⟩) rfl
  have htListed : HM P w K mg base 3 (ca K 3) "has_text" ["self", "text"] (spHTListed K) := ⟨He.meth_ok (c.fact 107 (f := .meth "Listed" "has_text") rfl), fdmhtListed, (ok_Listed_has_text FmhtListed q2).mono (by decide), FunD.bindsN (ps := ["self", "text"]) FmhtListed (fun _ _ _ _ _ _ us hl => match us, hl with | [_, _], _ => rfl)⟩
  obtain ⟨fdmhtEnded, FmhtEnded⟩ := c.def_ 63 (d := ⟨("Ended", some "has_text"), "has_text", "Ended.has_text", defArgs (inClass (top 37) 4), defBody (inClass (top 37) 4), defScope (inClass (top 37) 4), [], []⟩) rfl
  have htEnded : HM P w K mg base 3 (ca K 4) "has_text" ["self", "text"] (spHTEnded K) := ⟨He.meth_ok (c.fact 119 (f := .meth "Ended" "has_text") rfl), fdmhtEnded, (ok_Ended_has_text FmhtEnded q2).mono (by decide), FunD.bindsN (ps := ["self", "text"]) FmhtEnded (fun _ _ _ _ _ _ us hl => match us, hl with | [_, _], _ => rfl)⟩
  obtain ⟨fdmvfWord, FmvfWord⟩ := c.def_ 32 (d := ⟨("Word", some "value_for"), "value_for", "Word.value_for", defArgs (inClass (top 33) 5), defBody (inClass (top 33) 5), defScope (inClass (top 33) 5), [], []⟩) rfl
  have vfWord : HM P w K mg base 3 (ca K 0) "value_for" ["self", "text"] (spVFWord K) := ⟨He.meth_ok (c.fact 80 (f := .meth "Word" "value_for") rfl), fdmvfWord, (ok_Word_value_for FmvfWord q2).mono (by decide), FunD.bindsN (ps := ["self", "text"]) FmvfWord (fun _ _ _ _ _ _ us hl => match us, hl with | [_, _], _ => rfl)⟩
  obtain ⟨fdmvfNumber, FmvfNumber⟩ := c.def_ 40 (d := ⟨("Number", some "value_for"), "value_for", "Number.value_for", defArgs (inClass (top 34) 5), defBody (inClass (top 34) 5), defScope (inClass (top 34) 5), [], []⟩) rfl
  have vfNumber : HM P w K mg base 3 (ca K 1) "value_for" ["self", "text"] (spVFNumber K) := ⟨He.meth_ok (c.fact 90 (f := .meth "Number" "value_for") rfl), fdmvfNumber, (ok_Number_value_for FmvfNumber q2).mono (by decide), FunD.bindsN (ps := ["self", "text"]) FmvfNumber (fun _ _ _ _ _ _ us hl => match us, hl with | [_, _], _ => rfl)⟩
  obtain ⟨fdmvfFixed, FmvfFixed⟩ := c.def_ 48 (d := ⟨("Fixed", some "value_for"), "value_for", "Fixed.value_for", defArgs (inClass (top 35) 5), defBody (inClass (top 35) 5), defScope (inClass (top 35) 5), [], []⟩) rfl
  have vfFixed : HM P w K mg base 3 (ca K 2) "value_for" ["self", "text"] (spVFFixed K) := ⟨He.meth_ok (c.fact 99 (f := .meth "Fixed" "value_for") rfl), fdmvfFixed, (ok_Fixed_value_for FmvfFixed q2).mono (by decide), FunD.bindsN (ps := ["self", "text"]) FmvfFixed (fun _ _ _ _ _ _ us hl => match us, hl with | [_, _], _ => rfl)⟩
  obtain ⟨fdmvfListed, FmvfListed⟩ := c.def_ 56 (d := ⟨("Listed", some "value_for"), "value_for", "Listed.value_for", defArgs (inClass (top 36) 5), defBody (inClass (top 36) 5), defScope (inClass (top 36) 5), [], []⟩) rfl
  have vfListed : HM P w K mg base 3 (ca K 3) "value_for" ["self", "text"] (spVFListed K) := ⟨He.meth_ok (c.fact 108 (f := .meth "Listed" "value_for") rfl), fdmvfListed, (ok_Listed_value_for FmvfListed q2).mono (by decide), FunD.bindsN (ps := ["self", "text"]) FmvfListed (fun _ _ _ _ _ _ us hl => match us, hl with | [_, _], _ => rfl)⟩
  obtain ⟨fdmvfEnded, FmvfEnded⟩ := c.def_ 64 (d := ⟨("Ended", some "value_for"), "value_for", "Ended.value_for", defArgs (inClass (top 37) 5), defBody (inClass (top 37) 5), defScope (inClass (top 37) 5), [], []⟩) rfl
  have vfEnded : HM P w K mg base 3 (ca K 4) "value_for" ["self", "text"] (spVFEnded K) := ⟨He.meth_ok (c.fact 120 (f := .meth "Ended" "value_for") rfl), fdmvfEnded, (ok_Ended_value_for FmvfEnded q2).mono (by decide), FunD.bindsN (ps := ["self", "text"]) FmvfEnded (fun _ _ _ _ _ _ us hl => match us, hl with | [_, _], _ => rfl)⟩
  obtain ⟨fdmpbWord, FmpbWord⟩ := c.def_ 33 (d := ⟨("Word", some "puts_before"), "puts_before", "Word.puts_before", defArgs (inClass (top 33) 6), defBody (inClass (top 33) 6), defScope (inClass (top 33) 6), [], []⟩) rfl
  have pbWord : HM P w K mg base 3 (ca K 0) "puts_before" ["self", "one", "other"] (spPBWord K) := ⟨He.meth_ok (c.fact 81 (f := .meth "Word" "puts_before") rfl), fdmpbWord, (ok_Word_puts_before FmpbWord q2).mono (by decide), FunD.bindsN (ps := ["self", "one", "other"]) FmpbWord (fun _ _ _ _ _ _ us hl => match us, hl with | [_, _, _], _ => rfl)⟩
  obtain ⟨fdmpbNumber, FmpbNumber⟩ := c.def_ 41 (d := ⟨("Number", some "puts_before"), "puts_before", "Number.puts_before", defArgs (inClass (top 34) 6), defBody (inClass (top 34) 6), defScope (inClass (top 34) 6), [], []⟩) rfl
  have pbNumber : HM P w K mg base 3 (ca K 1) "puts_before" ["self", "one", "other"] (spPBNumber K) := ⟨He.meth_ok (c.fact 91 (f := .meth "Number" "puts_before") rfl), fdmpbNumber, (ok_Number_puts_before FmpbNumber q2).mono (by decide), FunD.bindsN (ps := ["self", "one", "other"]) FmpbNumber (fun _ _ _ _ _ _ us hl => match us, hl with | [_, _, _], _ => rfl)⟩
  obtain ⟨fdmpbFixed, FmpbFixed⟩ := c.def_ 49 (d := ⟨("Fixed", some "puts_before"), "puts_before", "Fixed.puts_before", defArgs (inClass (top 35) 6), defBody (inClass (top 35) 6), defScope (inClass (top 35) 6), [], []⟩) rfl
  have pbFixed : HM P w K mg base 3 (ca K 2) "puts_before" ["self", "one", "other"] (spPBFixed K) := ⟨He.meth_ok (c.fact 100 (f := .meth "Fixed" "puts_before") rfl), fdmpbFixed, (ok_Fixed_puts_before FmpbFixed q2).mono (by decide), FunD.bindsN (ps := ["self", "one", "other"]) FmpbFixed (fun _ _ _ _ _ _ us hl => match us, hl with | [_, _, _], _ => rfl)⟩
  obtain ⟨fdmpbListed, FmpbListed⟩ := c.def_ 57 (d := ⟨("Listed", some "puts_before"), "puts_before", "Listed.puts_before", defArgs (inClass (top 36) 6), defBody (inClass (top 36) 6), defScope (inClass (top 36) 6), [], []⟩) rfl
  have pbListed : HM P w K mg base 3 (ca K 3) "puts_before" ["self", "one", "other"] (spPBListed K) := ⟨He.meth_ok (c.fact 109 (f := .meth "Listed" "puts_before") rfl), fdmpbListed, (ok_Listed_puts_before FmpbListed q2).mono (by decide), FunD.bindsN (ps := ["self", "one", "other"]) FmpbListed (fun _ _ _ _ _ _ us hl => match us, hl with | [_, _, _], _ => rfl)⟩
  obtain ⟨fdmpbEnded, FmpbEnded⟩ := c.def_ 65 (d := ⟨("Ended", some "puts_before"), "puts_before", "Ended.puts_before", defArgs (inClass (top 37) 6), defBody (inClass (top 37) 6), defScope (inClass (top 37) 6), [], []⟩) rfl
  have pbEnded : HM P w K mg base 3 (ca K 4) "puts_before" ["self", "one", "other"] (spPBEnded K) := ⟨He.meth_ok (c.fact 121 (f := .meth "Ended" "puts_before") rfl), fdmpbEnded, (ok_Ended_puts_before FmpbEnded q2).mono (by decide), FunD.bindsN (ps := ["self", "one", "other"]) FmpbEnded (fun _ _ _ _ _ _ us hl => match us, hl with | [_, _, _], _ => rfl)⟩
  have q3 : P3 P w K mg base := { toP2 := q2, hvWord := hvWord, hvNumber := hvNumber, hvFixed := hvFixed, hvListed := hvListed, hvEnded := hvEnded, tfWord := tfWord, tfNumber := tfNumber, tfFixed := tfFixed, tfListed := tfListed, tfEnded := tfEnded, htWord := htWord, htNumber := htNumber, htFixed := htFixed, htListed := htListed, htEnded := htEnded, vfWord := vfWord, vfNumber := vfNumber, vfFixed := vfFixed, vfListed := vfListed, vfEnded := vfEnded, pbWord := pbWord, pbNumber := pbNumber, pbFixed := pbFixed, pbListed := pbListed, pbEnded := pbEnded }
  have q4 : P4 P w K mg base := ⟨q3⟩
  obtain ⟨fdmhvMarked, FmhvMarked⟩ := c.def_ 68 (d := ⟨("Marked", some "has_value"), "has_value", "Marked.has_value", defArgs (inClass (top 38) 2), defBody (inClass (top 38) 2), defScope (inClass (top 38) 2), [], []⟩) rfl
  have hvMarked : HM P w K mg base 4 (ca K 5) "has_value" ["self", "thing"] (spMHV K) := ⟨He.meth_ok (c.fact 127 (f := .meth "Marked" "has_value") rfl), fdmhvMarked, (ok_Marked_has_value FmhvMarked q4).mono (by decide), FunD.bindsN (ps := ["self", "thing"]) FmhvMarked (fun _ _ _ _ _ _ us hl => match us, hl with | [_, _], _ => rfl)⟩
  obtain ⟨fdmtfMarked, FmtfMarked⟩ := c.def_ 69 (d := ⟨("Marked", some "text_for"), "text_for", "Marked.text_for", defArgs (inClass (top 38) 3), defBody (inClass (top 38) 3), defScope (inClass (top 38) 3), [], []⟩) rfl
  have tfMarked : HM P w K mg base 4 (ca K 5) "text_for" ["self", "value"] (spMTF K) := ⟨He.meth_ok (c.fact 128 (f := .meth "Marked" "text_for") rfl), fdmtfMarked, (ok_Marked_text_for FmtfMarked q4).mono (by decide), FunD.bindsN (ps := ["self", "value"]) FmtfMarked (fun _ _ _ _ _ _ us hl => match us, hl with | [_, _], _ => rfl)⟩
  obtain ⟨fdmhtMarked, FmhtMarked⟩ := c.def_ 70 (d := ⟨("Marked", some "has_text"), "has_text", "Marked.has_text", defArgs (inClass (top 38) 4), defBody (inClass (top 38) 4), defScope (inClass (top 38) 4), [], []⟩) rfl
  have htMarked : HM P w K mg base 4 (ca K 5) "has_text" ["self", "text"] (spMHT K) := ⟨He.meth_ok (c.fact 129 (f := .meth "Marked" "has_text") rfl), fdmhtMarked, (ok_Marked_has_text FmhtMarked q4).mono (by decide), FunD.bindsN (ps := ["self", "text"]) FmhtMarked (fun _ _ _ _ _ _ us hl => match us, hl with | [_, _], _ => rfl)⟩
  obtain ⟨fdmvfMarked, FmvfMarked⟩ := c.def_ 71 (d := ⟨("Marked", some "value_for"), "value_for", "Marked.value_for", defArgs (inClass (top 38) 5), defBody (inClass (top 38) 5), defScope (inClass (top 38) 5), [], []⟩) rfl
  have vfMarked : HM P w K mg base 4 (ca K 5) "value_for" ["self", "text"] (spMVF K) := ⟨He.meth_ok (c.fact 130 (f := .meth "Marked" "value_for") rfl), fdmvfMarked, (ok_Marked_value_for FmvfMarked q4).mono (by decide), FunD.bindsN (ps := ["self", "text"]) FmvfMarked (fun _ _ _ _ _ _ us hl => match us, hl with | [_, _], _ => rfl)⟩
  obtain ⟨fdmpbMarked, FmpbMarked⟩ := c.def_ 72 (d := ⟨("Marked", some "puts_before"), "puts_before", "Marked.puts_before", defArgs (inClass (top 38) 6), defBody (inClass (top 38) 6), defScope (inClass (top 38) 6), [], []⟩) rfl
  have pbMarked : HM P w K mg base 4 (ca K 5) "puts_before" ["self", "one", "other"] (spMPB K) := ⟨He.meth_ok (c.fact 131 (f := .meth "Marked" "puts_before") rfl), fdmpbMarked, (ok_Marked_puts_before FmpbMarked q4).mono (by decide), FunD.bindsN (ps := ["self", "one", "other"]) FmpbMarked (fun _ _ _ _ _ _ us hl => match us, hl with | [_, _, _], _ => rfl)⟩
  have q5 : P5 P w K mg base := ⟨q4, fNoValue, fNoText, hvMarked, tfMarked, htMarked, vfMarked, pbMarked⟩
  obtain ⟨fdp5, Fp5⟩ := c.def_ 86 (d := ⟨("check_value", none), "check_value", "check_value", defArgs (top 39), defBody (top 39), defScope (top 39), [], []⟩) rfl
  have Ap5 : FnAt P w K mg base (L2.CX P w) 5 "check_value" ["field", "thing"] _ := ⟨_, fdp5, He.glo_ok X G (c.fact 33 (f := .glo "check_value") rfl), Fp5.kp, ok_check_value Fp5 q5, FunD.bindsN (ps := ["field", "thing"]) Fp5 (fun _ _ _ _ _ _ us hl => match us, hl with | [_, _], _ => rfl)⟩
  have q6 : P6 P w K mg base := ⟨q5, Ap5⟩
  obtain ⟨fdp6, Fp6⟩ := c.def_ 87 (d := ⟨("text_of", none), "text_of", "text_of", defArgs (top 40), defBody (top 40), defScope (top 40), [], []⟩) rfl
  have Ap6 : FnAt P w K mg base (L2.CX P w) 6 "text_of" ["field", "value"] (spTextOf K) := ⟨_, fdp6, He.glo_ok X G (c.fact 34 (f := .glo "text_of") rfl), Fp6.kp, ok_text_of Fp6 q6, FunD.bindsN (ps := ["field", "value"]) Fp6 (fun _ _ _ _ _ _ us hl => match us, hl with | [_, _], _ => rfl)⟩
  have Bp6 : FnKw P w K mg base (L2.CX P w) 6 "text_of" ["field", "value"] ["value", "field"] [1, 0] (spTextOf K) := ⟨_, fdp6, He.glo_ok X G (c.fact 34 (f := .glo "text_of") rfl), Fp6.kp, ok_text_of Fp6 q6, kbn_of Fp6 0 ["value", "field"] [1, 0] (fun _ _ _ _ _ _ us ws l1 l2 => match us, ws, l1, l2 with | [], [_, _], _, _ => rfl)⟩
  obtain ⟨fdp7, Fp7⟩ := c.def_ 88 (d := ⟨("value_of", none), "value_of", "value_of", defArgs (top 41), defBody (top 41), defScope (top 41), [], []⟩) rfl
  have Ap7 : FnAt P w K mg base (L2.CX P w) 5 "value_of" ["field", "text"] (spValueOf K) := ⟨_, fdp7, He.glo_ok X G (c.fact 35 (f := .glo "value_of") rfl), Fp7.kp, ok_value_of Fp7 q6, FunD.bindsN (ps := ["field", "text"]) Fp7 (fun _ _ _ _ _ _ us hl => match us, hl with | [_, _], _ => rfl)⟩
  have Bp7 : FnKw P w K mg base (L2.CX P w) 5 "value_of" ["field", "text"] ["text", "field"] [1, 0] (spValueOf K) := ⟨_, fdp7, He.glo_ok X G (c.fact 35 (f := .glo "value_of") rfl), Fp7.kp, ok_value_of Fp7 q6, kbn_of Fp7 0 ["text", "field"] [1, 0] (fun _ _ _ _ _ _ us ws l1 l2 => match us, ws, l1, l2 with | [], [_, _], _, _ => rfl)⟩
  obtain ⟨fdp8, Fp8⟩ := c.def_ 89 (d := ⟨("is_before", none), "is_before", "is_before", defArgs (top 42), defBody (top 42), defScope (top 42), [], []⟩) rfl
  have Ap8 : FnAt P w K mg base (L2.CX P w) 6 "is_before" ["field", "one", "other"] (spIsBef K) := ⟨_, fdp8, He.glo_ok X G (c.fact 36 (f := .glo "is_before") rfl), Fp8.kp, ok_is_before Fp8 q6, FunD.bindsN (ps := ["field", "one", "other"]) Fp8 (fun _ _ _ _ _ _ us hl => match us, hl with | [_, _, _], _ => rfl)⟩
  have Bp8 : FnKw P w K mg base (L2.CX P w) 6 "is_before" ["field", "one", "other"] ["other", "field", "one"] [1, 2, 0] (spIsBef K) := ⟨_, fdp8, He.glo_ok X G (c.fact 36 (f := .glo "is_before") rfl), Fp8.kp, ok_is_before Fp8 q6, kbn_of Fp8 0 ["other", "field", "one"] [1, 2, 0] (fun _ _ _ _ _ _ us ws l1 l2 => match us, ws, l1, l2 with | [], [_, _, _], _, _ => rfl)⟩
  obtain ⟨fdw1, Fw1⟩ := c.def_ 94 (d := ⟨("longer_words", none), "longer_words", "longer_words", defArgs (top 48), defBody (top 48), defScope (top 48), [], []⟩) rfl
  have Aw1 : FnAt P w K mg base CX0 1 "longer_words" ["signs", "words", "count"] _ := ⟨_, fdw1, He.glo_ok X G (c.fact 41 (f := .glo "longer_words") rfl), Fw1.kp, ok_longer Fw1 g0, FunD.bindsN (ps := ["signs", "words", "count"]) Fw1 (fun _ _ _ _ _ _ us hl => match us, hl with | [_, _, _], _ => rfl)⟩
  have glo : GLo P w K mg base := ⟨g0, Aw1, He.free_ok X G (c.fact 67 (f := .free "sorted") rfl)⟩
  have Adb : FnAt P w K mg base CX0 1 "digits_of" ["number"] spDigB := ⟨_, fdf4, He.glo_ok X G (c.fact 25 (f := .glo "digits_of") rfl), Ff4.kp, ok_digits_big Ff4 g0, FunD.bindsN (ps := ["number"]) Ff4 (fun _ _ _ _ _ _ us hl => match us, hl with | [_], _ => rfl)⟩
  have Agr : FnAt P w K mg base CX0 2 "greatest_of" ["width"] spGr := ⟨_, fdp3, He.glo_ok X G (c.fact 27 (f := .glo "greatest_of") rfl), Fp3.kp, ok_gr Fp3 Ap2, FunD.bindsN (ps := ["width"]) Fp3 (fun _ _ _ _ _ _ us hl => match us, hl with | [_], _ => rfl)⟩
  obtain ⟨fdw2, Fw2⟩ := c.def_ 92 (d := ⟨("least_numbers", none), "least_numbers", "least_numbers", defArgs (top 46), defBody (top 46), defScope (top 46), [], []⟩) rfl
  have Aw2 : FnAt P w K mg base CX0 1 "least_numbers" ["least", "most", "count"] _ := ⟨_, fdw2, He.glo_ok X G (c.fact 39 (f := .glo "least_numbers") rfl), Fw2.kp, ok_lnum Fw2 glo (He.free_ok X G (c.fact 68 (f := .free "min") rfl)), FunD.bindsN (ps := ["least", "most", "count"]) Fw2 (fun _ _ _ _ _ _ us hl => match us, hl with | [_, _, _], _ => rfl)⟩
  obtain ⟨fdw3, Fw3⟩ := c.def_ 93 (d := ⟨("least_words", none), "least_words", "least_words", defArgs (top 47), defBody (top 47), defScope (top 47), [], []⟩) rfl
  have Aw3 : FnAt P w K mg base CX0 2 "least_words" ["field", "count"] _ := ⟨_, fdw3, He.glo_ok X G (c.fact 40 (f := .glo "least_words") rfl), Fw3.kp, ok_least Fw3 glo, FunD.bindsN (ps := ["field", "count"]) Fw3 (fun _ _ _ _ _ _ us hl => match us, hl with | [_, _], _ => rfl)⟩
  obtain ⟨fdsf, Fsf⟩ := c.def_ 91 (d := ⟨("shorter_first", none), "shorter_first", "shorter_first", defArgs (top 45), defBody (top 45), defScope (top 45), [], []⟩) rfl
  obtain ⟨c0, hc0⟩ : ∃ c0, fdsf.code = .ref c0 := by
    obtain ⟨oc, od, dV, kV, doc, pm, an, cdv, ct, osl, rfl, lk, hcd, _, _⟩ := Fsf.ex
    exact He.codeIn_ref hcd
  have ecd : He.codeOf K ("shorter_first", none) = c0 := by
    obtain ⟨oc, od, dV, kV, doc, pm, an, cdv, ct, osl, rfl, lk, hcd, _, _⟩ := Fsf.ex
    exact He.codeOf_eq lk hc0
  have TB' : LamX.TabB base mg c0 (He.cT K ("shorter_first", none)).2 := by
    have e1 : (He.cT K ("shorter_first", none)).1 = c0 := ecd
    rw [e1] at TB
    exact TB
  have Asf : FnAt P w K mg base CX0 1 "shorter_first" ["texts"] (spShort K (He.cT K ("shorter_first", none)).2) := ⟨_, fdsf, He.glo_ok X G (c.fact 38 (f := .glo "shorter_first") rfl), Fsf.kp, ok_shorter Fsf glo hc0 TB', FunD.bindsN (ps := ["texts"]) Fsf (fun _ _ _ _ _ _ us hl => match us, hl with | [_], _ => rfl)⟩
  have glt : GLt P w K mg base (He.cT K ("shorter_first", none)).2 := { glo, g4 with digitsB := Adb, greatest_of := Agr, least_numbers := Aw2, least_words := Aw3, shorter_first := Asf }
  obtain ⟨fdlt, Flt⟩ := c.def_ 90 (d := ⟨("least_texts", none), "least_texts", "least_texts", defArgs (top 44), defBody (top 44), defScope (top 44), [], []⟩) rfl
  have L0 : FnAt P w K mg base CX0 (0 + 2) "least_texts" ["field", "count"] (spLt K (He.cT K ("shorter_first", none)).2 0) := ⟨_, fdlt, He.glo_ok X G (c.fact 37 (f := .glo "least_texts") rfl), Flt.kp, fn_never.imp fun vs H Q E h => (by obtain ⟨_, d, _, _, _, _, hd, _⟩ := h; exact absurd hd (Nat.not_lt_zero _)), FunD.bindsN (ps := ["field", "count"]) Flt (fun _ _ _ _ _ _ us hl => match us, hl with | [_, _], _ => rfl)⟩
  have L1 : FnAt P w K mg base CX0 (1 + 2) "least_texts" ["field", "count"] (spLt K (He.cT K ("shorter_first", none)).2 1) := ⟨_, fdlt, He.glo_ok X G (c.fact 37 (f := .glo "least_texts") rfl), Flt.kp, ok_lt Flt glt L0, FunD.bindsN (ps := ["field", "count"]) Flt (fun _ _ _ _ _ _ us hl => match us, hl with | [_, _], _ => rfl)⟩
  have L2' : FnAt P w K mg base CX0 4 "least_texts" ["field", "count"] (spLt K (He.cT K ("shorter_first", none)).2 2) := ⟨_, fdlt, He.glo_ok X G (c.fact 37 (f := .glo "least_texts") rfl), Flt.kp, ok_lt Flt glt L1, FunD.bindsN (ps := ["field", "count"]) Flt (fun _ _ _ _ _ _ us hl => match us, hl with | [_, _], _ => rfl)⟩
  have Blt : FnKw P w K mg base CX0 4 "least_texts" ["field", "count"] ["count", "field"] [1, 0] (spLt K (He.cT K ("shorter_first", none)).2 2) := ⟨_, fdlt, He.glo_ok X G (c.fact 37 (f := .glo "least_texts") rfl), Flt.kp, ok_lt Flt glt L1, kbn_of Flt 0 ["count", "field"] [1, 0] (fun _ _ _ _ _ _ us ws l1 l2 => match us, ws, l1, l2 with | [], [_, _], _, _ => rfl)⟩
  obtain ⟨fdk1, Fk1⟩ := c.def_ 98 (d := ⟨("begins_with_one", none), "begins_with_one", "begins_with_one", defArgs (top 52), defBody (top 52), defScope (top 52), [], []⟩) rfl
  have Ak1 : FnAt P w K mg base CX0 1 "begins_with_one" ["text", "beginnings"] _ := ⟨_, fdk1, He.glo_ok X G (c.fact 45 (f := .glo "begins_with_one") rfl), Fk1.kp, ok_bw Fk1 g4, FunD.bindsN (ps := ["text", "beginnings"]) Fk1 (fun _ _ _ _ _ _ us hl => match us, hl with | [_, _], _ => rfl)⟩
  have gk : GK P w K mg base := ⟨g4, Ak1⟩
  obtain ⟨fdk2, Fk2⟩ := c.def_ 97 (d := ⟨("has_whole_ends", none), "has_whole_ends", "has_whole_ends", defArgs (top 51), defBody (top 51), defScope (top 51), [], []⟩) rfl
  have Ak2 : FnAt P w K mg base CX0 2 "has_whole_ends" ["texts", "text"] _ := ⟨_, fdk2, He.glo_ok X G (c.fact 44 (f := .glo "has_whole_ends") rfl), Fk2.kp, ok_we Fk2 gk, FunD.bindsN (ps := ["texts", "text"]) Fk2 (fun _ _ _ _ _ _ us hl => match us, hl with | [_, _], _ => rfl)⟩
  obtain ⟨fdhb, Fhb⟩ := c.def_ 95 (d := ⟨("has_beginnings_first", none), "has_beginnings_first", "has_beginnings_first", defArgs (top 49), defBody (top 49), defScope (top 49), [], []⟩) rfl
  have ghb := He.glo_ok X G (c.fact 42 (f := .glo "has_beginnings_first") rfl)
  have bhb := FunD.bindsN (ps := ["field"]) Fhb (fun _ _ _ _ _ _ us hl => match us, hl with | [_], _ => rfl)
  have HB0 : FnAt P w K mg base CX0 0 "has_beginnings_first" ["field"] (spHb K 0) := ⟨_, fdhb, ghb, Fhb.kp, fn_never.imp fun vs H Q E h => (by obtain ⟨_, d, _, _, _, hd, _⟩ := h; exact absurd hd (Nat.not_lt_zero _)), bhb⟩
  have stepH : ∀ n, FnAt P w K mg base CX0 n "has_beginnings_first" ["field"] (spHb K n) → FnAt P w K mg base CX0 (n + 1) "has_beginnings_first" ["field"] (spHb K (n + 1)) := fun n A => ⟨_, fdhb, ghb, Fhb.kp, ok_hb Fhb gk A, bhb⟩
  have HB1 := stepH 0 HB0
  have HB2 := stepH 1 HB1
  have gk2 : GK2 P w K mg base := ⟨gk, HB2, Ak2⟩
  have Bhb : FnKw P w K mg base CX0 2 "has_beginnings_first" ["field"] ["field"] [0] (spHb K 2) := ⟨_, fdhb, He.glo_ok X G (c.fact 42 (f := .glo "has_beginnings_first") rfl), Fhb.kp, ok_hb Fhb gk HB1, kbn_of Fhb 0 ["field"] [0] (fun _ _ _ _ _ _ us ws l1 l2 => match us, ws, l1, l2 with | [], [_], _, _ => rfl)⟩
  obtain ⟨fdk3, Fk3⟩ := c.def_ 96 (d := ⟨("is_whole", none), "is_whole", "is_whole", defArgs (top 50), defBody (top 50), defScope (top 50), [], []⟩) rfl
  have Ak3 : FnAt P w K mg base CX0 3 "is_whole" ["field"] (spIw K) := ⟨_, fdk3, He.glo_ok X G (c.fact 43 (f := .glo "is_whole") rfl), Fk3.kp, ok_iw Fk3 gk2, FunD.bindsN (ps := ["field"]) Fk3 (fun _ _ _ _ _ _ us hl => match us, hl with | [_], _ => rfl)⟩
  have Bk3 : FnKw P w K mg base CX0 3 "is_whole" ["field"] ["field"] [0] (spIw K) := ⟨_, fdk3, He.glo_ok X G (c.fact 43 (f := .glo "is_whole") rfl), Fk3.kp, ok_iw Fk3 gk2, kbn_of Fk3 0 ["field"] [0] (fun _ _ _ _ _ _ us ws l1 l2 => match us, ws, l1, l2 with | [], [_], _, _ => rfl)⟩
  have ger : GEr P w K mg base := ⟨eBadField, eBadLayout, eNoValue, eNoText, eNoRow, eNoPlace, eBadText, eLarge, eNoJoint, eNotWhole, eHopeless, eUnbounded, eClash⟩
  obtain ⟨fdiWord, FiWord⟩ := c.def_ 26 (d := ⟨("Word", some "__init__"), "__init__", "Word.__init__", defArgs (inClass (top 33) 0), defBody (inClass (top 33) 0), defScope (inClass (top 33) 0), [], []⟩) rfl
  have kWord : ClsAt P w K mg base (L2.CX P w) 4 "Word" (ca K 0) ["self", "signs", "least", "most"] (spWord K) := ⟨cWord.mgC, cWord.cl, He.mkr_ok (c.fact 72 (f := .mkr "Word") rfl), fdiWord, ok_Word_init FiWord g3, FunD.bindsN (ps := ["self", "signs", "least", "most"]) FiWord (fun _ _ _ _ _ _ us hl => match us, hl with | [_, _, _, _], _ => rfl)⟩
  obtain ⟨fdiNumber, FiNumber⟩ := c.def_ 34 (d := ⟨("Number", some "__init__"), "__init__", "Number.__init__", defArgs (inClass (top 34) 0), defBody (inClass (top 34) 0), defScope (inClass (top 34) 0), [], []⟩) rfl
  have kNumber : ClsAt P w K mg base (L2.CX P w) 4 "Number" (ca K 1) ["self", "least", "most"] (spNumber K) := ⟨cNumber.mgC, cNumber.cl, He.mkr_ok (c.fact 83 (f := .mkr "Number") rfl), fdiNumber, ok_Number_init FiNumber g3, FunD.bindsN (ps := ["self", "least", "most"]) FiNumber (fun _ _ _ _ _ _ us hl => match us, hl with | [_, _, _], _ => rfl)⟩
  obtain ⟨fdiFixed, FiFixed⟩ := c.def_ 42 (d := ⟨("Fixed", some "__init__"), "__init__", "Fixed.__init__", defArgs (inClass (top 35) 0), defBody (inClass (top 35) 0), defScope (inClass (top 35) 0), [], []⟩) rfl
  have kFixed : ClsAt P w K mg base (L2.CX P w) 4 "Fixed" (ca K 2) ["self", "width"] (spFixed K) := ⟨cFixed.mgC, cFixed.cl, He.mkr_ok (c.fact 93 (f := .mkr "Fixed") rfl), fdiFixed, ok_Fixed_init FiFixed g3, FunD.bindsN (ps := ["self", "width"]) FiFixed (fun _ _ _ _ _ _ us hl => match us, hl with | [_, _], _ => rfl)⟩
  obtain ⟨fdiListed, FiListed⟩ := c.def_ 50 (d := ⟨("Listed", some "__init__"), "__init__", "Listed.__init__", defArgs (inClass (top 36) 0), defBody (inClass (top 36) 0), defScope (inClass (top 36) 0), [], []⟩) rfl
  have kListed : ClsAt P w K mg base (L2.CX P w) 4 "Listed" (ca K 3) ["self", "texts"] (spListed K) := ⟨cListed.mgC, cListed.cl, He.mkr_ok (c.fact 102 (f := .mkr "Listed") rfl), fdiListed, ok_Listed_init FiListed g3, FunD.bindsN (ps := ["self", "texts"]) FiListed (fun _ _ _ _ _ _ us hl => match us, hl with | [_, _], _ => rfl)⟩
  obtain ⟨fdiEnded, FiEnded⟩ := c.def_ 58 (d := ⟨("Ended", some "__init__"), "__init__", "Ended.__init__", defArgs (inClass (top 37) 0), defBody (inClass (top 37) 0), defScope (inClass (top 37) 0), [], []⟩) rfl
  have kEnded : ClsAt P w K mg base (L2.CX P w) 4 "Ended" (ca K 4) ["self", "signs", "sign", "least", "most"] (spEnded K) := ⟨cEnded.mgC, cEnded.cl, He.mkr_ok (c.fact 111 (f := .mkr "Ended") rfl), fdiEnded, ok_Ended_init FiEnded g3, FunD.bindsN (ps := ["self", "signs", "sign", "least", "most"]) FiEnded (fun _ _ _ _ _ _ us hl => match us, hl with | [_, _, _, _, _], _ => rfl)⟩
  obtain ⟨fdiMarked, FiMarked⟩ := c.def_ 66 (d := ⟨("Marked", some "__init__"), "__init__", "Marked.__init__", defArgs (inClass (top 38) 0), defBody (inClass (top 38) 0), defScope (inClass (top 38) 0), [], []⟩) rfl
  have kMarked : ClsAt P w K mg base (L2.CX P w) 4 "Marked" (ca K 5) ["self", "none", "mark", "field"] (spMarked K) := ⟨cMarked.mgC, cMarked.cl, He.mkr_ok (c.fact 123 (f := .mkr "Marked") rfl), fdiMarked, ok_Marked_init FiMarked g5, FunD.bindsN (ps := ["self", "none", "mark", "field"]) FiMarked (fun _ _ _ _ _ _ us hl => match us, hl with | [_, _, _, _], _ => rfl)⟩
  have nWord : ClsKw P w K mg base (L2.CX P w) 4 "Word" (ca K 0) ["self", "signs", "least", "most"] ["most", "least", "signs"] [2, 1, 0] (spWord K) := ⟨cWord.mgC, He.mkr_ok (c.fact 72 (f := .mkr "Word") rfl), ⟨fdiWord, ok_Word_init FiWord g3, kbn_of FiWord 1 ["most", "least", "signs"] [2, 1, 0] (fun _ _ _ _ _ _ us ws l1 l2 => match us, ws, l1, l2 with | [_], [_, _, _], _, _ => rfl)⟩⟩
  have n2Word : ClsKw P w K mg base (L2.CX P w) 4 "Word" (ca K 0) ["self", "signs", "least", "most"] ["least", "signs", "most"] [1, 0, 2] (spWord K) := ⟨cWord.mgC, He.mkr_ok (c.fact 72 (f := .mkr "Word") rfl), ⟨fdiWord, ok_Word_init FiWord g3, kbn_of FiWord 1 ["least", "signs", "most"] [1, 0, 2] (fun _ _ _ _ _ _ us ws l1 l2 => match us, ws, l1, l2 with | [_], [_, _, _], _, _ => rfl)⟩⟩
  have nNumber : ClsKw P w K mg base (L2.CX P w) 4 "Number" (ca K 1) ["self", "least", "most"] ["most", "least"] [1, 0] (spNumber K) := ⟨cNumber.mgC, He.mkr_ok (c.fact 83 (f := .mkr "Number") rfl), ⟨fdiNumber, ok_Number_init FiNumber g3, kbn_of FiNumber 1 ["most", "least"] [1, 0] (fun _ _ _ _ _ _ us ws l1 l2 => match us, ws, l1, l2 with | [_], [_, _], _, _ => rfl)⟩⟩
  have nFixed : ClsKw P w K mg base (L2.CX P w) 4 "Fixed" (ca K 2) ["self", "width"] ["width"] [0] (spFixed K) := ⟨cFixed.mgC, He.mkr_ok (c.fact 93 (f := .mkr "Fixed") rfl), ⟨fdiFixed, ok_Fixed_init FiFixed g3, kbn_of FiFixed 1 ["width"] [0] (fun _ _ _ _ _ _ us ws l1 l2 => match us, ws, l1, l2 with | [_], [_], _, _ => rfl)⟩⟩
  have nListed : ClsKw P w K mg base (L2.CX P w) 4 "Listed" (ca K 3) ["self", "texts"] ["texts"] [0] (spListed K) := ⟨cListed.mgC, He.mkr_ok (c.fact 102 (f := .mkr "Listed") rfl), ⟨fdiListed, ok_Listed_init FiListed g3, kbn_of FiListed 1 ["texts"] [0] (fun _ _ _ _ _ _ us ws l1 l2 => match us, ws, l1, l2 with | [_], [_], _, _ => rfl)⟩⟩
  have nEnded : ClsKw P w K mg base (L2.CX P w) 4 "Ended" (ca K 4) ["self", "signs", "sign", "least", "most"] ["most", "sign", "least", "signs"] [3, 1, 2, 0] (spEnded K) := ⟨cEnded.mgC, He.mkr_ok (c.fact 111 (f := .mkr "Ended") rfl), ⟨fdiEnded, ok_Ended_init FiEnded g3, kbn_of FiEnded 1 ["most", "sign", "least", "signs"] [3, 1, 2, 0] (fun _ _ _ _ _ _ us ws l1 l2 => match us, ws, l1, l2 with | [_], [_, _, _, _], _, _ => rfl)⟩⟩
  have nMarked : ClsKw P w K mg base (L2.CX P w) 4 "Marked" (ca K 5) ["self", "none", "mark", "field"] ["field", "mark", "none"] [2, 1, 0] (spMarked K) := ⟨cMarked.mgC, He.mkr_ok (c.fact 123 (f := .mkr "Marked") rfl), ⟨fdiMarked, ok_Marked_init FiMarked g5, kbn_of FiMarked 1 ["field", "mark", "none"] [2, 1, 0] (fun _ _ _ _ _ _ us ws l1 l2 => match us, ws, l1, l2 with | [_], [_, _, _], _, _ => rfl)⟩⟩
  have gfl : GFl P w K mg base := ⟨kWord, kNumber, kFixed, kListed, kEnded, kMarked, nWord, n2Word, nNumber, nFixed, nListed, nEnded, nMarked⟩
  obtain ⟨fdem, Fem⟩ := c.def_ 67 (d := ⟨("Marked", some "__eq__"), "__eq__", "Marked.__eq__", defArgs (inClass (top 38) 1), defBody (inClass (top 38) 1), defScope (inClass (top 38) 1), [], []⟩) rfl
  have gq : GQ8 P w K mg base := ⟨g5, ⟨fdem, ok_Marked_eq Fem g5, FunD.bindsN (ps := ["self", "other"]) Fem (fun _ _ _ _ _ _ us hl => match us, hl with | [_, _], _ => rfl)⟩⟩
  have gcl : GCl P w K mg base (He.cT K ("shorter_first", none)).2 := ⟨g0.len, L2', Blt, Ap7, Bp7, Bp6, Ap8, Bp8, Ak3, Bk3, HB2, Bhb⟩
  obtain ⟨fdr1, Fr1⟩ := c.def_ 99 (d := ⟨("_law_state", none), "_law_state", "_law_state", defArgs (top 54), defBody (top 54), defScope (top 54), [], []⟩) rfl
  have Ar1 : FnAt P w K mg base CX0 1 "_law_state" ["_law_source"] _ := ⟨_, fdr1, He.glo_ok X G (c.fact 46 (f := .glo "_law_state") rfl), Fr1.kp, ok_state Fr1 g0.toBl, FunD.bindsN (ps := ["_law_source"]) Fr1 (fun _ _ _ _ _ _ us hl => match us, hl with | [_], _ => rfl)⟩
  obtain ⟨fdr2, Fr2⟩ := c.def_ 100 (d := ⟨("_law_digit", none), "_law_digit", "_law_digit", defArgs (top 55), defBody (top 55), defScope (top 55), [], []⟩) rfl
  have Ar2 : FnAt P w K mg base CX0 1 "_law_digit" ["_law_state_here", "_law_base"] _ := ⟨_, fdr2, He.glo_ok X G (c.fact 47 (f := .glo "_law_digit") rfl), Fr2.kp, ok_digit Fr2 g0.toBl, FunD.bindsN (ps := ["_law_state_here", "_law_base"]) Fr2 (fun _ _ _ _ _ _ us hl => match us, hl with | [_, _], _ => rfl)⟩
  obtain ⟨fdr3, Fr3⟩ := c.def_ 101 (d := ⟨("_law_errors_right", none), "_law_errors_right", "_law_errors_right", defArgs (top 56), defBody (top 56), defScope (top 56), [], []⟩) rfl
  have Ar3 : FnAt P w K mg base CX0 3 "_law_errors_right" ["_law_x", "_law_y"] _ := ⟨_, fdr3, He.glo_ok X G (c.fact 48 (f := .glo "_law_errors_right") rfl), Fr3.kp, ok_law_errors_right Fr3 ger, FunD.bindsN (ps := ["_law_x", "_law_y"]) Fr3 (fun _ _ _ _ _ _ us hl => match us, hl with | [_, _], _ => rfl)⟩
  obtain ⟨fdr4, Fr4⟩ := c.def_ 102 (d := ⟨("_law_fields", none), "_law_fields", "_law_fields", defArgs (top 57), defBody (top 57), defScope (top 57), [], []⟩) rfl
  have Ar4 : FnAt P w K mg base CX0 6 "_law_fields" ["_law_x", "_law_y"] _ := ⟨_, fdr4, He.glo_ok X G (c.fact 49 (f := .glo "_law_fields") rfl), Fr4.kp, ok_law_fields Fr4 gfl, FunD.bindsN (ps := ["_law_x", "_law_y"]) Fr4 (fun _ _ _ _ _ _ us hl => match us, hl with | [_, _], _ => rfl)⟩
  obtain ⟨fdr5, Fr5⟩ := c.def_ 103 (d := ⟨("_law_kept_right", none), "_law_kept_right", "_law_kept_right", defArgs (top 58), defBody (top 58), defScope (top 58), [], []⟩) rfl
  have Ar5 : FnAt P w K mg base CX0 6 "_law_kept_right" ["_law_some", "_law_x", "_law_y"] _ := ⟨_, fdr5, He.glo_ok X G (c.fact 50 (f := .glo "_law_kept_right") rfl), Fr5.kp, ok_law_kept_right Fr5 gq gfl, FunD.bindsN (ps := ["_law_some", "_law_x", "_law_y"]) Fr5 (fun _ _ _ _ _ _ us hl => match us, hl with | [_, _, _], _ => rfl)⟩
  obtain ⟨fdr6, Fr6⟩ := c.def_ 104 (d := ⟨("_law_calls_right", none), "_law_calls_right", "_law_calls_right", defArgs (top 59), defBody (top 59), defScope (top 59), [], []⟩) rfl
  have Ar6 : FnAt P w K mg base CX0 7 "_law_calls_right" ["_law_kind", "_law_many"] _ := ⟨_, fdr6, He.glo_ok X G (c.fact 51 (f := .glo "_law_calls_right") rfl), Fr6.kp, ok_law_calls_right Fr6 gcl, FunD.bindsN (ps := ["_law_kind", "_law_many"]) Fr6 (fun _ _ _ _ _ _ us hl => match us, hl with | [_, _], _ => rfl)⟩
  exact ⟨gq, Ar1, Ar2, Ar3, Ar4, Ar5, Ar6⟩

end L2.K08
open PySem PySem.W PySem.Calls PyProof.Rows
set_option maxRecDepth 100000 in
set_option maxHeartbeats 0 in
theorem PySem.Challenge.cw_jointkeys_k08_arguments_by_their_names_holds : PySem.Challenge.rw_jointkeys_k08_arguments_by_their_names.Holds := by
  w_on; o_law
  refine HandSHeadRun.head_any (r := OpenLaw.row PySem.Challenge.rw_jointkeys_k08_arguments_by_their_names) (q := view (OpenLaw.row PySem.Challenge.rw_jointkeys_k08_arguments_by_their_names).prog [60]) (H := L2.K08.hk) (ob := L2.K08.ob) (M := 8000) (loose := L2.K08.names) (d := HandSHeadRun.topDef (OpenLaw.row PySem.Challenge.rw_jointkeys_k08_arguments_by_their_names).prog 60) (kwd := []) L2.K08.ob_eq
    (by kernel_rfl) (fun s => by kernel_rfl) L2.K08.run (by kernel_rfl) (by kernel_rfl) (by kernel_rfl) (by rfl) (by first | assumption | decide +kernel) (by decide +kernel) ⟨rfl, rfl, rfl, rfl, rfl, by decide +kernel⟩ ?hw ?hc
  case hw => w_witness2
  case hc =>
    refine LamX.walk_ofTsE (l := PySem.Challenge.rw_jointkeys_k08_arguments_by_their_names) (n := 63) (k := 8) (x := "_law_script") (CX := fun _ => L2.CX0) rfl (by decide) (by kernel_rfl) ⟨rfl, by decide, by decide⟩ ?F (fun _ _ _ _ _ z => z)
    intro w mg fa h Y G hmg0
    obtain ⟨K, KX, c⟩ := Y
    have hmg : mg ("law" : PySem.Str) = some (.ref fa) := by
      have e : (HandSHeadRun.topDef (OpenLaw.row PySem.Challenge.rw_jointkeys_k08_arguments_by_their_names).prog 60).name = ("law" : PySem.Str) := by kernel_rfl
      rw [← e]
      exact hmg0
    obtain ⟨fd, F⟩ := c.t.d.def_ 105 (d := ⟨("law", none), "law", "law", L2.defArgs L2.K08.s_law, L2.defBody L2.K08.s_law, L2.defScope L2.K08.s_law, [], []⟩) rfl
    have e := hmg.symm.trans (He.glo_ok KX G (c.t.d.fact 52 (f := .glo "law") rfl))
    cases e
    have b := L2.FunD.bindsA (ps := ["_law_script"]) F fun _ _ _ _ _ _ us hl => match us, hl with | [_], _ => rfl
    have m0 : (("shorter_first", none) : He.Defn) ∈ ([("shorter_first", none)] : List He.Defn) := List.mem_singleton_self _
    have h1 := c.hd _ m0
    have h2 := c.out _ m0
    have h3 := c.empty _ m0
    refine ⟨K, KX, fd, [He.cT K ("shorter_first", none)], L2.K08.spLaw K (He.cT K ("shorter_first", none)).2, ?_, ?_, ?_, fun s v => b s [v] rfl, ?_, ?_⟩
    · exact fun p hp => by rw [List.mem_singleton.mp hp]; exact h3
    · exact fun p hp => by rw [List.mem_singleton.mp hp]; exact h2
    · exact fun p hp => by rw [List.mem_singleton.mp hp]; exact PySem.W.codeHd_of_K KX h1
    · intro H a ns hl _ hT hS
      exact ⟨a, ns, rfl, hS, hl, fun p hp => by rw [List.mem_singleton.mp hp]; exact LamX.TabS.nil (hT _ (List.mem_singleton_self _)), fun _ => rfl⟩
    · intro base _ _ hTB
      have TB := hTB _ (List.mem_singleton_self _)
      exact L2.K08.ok_law F (L2.K08.facts KX G c.t.d c.more TB)
#print axioms PySem.Challenge.cw_jointkeys_k08_arguments_by_their_names_holds
