import PyProof.Rows.All
import Wide.All
import OpenK.AllK
import Wide.FinOn
import HandS.ForMost
import HandS.ForExc
import HandS.ExcInit
import HandS.ExcIs
import HandS.ExcField
import HandS.IsInst
import KE.KStateDown
import HandS.Defaults
import HandS.Head0
import HandS.Head1
import HandS.Head2
import HandS.Head3
import HandS.Head4
import HandS.HeadEnd
import HandS.HeadHook1
import HandS.HeadHook2
import HandS.HeadHook3
import HandS.HeadHook4
import HandS.Walk
import HandS.OwnEq
import PyProof.InstNe
import HandS.Text
import KE.KIntText
import PyProof.Rows.Digits
import KE.IntTextLaws
import PyProof.WalksS
import PyProof.StrWalks
import PyProof.EnumMake
import PyProof.Rows.SetFrom
import PyProof.SetKind
import HandS.Strs
import HandS.Rev
import HandS.Zip
import PyProof.JoinWalk
import PyProof.ListStr
import HandS.ExcOwn
import HandS.WordsExc
import HandS.StrMore
import PyProof.StrOps2
import KE.DatumOrd
import HandS.TupAny
import HandS.Codes
import PySem.Challenge.RW_jointkeys_k06_whole_fields_by_their_text
set_option Elab.async false
set_option linter.all false
set_option maxRecDepth 100000
set_option maxHeartbeats 4000000
/-! Own exceptions as plain values: made, their fields read, their methods called, isinstance asked of them. -/
namespace L2.Jk
open PySem PySem.W PySem.Spec PySem.Calls PyProof.Rows

/-- what an own error class says of itself, for its instances as values -/
structure ErrC (K : Frag) (C : Addr) : Prop where
  ox : OexC K C
  xf : XfC K C
  kk : findIn K (.ref C) "__class__" = some (some (.builtin "object.__class__"))
  kn : specialIn K (.builtin "object.__class__") "__get__" = some (some (.builtin "getset_descriptor.__get__"))
  kt : takesIn K (.builtin "object.__class__") = some true
  km : mroIn K C (.type "object") = some true

section
variable {prog : Program} {w : World} {A : Around} {E : Value → Shared → Prop} {s : Shared} {K : Frag} {e C f : Addr} {oe od : Obj}

/-- e.__class__ of an error with a dict of its own -/
theorem err_class {Q : Option Value → Shared → Prop} (T : ErrC K C) (X : K.In s.heap) (I : InstAt s.heap e oe C (some od)) (h : Q (some (.ref C)) { s with toks := s.toks + 1 }) :
    wpAny (model prog w) A (getAttr? (.ref e) "__class__") Q E s := by
  obtain ⟨cd, hcd, _⟩ := any_some T.xf.hdC
  have look := findObj_data (od := od) (show (clsIn K C).isSome = true by rw [hcd]; rfl) T.kk T.kn T.kt
  obtain ⟨hp, gn, dr, tk, os⟩ := s
  have lt := I.type (M := model prog w)
  have lg := looks_findIn (M := model prog w) X T.xf.ga
  have lh := looks_findIn (M := model prog w) X T.xf.gg
  have lf := looks_find (M := model prog w) X I look
  have inB : Looks (model prog w) hp (isInstance (.ref e) (.type "BaseException")) true := lt.andThen (looks_subIn X T.xf.exC)
  have n2 : (Value.builtin "BaseException.__getattribute__" == Value.builtin "object.__getattribute__") = false := by decide +kernel
  have n1 : (onTheHeap (Value.ref C) && Value.builtin "BaseException.__getattribute__" == Value.builtin "object.__getattribute__") = false := by rw [n2] <;> rfl
  unfold getAttr? getAttrBy? getAttrBy
  refine wpAny_bind (wpAny_mkText (wpAny_bind (wpAny_attempt (wpAny_holding (wpAny_bind (lt.at (wpAny_bind (lg.at ?_))))))))
  show wpAny _ _ (if (onTheHeap (Value.ref C) && Value.builtin "BaseException.__getattribute__" == Value.builtin "object.__getattribute__") = true then _ else _) _ _ _
  rw [n1, if_neg Bool.false_ne_true]
  unfold getAttrByItsOwn hookBefore
  refine wpAny_bind ?_
  rw [if_pos (show onTheHeap (Value.ref C) = true from rfl)]
  refine lh.at (wpAny_bind (wpAny_attempt (wpAny_holding ?_)))
  unfold callGetattribute
  rw [show (false && onTheHeap (Value.builtin "BaseException.__getattribute__")) = false from rfl, if_neg Bool.false_ne_true]
  unfold boundAndCalled
  rw [PySem.F.excAttr_ValueError.ga.bind (.ref e)]
  refine wpAny_bind (wpAny_pure ?_)
  show wpAny _ _ (call (.builtin "BaseException.__getattribute__") [.ref e, .str "__class__" tk]) _ _ _
  refine wpAny_call (codeAny_call_builtin PySem.F.excAttr_ValueError.ga.plain PySem.F.entry_bexc_ga ?_)
  refine @check_slot (model prog w) _ _ ⟨hp, gn, dr, tk + 1, os⟩ "BaseException.__getattribute__" "BaseException" "__getattribute__" (.ref e) [.str "__class__" tk] [] _
    (by decide +kernel) (by decide +kernel) inB (PySem.F.args_bexc_ga (.ref e) (.str "__class__" tk)) ?_
  unfold Builtin.«object.__getattribute__»
  refine wpAny_bind (wpAny_of_eq (a := ((Value.ref e : Value), [Value.str "__class__" tk])) (by first | rfl | (simp only [slotArgs]; rfl)) ?_)
  refine wpAny_bind (wpAny_pure (wpAny_bind (lt.at (wpAny_bind (lf.at ?_)))))
  show wpAny _ _ (holding [Value.builtin "object.__class__"] (call (.builtin "getset_descriptor.__get__") [.builtin "object.__class__", .ref e, .ref C]) >>= ret) _ _ _
  refine wpAny_bind (wpAny_holding (wpAny_call (class_get (s := ⟨hp, gn, dr, tk + 1, os⟩) (ox := oe) (od := some od) X I T.km ?_)))
  refine wpAny_pure ?_
  show wpAny _ _ (handedOut (.ref C)) _ _ _
  rw [handedOut_of (v := .ref C) rfl]
  first
    | exact wpAny_pure (wpAny_pure h)
    | exact wpAny_pure h
    | exact wpAny_pure (wpAny_bind (wpAny_pure (wpAny_pure h)))
/-- isinstance may be asked of it -/
theorem err_kit (T : ErrC K C) : KitX K (.ref e) (.ref C) (fun h => ∃ o d, InstAt h e o C (some d)) where
  ty := fun _ _ _ ⟨_, _, I⟩ => I.type
  it := fun _ _ X _ => by
    obtain ⟨cd, hc, _⟩ := any_some T.xf.hdC
    unfold clsIn at hc
    split at hc
    · rename_i ho
      intro _ _ _ _ k q
      unfold isType loadHead
      exact wpAny_bind (wpAny_loadPart (k _ _ (X _ _ ho)) (wpAny_pure q))
    · cases hc
  ne := fun h tp dd its n sl X htp => by
    obtain ⟨cd, hc, _⟩ := any_some T.xf.hdC
    refine Bool.eq_false_iff.mpr fun q => ?_
    have z : C = tp := Value.ref.inj (beq_iff_eq.mp q)
    subst z
    unfold clsIn at hc
    split at hc
    · rename_i ho
      have y := (X _ _ ho).symm.trans htp
      cases y
    · cases hc
  ca := fun X ⟨_, _, I⟩ k => err_class T X I k

/-- the method of an error, found in its class -/
theorem err_meth {name : Str} {pl : Sem Bool} {Q : Value × List Value → Shared → Prop} (T : ErrC K C) (X : K.In s.heap) (I : InstAt s.heap e oe C (some od))
    (hf : findIn K (.ref C) name = some (some (.ref f))) (ht : isFn K (.ref f) = true) (hs : shadowIn (some od) name = some false) (h : Q (.ref f, [.ref e]) s) :
    wpAny (model prog w) A (getMethod (.ref e) name pl) Q E s := by
  have cn : Manifest.canonical "BaseException.__getattribute__" = "object.__getattribute__" := by first | kernel_rfl | decide +kernel
  obtain ⟨r, ra, rb⟩ := Option.map_eq_some_iff.mp hs
  have dd := I.dict
  unfold getMethod specialOf
  refine wpAny_bind (wpAny_bind (I.type.here ((looks_findIn X T.xf.ga).here ?_)))
  dsimp only
  rw [cn, if_neg (by decide)]
  refine wpAny_bind (wpAny_bind (I.type.here ((looks_findIn X T.xf.gg).here ?_)))
  refine wpAny_bind (wpAny_bind (I.type.here ((looks_findIn X hf).here (wpAny_bind ((looks_typeIn X (beq_iff_eq.mp ht)).here ?_)))))
  rw [if_neg (by decide +kernel)]
  refine wpAny_bind (wpAny_loadPart I.at_ ?_)
  cases q : oe.dict with
  | none => exact wpAny_bind (wpAny_rule (wpAny_pure h))
  | some dx =>
    rw [q] at dd
    refine wpAny_bind (wpAny_bind (wpAny_loadPart dd ?_))
    rw [nsLook_of ra]
    refine wpAny_pure ?_
    rw [rb]
    exact wpAny_bind (wpAny_rule (wpAny_pure h))
end

section
variable {X : Cx} {pins : List (Addr × Obj)} {σ : St} {H : Hp} {s : Shared} {C a d : Addr} {fs : List (Str × V)}
/-- an error as the heap holds it -/
theorem err_at (I : Inv X pins σ H s) (ha : H a = some (exo a C (some d))) (hd : H d = some (exd d fs)) :
    ∃ o od mA, InstAt s.heap a o C (some od) ∧ s.heap.Ns1 d mA ∧ (∀ f, RelO (fs.lookup f) (mA f)) ∧ s.heap.get? d = some od ∧ ∀ f, lookIn f od = some (mA f) := by
  obtain ⟨t1, ho⟩ := exo_at I.hok ha
  obtain ⟨mA, hn, r⟩ := exd_at I.hok hd
  obtain ⟨od, hod, hl⟩ := lookIn_ns hn
  exact ⟨_, od, mA, ⟨ho, rfl, rfl, hod⟩, hn, r, hod, hl⟩
/-- e.f of an error -/
def tEf (K : Frag) (f : Str) (te : TE) : TE := fun σ H Q => te σ H fun x H1 => ∃ (a C d : Addr) (fs : List (Str × V)) (v : V), x = .ref a ∧ ErrC K C ∧ findIn K (.ref C) f = some none ∧
  H1 a = some (exo a C (some d)) ∧ H1 d = some (exd d fs) ∧ fs.lookup f = some v ∧ Q v H1
theorem pe_ef {e : Expr} {te : TE} {pos : Pos} {n : Str} (he : PE X e te) (hb : attributeBase e n X.env (eval e X.env) = eval e X.env := by rfl) :
    PE X (.Attribute e n pos) (tEf X.K n te) := by
  refine ⟨fun pins s σ H Q I h => ?_⟩
  refine attr_of hb (thn (he.run pins s σ H _ I h) fun u s1 hh => ?_)
  obtain ⟨x, H1, I1, rx, a, C, d, fs, v, ex, T, hno, ha, hd, l, q⟩ := hh
  subst ex
  obtain rfl : u = Value.ref a := rx
  obtain ⟨o, od, mA, J, hn, r, hod, hl⟩ := err_at I1 ha hd
  obtain ⟨u, hu, ru⟩ := RelO.some_of (v := v) (o := mA n) (by rw [← l]; exact r n)
  exact HandSPX.exc_get I1.kIn J T.xf.ga T.xf.gg T.xf.exC (findObj_own T.xf.hdC hno rfl (by rw [hl, hu])) (handed_of ru) ⟨v, H1, I1.tok _, ru, q⟩
/-- what a def promises, met when it is called: which def it is shows in the heap -/
def Does (X : Cx) (CX : CXT) (f : Addr) (vs : List V) (H : Hp) (Q : VK) (E : XK) : Prop :=
  ∃ (k : Nat) (fd : FuncData) (ps : List Str) (sp : Sp), keepIn X.K (.ref f) = true ∧ FnOk X.prog X.w X.K X.mg X.base CX k f fd ps sp ∧ Room k X.A ∧ Binds X.K fd ps [] ∧ sp vs H Q E
/-- e.m() of an error -/
def tEm0 (X : Cx) (CX : CXT) (m : Str) (E : XK) (te : TE) : TE := fun σ H Q => te σ H fun x H1 => ∃ (a C d f : Addr) (fs : List (Str × V)), x = .ref a ∧ ErrC X.K C ∧
  H1 a = some (exo a C (some d)) ∧ H1 d = some (exd d fs) ∧ fs.lookup m = none ∧ findIn X.K (.ref C) m = some (some (.ref f)) ∧ isFn X.K (.ref f) = true ∧ Does X CX f [.ref a] H1 Q E
theorem pe_em0 {CX : CXT} {E : XK} {o : Expr} {m : Str} {ta : TE} {apos pos : Pos} {pl : Sem Bool} (he : PE X o ta) (hx : Passes CX X E)
    (ht : eval (.Call (.Attribute o m apos) [] [] pos) X.env = (do
      let ov ← eval o X.env
      standAt apos.atName
      let (f, first) ← holding [ov] (getMethod ov m pl)
      callWith pos f first (backTo pos (starEach [] X.env)) (backToKw pos (keywordEach [] X.env))) := by rfl) :
    PE X (.Call (.Attribute o m apos) [] [] pos) (tEm0 X CX m E ta) := by
  refine ⟨fun pins s σ H Q I h => ?_⟩
  refine methodCall_KW (pl := pl) (thn (he.run pins s σ H _ I h) fun u s1 hh => ?_) ht
  obtain ⟨x, H1, I1, rx, a, C, d, f, fs, ex, T, ha, hd, l, hf, hfn, k, fd, ps, sp, kp, F, hr, hb, q⟩ := hh
  subst ex
  obtain rfl : u = Value.ref a := rx
  obtain ⟨o, od, mA, J, hn, r, hod, hl⟩ := err_at I1 ha hd
  have hno : mA m = none := RelO.none_of (by rw [← l]; exact r m)
  refine err_meth T I1.kIn J hf hfn (by show (lookIn m od).map _ = _; rw [hl, hno]; rfl) ?_
  exact callWith_K0 (first := [.ref a]) I1.kIn kp (run_fn (us := [.ref a]) (vs := [.ref a]) F hr hb .nil hx I1 (.cons rfl .nil) q)
/-- C(e, ..), an own error made and kept -/
def tMkE (C : Addr) (sp : Sp) (ta : TA) : TE := fun σ H Q => ta σ H fun vs H1 => vs.length ≤ 1000 ∧ ∀ a, H1 a = none → sp (.ref a :: vs) (upd H1 a (exo a C none)) (fun v H2 => v = .non ∧ Q (.ref a) H2) (fun _ _ _ => False)
theorem run_mkE {CX : CXT} {fI : Addr} {k : Nat} {fd : FuncData} {ps : List Str} {sp : Sp} {us : List Value} {vs : List V} {Q : VK} (T : OexC X.K C) (iC : findIn X.K (.ref C) "__init__" = some (some (.ref fI))) (tI : typeIn X.K (.ref fI) = some (.type "function"))
    (F1 : FnOk X.prog X.w X.K X.mg X.base CX k fI fd ps sp) (hr : Room (k + 1) X.A) (hb : Binds X.K fd ps []) (hx : Passes CX X (fun _ _ _ => False)) (I1 : Inv X pins σ H s) (r1 : Vals vs us) (hz : vs.length ≤ 1000)
    (q1 : ∀ a, H a = none → sp (.ref a :: vs) (upd H a (exo a C none)) (fun v H2 => v = .non ∧ Q (.ref a) H2) (fun _ _ _ => False)) :
    wpAny (model X.prog X.w) X.A (call (.ref C) us) (EP X pins σ Q) X.xe s := by
  obtain ⟨nm, q, N, bs, bm, sn, sub, ab, col, dd, k0, k1, k2, k3, k5, hC, hbm⟩ := T.cls
  obtain ⟨hp, g, dr, tk, os⟩ := s
  have sz : hp.objs.size ≤ hp.objs.size + 1 := Nat.le_succ _
  have fresh : H (hp.objs.size + 1) = none := I1.hok.fresh sz
  have pr := q1 (hp.objs.size + 1) fresh
  have keep : ∀ b o, hp.get? b = some o → ((hp.push (kdv_tup us)).push (HandSPX.excO C hp.objs.size)).get? b = some o := fun b o e => Heap.get?_push_of_some _ (Heap.get?_push_of_some _ e)
  have there : ((hp.push (kdv_tup us)).push (HandSPX.excO C hp.objs.size)).get? (hp.objs.size + 1) = some (HandSPX.excO C hp.objs.size) := by heap_get
  have I2 : Inv X pins σ (upd H (hp.objs.size + 1) (exo (hp.objs.size + 1) C none)) ⟨(hp.push (kdv_tup us)).push (HandSPX.excO C hp.objs.size), g, dr, tk, os⟩ :=
    I1.laid (t' := tk) (a := hp.objs.size + 1) (o := exo (hp.objs.size + 1) C none) (h' := (hp.push (kdv_tup us)).push (HandSPX.excO C hp.objs.size)) keep sz (exo_ok there)
  have r2 : Vals (V.ref (hp.objs.size + 1) :: vs) (Value.ref (hp.objs.size + 1) :: us) := .cons rfl r1
  have hl : (Value.ref (hp.objs.size + 1) :: us ++ []).length = ps.length := by
    rw [List.append_nil, ← r2.length]
    exact F1.len _ _ _ _ pr
  have hus : us.length ≤ sizeLine := by
    rw [← Paired.length r1, sizeLine_eq]
    omega
  have hb' := hb ⟨(hp.push (kdv_tup us)).push (HandSPX.excO C hp.objs.size), g, dr, tk, os⟩ (Value.ref (hp.objs.size + 1) :: us) I2.kIn hl
  rw [List.append_nil] at hb'
  refine wpAny_call (HandSPX.call_own F.excBase_ValueError (fun Y => HandSPX.refsVE_contains Y bm hbm) (I1.kIn _ _ hC) (looks_findIn I1.kIn iC) (fun self => bind_fn I1.kIn self tI) hus
    (codeAny_mono (F1.run _ X.stack _ _ ⟨Value.ref (hp.objs.size + 1) :: us, []⟩ (Value.ref (hp.objs.size + 1) :: us) _ _ (fun _ _ _ => False) (hr.make C us []) (I2.env0.make C us []) hb' r2 pr) fun r s' hq' => ?_))
  cases r with
  | error er => exact hx pins σ _ _ er s' I2 hq'
  | ok fl =>
    cases fl with
    | ret u =>
      obtain ⟨v, H2, I3, rv, ev, q3⟩ := I2.after hq'
      subst ev
      -- nothing was tracked at the new place
      exact ⟨rv, ⟨V.ref (hp.objs.size + 1), H2, I3, rfl, q3⟩⟩
    | next => exact False.elim hq'
    | brk => exact False.elim hq'
    | cont => exact False.elim hq'
theorem pe_mkE {CX : CXT} {x : Str} {fI : Addr} {k : Nat} {fd : FuncData} {ps : List Str} {sp : Sp} {e : Expr} {es : List Expr} {ta : TA} {p pos : Pos} (T : OexC X.K C) (iC : findIn X.K (.ref C) "__init__" = some (some (.ref fI))) (tI : typeIn X.K (.ref fI) = some (.type "function"))
    (F1 : FnOk X.prog X.w X.K X.mg X.base CX k fI fd ps sp) (hr : Room (k + 1) X.A) (hb : Binds X.K fd ps []) (hx : Passes CX X (fun _ _ _ => False)) (hg : Gl X x) (hm : X.mg x = some (.ref C)) (ha : PA X (e :: es) ta)
    (hdb : (x == ("__debug__" : Str)) = false := by decide) (he : starEach (e :: es) X.env = (false, eval e X.env) :: starEach es X.env := by rfl) (hpl : (backTo pos (starEach es X.env)).any (·.1) = false := by rfl) :
    PE X (.Call (.Name x p) (e :: es) [] pos) (tMkE C sp ta) := by
  refine ⟨fun pins s σ H Q I h => ?_⟩
  refine wpAny_Call_Name_kw (ld_glob I hg hm ?_ hdb)
  refine callWith_K (h₀ := X.base) I.ok.mod.kin T.kC (thn (ha.run pos pins s σ H _ I h) fun us s1 ⟨vs, H1, I1, r1, hz, q1⟩ => ⟨I1.kIn, ?_⟩) he hpl
  exact run_mkE T iC tI F1 hr hb hx I1 r1 hz q1
/-- a value's type, an error's too -/
inductive TyE (K : Frag) (H : Hp) : V → Value → Prop where
  | x {x : V} {t : Value} (h : TyX K H x t) : TyE K H x t
  | err {a C d : Addr} {fs : List (Str × V)} (T : ErrC K C) (ha : H a = some (exo a C (some d))) (hd : H d = some (exd d fs)) : TyE K H (.ref a) (.ref C)
theorem kit_ofE {x : V} {u t : Value} (I : Inv X pins σ H s) (rx : RelV x u) (ty : TyE X.K H x t) : ∃ P : Heap → Prop, KitX X.K u t P ∧ P s.heap ∧ u ≠ .builtin "__main__.__loader__#opaque" := by
  cases ty with
  | x h => exact kit_of I rx h
  | err T ha hd =>
    cases (show u = Value.ref _ from rx)
    obtain ⟨o, od, mA, J, _⟩ := err_at I ha hd
    exact ⟨_, err_kit T, ⟨o, od, J⟩, fun z => nomatch z⟩
def rIe (K : Frag) : List V → Hp → VK → Prop := fun xs H Q => ∃ (x c : V) (t u : Value) (b : Bool), xs = [x, c] ∧ ClsV c u ∧ TyE K H x t ∧ kitOne K t u = some b ∧ Q (.bl b) H
def rIeT (K : Frag) : List V → Hp → VK → Prop := fun xs H Q => ∃ (x : V) (tp : Addr) (cs : List V) (t : Value) (us : List Value) (b : Bool), xs = [x, .ref tp] ∧ H tp = some (.tup cs) ∧ Paired ClsV cs us ∧ TyE K H x t ∧ kitAny K t us = some b ∧ Q (.bl b) H
theorem call_ie : CallR X (.builtin "isinstance") (rIe X.K) := by
  intro pins s σ H xs us Q I r h
  obtain ⟨x, c, t, u, b, rfl, k, ty, e, q⟩ := h
  obtain ⟨u1, u2, rfl, r1, r2⟩ := vals2 r
  obtain rfl := k.eq r2
  obtain ⟨P, Z, p, hx⟩ := kit_ofE I r1 ty
  exact kia_one Z I.kIn p e hx fun tk => ⟨.bl b, H, I.tok tk, rfl, q⟩
theorem call_ieT : CallR X (.builtin "isinstance") (rIeT X.K) := by
  intro pins s σ H xs us Q I r h
  obtain ⟨x, tp, cs, t, ws, b, rfl, hT, k, ty, e, q⟩ := h
  obtain ⟨u1, u2, rfl, r1, r2⟩ := vals2 r
  cases (show u2 = Value.ref tp from r2)
  obtain ⟨P, Z, p, hx⟩ := kit_ofE I r1 ty
  obtain ⟨_, its, rv, o, h1, h2, n, h3⟩ := (show ObjOk X.prog X.w H s.heap tp (.tup cs) from I.hok tp _ hT)
  obtain rfl := ClsV.all k rv
  obtain ⟨oc, od, dt, sl⟩ := o
  dsimp only at h2 h3
  subst h2 h3
  exact kia_tup Z I.kIn p h1 e hx fun tk => ⟨.bl b, H, I.tok tk, rfl, q⟩
end
end L2.Jk

set_option Elab.async false
set_option linter.all false
set_option maxRecDepth 100000
set_option maxHeartbeats 4000000
/-! Defs and error classes as the head tells them; calls of them. -/
namespace L2.Jk
open PySem PySem.W PySem.Spec PySem.Calls PyProof.Rows

/-! ### what the head says of an error class, by one Bool -/
def oexB (K : Frag) (C : Addr) : Bool := (match K.lookup C with
  | some ⟨.type "type", _, .cls cd, sl⟩ => (match cd.mro, sl.toList with
    | .ref D :: bm, [_, _, _, _, some (.builtin n), _] => decide (D = C) && (decide (n = "ValueError.__new__") && (HandSPX.refsVE bm && (cd.hasDict && !cd.hasDel)))
    | _, _ => false)
  | _ => false) && (He.eqO (findIn K (.ref C) "__setattr__") (some (some (.builtin "object.__setattr__"))) && (decide (subIn K (.ref C) (.type "BaseException") = some true) &&
    (decide (typeIn K (.ref C) = some (.type "type")) && keepIn K (.ref C))))
theorem oexB_ok {K : Frag} {C : Addr} (h : oexB K C = true) : OexC K C := by
  obtain ⟨h1, h⟩ := Bool.and_eq_true_iff.mp h
  obtain ⟨h2, h⟩ := Bool.and_eq_true_iff.mp h
  obtain ⟨h3, h⟩ := Bool.and_eq_true_iff.mp h
  obtain ⟨h4, h5⟩ := Bool.and_eq_true_iff.mp h
  refine ⟨?_, He.eqO_ok h2, of_decide_eq_true h3, of_decide_eq_true h4, h5⟩
  split at h1
  · rename_i dd cd sl ho
    split at h1
    · rename_i D bm k0 k1 k2 k3 n k5 hm hs
      obtain ⟨a1, h1⟩ := Bool.and_eq_true_iff.mp h1
      obtain ⟨a2, h1⟩ := Bool.and_eq_true_iff.mp h1
      obtain ⟨a3, h1⟩ := Bool.and_eq_true_iff.mp h1
      obtain ⟨a4, a5⟩ := Bool.and_eq_true_iff.mp h1
      obtain rfl := of_decide_eq_true a1
      obtain rfl := of_decide_eq_true a2
      obtain ⟨nm, bs, mro, ns, qn, hd, sn, sub, ab, col, del⟩ := cd
      dsimp only at hm a4 a5
      subst hm
      subst a4
      obtain rfl : del = false := by cases del <;> first | rfl | cases a5
      have e : sl = #[k0, k1, k2, k3, some (.builtin "ValueError.__new__"), k5] := by
        obtain ⟨l⟩ := sl
        dsimp only at hs
        rw [hs]
      subst e
      exact ⟨nm, qn, ns, bs, bm, sn, sub, ab, col, dd, k0, k1, k2, k3, k5, ho, a3⟩
    · cases h1
  · cases h1
def errB (K : Frag) (C : Addr) (fs ms : List Str) : Bool := oexB K C && (xfB K C && (He.eqO (findIn K (.ref C) "__class__") (some (some (.builtin "object.__class__"))) &&
  (He.eqO (specialIn K (.builtin "object.__class__") "__get__") (some (some (.builtin "getset_descriptor.__get__"))) && (decide (takesIn K (.builtin "object.__class__") = some true) && (decide (mroIn K C (.type "object") = some true) &&
  ((fs.all fun f => He.eqO (findIn K (.ref C) f) (some none)) && ((ms.all fun m => He.eqO (findIn K (.ref C) m) (some (some (.ref (He.ma K C m)))) && isFn K (.ref (He.ma K C m))))))))))
structure ErrX (K : Frag) (C : Addr) (fs ms : List Str) : Prop where
  ec : ErrC K C
  no : ∀ f ∈ fs, findIn K (.ref C) f = some none
  me : ∀ m ∈ ms, findIn K (.ref C) m = some (some (.ref (He.ma K C m))) ∧ isFn K (.ref (He.ma K C m)) = true
theorem errB_ok {K : Frag} {C : Addr} {fs ms : List Str} (h : errB K C fs ms = true) : ErrX K C fs ms := by
  obtain ⟨h1, h⟩ := Bool.and_eq_true_iff.mp h
  obtain ⟨h2, h⟩ := Bool.and_eq_true_iff.mp h
  obtain ⟨h3, h⟩ := Bool.and_eq_true_iff.mp h
  obtain ⟨h4, h⟩ := Bool.and_eq_true_iff.mp h
  obtain ⟨h5, h⟩ := Bool.and_eq_true_iff.mp h
  obtain ⟨h6, h⟩ := Bool.and_eq_true_iff.mp h
  obtain ⟨h7, h8⟩ := Bool.and_eq_true_iff.mp h
  refine ⟨⟨oexB_ok h1, xfB_ok h2, He.eqO_ok h3, He.eqO_ok h4, of_decide_eq_true h5, of_decide_eq_true h6⟩, fun f hf => He.eqO_ok (List.all_eq_true.mp h7 f hf), fun m hm => ?_⟩
  obtain ⟨a, b⟩ := Bool.and_eq_true_iff.mp (List.all_eq_true.mp h8 m hm)
  exact ⟨He.eqO_ok a, b⟩

/-! ### a def of the module, called by its name -/
structure FnAt (P : Program) (w : World) (K : Frag) (mg : Str → Option Value) (base : Heap) (CX : CXT) (k : Nat) (x : Str) (ps : List Str) (sp : Sp) : Prop where
  ex : ∃ (f : Addr) (fd : FuncData), mg x = some (.ref f) ∧ keepIn K (.ref f) = true ∧ FnOk P w K mg base CX k f fd ps sp ∧ Binds K fd ps []
section
variable {X : Cx} {CX : CXT} {k : Nat} {x : Str} {ps : List Str} {sp : Sp} {E : XK} {e : Expr} {es : List Expr} {t : TA} {p pos : Pos}
theorem pe_fn (G : FnAt X.prog X.w X.K X.mg X.base CX k x ps sp) (hr : Room k X.A) (hx : Passes CX X E) (hg : Gl X x) (ha : PA X (e :: es) t)
    (hdb : (x == ("__debug__" : Str)) = false := by decide) (he : starEach (e :: es) X.env = (false, eval e X.env) :: starEach es X.env := by rfl) (hpl : (backTo pos (starEach es X.env)).any (·.1) = false := by rfl) :
    PE X (.Call (.Name x p) (e :: es) [] pos) (tCall sp [] E t) := by
  obtain ⟨f, fd, hm, kp, F, hb⟩ := G.ex
  exact pe_call F hr hg hm kp hb .nil hx ha hdb he hpl
end
/-! ### an error class, its instances as values -/
/-- at a: an error of the class at C, its dict at d holds fs -/
def mkE (H : Hp) (a C d : Addr) (fs : List (Str × V)) : Hp := upd (upd H d (exd d fs)) a (exo a C (some d))
/-- __init__(self, f): self.f = f -/
def spI1 (C : Addr) (f : Str) : Sp := fun vs H Q _ => ∃ (a : Addr) (v : V), vs = [.ref a, v] ∧ H a = some (exo a C none) ∧ ∀ d, H d = none → d ≠ a → Q .non (mkE H a C d [(f, v)])
def spI2 (C : Addr) (f g : Str) : Sp := fun vs H Q _ => ∃ (a : Addr) (v u : V), vs = [.ref a, v, u] ∧ H a = some (exo a C none) ∧ ∀ d, H d = none → d ≠ a → Q .non (mkE H a C d [(g, u), (f, v)])
def spS (z : Str) : Sp := fun vs H Q _ => ∃ v, vs = [v] ∧ Q (.str z) H
theorem mkE_new {H : Hp} {a C d : Addr} {fs : List (Str × V)} (ne : d ≠ a) : mkE (upd H a (exo a C none)) a C d fs = mkE H a C d fs := by
  funext b
  unfold mkE
  by_cases h : b = a
  · rw [h, upd_same, upd_same]
  · rw [upd_ne h, upd_ne h]
    by_cases h2 : b = d
    · rw [h2, upd_same, upd_same]
    · rw [upd_ne h2, upd_ne h2, upd_ne h]
/-- an error as a value -/
def ErrV (H : Hp) (v : V) (C : Addr) (fs : List (Str × V)) : Prop := ∃ a d, v = .ref a ∧ H a = some (exo a C (some d)) ∧ H d = some (exd d fs)
theorem ErrV.same {H H' : Hp} {v : V} {C : Addr} {fs : List (Str × V)} (h : ErrV H v C fs) (s : Same H H') : ErrV H' v C fs := by
  obtain ⟨a, d, e, h1, h2⟩ := h
  exact ⟨a, d, e, s _ _ h1, s _ _ h2⟩
theorem mkE_same {H : Hp} {a C d : Addr} {fs : List (Str × V)} (ha : H a = none) (hd : H d = none) : Same H (mkE H a C d fs) := fun b o e => by
  unfold mkE
  rw [upd_ne (ne_of_none e ha), upd_ne (ne_of_none e hd)]
  exact e
theorem mkE_err {H : Hp} {a C d : Addr} {fs : List (Str × V)} (ne : d ≠ a) : ErrV (mkE H a C d fs) (.ref a) C fs :=
  ⟨a, d, rfl, upd_same, by unfold mkE; rw [upd_ne ne, upd_same]⟩
def IniOk (P : Program) (w : World) (K : Frag) (mg : Str → Option Value) (base : Heap) (C : Addr) (fs : List Str) (fd : FuncData) : Prop := match fs with
  | [f] => FnOk P w K mg base CX0 1 (He.ma K C "__init__") fd ["self", f] (spI1 C f)
  | [f, g] => FnOk P w K mg base CX0 1 (He.ma K C "__init__") fd ["self", f, g] (spI2 C f g)
  | _ => False
/-- the class x, its __init__ (f or f, g), its told -/
structure ErrAt (P : Program) (w : World) (K : Frag) (mg : Str → Option Value) (base : Heap) (x : Str) (C : Addr) (fs : List Str) (z : Str) : Prop where
  mgC : mg x = some (.ref C)
  ex : ErrX K C fs ["told"]
  ini : findIn K (.ref C) "__init__" = some (some (.ref (He.ma K C "__init__"))) ∧ typeIn K (.ref (He.ma K C "__init__")) = some (.type "function")
  iok : ∃ fd, Binds K fd ("self" :: fs) [] ∧ IniOk P w K mg base C fs fd
  tok : ∃ fd, Binds K fd ["self"] [] ∧ keepIn K (.ref (He.ma K C "told")) = true ∧ FnOk P w K mg base CX0 1 (He.ma K C "told") fd ["self"] (spS z)
/-- the fields of an error that is made, as its dict holds them -/
def fldE : List Str → List V → List (Str × V)
  | [f], [v] => [(f, v)]
  | [f, g], [v, u] => [(g, u), (f, v)]
  | _, _ => []
def tErr (C : Addr) (fs : List Str) (ta : TA) : TE := fun σ H Q => ta σ H fun vs H1 => vs.length = fs.length ∧ ∀ v H2, Same H1 H2 → ErrV H2 v C (fldE fs vs) → Q v H2
section
variable {X : Cx} {x z : Str} {C : Addr} {fs : List Str} {e : Expr} {es : List Expr} {ta : TA} {p pos : Pos}
theorem pe_err (T : ErrAt X.prog X.w X.K X.mg X.base x C fs z) (hr : Room 2 X.A) (hx : Passes CX0 X (fun _ _ _ => False)) (hg : Gl X x) (ha : PA X (e :: es) ta)
    (hdb : (x == ("__debug__" : Str)) = false := by decide) (he : starEach (e :: es) X.env = (false, eval e X.env) :: starEach es X.env := by rfl) (hpl : (backTo pos (starEach es X.env)).any (·.1) = false := by rfl) :
    PE X (.Call (.Name x p) (e :: es) [] pos) (tErr C fs ta) := by
  obtain ⟨fd, hb, iok⟩ := T.iok
  refine ⟨fun pins s σ H Q I h => ?_⟩
  refine wpAny_Call_Name_kw (ld_glob I hg T.mgC ?_ hdb)
  refine callWith_K (h₀ := X.base) I.ok.mod.kin T.ex.ec.ox.kC (thn (ha.run pos pins s σ H _ I h) fun us s1 ⟨vs, H1, I1, r1, hz, q1⟩ => ⟨I1.kIn, ?_⟩) he hpl
  have ox := T.ex.ec.ox
  have i1 := T.ini.1
  have i2 := T.ini.2
  clear T
  match fs, vs, iok, hz, hb, q1 with
  | [f], [v], iok, _, hb, q1 =>
    exact run_mkE ox i1 i2 iok hr hb hx I1 r1 (by show 1 ≤ 1000; decide) fun a ha1 => ⟨a, v, rfl, upd_same, fun d hd ne => ⟨rfl, by
      rw [upd_ne ne] at hd
      rw [mkE_new ne]
      exact q1 _ _ (mkE_same ha1 hd) (mkE_err ne)⟩⟩
  | [f, g], [v, u], iok, _, hb, q1 =>
    exact run_mkE ox i1 i2 iok hr hb hx I1 r1 (by show 2 ≤ 1000; decide) fun a ha1 => ⟨a, v, u, rfl, upd_same, fun d hd ne => ⟨rfl, by
      rw [upd_ne ne] at hd
      rw [mkE_new ne]
      exact q1 _ _ (mkE_same ha1 hd) (mkE_err ne)⟩⟩
end

/-! ### the bodies of such a class's methods -/
section
variable {P : Program} {w : World} {K : Frag} {mg : Str → Option Value} {base : Heap} {x qual f g z : Str} {pa : Arguments} {sc : Scope} {dvs : List V} {kws : List (Str × V)} {fA : Addr} {fd : FuncData} {C : Addr} {p1 p2 p3 p4 q1 q2 q3 q4 : Pos} {j : Nat}
theorem ok_told {kk} (F : FunD K x qual pa [.Return (some (.Constant (.str z) kk p1)) p2] sc dvs kws fA fd) (S : FnScope ["self"] ["self"] sc) : FnOk P w K mg base CX0 1 fA fd ["self"] (spS z) := by
  refine F.ok S (fun vs H Q E h => ?_) (fun cdv A outer s H vs Q E hr h => ⟨_, PSs.nox (pss_one (ps_ret pe_str)), ?_⟩)
  · obtain ⟨v, rfl, _⟩ := h
    rfl
  · obtain ⟨v, rfl, q⟩ := h
    exact q
theorem ok_init1 (F : FunD K x qual pa [.Assign [.Attribute (.Name "self" p1) f p2] (.Name f p3) p4] sc dvs kws fA fd) (S : FnScope ["self", f] ["self", f] sc) (T : ErrX K C [f] ["told"])
    (ls : sc.names.lookup ("self" : Str) = some NameKind.local) (lf : sc.names.lookup f = some NameKind.local) (d1 : (f == ("__debug__" : Str)) = false) (d2 : (f == ("__classdict__" : Str)) = false) : FnOk P w K mg base CX0 1 fA fd ["self", f] (spI1 C f) := by
  refine F.ok S (fun vs H Q E h => ?_) (fun cdv A outer s H vs Q E hr h => ⟨_, PSs.nox (pss_one (ps_ost (pe_var (i := 0) rfl (.inl ls)) (pe_var (i := 1) rfl (.inl lf) d1 d2))), ?_⟩)
  · obtain ⟨a, v, rfl, _⟩ := h
    rfl
  · obtain ⟨a, v, rfl, ha, q⟩ := h
    exact ⟨_, rfl, _, rfl, a, C, rfl, T.ec.ox, T.no f (List.mem_singleton_self _), .inl ⟨ha, q⟩⟩
theorem ok_init2 (F : FunD K x qual pa [.Assign [.Attribute (.Name "self" p1) f p2] (.Name f p3) p4, .Assign [.Attribute (.Name "self" q1) g q2] (.Name g q3) q4] sc dvs kws fA fd) (S : FnScope ["self", f, g] ["self", f, g] sc) (T : ErrX K C [f, g] ["told"])
    (ls : sc.names.lookup ("self" : Str) = some NameKind.local) (lf : sc.names.lookup f = some NameKind.local) (d1 : (f == ("__debug__" : Str)) = false) (d2 : (f == ("__classdict__" : Str)) = false)
    (lg : sc.names.lookup g = some NameKind.local) (d3 : (g == ("__debug__" : Str)) = false) (d4 : (g == ("__classdict__" : Str)) = false) : FnOk P w K mg base CX0 1 fA fd ["self", f, g] (spI2 C f g) := by
  refine F.ok S (fun vs H Q E h => ?_) (fun cdv A outer s H vs Q E hr h => ⟨_, PSs.nox (pss_cons (ps_ost (pe_var (i := 0) rfl (.inl ls)) (pe_var (i := 1) rfl (.inl lf) d1 d2))
    (pss_one (ps_ost (pe_var (i := 0) rfl (.inl ls)) (pe_var (i := 2) rfl (.inl lg) d3 d4)))), ?_⟩)
  · obtain ⟨a, v, u, rfl, _⟩ := h
    rfl
  · obtain ⟨a, v, u, rfl, ha, q⟩ := h
    refine ⟨_, rfl, _, rfl, a, C, rfl, T.ec.ox, T.no f (List.mem_cons_self ..), .inl ⟨ha, fun d hd ne => ?_⟩⟩
    refine ⟨_, rfl, _, rfl, a, C, rfl, T.ec.ox, T.no g (List.mem_cons_of_mem _ (List.mem_singleton_self _)), .inr ⟨d, _, upd_same, by rw [upd_ne ne, upd_same], by show 1 ≤ 900; decide, ?_⟩⟩
    have z := q d hd ne
    have e : mkE H a C d [(g, u), (f, v)] = upd (upd (upd H d (exd d [(f, v)])) a (exo a C (some d))) d (exd d [(g, u), (f, v)]) := by
      funext b
      unfold mkE
      by_cases h1 : b = a
      · rw [h1, upd_same, upd_ne (Ne.symm ne), upd_same]
      · by_cases h2 : b = d
        · rw [h2, upd_ne ne, upd_same, upd_same]
        · rw [upd_ne h1, upd_ne h2, upd_ne h2, upd_ne h1, upd_ne h2]
    rw [e] at z
    exact z
end
end L2.Jk

set_option Elab.async false
set_option linter.all false
set_option maxRecDepth 100000
set_option maxHeartbeats 4000000
/-! A few operations over lists that may be read only; displays whose heap behind is not told but for what is new. -/
namespace L2.Jk
open PySem PySem.W PySem.Spec PySem.Calls PyProof.Rows

section
variable {X : Cx}
/-- xs + ys, whatever lists they are -/
def rCatS (K : Frag) : R2 := fun x y H Q => ∃ l b xs zs, x = .ref l ∧ y = .ref b ∧ SqL K H l xs ∧ SqL K H b zs ∧ xs.length + zs.length ≤ sizeLine ∧ ∀ p H', H p = none → Same H H' → H' p = some (.lst (xs ++ zs)) → Q (.ref p) H'
theorem op_catS : OpR X (binaryOp .Add) (rCatS X.K) := by
  intro pins s σ H x y v u Q I rx ry h
  obtain ⟨l, b, xs, zs, rfl, rfl, hl, hb, hz, q⟩ := h
  cases rx
  cases ry
  obtain ⟨i1, r1, ⟨o1, n1, g1, c1, d1, e1⟩, z1⟩ := I.list hl
  obtain ⟨i2, r2, ⟨o2, n2, g2, c2, d2, e2⟩, z2⟩ := I.list hb
  obtain ⟨k1, f1, t1, s1⟩ := o1
  obtain ⟨k2, f2, t2, s2⟩ := o2
  dsimp only at c1 d1 e1 c2 d2 e2
  subst c1 d1 e1 c2 d2 e2
  have hs : i1.length + i2.length ≤ sizeLine := by rw [← r1.length, ← r2.length]; exact hz
  refine concat_meets ⟨_, g1, rfl⟩ ⟨_, g2, rfl⟩ noFill_list_add seq_list_add PySem.F.slot_list_add PySem.F.entry_list_add (PySem.F.args_list_add_2 _ _)
    (list_addW l b i1.toArray i2.toArray n1 n2 none none s1 s2 (by simpa using hs)) ⟨g1, g2, ?_⟩
  rw [show i1.toArray ++ i2.toArray = (i1 ++ i2).toArray by simp]
  refine ⟨.ref _, _, I.lnew (t' := s.toks) (r1.append r2) (by rw [List.length_append]; exact hz), rfl, q _ _ I.fresh (fun c o z => ?_) upd_same⟩
  rw [upd_ne (ne_of_none z I.fresh)]
  exact z
/-- a display: where it stands is new, all else as before -/
def tLstS (t : TA) : TE := fun σ H Q => t σ H fun xs H1 => xs.length ≤ 1000 ∧ ∀ p H', H1 p = none → Same H1 H' → H' p = some (.lst xs) → Q (.ref p) H'
def tTupS (t : TA) : TE := fun σ H Q => t σ H fun xs H1 => xs.length ≤ 1000 ∧ ∀ p H', H1 p = none → Same H1 H' → H' p = some (.tup xs) → Q (.ref p) H'
theorem same_upd {H : Hp} {p : Addr} {o : HO} (h : H p = none) : Same H (upd H p o) := fun c u z => by
  rw [upd_ne (ne_of_none z h)]
  exact z
theorem pe_lstS {es : List Expr} {t : TA} {pos : Pos} (ha : PA X es t) : PE X (.List es pos) (tLstS t) := by
  constructor
  intro pins s σ H Q I h
  refine wpAny_List_spliced (thn (ha.run pos pins s σ H _ I h) fun us s1 ⟨xs, H1, I1, r, z, q⟩ => ?_)
  have z' := Nat.le_of_lt (small1000 z)
  have n : H1 s1.heap.objs.size = none := I1.fresh
  exact ⟨by rw [← r.length]; exact z', .ref s1.heap.objs.size, _, I1.lnew (t' := s1.toks) r z', rfl, q _ _ n (same_upd n) upd_same⟩
theorem pe_tupS {es : List Expr} {t : TA} {pos : Pos} {k} (ha : PA X es t) : PE X (.Tuple es k pos) (tTupS t) := by
  constructor
  intro pins s σ H Q I h
  refine wpAny_Tuple_spliced (thn (ha.run pos pins s σ H _ I h) fun us s1 ⟨xs, H1, I1, r, z, q⟩ => ?_)
  have z' := Nat.le_of_lt (small1000 z)
  have n : H1 s1.heap.objs.size = none := I1.fresh
  refine ⟨by rw [← r.length]; exact z', .ref s1.heap.objs.size, _, I1.laid (t' := s1.toks) (o := .tup xs) (fun b u e => Heap.get?_push_of_some _ e) (Nat.le_refl _) ?_, rfl, q _ _ n (same_upd n) upd_same⟩
  exact ⟨z', us, r, IsTup.new _ _⟩
/-- xs[lo:hi] of a list -/
def rSlS (K : Frag) : V → Option Int → Option Int → Hp → VK → Prop := fun x lo hi H Q => ∃ a xs, x = .ref a ∧ SqL K H a xs ∧ ∀ p H', H p = none → Same H H' → H' p = some (.lst (cutV xs lo hi)) → Q (.ref p) H'
theorem sl_listS : SlR X (rSlS X.K) := by
  intro pins s σ H x v vl vu lo hi sl Q I rx hs pl pu h
  obtain ⟨a, xs, e, hx, q⟩ := h
  exact sl_list pins s σ H x v vl vu lo hi sl Q I rx hs pl pu ⟨a, xs, e, hx, fun p hp => q p _ hp (same_upd hp) upd_same⟩
end
/-- what may change at one place alone -/
def But (a : Addr) (H H' : Hp) : Prop := ∀ c o, c ≠ a → H c = some o → H' c = some o
theorem But.of_same {a : Addr} {H H' : Hp} (s : Same H H') : But a H H' := fun c o _ h => s c o h
theorem But.refl (a : Addr) (H : Hp) : But a H H := fun _ _ _ h => h
theorem But.trans {a : Addr} {H H1 H2 : Hp} (x : But a H H1) (y : But a H1 H2) : But a H H2 := fun c o n h => y c o n (x c o n h)
theorem but_upd (H : Hp) (a : Addr) (o : HO) : But a H (upd H a o) := fun c u n h => by
  rw [upd_ne n]
  exact h
/-! ### data stays -/
theorem SqT.same {K : Frag} {H H' : Hp} {a : Addr} {xs : List V} (e : Same H H') (h : SqT K H a xs) : SqT K H' a xs := by
  rcases h with (h | ⟨o, h⟩) | h
  · exact .inl (.inl (e _ _ h))
  · exact .inl (.inr ⟨o, e _ _ h⟩)
  · exact .inr h
/-- a class or a def of the module, a built-in type, as a value -/
theorem pe_gref {X : Cx} {x : Str} {a : Addr} {pos : Pos} (hg : Gl X x) (hm : X.mg x = some (.ref a)) (hd : (x == ("__debug__" : Str)) = false := by decide) : PE X (.Name x pos) (tC (.ref a)) := pe_glob (v := .ref a) hg hm rfl hd
theorem pe_bty {X : Cx} {x : Str} {n : String} {pos : Pos} (hg : Gl X x) (hm : X.mg x = none) (hv : bootBuiltins x = some (.type n)) (hn : x ≠ "__name__" := by decide) (hd : (x == ("__debug__" : Str)) = false := by decide) : PE X (.Name x pos) (tC (.ty n)) :=
  pe_bltn (v := .ty n) hg hm hv rfl hn hd
/-! ### a new list that a comprehension fills: fm i is what it holds behind i turns -/
def LcP (H1 : Hp) (D : Addr) (fm : Nat → List V) (i : Nat) (H : Hp) : Prop := Same H1 H ∧ H1 D = none ∧ H D = some (.lst (fm i)) ∧ (fm i).length ≤ i
theorem LcP.start {H1 : Hp} {D : Addr} {fm : Nat → List V} (h : H1 D = none) (e : fm 0 = []) : LcP H1 D fm 0 (upd H1 D (.lst [])) :=
  ⟨same_upd h, h, by rw [upd_same, e], by rw [e]; exact Nat.le_refl _⟩
theorem LcP.put {H1 H H4 : Hp} {D : Addr} {fm : Nat → List V} {i : Nat} {y : V} (p : LcP H1 D fm i H) (s : Same H H4) (e : fm (i + 1) = fm i ++ [y]) (hi : i < 10000) :
    ∃ acc, H4 D = some (.lst acc) ∧ acc.length < sizeLine ∧ LcP H1 D fm (i + 1) (upd H4 D (.lst (acc ++ [y]))) := by
  obtain ⟨s0, n, d, l⟩ := p
  refine ⟨fm i, s _ _ d, ?_, fun c o z => ?_, n, by rw [upd_same, e], by rw [e, List.length_append, List.length_singleton]; omega⟩
  · rw [sizeLine_eq]
    omega
  · rw [upd_ne (ne_of_none z n)]
    exact s _ _ (s0 _ _ z)
theorem LcP.pass {H1 H H4 : Hp} {D : Addr} {fm : Nat → List V} {i : Nat} (p : LcP H1 D fm i H) (s : Same H H4) (e : fm (i + 1) = fm i) : LcP H1 D fm (i + 1) H4 := by
  obtain ⟨s0, n, d, l⟩ := p
  exact ⟨s0.trans s, n, by rw [e]; exact s _ _ d, by rw [e]; omega⟩
/-! ### data that stays where one place alone changes -/
def Per (a : Addr) (K : Frag) (H : Hp) (x : V) (d : PyData) : Prop := ∀ H', But a H H' → Dp K H' x d
theorem Per.but {a : Addr} {K : Frag} {H H1 : Hp} {x : V} {d : PyData} (p : Per a K H x d) (b : But a H H1) : Per a K H1 x d := fun H' b' => p H' (b.trans b')
theorem Per.same {a : Addr} {K : Frag} {H H1 : Hp} {x : V} {d : PyData} (p : Per a K H x d) (s : Same H H1) : Per a K H1 x d := p.but (But.of_same s)
theorem Per.dp {a : Addr} {K : Frag} {H : Hp} {x : V} {d : PyData} (p : Per a K H x d) : Dp K H x d := p H (But.refl a H)
theorem Per.lst {a p : Addr} {K : Frag} {H : Hp} {xs : List V} {ds : List PyData} (ne : p ≠ a) (h : H p = some (.lst xs)) (q : ∀ H', But a H H' → DpAll K H' xs ds) : Per a K H (.ref p) (.list ds) :=
  fun H' b => .lst (SqL.of (b _ _ ne h)) (q H' b)
theorem Per.tup {a p : Addr} {K : Frag} {H : Hp} {xs : List V} {ds : List PyData} (ne : p ≠ a) (h : H p = some (.tup xs)) (q : ∀ H', But a H H' → DpAll K H' xs ds) : Per a K H (.ref p) (.tuple ds) :=
  fun H' b => .tup (SqT.of (b _ _ ne h)) (q H' b)
theorem dp_one {K : Frag} {H : Hp} {p : Addr} {x : V} {d : PyData} (h : H p = some (.lst [x])) (q : Dp K H x d) : Dp K H (.ref p) (.list [d]) := .lst (SqL.of h) (.cons q .nil)
theorem dp_two {K : Frag} {H : Hp} {p : Addr} {x y : V} {d e : PyData} (h : H p = some (.lst [x, y])) (q : Dp K H x d) (r : Dp K H y e) : Dp K H (.ref p) (.list [d, e]) := .lst (SqL.of h) (.cons q (.cons r .nil))
theorem eqv_same {d : PyData} (h : SeqAt.shaped d = true) : PyData.eqv d d = true := SeqAt.eqv_refl d (SeqAt.canLay_of_shaped h)
theorem ne_new {H : Hp} {a b : Addr} {o : HO} (h : H a = some o) (n : H b = none) : b ≠ a := Ne.symm (ne_of_none h n)
end L2.Jk

set_option Elab.async false
set_option linter.all false
set_option maxRecDepth 100000
set_option maxHeartbeats 4000000
/-! == and != of instances by the text's own __eq__, whatever it answers. -/
namespace L2.Jk
open PySem PySem.W PySem.Spec PySem.Calls PyProof.Rows

/-! ### what the head says of a class with an own __eq__ and no __ne__, by one Bool -/
def eqcB (K : Frag) (C : Addr) : Bool := He.eqO (findIn K (.ref C) "__eq__") (some (some (.ref (He.ma K C "__eq__")))) && (isFn K (.ref (He.ma K C "__eq__")) && (match K.lookup C with
  | some ⟨.type "type", _, .cls cd, sl⟩ => (match cd.mro, sl.toList with
    | .ref D :: bm, [_, _, _, _, some (.builtin _), _] => decide (D = C) && (decide (bm = [.type "object"]) && (!cd.hasDel && (nsOkIn K cd.ns && (decide (nsIn K cd.ns "__eq__" = some (some (.ref (He.ma K C "__eq__")))) && decide (nsIn K cd.ns "__ne__" = some none)))))
    | _, _ => false)
  | _ => false))
structure EqcC (K : Frag) (C : Addr) : Prop where
  find : findIn K (.ref C) "__eq__" = some (some (.ref (He.ma K C "__eq__")))
  fn : isFn K (.ref (He.ma K C "__eq__")) = true
  cls : ∃ nm q N bs hdct sn sub ab col dd k0 k1 k2 k3 k5 nid, K.lookup C = some (excClassObj nm q C N bs [.type "object"] hdct sn sub ab col dd k0 k1 k2 k3 k5 nid) ∧ nsOkIn K N = true ∧
    nsIn K N "__eq__" = some (some (.ref (He.ma K C "__eq__"))) ∧ nsIn K N "__ne__" = some none
theorem eqcB_ok {K : Frag} {C : Addr} (h : eqcB K C = true) : EqcC K C := by
  obtain ⟨h1, h⟩ := Bool.and_eq_true_iff.mp h
  obtain ⟨h2, h3⟩ := Bool.and_eq_true_iff.mp h
  refine ⟨He.eqO_ok h1, h2, ?_⟩
  split at h3
  · rename_i dd cd sl ho
    split at h3
    · rename_i D bm k0 k1 k2 k3 n k5 hm hs
      obtain ⟨a1, h3⟩ := Bool.and_eq_true_iff.mp h3
      obtain ⟨a2, h3⟩ := Bool.and_eq_true_iff.mp h3
      obtain ⟨a3, h3⟩ := Bool.and_eq_true_iff.mp h3
      obtain ⟨a4, h3⟩ := Bool.and_eq_true_iff.mp h3
      obtain ⟨a5, a6⟩ := Bool.and_eq_true_iff.mp h3
      obtain rfl := of_decide_eq_true a1
      obtain rfl := of_decide_eq_true a2
      obtain ⟨nm, bs, mro, ns, qn, hd, sn, sub, ab, col, del⟩ := cd
      dsimp only at hm a3 a4 a5 a6
      subst hm
      obtain rfl : del = false := by cases del <;> first | rfl | cases a3
      have e : sl = #[k0, k1, k2, k3, some (.builtin n), k5] := by
        obtain ⟨l⟩ := sl
        dsimp only at hs
        rw [hs]
      subst e
      exact ⟨nm, qn, ns, bs, hd, sn, sub, ab, col, dd, k0, k1, k2, k3, k5, n, ho, a4, of_decide_eq_true a5, of_decide_eq_true a6⟩
    · cases h3
  · cases h3

section
variable {X : Cx} {CX : CXT} {E : XK}
/-- x == y, x an instance with an own __eq__: what that answers -/
def rEqO (X : Cx) (CX : CXT) (E : XK) : R2 := fun x y H Q => ∃ (a C dx : Addr) (fs : List (Str × V)) (t : Value), x = .ref a ∧ H a = some (.ins C dx fs) ∧ EqcC X.K C ∧ TyE X.K H y t ∧ notFirst X.K C t = true ∧
  Does X CX (He.ma X.K C "__eq__") [x, y] H (fun v H' => ∃ b, v = .bl b ∧ Q (.bl b) H') E
theorem op_eqO (hx : Passes CX X E) : OpR X (compareOp .Eq) (rEqO X CX E) := by
  intro pins s σ H x y v u Q I rx ry h
  obtain ⟨a, C, dx, fs, t, rfl, ha, T, ty, nf, k, fd, ps, sp, kp, F, hr, hb, q⟩ := h
  cases rx
  obtain ⟨mA, J, _⟩ := ins_get I.hok ha
  obtain ⟨od, J, _⟩ := J.look
  obtain ⟨m, hF⟩ := I.fr
  obtain ⟨P, Z, p, _⟩ := kit_ofE I ry ty
  have hty : Looks (model X.prog X.w) s.heap (typeOf u) t := Z.ty _ _ I.kIn p
  show wpAny (model X.prog X.w) X.A (richCompare .Eq (.ref a) u) (EP X pins σ Q) X.xe s
  refine cmp_K (op := .Eq) (tb := t) hr.units0 hF I.ok.mod.kin J hty nf T.find T.fn ?_
  refine wpAny_mono (run_fn (us := [.ref a, u]) (vs := [.ref a, y]) F hr hb .nil hx I (.cons rfl (.cons ry .nil)) q) (fun z s' hz => ?_) fun _ _ e => e
  obtain ⟨v', H', I', r', b, rfl, q'⟩ := hz
  obtain rfl : z = Value.bool b := r'
  exact ⟨.bl b, H', I', rfl, q'⟩
theorem ns_at_of {K : Frag} {h : Heap} {N : Addr} {mN : Str → Option Value} {n : Str} {v : Value} (X : K.In h) (G : h.Ns N mN) (e : nsIn K N n = some (some v)) : mN n = some v := by
  obtain ⟨o, es, ep, ho, hd, _, hf⟩ := G
  unfold nsIn at e
  split at e
  · rename_i q
    have z := X _ _ q
    rw [ho] at z
    cases z
    cases hd
    split at e
    · rename_i en he
      have ev : en.val = v := Option.some.inj (Option.some.inj e)
      rw [← hf]
      unfold nsFind findBy
      rw [← Array.find?_toList, he]
      exact congrArg some ev
    · split at e <;> cases e
  · cases e
/-- a call below a builtin -/
theorem run_in1 {k : Nat} {f : Addr} {fd : FuncData} {ps : List Str} {sp : Sp} {pins : List (Addr × Obj)} {σ : St} {H : Hp} {s : Shared} {Q : VK} {us : List Value} {vs : List V} (F : FnOk X.prog X.w X.K X.mg X.base CX k f fd ps sp) (hr : Room k X.A.in1)
    (hb : Binds X.K fd ps []) (hx : Passes CX X E) (I : Inv X pins σ H s) (r : Vals vs us) (h : sp vs H Q E) : wpAny (model X.prog X.w) X.A.in1 (call (.ref f) us) (EP X pins σ Q) X.xe s := by
  have hl : us.length = ps.length := by rw [← r.length]; exact F.len _ _ _ _ h
  have hb' := hb s us I.kIn (by rw [List.append_nil]; exact hl)
  rw [List.append_nil] at hb'
  refine wpAny_call (codeAny_mono (F.run X.A.in1 X.stack s H ⟨us, []⟩ us vs Q E hr I.env0.in1 hb' r h) fun r s' hq => ?_)
  cases r with
  | error e => exact hx pins σ H s e s' I hq
  | ok fl =>
    cases fl with
    | ret u => exact I.after hq
    | next => exact False.elim hq
    | brk => exact False.elim hq
    | cont => exact False.elim hq
/-- x != y, both instances of the class at C -/
def rNeO (X : Cx) (CX : CXT) (E : XK) : R2 := fun x y H Q => ∃ (a b C dx dy : Addr) (fs gs : List (Str × V)), x = .ref a ∧ y = .ref b ∧ H a = some (.ins C dx fs) ∧ H b = some (.ins C dy gs) ∧ EqcC X.K C ∧
  ∃ (k : Nat) (fd : FuncData) (ps : List Str) (sp : Sp), keepIn X.K (.ref (He.ma X.K C "__eq__")) = true ∧ FnOk X.prog X.w X.K X.mg X.base CX k (He.ma X.K C "__eq__") fd ps sp ∧ Room (k + 1) X.A ∧ Binds X.K fd ps [] ∧ sp [x, y] H (fun v H' => ∃ b, v = .bl b ∧ Q (.bl !b) H') E
theorem op_neO (hx : Passes CX X E) : OpR X (compareOp .NotEq) (rNeO X CX E) := by
  intro pins s σ H x y v u Q I rx ry h
  obtain ⟨a, b, C, dx, dy, fs, gs, rfl, rfl, ha, hb', T, k, fd, ps, sp, kp, G, hr, hb, q⟩ := h
  cases rx
  cases ry
  obtain ⟨mA, J, _⟩ := ins_get I.hok ha
  obtain ⟨mB, J', _⟩ := ins_get I.hok hb'
  obtain ⟨od, J, _⟩ := J.look
  obtain ⟨od', J', _⟩ := J'.look
  obtain ⟨nm, qn, N, bs, hdct, sn, sub, ab, col, dd, k0, k1, k2, k3, k5, nid, hC, ok, ne1, ne2⟩ := T.cls
  have hn : s.heap.Ns N (s.heap.nsMap N) := .of_isNs (isNs_of_in I.kIn ok)
  obtain ⟨of, hof, hcl⟩ := Option.map_eq_some_iff.mp (show (X.K.lookup (He.ma X.K C "__eq__")).map (·.cls) = some (.type "function") from beq_iff_eq.mp T.fn)
  have own : s.heap.OwnEqNoNe a C (He.ma X.K C "__eq__") "object" [.type "object"] := ⟨_, of, nm, qn, N, bs, hdct, sn, sub, ab, col, dd, k0, k1, k2, k3, k5, nid, _, _, J.at_, rfl, I.kIn _ _ hC, hn, ns_at_of I.kIn hn ne1,
    I.kIn _ _ hof, hcl, F.cmp_object.mro, F.cmp_object.eq.lookup, ns_none_of I.kIn hn ne2⟩
  obtain ⟨hp, g, d, tk, os⟩ := s
  refine compareOp_ne_ownEq F.cmp_object own J'.at_ rfl (by have := hr.units; omega) ?_
  refine wpAny_mono (run_in1 (us := [.ref a, .ref b]) (vs := [.ref a, .ref b]) G hr.in1 hb hx I (.cons rfl (.cons rfl .nil)) q) (fun z s' hz => ?_) fun _ _ e => e
  obtain ⟨v', H', I', r', b', rfl, q'⟩ := hz
  obtain rfl : z = Value.bool b' := r'
  exact ⟨b', rfl, .bl !b', H', I', rfl, q'⟩
end
end L2.Jk

set_option Elab.async false
set_option linter.all false
set_option maxRecDepth 100000
set_option maxHeartbeats 4000000
/-! int(text) of up to 4,300 digits, where the interpreter's limit on digits stands as it was. -/
namespace L2.Jk
open PySem PySem.W PySem.Spec PySem.Calls PySem.NumText PyProof.Rows PySem.W.KIN

theorem wp_textW {M : Model} {A : Around} {E : Value → Shared → Prop} {s : Shared} {Q : Value → Shared → Prop} {v : Value} {text : List Nat} {n : Int}
    (hd : s.heap.NoDigits) (hs : ¬ (text.takeWhile (· != 0)).length ≤ 640) (hr : (int_private% "readNumeral") 4300 10 (text.takeWhile (· != 0)) = (int_private% "Numeral.value") n)
    (ha : ((text.takeWhile (· != 0)).length == text.length) = true) (h : Q (.int n s.toks) { s with toks := s.toks + 1 }) :
    wpAny M A ((int_private% "intFromText") v text 10) Q E s := by
  obtain ⟨mc, hns, hnone⟩ := hd
  have key : wpAny M A (Builtin.intMaxStrDigits) (fun l s' => l = 4300 ∧ s' = s) E s := by
    unfold Builtin.intMaxStrDigits
    refine wpAny_bind (wpAny_nsGet hns ?_)
    rw [hnone]
    exact wpAny_pure ⟨rfl, rfl⟩
  obtain ⟨hp, g, d, tk, os⟩ := s
  show wpAny M A (do
    let limit ← if (text.takeWhile (· != 0)).length ≤ 640 then pure 0 else Builtin.intMaxStrDigits
    _) Q E _
  rw [if_neg hs]
  refine wpAny_bind (wpAny_mono key ?_ (fun _ _ x => x))
  rintro l s' ⟨rfl, rfl⟩
  dsimp only
  rw [hr]
  repeat (any_goals (first
    | assumption
    | (with_reducible refine wpAny_ite_true ha ?_)
    | wp_step))

set_option maxHeartbeats 4000000 in
theorem meets_textW {x : PySem.Str} {u : Tok} {n : Int} (hl : ¬ (numSeenOf x).length ≤ 640) (hl2 : x.length ≤ sizeLine) (hn : PySem.intText? x = some n) :
    Meets (Builtin.«int.__new__» ⟨[.type "int", .str x u], []⟩) (fun A R s => s.heap.NoDigits ∧ R (.ok (.ret (.int n s.toks))) { s with toks := s.toks + 1 }) :=
  .of_wp fun prog w A R s h => by
    have hr : (int_private% "readNumeral") 4300 10 (numSeenOf x) = (int_private% "Numeral.value") n ∧ ((numSeenOf x).length == (numTextOf x).length) = true := by
      rcases read4300 x hl2 with ⟨m, h1, h2, h3⟩ | ⟨h1, _⟩
      · rw [hn] at h1
        injection h1 with h1
        subst h1
        exact ⟨h3, h2⟩
      · rw [hn] at h1
        cases h1
    obtain ⟨hd, h⟩ := h
    have hd2 := Hid.mk hd
    obtain ⟨hp, g, d, tk, os⟩ := s
    have f1 := F.conv_sub_int
    have f2 := F.madeHere_int
    have f3 := str_int
    have f4 := str_idx
    have f5 := str_trunc
    have f6 : typeOf (.str x u) = pure (.type "str") := rfl
    have hk := Hid.mk (And.intro hl hr)
    clear hr hl hl2 hn hd
    repeat (any_goals (first
      | assumption
      | ((with_reducible show wpAny _ _ ((int_private% "intFromText") _ _ _) _ _ _); refine wp_textW hd2.out hk.out.1 hk.out.2.1 hk.out.2.2 ?_)
      | wp_step))
    all_goals first | exact ⟨_, rfl, h⟩ | skip
theorem call_textW {prog : Program} {w : World} {A : Around} {E : Value → Shared → Prop} {s : Shared} {Q : Value → Shared → Prop} {x : PySem.Str} {t : Tok} {n : Int} (hd : s.heap.NoDigits) (hn : PySem.intText? x = some n) (hl : x.length ≤ 640 ∨ (¬ (numSeenOf x).length ≤ 640 ∧ x.length ≤ 4300))
    (h : Q (.int n s.toks) { s with toks := s.toks + 1 }) : wpAny (model prog w) A (call (.type "int") [.str x t]) Q E s := by
  rcases hl with hl | ⟨hs, hl⟩
  · exact PySem.W.KIN.call_text hn hl h
  · exact call_int_1 (meets_textW hs (by rw [sizeLine_eq]; omega) hn) ⟨hd, rfl, h⟩
/-- a text that int() takes: short, or all of it digits -/
def IntOk (a : Str) : Prop := a.length ≤ 640 ∨ ((¬ (numSeenOf a).length ≤ 640) ∧ a.length ≤ 4300)
theorem intOk_digits {a : Str} (h : ∀ c ∈ a.cps.toList, c = 45 ∨ (48 ≤ c ∧ c ≤ 57)) (hl : a.length ≤ 4300) : IntOk a := by
  by_cases k : a.length ≤ 640
  · exact .inl k
  · refine .inr ⟨?_, hl⟩
    rw [(numText_signs h).2, Array.length_toList]
    exact k
theorem call_int_strW {X : Cx} (hd : X.base.NoDigits) : CallR X (.type "int") (fun xs H Q => ∃ a n, xs = [.str a] ∧ PySem.intText? a = some n ∧ IntOk a ∧ Q (.int n) H) := by
  intro pins s σ H xs us Q I rs h
  obtain ⟨a, n, rfl, hn, hl, h⟩ := h
  cases rs with
  | cons r1 rs =>
    cases rs
    obtain ⟨t, rfl⟩ := r1
    exact call_textW (hd.keeps I.bk) hn hl ⟨.int n, H, I.tok _, ⟨_, rfl⟩, h⟩
/-- what the head tells of the interpreter's own table -/
def digB (K : Frag) : Bool := match K.lookup cStatics with
  | some o => (match o.data with
    | .dict es _ => es.toList.all fun e => match e.key with
      | .str n _ => decide (n ≠ ("sys.int_max_str_digits" : Str))
      | _ => false
    | _ => false)
  | none => false
theorem noDigits_of {K : Frag} {base : Heap} (X : K.In base) (h : digB K = true) : base.NoDigits := by
  unfold digB at h
  split at h
  · rename_i o ho
    split at h
    · rename_i es ep hd
      have key : ∀ e ∈ es, ∃ n t, e.key = .str n t ∧ n ≠ ("sys.int_max_str_digits" : Str) := fun e he => by
        have k := List.all_eq_true.mp h e (by simpa using he)
        split at k
        · rename_i n t ek
          exact ⟨n, t, ek, of_decide_eq_true k⟩
        · cases k
      refine ⟨fun n => nsFind es n, ⟨o, es, ep, X _ _ ho, hd, fun e he => ?_, fun _ => rfl⟩, ?_⟩
      · obtain ⟨n, t, ek, _⟩ := key e he
        exact ⟨n, t, ek⟩
      · show nsFind es "sys.int_max_str_digits" = none
        unfold nsFind findBy
        have z : es.find? (fun e => e.key.isStr "sys.int_max_str_digits") = none := by
          rw [Array.find?_eq_none]
          intro e he
          obtain ⟨n, t, ek, ne⟩ := key e he
          rw [ek]
          simpa [Value.isStr] using ne
        rw [z]
        rfl
    · cases h
  · cases h
/-! ### a head whose facts see the interpreter's own table, too -/
def obsS (n : Nat) (fa : List He.Fa) (fn : List He.DefD) (ex : Frag → Bool) (g : Addr → Option Obj) : He.AlX := (He.obsT fa fn [] (He.frT g (He.asD g n ++ [cStatics])), ex (He.frT g (He.asD g n ++ [cStatics])))
def hookS (n : Nat) (fa : List He.Fa) (fn : List He.DefD) (ex : Frag → Bool) : PySem.W.Hook where
  α := He.AlX
  obs := fun s => obsS n fa fn ex s.heap.get?
  val := fun w => He.valX fn [] w
  says := fun w h => ∃ K : Frag, K.In h ∧ He.SaysT fa fn [] w K ∧ ex K = true
  of := fun _ _ e => ⟨_, He.frT_in, congrArg (fun z : He.AlX => z.1) e, congrArg (fun z : He.AlX => z.2) e⟩
  keeps := fun _ _ _ ⟨K, hK, c, m⟩ k => ⟨K, Frag.In.keeps hK k, c, m⟩
theorem obsS_eq {n : Nat} {fa : List He.Fa} {fn : List He.DefD} {ex : Frag → Bool} {g : Addr → Option Obj} {s : Shared} (h : ∀ a, g a = s.heap.get? a) : obsS n fa fn ex g = (hookS n fa fn ex).obs s := by
  have e : g = s.heap.get? := funext h
  rw [e] <;> rfl
end L2.Jk

set_option Elab.async false
set_option linter.all false
set_option maxRecDepth 100000
set_option maxHeartbeats 0
namespace L2.K06
open PySem PySem.W PySem.Spec PySem.Calls PyProof.Rows L2.Jk
def top (i : Nat) : Stmt := PySem.Challenge.pw_jointkeys_k06_whole_fields_by_their_text.main.body.getD i (.Pass ⟨0, 0, 0, 0⟩)
def SG : Str := "-./0123456789ABCDEFGHIJKLMNOPQRSTUVWXYZ_abcdefghijklmnopqrstuvwxyz"
def DG : Str := "0123456789"
abbrev BF (K : Frag) : Addr := He.ga K "BadField"
def cname : Nat → Str
  | 0 => "Word"
  | 1 => "Number"
  | 2 => "Fixed"
  | 3 => "Listed"
  | 4 => "Ended"
  | 5 => "Marked"
  | _ => ""
abbrev ca (K : Frag) (i : Nat) : Addr := He.ga K (cname i)

def fn : List He.DefD := [⟨("BadField", some "__init__"), "__init__", "BadField.__init__", defArgs (inClass (top 3) 0), defBody (inClass (top 3) 0), defScope (inClass (top 3) 0), [], []⟩,
  ⟨("BadField", some "told"), "told", "BadField.told", defArgs (inClass (top 3) 1), defBody (inClass (top 3) 1), defScope (inClass (top 3) 1), [], []⟩,
  ⟨("Word", some "__init__"), "__init__", "Word.__init__", defArgs (inClass (top 17) 0), defBody (inClass (top 17) 0), defScope (inClass (top 17) 0), [], []⟩,
  ⟨("Word", some "__eq__"), "__eq__", "Word.__eq__", defArgs (inClass (top 17) 1), defBody (inClass (top 17) 1), defScope (inClass (top 17) 1), [], []⟩,
  ⟨("Word", some "has_sign"), "has_sign", "Word.has_sign", defArgs (inClass (top 17) 7), defBody (inClass (top 17) 7), defScope (inClass (top 17) 7), [], []⟩,
  ⟨("Number", some "__init__"), "__init__", "Number.__init__", defArgs (inClass (top 18) 0), defBody (inClass (top 18) 0), defScope (inClass (top 18) 0), [], []⟩,
  ⟨("Number", some "__eq__"), "__eq__", "Number.__eq__", defArgs (inClass (top 18) 1), defBody (inClass (top 18) 1), defScope (inClass (top 18) 1), [], []⟩,
  ⟨("Number", some "has_sign"), "has_sign", "Number.has_sign", defArgs (inClass (top 18) 7), defBody (inClass (top 18) 7), defScope (inClass (top 18) 7), [], []⟩,
  ⟨("Fixed", some "__init__"), "__init__", "Fixed.__init__", defArgs (inClass (top 19) 0), defBody (inClass (top 19) 0), defScope (inClass (top 19) 0), [], []⟩,
  ⟨("Fixed", some "__eq__"), "__eq__", "Fixed.__eq__", defArgs (inClass (top 19) 1), defBody (inClass (top 19) 1), defScope (inClass (top 19) 1), [], []⟩,
  ⟨("Fixed", some "has_sign"), "has_sign", "Fixed.has_sign", defArgs (inClass (top 19) 7), defBody (inClass (top 19) 7), defScope (inClass (top 19) 7), [], []⟩,
  ⟨("Listed", some "__init__"), "__init__", "Listed.__init__", defArgs (inClass (top 20) 0), defBody (inClass (top 20) 0), defScope (inClass (top 20) 0), [], []⟩,
  ⟨("Listed", some "__eq__"), "__eq__", "Listed.__eq__", defArgs (inClass (top 20) 1), defBody (inClass (top 20) 1), defScope (inClass (top 20) 1), [], []⟩,
  ⟨("Listed", some "has_sign"), "has_sign", "Listed.has_sign", defArgs (inClass (top 20) 7), defBody (inClass (top 20) 7), defScope (inClass (top 20) 7), [], []⟩,
  ⟨("Ended", some "__init__"), "__init__", "Ended.__init__", defArgs (inClass (top 21) 0), defBody (inClass (top 21) 0), defScope (inClass (top 21) 0), [], []⟩,
  ⟨("Ended", some "__eq__"), "__eq__", "Ended.__eq__", defArgs (inClass (top 21) 1), defBody (inClass (top 21) 1), defScope (inClass (top 21) 1), [], []⟩,
  ⟨("Ended", some "has_sign"), "has_sign", "Ended.has_sign", defArgs (inClass (top 21) 7), defBody (inClass (top 21) 7), defScope (inClass (top 21) 7), [], []⟩,
  ⟨("Marked", some "__init__"), "__init__", "Marked.__init__", defArgs (inClass (top 22) 0), defBody (inClass (top 22) 0), defScope (inClass (top 22) 0), [], []⟩,
  ⟨("Marked", some "__eq__"), "__eq__", "Marked.__eq__", defArgs (inClass (top 22) 1), defBody (inClass (top 22) 1), defScope (inClass (top 22) 1), [], []⟩,
  ⟨("is_made_of", none), "is_made_of", "is_made_of", defArgs (top 7), defBody (top 7), defScope (top 7), [], []⟩,
  ⟨("is_sign", none), "is_sign", "is_sign", defArgs (top 8), defBody (top 8), defScope (top 8), [], []⟩,
  ⟨("are_signs", none), "are_signs", "are_signs", defArgs (top 9), defBody (top 9), defScope (top 9), [], []⟩,
  ⟨("is_number", none), "is_number", "is_number", defArgs (top 11), defBody (top 11), defScope (top 11), [], []⟩,
  ⟨("digits_of", none), "digits_of", "digits_of", defArgs (top 12), defBody (top 12), defScope (top 12), [], []⟩,
  ⟨("check_signs", none), "check_signs", "check_signs", defArgs (top 14), defBody (top 14), defScope (top 14), [], []⟩,
  ⟨("check_span", none), "check_span", "check_span", defArgs (top 15), defBody (top 15), defScope (top 15), [], []⟩,
  ⟨("has_words_with", none), "has_words_with", "has_words_with", defArgs (top 16), defBody (top 16), defScope (top 16), [], []⟩,
  ⟨("has_beginnings_first", none), "has_beginnings_first", "has_beginnings_first", defArgs (top 24), defBody (top 24), defScope (top 24), [], []⟩,
  ⟨("is_whole", none), "is_whole", "is_whole", defArgs (top 25), defBody (top 25), defScope (top 25), [], []⟩,
  ⟨("has_whole_ends", none), "has_whole_ends", "has_whole_ends", defArgs (top 26), defBody (top 26), defScope (top 26), [], []⟩,
  ⟨("begins_with_one", none), "begins_with_one", "begins_with_one", defArgs (top 27), defBody (top 27), defScope (top 27), [], []⟩,
  ⟨("_law_cell_at", none), "_law_cell_at", "_law_cell_at", defArgs (top 29), defBody (top 29), defScope (top 29), [], []⟩,
  ⟨("_law_state", none), "_law_state", "_law_state", defArgs (top 30), defBody (top 30), defScope (top 30), [], []⟩,
  ⟨("_law_digit", none), "_law_digit", "_law_digit", defArgs (top 31), defBody (top 31), defScope (top 31), [], []⟩,
  ⟨("_law_letters", none), "_law_letters", "_law_letters", defArgs (top 32), defBody (top 32), defScope (top 32), [], []⟩,
  ⟨("_law_bounds", none), "_law_bounds", "_law_bounds", defArgs (top 33), defBody (top 33), defScope (top 33), [], []⟩,
  ⟨("_law_plain", none), "_law_plain", "_law_plain", defArgs (top 34), defBody (top 34), defScope (top 34), [], []⟩,
  ⟨("_law_field", none), "_law_field", "_law_field", defArgs (top 35), defBody (top 35), defScope (top 35), [], []⟩,
  ⟨("_law_made", none), "_law_made", "_law_made", defArgs (top 36), defBody (top 36), defScope (top 36), [], []⟩,
  ⟨("_law_strings", none), "_law_strings", "_law_strings", defArgs (top 37), defBody (top 37), defScope (top 37), [], []⟩,
  ⟨("_law_pairs", none), "_law_pairs", "_law_pairs", defArgs (top 38), defBody (top 38), defScope (top 38), [], []⟩,
  ⟨("_law_near", none), "_law_near", "_law_near", defArgs (top 39), defBody (top 39), defScope (top 39), [], []⟩,
  ⟨("_law_first", none), "_law_first", "_law_first", defArgs (top 40), defBody (top 40), defScope (top 40), [], []⟩,
  ⟨("_law_inside", none), "_law_inside", "_law_inside", defArgs (top 41), defBody (top 41), defScope (top 41), [], []⟩,
  ⟨("law", none), "law", "law", defArgs (top 42), defBody (top 42), defScope (top 42), [], []⟩]

def fa : List He.Fa := [.glo "BadField", .glo "Word", .glo "Number", .glo "Fixed", .glo "Listed", .glo "Ended", .glo "Marked", .glo "is_made_of", .glo "is_sign", .glo "are_signs", .glo "is_number", .glo "digits_of", .glo "check_signs", .glo "check_span", .glo "has_words_with", .glo "has_beginnings_first", .glo "is_whole", .glo "has_whole_ends", .glo "begins_with_one", .glo "_law_cell_at", .glo "_law_state", .glo "_law_digit", .glo "_law_letters", .glo "_law_bounds", .glo "_law_plain", .glo "_law_field", .glo "_law_made", .glo "_law_strings", .glo "_law_pairs", .glo "_law_near", .glo "_law_first", .glo "_law_inside", .glo "law", .free "abs", .free "int", .free "bool", .free "isinstance", .free "range", .free "len", .free "set", .free "type", .free "str", .free "reversed", .free "tuple", .free "list", .free "any", .free "all", .free "sorted", .free "min", .free "dict", .free "enumerate", .str "SIGNS" SG, .str "DIGITS" DG, .cls "Word", .mkr "Word", .noat "Word" "signs", .noat "Word" "least", .noat "Word" "most", .meth "Word" "has_sign", .cls "Number", .mkr "Number", .noat "Number" "least", .noat "Number" "most", .meth "Number" "has_sign", .cls "Fixed", .mkr "Fixed", .noat "Fixed" "width", .meth "Fixed" "has_sign", .cls "Listed", .mkr "Listed", .noat "Listed" "texts", .meth "Listed" "has_sign", .cls "Ended", .mkr "Ended", .noat "Ended" "signs", .noat "Ended" "sign", .noat "Ended" "least", .noat "Ended" "most", .meth "Ended" "has_sign", .cls "Marked", .mkr "Marked", .noat "Marked" "none", .noat "Marked" "mark", .noat "Marked" "field"]

def kcB (K : Frag) (C : Addr) : Bool := He.eqO (findIn K (.ref C) "__class__") (some (some (.builtin "object.__class__"))) && (decide (mroIn K C (.type "object") = some true) && (notFirst K C (.type "tuple") && (eqcB K C && keepIn K (.ref (He.ma K C "__eq__")))))
def ex (K : Frag) : Bool := (errB K (BF K) ["what"] ["told"] && (He.eqO (findIn K (.ref (BF K)) "__init__") (some (some (.ref (He.ma K (BF K) "__init__")))) && (decide (typeIn K (.ref (He.ma K (BF K) "__init__")) = some (.type "function")) &&
  (decide (exmOne K (.ref (BF K)) (.ref (BF K)) = some true) && (He.eqO (specialIn K (.builtin "object.__class__") "__get__") (some (some (.builtin "getset_descriptor.__get__"))) && decide (takesIn K (.builtin "object.__class__") = some true)))))) &&
  (List.range 6).all fun i => kcB K (ca K i) && (decide (kitOne K (.type "NoneType") (.ref (ca K i)) = some false) && (decide (kitOne K (.type "str") (.ref (ca K i)) = some false) && (decide (kitOne K (.ref (ca K i)) (.type "str") = some false) &&
  (List.range 6).all fun j => decide (kitOne K (.ref (ca K i)) (.ref (ca K j)) = some (decide (i = j))))))
abbrev R : PySem.W.OpenRow := PySem.W.OpenLaw.row PySem.Challenge.rw_jointkeys_k06_whole_fields_by_their_text
abbrev hk : PySem.W.Hook := He.hookX 4 fa fn [] [] ex
def ob (s : PySem.W.SharedT) : He.AlX := He.obsX 4 fa fn [] [] ex (HandSHeadRun.getT s)
theorem ob_eq (s : PySem.W.SharedT) : ob s = hk.obs s.abs := He.obsX_eq (HandSHeadRun.getT_eq s)
def names : List PySem.Str := (["_wall", "__name__", "JointError", "BadField", "SIGNS", "DIGITS", "is_made_of", "is_sign", "are_signs", "is_number", "digits_of", "check_signs", "check_span", "has_words_with", "Word", "Number", "Fixed", "Listed", "Ended", "Marked", "has_beginnings_first", "is_whole", "has_whole_ends", "begins_with_one", "_law_cell_at", "_law_state", "_law_digit", "_law_letters", "_law_bounds", "_law_plain"] : List PySem.Str) ++ (["_law_field", "_law_made", "_law_strings", "_law_pairs", "_law_near", "_law_first", "_law_inside"] : List PySem.Str)
theorem run (w : World) : HandSHeadRun.RunEq R (PySem.W.view R.prog [42]) hk ob 8000 names w := by
  intro os
  kernel_rfl
end L2.K06

set_option Elab.async false
set_option linter.all false
set_option maxRecDepth 100000
set_option maxHeartbeats 4000000
/-! set(..) of texts: how many members it has. -/
namespace L2.Jk
open PySem PySem.W PySem.Spec PySem.Calls PyProof.Rows

/-- how many of the first i are new -/
def newS (ks : Nat → Str) : Nat → Nat
  | 0 => 0
  | i + 1 => if (List.range i).any (fun j => ks j == ks i) then newS ks i else newS ks i + 1
theorem newS_le (ks : Nat → Str) : ∀ i, newS ks i ≤ i
  | 0 => Nat.le_refl _
  | i + 1 => by
    have := newS_le ks i
    unfold newS
    split <;> omega
section
variable {prog : Program} {w : World} {A : Around} {R : Result → Shared → Prop} {I : Addr} {fp wr : List Addr} {G : Array GenState → Array GenState → Prop} {n : Nat} {P : Nat → Value → Prop} {Z : Nat → Shared → Prop}
/-- what the set holds behind i items -/
def HeldS (prog : Program) (w : World) (h : Heap) (S : Addr) (ks : Nat → Str) (i : Nat) : Prop := h.SetOf (PySem.strKind prog w) S (fun k => (List.range i).any fun j => ks j == k) (newS ks i)
theorem HeldS.at {h h' : Heap} {S : Addr} {ks : Nat → Str} {i : Nat} (H : HeldS prog w h S ks i) (k : ∀ o, h.get? S = some o → h'.get? S = some o) : HeldS prog w h' S ks i := by
  obtain ⟨o, es, ep, t, ho, r⟩ := H
  exact ⟨o, es, ep, t, k o ho, r⟩
theorem set_loop (W : WalksS prog w A.in1 I fp wr G n P Z) (S : Addr) (hS : S ∉ fp) (ks : Nat → Str) (hn : n + 1 < scanBound) (hv : ∀ i v, P i v → ∃ t, v = .str (ks i) t) :
    ∀ (k i : Nat) (s : Shared), n - i = k → i ≤ n → Z i s → HeldS prog w s.heap S ks i →
      (∀ s', Moved (S :: wr) G s s' → HeldS prog w s'.heap S ks n → R (.ok (.ret .none)) s') → codeAny (model prog w) A (.builtin "set.update.loop" ⟨[.ref S, .ref I], []⟩) R s := by
  have sw : S ∉ wr := fun z => hS (W.sub _ z)
  have up : ∀ b ∈ wr, b ∈ S :: wr := fun b z => List.mem_cons_of_mem _ z
  intro k
  induction k with
  | zero =>
    intro i s hk hi hz H hR
    obtain rfl : i = n := by omega
    refine codeAny_builtin PyProof.Rows.F.entry_set_update_loop ?_
    rw [Around.under_plainId PyProof.Rows.F.plain_set_update_loop _]
    show wpAny _ A.in1 (pyNext (.ref I) >>= _) _ _ s
    refine wpAny_bind (W.done s _ _ hz fun s' m => ?_)
    show wpAny _ A.in1 (ret Value.none) _ _ s'
    exact wpAny_pure (hR s' (m.mono up) (H.at fun o e => m.heap S o sw e))
  | succ k ih =>
    intro i s hk hi hz H hR
    have lt : i < n := by omega
    refine codeAny_builtin PyProof.Rows.F.entry_set_update_loop ?_
    rw [Around.under_plainId PyProof.Rows.F.plain_set_update_loop _]
    show wpAny _ A.in1 (pyNext (.ref I) >>= _) _ _ s
    refine wpAny_bind (W.item i s _ _ lt hz fun v s' hp hz' m => ?_)
    obtain ⟨t, rfl⟩ := hv i v hp
    have H' : HeldS prog w s'.heap S ks i := H.at fun o e => m.heap S o sw e
    show wpAny _ A.in1 (holding [Value.str (ks i) t] (setAdd S (.str (ks i) t)) >>= _) _ _ s'
    refine wpAny_bind (wpAny_holding ?_)
    unfold setAdd
    refine wpAny_holding (wpAny_bind ((PySem.strKind prog w).pyHash (k := ks i) (strKind_is _ _ _ _) ?_))
    have few := newS_le ks i
    refine wpAny_setAddHashed_of (knd := PySem.strKind prog w) (s := { s' with toks := s'.toks + 1 }) (strKind_is _ _ _ _) rfl H' (by omega) fun h' sb H2 => ?_
    have H3 : HeldS prog w h' S ks (i + 1) := by
      refine PyProof.Rows.SetOf_congr H2 (fun q => ?_) ?_
      · show ((List.range i).any (fun j => ks j == q) || decide (q = ks i)) = (List.range (i + 1)).any fun j => ks j == q
        rw [List.range_succ, List.any_append]
        congr 1
        by_cases e : q = ks i
        · subst e
          simp
        · have e2 : (ks i == q) = false := beq_eq_false_iff_ne.mpr fun z => e z.symm
          simp [e, e2]
      · show (if (List.range i).any (fun j => ks j == ks i) = true then newS ks i else newS ks i + 1) = newS ks (i + 1)
        rfl
    refine wpAny_pure ⟨plainId_quiet PyProof.Rows.F.plain_set_update_loop _, ih (i + 1) _ (by omega) lt (W.frame _ s' _ _ hz' (Nat.le_succ _) fun b hb o e => ?_) H3 fun s2 m2 H4 => ?_⟩
    · rw [sb.2 b (fun z : b = S => hS (z ▸ hb))]
      exact e
    · refine hR s2 (Moved.trans W.gtrans ((m.mono up).then_heap (Nat.le_succ _) fun b o hb e => ?_) m2) H4
      rw [sb.2 b (fun z : b = S => hb (z ▸ List.mem_cons_self))]
      exact e
end
theorem sign_at {x : Str} {i : Nat} {v : Value} (z : SignAt x i v) : ∃ t, v = .str ⟨#[x.cps.getD i 0]⟩ t := by
  obtain ⟨c, t, h, e⟩ := z
  refine ⟨t, ?_⟩
  subst e
  rw [Array.getD_eq_getD_getElem?, h]
  rfl
end L2.Jk

set_option Elab.async false
set_option linter.all false
set_option maxRecDepth 100000
set_option maxHeartbeats 8000000
namespace L2.Jk
open PySem PySem.W PySem.Spec PySem.Calls PyProof.Rows
section
variable {prog : Program} {w : World} {A : Around} {E : Value → Shared → Prop} {s : Shared}
set_option maxHeartbeats 8000000 in
theorem set_callStr {x : Str} {tk0 : Tok} {Q : Value → Shared → Prop} (hh : A.handled = none)  (hn : x.cps.size + 1 < scanBound)
    (h : ∀ (h' : Heap) (tk : Nat), HeldS prog w h' s.heap.objs.size (fun i => ⟨#[x.cps.getD i 0]⟩) (x.cps.size) → (∀ b o, b < s.heap.objs.size → s.heap.get? b = some o → h'.get? b = some o) → Q (.ref s.heap.objs.size) { s with heap := h', toks := tk }) :
    wpAny (model prog w) A (call (.type "set") [(.str x tk0)]) Q E s := by
  obtain ⟨c, tl, hmro⟩ := PySem.F.called_set.mro
  have c1 := PySem.F.called_set.made
  have c2 := PySem.F.called_set.sub
  refine wpAny_call (codeAny_of_tree ?_)
  show wpAny _ _ (callAny (.type "set") _) _ _ _
  refine wpAny_pure ⟨Code.quiet_builtin _ (by decide +kernel), codeAny_builtin PySem.F.entry_type_call ?_⟩
  rw [Around.under_plain (weight_type_call_type "set" [(.str x tk0)] []) rfl]
  have c3 := PySem.F.called_set.notType
  have c4 := PySem.F.called_set.canCreate
  have c5 := PySem.F.typeCall_set_1 (.str x tk0)
  repeat (any_goals (first | assumption | wp_step))
  refine codeAny_mono (code_set_new_1 (.str x tk0) (E := E) (Q₁ := fun ob s₁ => ∃ led : Bool, ob = .ref s.heap.objs.size ∧ s₁ = { s with heap := s.heap.push { cls := .type "set", dict := none, data := .set #[] 0 (.fresh 0 0 led) } }) fun led => ⟨led, rfl, rfl⟩) fun r s₁ hr => ?_
  cases r with
  | error e => exact hr
  | ok fl =>
    cases fl with
    | ret ob =>
      obtain ⟨led, rfl, rfl⟩ := hr
      have hS : (s.heap.push { cls := .type "set", dict := none, data := .set #[] 0 (.fresh 0 0 led) }).get? s.heap.objs.size = some { cls := .type "set", dict := none, data := .set #[] 0 (.fresh 0 0 led) } := Heap.get?_push_size _ rfl
      have hT : Shared.TypeIs { s with heap := s.heap.push { cls := .type "set", dict := none, data := .set #[] 0 (.fresh 0 0 led) } } (.ref s.heap.objs.size) "set" := ⟨_, hS, rfl⟩
      have c6 := PySem.F.called_set.init.lookup
      have c7 := PySem.F.called_set.init.bind (.ref s.heap.objs.size)
      repeat (any_goals (first | assumption | wp_step))
      refine codeAny_mono (codeAny_call_builtin (R := wants (fun r s₂ => r = .none ∧ ∃ h' tk, s₂ = { s with heap := h', toks := tk } ∧ HeldS prog w h' s.heap.objs.size (fun i => ⟨#[x.cps.getD i 0]⟩) (x.cps.size) ∧
          (∀ b o, b < s.heap.objs.size → s.heap.get? b = some o → h'.get? b = some o)) E) PySem.F.called_set.init.plain PySem.F.entry_set_init (check_set_init_1 hT ?_)) fun r₂ s₂ hr₂ => ?_
      · have a1 := PySem.F.sub_str_set
        have a2 := PySem.F.sub_str_frozenset
        have a3 : (Value.type "str" == Value.type "dict") = false := by decide
        unfold Builtin.«set.__init__» noKeywords Builtin.Frozenset.updateFrom
        generalize hPI : pyIter = PI
        wp_walk
        subst hPI
        refine wpAny_pyIter_strU ?_
        refine wpAny_bind (wpAny_runValue ?_)
        have sf : s.heap.objs.size ∉ [(s.heap.push { cls := .type "set", dict := none, data := .set #[] 0 (.fresh 0 0 led) }).objs.size] := by
          rw [Heap.size_push]
          simp only [List.mem_cons, List.mem_singleton, List.not_mem_nil, or_false, not_or]
          exact Nat.ne_of_lt (Nat.lt_succ_self _)
        have h3 : A.in1.in1.in1.handled = none := by simp [hh]
        have sv : ∀ i v, SignAt x i v → ∃ t, v = .str ⟨#[x.cps.getD i 0]⟩ t := fun i v z => sign_at z
        have got : ∀ T, ((s.heap.push { cls := .type "set", dict := none, data := .set #[] 0 (.fresh 0 0 led) }).push { cls := .type T, data := .fields #[.str x tk0, .int 0 0] }).IsStrIter (s.heap.push { cls := .type "set", dict := none, data := .set #[] 0 (.fresh 0 0 led) }).objs.size T x tk0 0 := fun T => ⟨_, Heap.get?_push_size _ rfl, rfl, rfl⟩
        cases ha : x.cps.all (· < 128) with
        | false =>
          rw [show strIterType x = "str_iterator" by unfold strIterType; rw [ha]; rfl]
          refine set_loop ((Walks.strWide h3 _ x tk0).toS) s.heap.objs.size sf _ hn sv (x.cps.size - 0) 0 _ (by omega) (Nat.zero_le _) (got _) (PyProof.Rows.SetOf_congr ((PyProof.Rows.setObjOf_fresh (knd := PySem.strKind prog w) led).setOf (Heap.get?_push_of_some _ hS) (by unfold scanBound; omega)) (fun _ => rfl) rfl) ?hR
          case hR =>
            intro s' m H'
            obtain ⟨h', g', d', tk', os'⟩ := s'
            obtain rfl : g' = s.gens := m.gens
            obtain rfl : d' = s.drawn := m.drawn
            obtain rfl : os' = s.os := m.os
            show wpAny _ _ _ _ _ _
            refine wpAny_pure ?_
            show wpAny _ _ (ret Value.none) _ _ _
            refine wpAny_pure ⟨rfl, h', tk', rfl, H', fun b o hb e => ?_⟩
            have b1 : b ≠ s.heap.objs.size := Nat.ne_of_lt hb
            have b2 : b ≠ (s.heap.push { cls := .type "set", dict := none, data := .set #[] 0 (.fresh 0 0 led) }).objs.size := by
              rw [Heap.size_push]
              exact Nat.ne_of_lt (Nat.lt_succ_of_lt hb)
            exact m.heap b o (by simp only [List.mem_cons, List.mem_singleton, List.not_mem_nil, or_false, not_or]; exact ⟨b1, b2⟩) (Heap.get?_push_of_some _ (Heap.get?_push_of_some _ e))
        | true =>
          rw [show strIterType x = "str_ascii_iterator" by unfold strIterType; rw [ha]; rfl]
          refine set_loop ((Walks.strAscii h3 _ x tk0).toS) s.heap.objs.size sf _ hn sv (x.cps.size - 0) 0 _ (by omega) (Nat.zero_le _) (got _) (PyProof.Rows.SetOf_congr ((PyProof.Rows.setObjOf_fresh (knd := PySem.strKind prog w) led).setOf (Heap.get?_push_of_some _ hS) (by unfold scanBound; omega)) (fun _ => rfl) rfl) ?hR
          case hR =>
            intro s' m H'
            obtain ⟨h', g', d', tk', os'⟩ := s'
            obtain rfl : g' = s.gens := m.gens
            obtain rfl : d' = s.drawn := m.drawn
            obtain rfl : os' = s.os := m.os
            show wpAny _ _ _ _ _ _
            refine wpAny_pure ?_
            show wpAny _ _ (ret Value.none) _ _ _
            refine wpAny_pure ⟨rfl, h', tk', rfl, H', fun b o hb e => ?_⟩
            have b1 : b ≠ s.heap.objs.size := Nat.ne_of_lt hb
            have b2 : b ≠ (s.heap.push { cls := .type "set", dict := none, data := .set #[] 0 (.fresh 0 0 led) }).objs.size := by
              rw [Heap.size_push]
              exact Nat.ne_of_lt (Nat.lt_succ_of_lt hb)
            exact m.heap b o (by simp only [List.mem_cons, List.mem_singleton, List.not_mem_nil, or_false, not_or]; exact ⟨b1, b2⟩) (Heap.get?_push_of_some _ (Heap.get?_push_of_some _ e))

      · cases r₂ with
        | error e => exact hr₂
        | ok f2 =>
          cases f2 with
          | ret r =>
            obtain ⟨rfl, h', tk, rfl, H', k'⟩ := hr₂
            repeat (any_goals (first | assumption | wp_step))
            exact h _ _ H' k'
          | _ => exact hr₂.elim
    | _ => exact hr.elim
end
end L2.Jk

set_option Elab.async false
set_option linter.all false
set_option maxRecDepth 100000
set_option maxHeartbeats 8000000
namespace L2.Jk
open PySem PySem.W PySem.Spec PySem.Calls PyProof.Rows
section
variable {prog : Program} {w : World} {A : Around} {E : Value → Shared → Prop} {s : Shared}
set_option maxHeartbeats 8000000 in
theorem set_callList {l : Addr} {its : Array Value} {ks : Nat → Str} {Q : Value → Shared → Prop} (hh : A.handled = none) (hl : s.heap.IsList l its) (hk : ∀ i v, its[i]? = some v → ∃ t : Tok, v = Value.str (ks i) t) (hn : its.size + 1 < scanBound)
    (h : ∀ (h' : Heap) (tk : Nat), HeldS prog w h' s.heap.objs.size (ks) (its.size) → (∀ b o, b < s.heap.objs.size → s.heap.get? b = some o → h'.get? b = some o) → Q (.ref s.heap.objs.size) { s with heap := h', toks := tk }) :
    wpAny (model prog w) A (call (.type "set") [(.ref l)]) Q E s := by
  obtain ⟨c, tl, hmro⟩ := PySem.F.called_set.mro
  have c1 := PySem.F.called_set.made
  have c2 := PySem.F.called_set.sub
  refine wpAny_call (codeAny_of_tree ?_)
  show wpAny _ _ (callAny (.type "set") _) _ _ _
  refine wpAny_pure ⟨Code.quiet_builtin _ (by decide +kernel), codeAny_builtin PySem.F.entry_type_call ?_⟩
  rw [Around.under_plain (weight_type_call_type "set" [(.ref l)] []) rfl]
  have c3 := PySem.F.called_set.notType
  have c4 := PySem.F.called_set.canCreate
  have c5 := PySem.F.typeCall_set_1 (.ref l)
  repeat (any_goals (first | assumption | wp_step))
  refine codeAny_mono (code_set_new_1 (.ref l) (E := E) (Q₁ := fun ob s₁ => ∃ led : Bool, ob = .ref s.heap.objs.size ∧ s₁ = { s with heap := s.heap.push { cls := .type "set", dict := none, data := .set #[] 0 (.fresh 0 0 led) } }) fun led => ⟨led, rfl, rfl⟩) fun r s₁ hr => ?_
  cases r with
  | error e => exact hr
  | ok fl =>
    cases fl with
    | ret ob =>
      obtain ⟨led, rfl, rfl⟩ := hr
      have hS : (s.heap.push { cls := .type "set", dict := none, data := .set #[] 0 (.fresh 0 0 led) }).get? s.heap.objs.size = some { cls := .type "set", dict := none, data := .set #[] 0 (.fresh 0 0 led) } := Heap.get?_push_size _ rfl
      have hT : Shared.TypeIs { s with heap := s.heap.push { cls := .type "set", dict := none, data := .set #[] 0 (.fresh 0 0 led) } } (.ref s.heap.objs.size) "set" := ⟨_, hS, rfl⟩
      have c6 := PySem.F.called_set.init.lookup
      have c7 := PySem.F.called_set.init.bind (.ref s.heap.objs.size)
      repeat (any_goals (first | assumption | wp_step))
      refine codeAny_mono (codeAny_call_builtin (R := wants (fun r s₂ => r = .none ∧ ∃ h' tk, s₂ = { s with heap := h', toks := tk } ∧ HeldS prog w h' s.heap.objs.size (ks) (its.size) ∧
          (∀ b o, b < s.heap.objs.size → s.heap.get? b = some o → h'.get? b = some o)) E) PySem.F.called_set.init.plain PySem.F.entry_set_init (check_set_init_1 hT ?_)) fun r₂ s₂ hr₂ => ?_
      · obtain ⟨⟨oc, od, odt, osl⟩, hol, hcl, nl, hdl⟩ := id hl
        dsimp only at hcl hdl
        subst hcl; subst hdl
        have old := Heap.get?_push_of_some ({ cls := .type "set", dict := none, data := .set #[] 0 (.fresh 0 0 led) } : Obj) hol
        have a1 := PySem.F.sub_list_set
        have a2 := PySem.F.sub_list_frozenset
        have a3 : (Value.type "list" == Value.type "dict") = false := by decide
        have hl1 : (s.heap.push { cls := .type "set", dict := none, data := .set #[] 0 (.fresh 0 0 led) }).IsList l its := ⟨_, old, rfl, nl, rfl⟩
        unfold Builtin.«set.__init__» noKeywords Builtin.Frozenset.updateFrom
        generalize hPI : pyIter = PI
        wp_walk
        subst hPI
        refine wpAny_pyIter_list hl1 ?_
        refine wpAny_bind (wpAny_runValue ?_)
        have h3 : A.in1.in1.in1.handled = none := by simp [hh]
        have nI : l ≠ (s.heap.push { cls := .type "set", dict := none, data := .set #[] 0 (.fresh 0 0 led) }).objs.size := by
          rw [Heap.size_push]
          exact Nat.ne_of_lt (Nat.lt_succ_of_lt (Heap.lt_size hol))
        have sf : s.heap.objs.size ∉ [(s.heap.push { cls := .type "set", dict := none, data := .set #[] 0 (.fresh 0 0 led) }).objs.size, l] := by
          rw [Heap.size_push]
          simp only [List.mem_cons, List.mem_singleton, List.not_mem_nil, or_false, not_or]
          exact ⟨Nat.ne_of_lt (Nat.lt_succ_self _), Nat.ne_of_gt (Heap.lt_size hol)⟩
        refine set_loop ((Walks.list h3 _ l nI its).toS) s.heap.objs.size sf ks hn (fun i v z => hk i v z) (its.size - 0) 0 _ (by omega) (Nat.zero_le _) ⟨⟨_, Heap.get?_push_size _ rfl, rfl, rfl⟩, (hl1.push _)⟩ (PyProof.Rows.SetOf_congr ((PyProof.Rows.setObjOf_fresh (knd := PySem.strKind prog w) led).setOf (Heap.get?_push_of_some _ hS) (by unfold scanBound; omega)) (fun _ => rfl) rfl) ?hR
        case hR =>
          intro s' m H'
          obtain ⟨h', g', d', tk', os'⟩ := s'
          obtain rfl : g' = s.gens := m.gens
          obtain rfl : d' = s.drawn := m.drawn
          obtain rfl : os' = s.os := m.os
          show wpAny _ _ _ _ _ _
          refine wpAny_pure ?_
          show wpAny _ _ (ret Value.none) _ _ _
          refine wpAny_pure ⟨rfl, h', tk', rfl, H', fun b o hb e => ?_⟩
          have b1 : b ≠ s.heap.objs.size := Nat.ne_of_lt hb
          have b2 : b ≠ (s.heap.push { cls := .type "set", dict := none, data := .set #[] 0 (.fresh 0 0 led) }).objs.size := by
            rw [Heap.size_push]
            exact Nat.ne_of_lt (Nat.lt_succ_of_lt hb)
          exact m.heap b o (by simp only [List.mem_cons, List.mem_singleton, List.not_mem_nil, or_false, not_or]; exact ⟨b1, b2⟩) (Heap.get?_push_of_some _ (Heap.get?_push_of_some _ e))

      · cases r₂ with
        | error e => exact hr₂
        | ok f2 =>
          cases f2 with
          | ret r =>
            obtain ⟨rfl, h', tk, rfl, H', k'⟩ := hr₂
            repeat (any_goals (first | assumption | wp_step))
            exact h _ _ H' k'
          | _ => exact hr₂.elim
    | _ => exact hr.elim
end
end L2.Jk

set_option Elab.async false
set_option linter.all false
set_option maxRecDepth 100000
set_option maxHeartbeats 8000000
namespace L2.Jk
open PySem PySem.W PySem.Spec PySem.Calls PyProof.Rows
section
variable {prog : Program} {w : World} {A : Around} {E : Value → Shared → Prop} {s : Shared}
set_option maxHeartbeats 8000000 in
theorem set_callTup {l : Addr} {its : Array Value} {ks : Nat → Str} {Q : Value → Shared → Prop} (hh : A.handled = none) (hl : s.heap.IsTuple l its) (hk : ∀ i v, its[i]? = some v → ∃ t : Tok, v = Value.str (ks i) t) (hn : its.size + 1 < scanBound)
    (h : ∀ (h' : Heap) (tk : Nat), HeldS prog w h' s.heap.objs.size (ks) (its.size) → (∀ b o, b < s.heap.objs.size → s.heap.get? b = some o → h'.get? b = some o) → Q (.ref s.heap.objs.size) { s with heap := h', toks := tk }) :
    wpAny (model prog w) A (call (.type "set") [(.ref l)]) Q E s := by
  obtain ⟨c, tl, hmro⟩ := PySem.F.called_set.mro
  have c1 := PySem.F.called_set.made
  have c2 := PySem.F.called_set.sub
  refine wpAny_call (codeAny_of_tree ?_)
  show wpAny _ _ (callAny (.type "set") _) _ _ _
  refine wpAny_pure ⟨Code.quiet_builtin _ (by decide +kernel), codeAny_builtin PySem.F.entry_type_call ?_⟩
  rw [Around.under_plain (weight_type_call_type "set" [(.ref l)] []) rfl]
  have c3 := PySem.F.called_set.notType
  have c4 := PySem.F.called_set.canCreate
  have c5 := PySem.F.typeCall_set_1 (.ref l)
  repeat (any_goals (first | assumption | wp_step))
  refine codeAny_mono (code_set_new_1 (.ref l) (E := E) (Q₁ := fun ob s₁ => ∃ led : Bool, ob = .ref s.heap.objs.size ∧ s₁ = { s with heap := s.heap.push { cls := .type "set", dict := none, data := .set #[] 0 (.fresh 0 0 led) } }) fun led => ⟨led, rfl, rfl⟩) fun r s₁ hr => ?_
  cases r with
  | error e => exact hr
  | ok fl =>
    cases fl with
    | ret ob =>
      obtain ⟨led, rfl, rfl⟩ := hr
      have hS : (s.heap.push { cls := .type "set", dict := none, data := .set #[] 0 (.fresh 0 0 led) }).get? s.heap.objs.size = some { cls := .type "set", dict := none, data := .set #[] 0 (.fresh 0 0 led) } := Heap.get?_push_size _ rfl
      have hT : Shared.TypeIs { s with heap := s.heap.push { cls := .type "set", dict := none, data := .set #[] 0 (.fresh 0 0 led) } } (.ref s.heap.objs.size) "set" := ⟨_, hS, rfl⟩
      have c6 := PySem.F.called_set.init.lookup
      have c7 := PySem.F.called_set.init.bind (.ref s.heap.objs.size)
      repeat (any_goals (first | assumption | wp_step))
      refine codeAny_mono (codeAny_call_builtin (R := wants (fun r s₂ => r = .none ∧ ∃ h' tk, s₂ = { s with heap := h', toks := tk } ∧ HeldS prog w h' s.heap.objs.size (ks) (its.size) ∧
          (∀ b o, b < s.heap.objs.size → s.heap.get? b = some o → h'.get? b = some o)) E) PySem.F.called_set.init.plain PySem.F.entry_set_init (check_set_init_1 hT ?_)) fun r₂ s₂ hr₂ => ?_
      · obtain ⟨⟨oc, od, odt, osl⟩, hol, hcl, nl, hdl⟩ := id hl
        dsimp only at hcl hdl
        subst hcl; subst hdl
        have old := Heap.get?_push_of_some ({ cls := .type "set", dict := none, data := .set #[] 0 (.fresh 0 0 led) } : Obj) hol
        have a1 := PySem.F.sub_tuple_set
        have a2 := PySem.F.sub_tuple_frozenset
        have a3 : (Value.type "tuple" == Value.type "dict") = false := by decide
        have hl1 : (s.heap.push { cls := .type "set", dict := none, data := .set #[] 0 (.fresh 0 0 led) }).IsTuple l its := ⟨_, old, rfl, nl, rfl⟩
        unfold Builtin.«set.__init__» noKeywords Builtin.Frozenset.updateFrom
        generalize hPI : pyIter = PI
        wp_walk
        subst hPI
        refine wpAny_pyIter_tuple hl1 ?_
        refine wpAny_bind (wpAny_runValue ?_)
        have h3 : A.in1.in1.in1.handled = none := by simp [hh]
        have nI : l ≠ (s.heap.push { cls := .type "set", dict := none, data := .set #[] 0 (.fresh 0 0 led) }).objs.size := by
          rw [Heap.size_push]
          exact Nat.ne_of_lt (Nat.lt_succ_of_lt (Heap.lt_size hol))
        have sf : s.heap.objs.size ∉ [(s.heap.push { cls := .type "set", dict := none, data := .set #[] 0 (.fresh 0 0 led) }).objs.size, l] := by
          rw [Heap.size_push]
          simp only [List.mem_cons, List.mem_singleton, List.not_mem_nil, or_false, not_or]
          exact ⟨Nat.ne_of_lt (Nat.lt_succ_self _), Nat.ne_of_gt (Heap.lt_size hol)⟩
        refine set_loop ((Walks.tuple h3 _ l nI its).toS) s.heap.objs.size sf ks hn (fun i v z => hk i v z) (its.size - 0) 0 _ (by omega) (Nat.zero_le _) ⟨⟨_, Heap.get?_push_size _ rfl, rfl, rfl⟩, (hl1.push _)⟩ (PyProof.Rows.SetOf_congr ((PyProof.Rows.setObjOf_fresh (knd := PySem.strKind prog w) led).setOf (Heap.get?_push_of_some _ hS) (by unfold scanBound; omega)) (fun _ => rfl) rfl) ?hR
        case hR =>
          intro s' m H'
          obtain ⟨h', g', d', tk', os'⟩ := s'
          obtain rfl : g' = s.gens := m.gens
          obtain rfl : d' = s.drawn := m.drawn
          obtain rfl : os' = s.os := m.os
          show wpAny _ _ _ _ _ _
          refine wpAny_pure ?_
          show wpAny _ _ (ret Value.none) _ _ _
          refine wpAny_pure ⟨rfl, h', tk', rfl, H', fun b o hb e => ?_⟩
          have b1 : b ≠ s.heap.objs.size := Nat.ne_of_lt hb
          have b2 : b ≠ (s.heap.push { cls := .type "set", dict := none, data := .set #[] 0 (.fresh 0 0 led) }).objs.size := by
            rw [Heap.size_push]
            exact Nat.ne_of_lt (Nat.lt_succ_of_lt hb)
          exact m.heap b o (by simp only [List.mem_cons, List.mem_singleton, List.not_mem_nil, or_false, not_or]; exact ⟨b1, b2⟩) (Heap.get?_push_of_some _ (Heap.get?_push_of_some _ e))

      · cases r₂ with
        | error e => exact hr₂
        | ok f2 =>
          cases f2 with
          | ret r =>
            obtain ⟨rfl, h', tk, rfl, H', k'⟩ := hr₂
            repeat (any_goals (first | assumption | wp_step))
            exact h _ _ H' k'
          | _ => exact hr₂.elim
    | _ => exact hr.elim
end
end L2.Jk

set_option Elab.async false
set_option linter.all false
set_option maxRecDepth 100000
set_option maxHeartbeats 4000000
/-! != of two tuples that are equal item by item, instances with an own __eq__ among the items. -/
namespace L2.Jk
open PySem PySem.W PySem.Spec PySem.Calls PyProof.Rows PySem.SeqAt
open AutoSeq1 (wpAny_loadPart')

section
variable {prog : Program} {w : World} {A : Around} {R : Result → Shared → Prop} {E : Value → Shared → Prop} {s : Shared}
theorem tup_ne_same (l b : Addr) (its jts : Array Value) (n n2 : Nat) (dd dd2 : Option Addr) (sl sl2 : Array (Option Value)) (hsz : its.size = jts.size) (J : Nat → Shared → Prop)
    (turn : ∀ i (h1 : i < its.size) (h2 : i < jts.size) s, J i s → wpAny (model prog w) A.in1 (eqBool its[i] jts[i]) (fun r s' => r = true ∧ J (i + 1) s') (fun e s' => R (.error e) s') s)
    (fin : ∀ s, J its.size s → R (.ok (.ret (.bool false))) s) (hl : s.heap.get? l = some { cls := .type "tuple", dict := dd, data := .seq its n, slots := sl }) (hb : s.heap.get? b = some { cls := .type "tuple", dict := dd2, data := .seq jts n2, slots := sl2 })
    (h : J 0 s) : wpAny (model prog w) A.in1 (Builtin.«tuple.__ne__» ⟨[.ref l, .ref b], []⟩) (GQ.FinOf prog w A R) (fun e s' => R (.error e) s') s := by
  have f2 := AutoSeq1.sub_tuple_tuple
  have len : (its.toList.zip jts.toList).length = its.size := by simp [hsz]
  have h0 := h
  obtain ⟨hp, g, d, tk, os⟩ := s
  wp_walk using wpAny_loadPart' hl, wpAny_loadPart' hb, wpAny_forIn_list _ (fun rest b s' => b.1 = none ∧ ∃ i, rest = (its.toList.zip jts.toList).drop i ∧ i ≤ its.size ∧ J i s') _
  case turn =>
    rintro ⟨y, x⟩ rest b s' ⟨hb', i, hz, hi, hJ⟩
    have lt : i < (its.toList.zip jts.toList).length := by
      refine Nat.lt_of_not_le fun z => ?_
      rw [List.drop_of_length_le z] at hz
      cases hz
    have h1 : i < its.size := len ▸ lt
    have h2 : i < jts.size := hsz ▸ h1
    rw [List.drop_eq_getElem_cons lt] at hz
    obtain ⟨e1, e2⟩ := List.cons.inj hz
    obtain rfl : y = its[i] := by simpa using congrArg Prod.fst e1
    obtain rfl : x = jts[i] := by simpa using congrArg Prod.snd e1
    refine wpAny_bind (wpAny_mono (turn i h1 h2 s' hJ) (fun r s2 q2 => ?_) fun _ _ x => x)
    obtain ⟨rfl, q2⟩ := q2
    wp_walk
    exact ⟨rfl, i + 1, e2, h1, q2⟩
  case fin =>
    rintro ⟨b1, b2⟩ s' ⟨hb', i, hz, hi, hJ⟩
    dsimp only at hb'
    subst hb'
    have ge : its.size ≤ i := by
      refine Nat.le_of_not_lt fun z => ?_
      rw [List.drop_eq_getElem_cons (by rw [len]; exact z)] at hz
      cases hz
    obtain rfl : i = its.size := by omega
    have hR := fin s' hJ
    wp_walk
    simpa [Builtin.Tuple.tupleCompareSizes, hsz] using hR
  case h => exact ⟨rfl, 0, rfl, Nat.zero_le _, h0⟩
theorem tup_ne_rich {l b : Addr} {its jts : Array Value} {Q : Value → Shared → Prop} (hsz : its.size = jts.size) (hu : A.units < cLine) (J : Nat → Shared → Prop) (hl : s.heap.IsTuple l its) (hb : s.heap.IsTuple b jts)
    (turn : ∀ i (h1 : i < its.size) (h2 : i < jts.size) s, J i s → wpAny (model prog w) A.in1 (eqBool its[i] jts[i]) (fun r s' => r = true ∧ J (i + 1) s') E s)
    (fin : ∀ s, J its.size s → Q (.bool false) s) (h : J 0 s) : wpAny (model prog w) A (richCompare .NotEq (.ref l) (.ref b)) Q E s := by
  obtain ⟨⟨c1, d1, t1, s1⟩, g1, k1, n1, e1⟩ := id hl
  obtain ⟨⟨c2, d2, t2, s2⟩, g2, k2, n2, e2⟩ := id hb
  dsimp only at k1 e1 k2 e2
  subst k1 e1 k2 e2
  refine wpAny_richCompare_same_room (op := .NotEq) ⟨_, g1, rfl⟩ ⟨_, g2, rfl⟩ PySem.F.slot_tuple_ne (GQ.call_here PySem.F.slot_tuple_ne ⟨_, g1, rfl⟩ PySem.F.entry_tuple_ne (PySem.F.args_tuple_ne_2 _ _) ?_) hu
  exact tup_ne_same (R := wants (fun v s' => v ≠ .notImplemented ∧ Q v s') E) l b its jts n1 n2 d1 d2 s1 s2 hsz J turn (fun s' q => ⟨(fun x => nomatch x), fin s' q⟩) g1 g2 h
end
section
variable {X : Cx} {n : Nat} {D : Eqv}
/-- t != u of two tuples whose items D says to be equal -/
def rNeT (X : Cx) (D : Eqv) : R2 := fun x y H Q => DTup X.K D x y H ∧ ∀ H', Same H H' → Q (.bl false) H'
theorem op_neT (hD : Mon D) (h : EqG X n D) (hr : Room (n + 1) X.A) : OpR X (compareOp .NotEq) (rNeT X D) := by
  intro pins s σ H x y v u Q I rx ry hq
  obtain ⟨⟨a, b, xs, ys, rfl, rfl, ha, hb, p⟩, q⟩ := hq
  cases rx
  cases ry
  obtain ⟨its, r, e, z⟩ := I.tuple ha
  obtain ⟨jts, r2, e2, z2⟩ := I.tuple hb
  have hsz : its.toArray.size = jts.toArray.size := by rw [List.size_toArray, List.size_toArray, ← r.length, ← r2.length]; exact p.1
  show wpAny (model X.prog X.w) X.A (richCompare .NotEq (.ref a) (.ref b)) (EP X pins σ Q) X.xe s
  refine tup_ne_rich hsz hr.units0 (fun _ s' => LoopI X pins σ H s') e e2 (fun i h1 h2 s' k => turnG hD h ⟨hr, rfl⟩ p r r2 i h1 h2 s' k) (fun s' k => ?_) ⟨H, I, Ext.rfl'⟩
  obtain ⟨H', I', x⟩ := k
  exact ⟨.bl false, H', I', rfl, q H' x⟩
end
end L2.Jk

set_option Elab.async false
set_option linter.all false
set_option maxRecDepth 100000
set_option maxHeartbeats 4000000
/-! ''.join(reversed(xs)), list(text), len(set(..)), type(x) is type(y). -/
namespace L2.Jk
open PySem PySem.W PySem.Spec PySem.Calls PyProof.Rows

theorem paired_of {α β : Type} {F : α → β → Prop} : ∀ {xs : List α} {ys : List β}, xs.length = ys.length → (∀ (i : Nat) x y, xs[i]? = some x → ys[i]? = some y → F x y) → Paired F xs ys
  | [], [], _, _ => .nil
  | [], _ :: _, e, _ => by cases e
  | _ :: _, [], e, _ => by cases e
  | x :: xs, y :: ys, e, h => .cons (h 0 x y rfl rfl) (paired_of (Nat.succ.inj e) fun i a b h1 h2 => h (i + 1) a b h1 h2)
section
variable {X : Cx}
/-! ### list(text) -/
/-- its signs, one text each -/
def signsV (z : Str) : List V := (List.range z.cps.size).map fun i => V.str ⟨#[z.cps.getD i 0]⟩
theorem call_listStr (hc : X.calm = true) : CallR X (.type "list") (fun xs H Q => ∃ z : Str, xs = [.str z] ∧ z.cps.size ≤ 1000 ∧ ∀ p H', H p = none → Same H H' → H' p = some (.lst (signsV z)) → Q (.ref p) H') := by
  intro pins s σ H xs us Q I r h
  obtain ⟨z, rfl, hz, q⟩ := h
  obtain ⟨u, rfl, t, rfl⟩ := vals1 r
  have hz' : z.cps.size ≤ sizeLine := by rw [sizeLine_eq]; omega
  refine call_list_str (I.ok.hd hc) z t (fun h' tk acc c k hp ha => ?_) hz'
  obtain ⟨al, ai⟩ := ha
  have vs : Vals (signsV z) acc.toList := by
    refine paired_of (show (signsV z).length = acc.toList.length by
      have e : acc.toList.length = acc.size := Array.length_toList
      rw [e, al]
      simp [signsV]) fun i x v hx hv => ?_
    have hi : i < z.cps.size := by
      have := (List.getElem?_eq_some_iff.mp hx).1
      simpa [signsV] using this
    obtain ⟨t', e⟩ := sign_at (ai i v (by rw [← Array.getElem?_toList]; exact hv))
    subst e
    have e2 : x = V.str ⟨#[z.cps.getD i 0]⟩ := by
      unfold signsV at hx
      rw [List.getElem?_map, List.getElem?_range hi] at hx
      exact (Option.some.inj hx).symm
    subst e2
    exact ⟨t', rfl⟩
  have n := I.fresh
  refine ⟨.ref s.heap.objs.size, _, I.laid (t' := tk) (h' := h') (o := .lst (signsV z)) k (Nat.le_refl _) ⟨?_, acc.toList, c, vs, by simpa using hp⟩, rfl, q _ _ n (same_upd n) upd_same⟩
  simp only [signsV, List.length_map, List.length_range]
  exact hz'
/-! ### len(set(..)) -/
def tLenSetStr (te : TE) : TE := fun σ H Q => te σ H fun x H1 => ∃ z : Str, x = .str z ∧ z.cps.size ≤ 4000 ∧ Q (.int (newS (fun i => ⟨#[z.cps.getD i 0]⟩) z.cps.size : Nat)) H1
theorem held_len {h : Heap} {S : Addr} {ks : Nat → Str} {i : Nat} {A : Around} {E : Value → Shared → Prop} {Q : Value → Shared → Prop} {s : Shared} (H : HeldS X.prog X.w s.heap S ks i) (hi : i ≤ 4000)
    (q : ∀ tk, Q (.int (newS ks i : Nat) tk) { s with toks := tk + 1 }) : wpAny (model X.prog X.w) A (call (.builtin "len") [.ref S]) Q E s := by
  have few := newS_le ks i
  obtain ⟨o, es, ep, t, ho, hex, hd, _, _, _, hf, hn⟩ := H
  exact call_len_set ho hex hd hf (by rw [hn]; omega) (by rw [hn]; exact q _)
theorem pe_lenSetStr {a : Expr} {ta : TE} {p p2 q pos : Pos} (hc : X.calm = true) (hg : Gl X "len") (hm : X.mg "len" = none) (hg2 : Gl X "set") (hm2 : X.mg "set" = none) (ha : PE X a ta)
    (na : starEach [a] X.env = (false, eval a X.env) :: starEach [] X.env := by rfl) : PE X (.Call (.Name "len" p) [.Call (.Name "set" p2) [a] [] q] [] pos) (tLenSetStr ta) := by
  constructor
  intro pins s σ H Q I h
  refine Call_ (ld_blt I hg hm boot_len (PyProof.Rows.callWith_builtin1 (PyProof.Rows.args_cons ?_ rfl) rfl rfl))
  refine Call_ (ld_blt I hg2 hm2 boot_set (PyProof.Rows.callWith_type1 (PyProof.Rows.args_cons (thn (ha.run pins s σ H _ I h) fun v s1 ⟨x, H1, I1, r1, z, ex, hz, q1⟩ => PyProof.Rows.args_nil ?_) na) na rfl))
  subst ex
  obtain ⟨t, rfl⟩ := r1
  refine set_callStr (I1.ok.hd hc) (by unfold scanBound; omega) fun h' tk hS hk => PyProof.Rows.args_nil ?_
  have I2 : Inv X pins σ H1 { s1 with heap := h', toks := tk } := I1.kept fun b o e => hk b o (Heap.lt_size e) e
  exact held_len (h := h') (s := { s1 with heap := h', toks := tk }) hS hz fun tk' => ⟨.int _, H1, I2.tok _, ⟨_, rfl⟩, q1⟩
/-- .. of a list or a tuple of texts -/
def tLenSetSeq (K : Frag) (te : TE) : TE := fun σ H Q => te σ H fun x H1 => ∃ (l : Addr) (ys : List Str), x = .ref l ∧ (SqL K H1 l (ys.map V.str) ∨ SqT K H1 l (ys.map V.str)) ∧ ys.length ≤ 4000 ∧ Q (.int (newS (fun i => ys.getD i Str.empty) ys.length : Nat)) H1
theorem strs_get {ys : List Str} {us : List Value} (r : Vals (ys.map V.str) us) (i : Nat) (v : Value) (h : us.toArray[i]? = some v) : ∃ t : Tok, v = Value.str (ys.getD i Str.empty) t := by
  have h' : us[i]? = some v := by simpa using h
  have lt : i < ys.length := by
    have := (List.getElem?_eq_some_iff.mp h').1
    rw [← r.length, List.length_map] at this
    exact this
  obtain ⟨u, hu, ru⟩ := r.get (i := i) (x := V.str (ys.getD i Str.empty)) (by rw [List.getElem?_map, List.getElem?_eq_getElem lt, List.getD_eq_getElem?_getD, List.getElem?_eq_getElem lt]; rfl)
  rw [h'] at hu
  cases hu
  exact ru
theorem pe_lenSetSeq {a : Expr} {ta : TE} {p p2 q pos : Pos} (hc : X.calm = true) (hg : Gl X "len") (hm : X.mg "len" = none) (hg2 : Gl X "set") (hm2 : X.mg "set" = none) (ha : PE X a ta)
    (na : starEach [a] X.env = (false, eval a X.env) :: starEach [] X.env := by rfl) : PE X (.Call (.Name "len" p) [.Call (.Name "set" p2) [a] [] q] [] pos) (tLenSetSeq X.K ta) := by
  constructor
  intro pins s σ H Q I h
  refine Call_ (ld_blt I hg hm boot_len (PyProof.Rows.callWith_builtin1 (PyProof.Rows.args_cons ?_ rfl) rfl rfl))
  refine Call_ (ld_blt I hg2 hm2 boot_set (PyProof.Rows.callWith_type1 (PyProof.Rows.args_cons (thn (ha.run pins s σ H _ I h) fun v s1 ⟨x, H1, I1, r1, l, ys, ex, hq, hz, q1⟩ => PyProof.Rows.args_nil ?_) na) na rfl))
  subst ex
  cases r1
  have fin : ∀ (its : List Value), Vals (ys.map V.str) its → ∀ (h' : Heap) (tk : Nat), HeldS X.prog X.w h' s1.heap.objs.size (fun i => ys.getD i Str.empty) its.toArray.size → (∀ b o, b < s1.heap.objs.size → s1.heap.get? b = some o → h'.get? b = some o) →
      wpAny (model X.prog X.w) X.A (spliced (backTo pos (starEach [] X.env))) (fun vs s₂ => wpAny (model X.prog X.w) X.A (call (.builtin "len") (Value.ref s1.heap.objs.size :: vs)) (EP X pins σ Q) X.xe s₂) X.xe { s1 with heap := h', toks := tk } := fun its r h' tk hS hk => by
    have hl : its.toArray.size = ys.length := by rw [List.size_toArray, ← r.length, List.length_map]
    rw [hl] at hS
    have I2 : Inv X pins σ H1 { s1 with heap := h', toks := tk } := I1.kept fun b o e => hk b o (Heap.lt_size e) e
    exact PyProof.Rows.args_nil (held_len (h := h') (s := { s1 with heap := h', toks := tk }) hS hz fun tk' => ⟨.int _, H1, I2.tok _, ⟨_, rfl⟩, q1⟩)
  rcases hq with hq | hq
  · obtain ⟨its, r, pl, _⟩ := I1.list hq
    have hl : its.toArray.size = ys.length := by rw [List.size_toArray, ← r.length, List.length_map]
    exact set_callList (I1.ok.hd hc) pl.isList (strs_get r) (by unfold scanBound; omega) fun h' tk hS hk => fin its r h' tk hS hk
  · obtain ⟨its, r, pl, _⟩ := I1.tuple hq
    have hl : its.toArray.size = ys.length := by rw [List.size_toArray, ← r.length, List.length_map]
    exact set_callTup (I1.ok.hd hc) pl (strs_get r) (by unfold scanBound; omega) fun h' tk hS hk => fin its r h' tk hS hk
/-! ### type(x) is type(y) -/
def rTyA (X : Cx) : List V → Hp → VK → Prop := fun xs H Q => ∃ x, xs = [x] ∧ ((∃ a C dx fs, x = .ref a ∧ H a = some (.ins C dx fs) ∧ Q (.ref C) H) ∨ ∃ T, RZ.Ty4 H x T ∧ Q (.ty T) H)
theorem call_tyA : CallR X (.type "type") (rTyA X) := by
  intro pins s σ H xs us Q I r h
  obtain ⟨x, rfl, h | h⟩ := h
  · obtain ⟨a, C, dx, fs, rfl, ha, q⟩ := h
    exact cr_type pins s σ H _ us Q I r ⟨a, C, dx, fs, rfl, ha, q⟩
  · obtain ⟨T, t, q⟩ := h
    exact RZ.call_type4 pins s σ H _ us Q I r ⟨x, T, rfl, t, q⟩
def rIsA (X : Cx) : R2 := fun x y H Q => ∃ a, x = .ref a ∧ ((∃ b, y = .ref b ∧ (a = b ∨ (makesIn X.K a = true ∧ makesIn X.K b = true)) ∧ Q (.bl (decide (a = b))) H) ∨ ∃ T, y = .ty T ∧ Q (.bl false) H)
theorem op_isA : OpR X (compareOp .Is) (rIsA X) := by
  intro pins s σ H x y v u Q I rx ry h
  obtain ⟨a, rfl, h | h⟩ := h
  · obtain ⟨b, rfl, hab, q⟩ := h
    exact op_is_cls pins s σ H _ _ v u Q I rx ry ⟨a, b, rfl, rfl, hab, q⟩
  · obtain ⟨T, rfl, q⟩ := h
    cases rx
    cases ry
    show wpAny _ _ (do return Value.bool (← isSame (.ref a) (.type T))) _ _ _
    exact wpAny_bind (wpAny_of_eq (a := false) rfl (wpAny_pure ⟨.bl false, H, I, rfl, q⟩))
/-! ### ''.join(reversed(xs)) -/
def tJoinRev (K : Frag) (to te : TE) : TE := fun σ H Q => to σ H fun o H0 => ∃ z : Str, o = .str z ∧ te σ H0 fun v H1 => ∃ (a : Addr) (ys : List Str), v = .ref a ∧ SqL K H1 a (ys.map V.str) ∧ JoinOk z ys.reverse = true ∧ Q (.str (Txt.join z ys.reverse)) H1
theorem strs_pairs : ∀ {ys : List Str} {us : List Value}, Vals (ys.map V.str) us → ∃ l : List (Str × Tok), strValues l = us ∧ l.map (·.1) = ys
  | [], _, .nil => ⟨[], rfl, rfl⟩
  | y :: ys, _, .cons r t => by
    obtain ⟨k, rfl⟩ := r
    obtain ⟨l, e1, e2⟩ := strs_pairs t
    exact ⟨(y, k) :: l, by rw [← e1]; rfl, by rw [← e2]; rfl⟩
theorem joined_tail (z : Str) : ∀ l : List (Str × Tok), Builtin.Str.tooLong ((l.map (·.1)).toArray.foldl (· + ·.length + z.length) 0) = false → Gives (joinTail z (strValues l)) (joinMade z l)
  | [], h => gives_joinTail z [] h
  | [p], h => gives_joinTail z [p] h
  | p :: q :: r, h => gives_joinTail z (p :: q :: r) h
theorem pe_joinRev {o e : Expr} {to te : TE} {apos p2 pos2 cpos : Pos} (hc : X.calm = true) (hg2 : Gl X "reversed") (hm2 : X.mg "reversed" = none) (ho : PE X o to) (he : PE X e te)
    (hbase : attributeBase o "join" X.env (eval o X.env) = eval o X.env := by rfl)
    (hfew : ((backTo cpos (starEach [Expr.Call (.Name "reversed" p2) [e] [] pos2] X.env)).all (fun x => !x.1) && (backToKw cpos (keywordEach [] X.env)).all (fun x => x.1.isSome)
      && decide ([Expr.Call (.Name "reversed" p2) [e] [] pos2].length + ([] : List Keyword).length + (if ([] : List Keyword).isEmpty then 0 else 1) < 30)) = true := by rfl)
    (hline : (apos.endLine == cpos.line) = true := by rfl) (hs : starEach [e] X.env = (false, eval e X.env) :: starEach [] X.env := by rfl)
    (hs2 : starEach [Expr.Call (.Name "reversed" p2) [e] [] pos2] X.env = (false, eval (.Call (.Name "reversed" p2) [e] [] pos2) X.env) :: starEach [] X.env := by rfl) :
    PE X (.Call (.Attribute o "join" apos) [.Call (.Name "reversed" p2) [e] [] pos2] [] cpos) (tJoinRev X.K to te) := by
  constructor
  intro pins s σ H Q I h
  refine wpAny_Call_method_late hbase hfew hline rfl (thn (ho.run pins s σ H _ I h) fun v s1 ⟨x, H0, I0, r0, z, ex, q0⟩ => ?_)
  subst ex
  obtain ⟨t, rfl⟩ := r0
  refine ⟨"str", "str.join", PySem.F.plainAttrs_str, PySem.F.slot_str_join, PySem.F.type_str_join, typeIs_str _ _ _, (fun a e => nomatch e), ?_⟩
  refine Calls.callWith_builtin (by rw [hs2]; rfl) ?_
  rw [hs2]
  refine Calls.evalArgs_plain (Calls.spliced_cons ?_)
  refine Call_ (ld_blt I0 hg2 hm2 PyProof.Rows.boot_reversed (PyProof.Rows.callWith_type1 (PyProof.Rows.args_cons (thn (he.run pins s1 σ H0 _ I0 q0) fun u s2 ⟨y, H1, I1, r1, a, ys, ey, hq, ok, q1⟩ => PyProof.Rows.args_nil ?_) hs) hs rfl))
  subst ey
  obtain rfl : u = Value.ref a := r1
  obtain ⟨its, rv, pl, hz⟩ := I1.list hq
  refine call_reversed_list pl.isList (Calls.spliced_nil ?_)
  have k0 : ∀ b o, s2.heap.get? b = some o → (s2.heap.push (revObj a ((its.toArray.size : Int) - 1))).get? b = some o := fun b o e => Heap.get?_push_of_some _ e
  have I2 : Inv X pins σ H1 { s2 with heap := s2.heap.push (revObj a ((its.toArray.size : Int) - 1)) } := I1.kept (t' := s2.toks) k0
  obtain ⟨f0, f1, f2, f3, f4, f5⟩ := I1.fpOk (H' := H1) (b := s2.heap.objs.size) (Nat.le_refl _) (I1.hok.fresh (Nat.le_refl _))
  have hl := pl.isList
  obtain ⟨ol, hol, _⟩ := id hl
  have ne : a ≠ s2.heap.objs.size := Nat.ne_of_lt (Heap.lt_size hol)
  have sm : its.toArray.size ≤ sizeLine := by rw [List.size_toArray, ← rv.length]; exact hz
  have hit : (s2.heap.push (revObj a ((its.toArray.size : Int) - 1))).IsRevIter s2.heap.objs.size a ((its.toArray.size : Int) - 1) := ⟨_, Heap.get?_push_size _ rfl, rfl, rfl⟩
  refine wpAny_call (codeAny_call_builtin F.slot_str_join.plain F.entry_str_join (F.slot_str_join.check _ _ _ _ _ _ _ _ (typeIs_str _ _ _) (F.args_str_join_2 _ _) ?_))
  show wpAny _ _ (Builtin.«str.join» ⟨[.str z t, .ref s2.heap.objs.size], []⟩) _ _ _
  rw [join_tree_other]
  refine wpAny_bind (wpAny_typeOf hit.typeIs ?_)
  show wpAny _ X.A.in1 ((pyIter (.ref s2.heap.objs.size)).tryCatch _ >>= fun it => collect it >>= fun items => joinTail z items) _ _ _
  refine wpAny_bind (wpAny_tryCatch (wpAny_pyIter_revIter hit ?_))
  refine wpAny_bind (RT.collect_rev (I1.ok.hd hc) hit (hl.push _) ne sm fun h' tk acc hk hi => ?_)
  have I3 : Inv X pins σ H1 { s2 with heap := h', toks := tk } := I2.turned (t' := tk) (fun b o hb e => hk b o hb e) f0 f1 f3 f4 f5
  have rr := RT.vals_rev rv hi
  rw [← List.map_reverse] at rr
  obtain ⟨l, el, em⟩ := strs_pairs rr
  rw [← el]
  have fit : Builtin.Str.tooLong ((l.map (·.1)).toArray.foldl (· + ·.length + z.length) 0) = false := by
    rw [em]
    unfold JoinOk at ok
    rwa [Bool.not_eq_true'] at ok
  have g : Gives (joinTail z (strValues l)) (joinMade z l) := joined_tail z l fit
  refine g X.prog X.w X.A (wants (EP X pins σ Q) X.xe) _ (post_join l ⟨?_, fun t' k => ?_⟩)
  · exact joinFit_length fit
  · rw [em]
    exact ⟨.str _, H1, I3.tok k, ⟨t', rfl⟩, q1⟩
end
end L2.Jk

set_option Elab.async false
set_option linter.all false
set_option maxRecDepth 100000
set_option maxHeartbeats 4000000
/-! Errors raised, instances made where their __init__ may raise, isinstance of flat values. -/
namespace L2.Jk
open PySem PySem.W PySem.Spec PySem.Calls PyProof.Rows

section
variable {X : Cx} {CX : CXT} {k : Nat} {x : Str} {ps : List Str} {sp : Sp} {e : Expr} {es : List Expr} {t : TA} {p pos : Pos} {W : WX}
theorem pe_fnS (G : FnAt X.prog X.w X.K X.mg X.base CX k x ps sp) (hr : Room k X.A) {E : St → XK} (hx : ∀ σ, PassesAt CX X σ (E σ)) (hg : Gl X x) (ha : PA X (e :: es) t)
    (hdb : (x == ("__debug__" : Str)) = false := by decide) (he : starEach (e :: es) X.env = (false, eval e X.env) :: starEach es X.env := by rfl) (hpl : (backTo pos (starEach es X.env)).any (·.1) = false := by rfl) :
    PE X (.Call (.Name x p) (e :: es) [] pos) (tCallS sp E t) := by
  obtain ⟨f, fd, hm, kp, F, hb⟩ := G.ex
  exact pe_callS F hr hg hm kp hb hx ha hdb he hpl
/-! ### an error that is raised -/
def tMkErr (C : Addr) (fs : List Str) (ta : TA) : St → Hp → XK → Prop := fun σ H Q => ta σ H fun vs H1 => vs.length = fs.length ∧ ∀ d H2, H1 d = none → Same H1 H2 → H2 d = some (.xd (fldE fs vs)) → Q (.ref C) (some d) H2
theorem same_raise {H : Hp} {a C d : Addr} {fs : List (Str × V)} (ha : H a = none) (hd : H d = none) (ne : d ≠ a) : Same H (upd (del (mkE H a C d fs) a) d (.xd fs)) := fun b o e => by
  have n1 := ne_of_none e ha
  have n2 := ne_of_none e hd
  rw [upd_ne n2, del_ne n1]
  unfold mkE
  rw [upd_ne n1, upd_ne n2]
  exact e
end
/-- what is wished of an error C(v) that is raised at H -/
def RaiseE (C : Addr) (f : Str) (v : V) (H : Hp) (Q : XK) : Prop := ∀ d H2, H d = none → Same H H2 → H2 d = some (.xd [(f, v)]) → Q (.ref C) (some d) H2
theorem mkO_1 {C : Addr} {f : Str} {v : V} {H : Hp} {Q : XK} (q : RaiseE C f v H Q) : ([v] : List V).length ≤ 1000 ∧ ∀ a, H a = none → spI1 C f (.ref a :: ([v] ++ [])) (upd H a (exo a C none))
    (fun u H2 => u = .non ∧ ∃ (d : Addr) (fs : List (Str × V)), H2 a = some (exo a C (some d)) ∧ H2 d = some (exd d fs) ∧ H d = none ∧ Q (.ref C) (some d) (upd (del H2 a) d (.xd fs))) (fun _ _ _ => False) := by
  refine ⟨by show 1 ≤ 1000; decide, fun a ha => ⟨a, v, rfl, upd_same, fun d hd ne => ⟨rfl, d, [(f, v)], ?_, ?_, ?_, ?_⟩⟩⟩
  · rw [mkE_new ne]
    exact upd_same
  · rw [mkE_new ne]
    unfold mkE
    rw [upd_ne ne, upd_same]
  · rw [upd_ne ne] at hd
    exact hd
  · rw [mkE_new ne]
    rw [upd_ne ne] at hd
    exact q d _ hd (same_raise ha hd ne) upd_same
section
variable {X : Cx} {x : Str} {e : Expr} {es : List Expr} {ta : TA} {p pos : Pos}
/-- raise C(e), C an error of one field -/
theorem pmk_1 {C : Addr} {f z : Str} (T : ErrAt X.prog X.w X.K X.mg X.base x C [f] z) (hr : Room 2 X.A) (hg : Gl X x) (ha : PA X (e :: es) ta)
    (hdb : (x == ("__debug__" : Str)) = false := by decide) (he : starEach (e :: es) X.env = (false, eval e X.env) :: starEach es X.env := by rfl) (hpl : (backTo pos (starEach es X.env)).any (·.1) = false := by rfl) :
    PMk X (.Call (.Name x p) (e :: es) [] pos) (tMkO C (spI1 C f) [] ta) := by
  obtain ⟨fd, hb, iok⟩ := T.iok
  exact pmk_oex (X := X) (ta := ta) T.ex.ec.ox T.ini.1 T.ini.2 iok hr hb .nil pass0 hg T.mgC ha hdb he hpl
/-! ### an instance made by a class whose __init__ may raise -/
structure ClsAt (P : Program) (w : World) (K : Frag) (mg : Str → Option Value) (base : Heap) (CX : CXT) (k : Nat) (x : Str) (C : Addr) (ps : List Str) (sp : Sp) : Prop where
  mgC : mg x = some (.ref C)
  cl : Cls K C
  mkr : Mk K C (He.ma K C "__init__")
  ok : ∃ fd, FnOk P w K mg base CX k (He.ma K C "__init__") fd ps sp ∧ Binds K fd ps []
def tNewS (C : Addr) (sp : Sp) (E : St → XK) (t : TA) : TE := fun σ H Q => t σ H fun vs H1 => ∀ a dx, H1 a = none → H1 dx = none → dx ≠ a → sp (.ref a :: vs) (upd (upd H1 dx (.own a)) a (.ins C dx [])) (fun v H2 => v = .non ∧ Q (.ref a) H2) (E σ)
theorem pe_newS {CX : CXT} {k : Nat} {C : Addr} {ps : List Str} {sp : Sp} {E : St → XK} (G : ClsAt X.prog X.w X.K X.mg X.base CX k x C ps sp) (hr : Room (k + 1) X.A) (hx : ∀ σ, PassesAt CX X σ (E σ)) (hg : Gl X x) (ha : PA X (e :: es) ta)
    (hdb : (x == ("__debug__" : Str)) = false := by decide) (he : starEach (e :: es) X.env = (false, eval e X.env) :: starEach es X.env := by rfl) (hpl : (backTo pos (starEach es X.env)).any (·.1) = false := by rfl) :
    PE X (.Call (.Name x p) (e :: es) [] pos) (tNewS C sp E ta) := by
  obtain ⟨fd, F, hb⟩ := G.ok
  have M := G.mkr
  constructor
  intro pins s σ H Q I h
  refine wpAny_Call_Name_kw (ld_glob I hg G.mgC ?_ hdb)
  refine callWith_K (h₀ := X.base) I.ok.mod.kin M.kp (thn (ha.run pos pins s σ H _ I h) fun us s1 ⟨vs, H1, I1, r, q⟩ => ⟨I1.kIn, ?_⟩) he hpl
  show wpAny _ _ (call (.ref C) us) _ _ _
  have pr := q (s1.heap.objs.size + 1) s1.heap.objs.size (I1.hok.fresh (Nat.le_succ _)) I1.fresh (Nat.ne_of_lt (Nat.lt_succ_self _))
  have I2 := Inv.made (C := C) I1
  have r2 : Vals (V.ref (s1.heap.objs.size + 1) :: vs) (Value.ref (s1.heap.objs.size + 1) :: us) := .cons rfl r
  have hl : (Value.ref (s1.heap.objs.size + 1) :: us).length = ps.length := by
    rw [← r2.length]
    exact F.len _ _ _ _ pr
  have hb' := hb _ (Value.ref (s1.heap.objs.size + 1) :: us) I2.kIn (by rw [List.append_nil]; exact hl)
  rw [List.append_nil] at hb'
  refine wpAny_call (make_map (f := He.ma X.K C "__init__") I1.kIn M.makes M.init (beq_iff_eq.mp M.fn) (codeAny_mono (F.run _ X.stack _ _ ⟨Value.ref (s1.heap.objs.size + 1) :: us, []⟩ (Value.ref (s1.heap.objs.size + 1) :: us) _ _ (E σ) (hr.make C us [])
    (I2.env0.make C us []) hb' r2 pr) fun r s' hq' => ?_))
  cases r with
  | error er => exact hx σ pins _ _ er s' I2 hq'
  | ok fl =>
    cases fl with
    | ret u =>
      obtain ⟨v, H', I3, rv, ev, q3⟩ := I2.after hq'
      subst ev
      exact ⟨rv, ⟨V.ref (s1.heap.objs.size + 1), H', I3, rfl, q3⟩⟩
    | next => exact False.elim hq'
    | brk => exact False.elim hq'
    | cont => exact False.elim hq'
end
/-! ### isinstance of flat values against built-in types -/
def tyN : V → String
  | .non => "NoneType"
  | .bl _ => "bool"
  | .int _ => "int"
  | .str _ => "str"
  | _ => ""
theorem flat_ty {K : Frag} {H : Hp} {v : V} (h : flatV v = true) : TyE K H v (.type (tyN v)) := by
  cases v with
  | non => exact .x (.base .non)
  | bl b => exact .x (.base (.bl b))
  | int i => exact .x (.base (.int i))
  | str z => exact .x (.base (.str z))
  | _ => cases h
def isStr : V → Bool
  | .str _ => true
  | _ => false
/-- an int or a bool -/
def isInt : V → Bool
  | .int _ => true
  | .bl _ => true
  | _ => false
def isBl : V → Bool
  | .bl _ => true
  | _ => false
theorem kit_str {v : V} (h : flatV v = true) : kitB (tyN v) "str" = some (isStr v) := by
  cases v with
  | non => show kitB "NoneType" "str" = some false; decide +kernel
  | bl b => show kitB "bool" "str" = some false; decide +kernel
  | int i => show kitB "int" "str" = some false; decide +kernel
  | str z => show kitB "str" "str" = some true; decide +kernel
  | _ => cases h
theorem kit_int {v : V} (h : flatV v = true) : kitB (tyN v) "int" = some (isInt v) := by
  cases v with
  | non => show kitB "NoneType" "int" = some false; decide +kernel
  | bl b => show kitB "bool" "int" = some true; decide +kernel
  | int i => show kitB "int" "int" = some true; decide +kernel
  | str z => show kitB "str" "int" = some false; decide +kernel
  | _ => cases h
theorem kit_bool {v : V} (h : flatV v = true) : kitB (tyN v) "bool" = some (isBl v) := by
  cases v with
  | non => show kitB "NoneType" "bool" = some false; decide +kernel
  | bl b => show kitB "bool" "bool" = some true; decide +kernel
  | int i => show kitB "int" "bool" = some false; decide +kernel
  | str z => show kitB "str" "bool" = some false; decide +kernel
  | _ => cases h
theorem ie_of {K : Frag} {H : Hp} {v : V} {S T : String} {b : Bool} {Q : VK} (ty : TyE K H v (.type S)) (k : kitB S T = some b) (q : Q (.bl b) H) : rIe K [v, .ty T] H Q :=
  ⟨v, .ty T, .type S, .type T, b, rfl, .ty T, ty, kit_ty k, q⟩
end L2.Jk

set_option Elab.async false
set_option linter.all false
set_option maxRecDepth 100000
set_option maxHeartbeats 4000000
/-! A comprehension over a text; a method of an instance whose class shows in the heap; what happens to an error that is raised in a make. -/
namespace L2.Jk
open PySem PySem.W PySem.Spec PySem.Calls PyProof.Rows

theorem lc_str {x : Str} {g : TG} {tt : TT} {te : TE} {vs : List Nat} {σ : St} {H1 : Hp} {D : Addr} {Qd : Hp → Prop} (Pv : Nat → Hp → Prop) (h0 : Pv 0 (upd H1 D (.lst [])))
    (hs : ∀ (i c : Nat) H, x.cps[i]? = some c → Pv i H → g (.str ⟨#[c]⟩) (wipe σ vs) H fun σ2 H2 => wipe σ2 vs = wipe σ vs ∧ tt σ2 H2 fun b H3 =>
      if b = true then te σ2 H3 fun y H4 => ∃ acc, H4 D = some (.lst acc) ∧ acc.length < sizeLine ∧ Pv (i + 1) (upd H4 D (.lst (acc ++ [y]))) else Pv (i + 1) H3) (hd : ∀ H, Pv x.cps.size H → Qd H) :
    ∃ W : Nat → Nat → Hp → Prop, (∃ m, W 0 m (upd H1 D (.lst []))) ∧ ∀ i m H, W i m H →
      ((Its x).stop i H ∧ Qd H) ∨ ((Its x).go i H ∧ ∃ Nx : Hp → Prop, (∀ H', Nx H' → ∃ m', m' < m ∧ W (i + 1) m' H') ∧ ∀ y H', (Its x).yld i H y H' → g y (wipe σ vs) H' fun σ2 H2 => wipe σ2 vs = wipe σ vs ∧ tt σ2 H2 fun b H3 =>
        if b = true then te σ2 H3 fun y H4 => ∃ acc, H4 D = some (.lst acc) ∧ acc.length < sizeLine ∧ Nx (upd H4 D (.lst (acc ++ [y]))) else Nx H3) := by
  refine ⟨fun i m H => m = x.cps.size - i ∧ i ≤ x.cps.size ∧ Pv i H, ⟨x.cps.size, by simp, Nat.zero_le _, h0⟩, ?_⟩
  rintro i m H ⟨rfl, hi, p⟩
  by_cases hlt : i < x.cps.size
  · refine .inr ⟨hlt, Pv (i + 1), fun H' p' => ⟨x.cps.size - (i + 1), by omega, rfl, hlt, p'⟩, fun y H' z => ?_⟩
    obtain ⟨e, c, hc, ev⟩ := z
    subst e ev
    exact hs i c _ hc p
  · have e : i = x.cps.size := by omega
    subst e
    exact .inl ⟨Nat.le_refl _, hd H p⟩
/-- o.m(e, ..), the class of o as the heap has it -/
def tMethD (X : Cx) (CX : CXT) (m : Str) (E : XK) (ta : TE) (t : TA) : TE := fun σ H Q => ta σ H fun x H1 => ∃ (a C dx f : Addr) (fs : List (Str × V)) (k : Nat) (fd : FuncData) (ps : List Str) (sp : Sp), x = .ref a ∧ H1 a = some (.ins C dx fs) ∧ fs.lookup m = none ∧
  Cls X.K C ∧ Meth X.K C m f ∧ FnOk X.prog X.w X.K X.mg X.base CX k f fd ps sp ∧ Room k X.A ∧ Binds X.K fd ps [] ∧ t σ H1 fun vs H2 => sp (x :: vs) H2 Q E
section
variable {X : Cx} {CX : CXT} {E : XK} {o e : Expr} {es : List Expr} {m : Str} {ta : TE} {t : TA} {apos pos : Pos}
theorem pe_methD {pl : Sem Bool} (he : PE X o ta) (hx : Passes CX X E) (ha : PA X (e :: es) t)
    (hst : starEach (e :: es) X.env = (false, eval e X.env) :: starEach es X.env := by rfl) (hpl : (backTo pos (starEach es X.env)).any (·.1) = false := by rfl)
    (ht : eval (.Call (.Attribute o m apos) (e :: es) [] pos) X.env = (do
      let ov ← eval o X.env
      standAt apos.atName
      let (f, first) ← holding [ov] (getMethod ov m pl)
      callWith pos f first (backTo pos (starEach (e :: es) X.env)) (backToKw pos (keywordEach [] X.env))) := by rfl) :
    PE X (.Call (.Attribute o m apos) (e :: es) [] pos) (tMethD X CX m E ta t) := by
  refine ⟨fun pins s σ H Q I h => ?_⟩
  refine PySem.W.methodCall_KW (pl := pl) (thn (he.run pins s σ H _ I h) fun u s1 hh => ?_) ht
  obtain ⟨x, H1, I1, rx, a, C, dx, f, fs, k, fd, ps, sp, ex, ea, l, c, hm, F, hr, hb, q⟩ := hh
  subst ex
  obtain rfl : u = Value.ref a := rx
  refine getmeth_ok I1 ea c hm l ?_
  refine PySem.W.callWith_K (first := [.ref a]) (h₀ := X.base) I.ok.mod.kin hm.kp (thn (ha.run pos pins s1 σ H1 _ I1 q) fun us s2 ⟨vs, H2, I2, r, q2⟩ => ⟨I2.kIn, ?_⟩) hst hpl
  have q2' : sp (V.ref a :: (vs ++ [])) H2 Q E := by rw [List.append_nil]; exact q2
  exact run_fn (us := .ref a :: us) (vs := .ref a :: vs) (dvs := []) (ds := []) F hr hb .nil hx I2 (.cons rfl r) q2'
end
/-- a call that the reading never comes to -/
theorem fn_never {P : Program} {w : World} {K : Frag} {mg : Str → Option Value} {base : Heap} {CX : CXT} {k : Nat} {f : Addr} {fd : FuncData} {ps : List Str} : FnOk P w K mg base CX k f fd ps (fun _ _ _ _ => False) where
  len := fun _ _ _ _ h => False.elim h
  run := fun _ _ _ _ _ _ _ _ _ _ _ _ _ h => False.elim h
theorem same_new {H : Hp} {a dx C : Addr} {fs : List (Str × V)} (ha : H a = none) (hd : H dx = none) : Same H (upd (upd H dx (.own a)) a (.ins C dx fs)) := fun b o e => by
  rw [upd_ne (ne_of_none e ha), upd_ne (ne_of_none e hd)]
  exact e
theorem same_put {H H1 : Hp} {p : Addr} {o : HO} (S : Same H H1) (n : H p = none) : Same H (upd H1 p o) := fun b u e => by
  rw [upd_ne (ne_of_none e n)]
  exact S b u e
end L2.Jk

set_option Elab.async false
set_option linter.all false
set_option maxRecDepth 100000
set_option maxHeartbeats 4000000
/-! The things that are drawn, and what is told of them. -/
namespace L2.K06
open PySem PySem.W PySem.Spec PySem.Calls PyProof.Rows L2.Jk

/-- a kind of things, by what is true of them -/
structure Menu (α : Type) where
  p : α → Prop
instance {α : Type} : Membership α (Menu α) := ⟨fun m a => m.p a⟩
def lenOf : V → Nat
  | .str z => z.length
  | _ => 0
def vM : Menu V := ⟨fun v => flatV v = true ∧ lenOf v ≤ 20⟩
abbrev sM := vM
abbrev eM := vM
abbrev mQ := vM
def nM : Menu V := ⟨fun v => flatV v = true ∧ ∀ i, v = .int i → i ≤ 300⟩
abbrev hM := nM
/-- what the texts of a listed field are drawn from -/
inductive LX where
  | lst (xs : List V)
  | tup (xs : List V)
  | val (v : V)
  deriving DecidableEq
def LX.els : LX → List V
  | .lst xs => xs
  | .tup xs => xs
  | .val _ => []
def dV : V → PyData
  | .bl b => .bool b
  | .int i => .int i
  | .str z => .str z
  | _ => .none
def lM : Menu LX := ⟨fun x => (x = .lst x.els ∨ x = .tup x.els) ∧ x.els.length ≤ 20 ∧ (∀ v ∈ x.els, v ∈ vM) ∧ SeqAt.shaped (.tuple (x.els.map dV)) = true⟩
def wM : Menu V := ⟨fun v => ∃ i, v = .int i ∧ 1 ≤ i ∧ i < 60⟩

/-- text.strip(signs) == '' -/
def madeB (a b : Str) : Bool := decide (V.str (Txt.stripChars a b) = V.str "")
/-- c in z, c one sign -/
def inB (c z : Str) : Bool := decide (c.cps.getD 0 0 ∈ z.cps.toList)
def isSignB : V → Bool
  | .str z => (z.length == 1) && inB z SG
  | _ => false
def areB : V → Bool
  | .str z => madeB z SG
  | _ => false
def sgB : V → Bool
  | .str z => z.cps.toList.all fun c => decide (c ∈ SG.cps.toList)
  | _ => false
def numB : V → Bool
  | .int _ => true
  | _ => false
def lenV : V → Nat
  | .str z => z.length
  | _ => 0
/-- signs that stand twice -/
def twB : V → Bool
  | .str z => decide ((newS (fun i => ⟨#[z.cps.getD i 0]⟩) z.cps.size : Nat) < z.length)
  | _ => false
def sBad (v : V) : Bool := !areB v || (decide (v = .str "") || twB v)
def ltV : V → V → Bool
  | .int a, .int b => decide (a < b)
  | _, _ => false
def bDue (l m : V) : Option Str :=
  if (!numB l || ltV l (.int 0)) = true then some "least" else if (!decide (m = .non) && (!numB m || ltV m l)) = true then some "most" else none
def wDue (w : V) : Option Str := if (!numB w || ltV w (.int 1)) = true then some "width" else none
/-- the texts of a list, if all are texts of signs -/
def strV : V → Str
  | .str z => z
  | _ => ""
def xsBad (xs : List V) : Bool := !xs.all areB || decide ((newS (fun i => (xs.map strV).getD i Str.empty) (xs.map strV).length : Nat) < xs.length)
def lxDue : LX → Option Str
  | .val _ => some "texts"
  | .lst xs => if (decide (xs.length = 0) || xsBad xs) = true then some "texts" else none
  | .tup xs => if (decide (xs.length = 0) || xsBad xs) = true then some "texts" else none
def eDue (s e l m : V) : Option Str :=
  if sBad s = true then some "signs" else if (!isSignB e || inB (strV e) (strV s)) = true then some "sign" else bDue l m
def oDue (s l m : V) : Option Str := if sBad s = true then some "signs" else bDue l m
inductive PD where
  | word (s l m : V)
  | number (l m : V)
  | fixed (w : V)
  | listed (x : LX)
  | ended (s e l m : V)
def PD.due : PD → Option Str
  | .word s l m => oDue s l m
  | .number l m => bDue l m
  | .fixed w => wDue w
  | .listed x => lxDue x
  | .ended s e l m => eDue s e l m
def PD.In : PD → Prop
  | .word s l m => s ∈ sM ∧ l ∈ nM ∧ m ∈ nM
  | .number l m => l ∈ nM ∧ m ∈ hM
  | .fixed w => w ∈ wM
  | .listed x => x ∈ lM
  | .ended s e l m => s ∈ sM ∧ e ∈ eM ∧ l ∈ nM ∧ m ∈ nM
/-- has a sign: what the program asks -/
def dg (n : Int) : Str := Txt.join "" [(toString n : Str)]
def wwB (s m : V) (c : Str) : Bool := inB c (strV s) && !decide (m = .int 0)
def intV : V → Int
  | .int i => i
  | _ => 0
def PD.has (c : Str) : PD → Bool
  | .word s _ m => wwB s m c
  | .number l m => if (decide (m = .non) || decide (9 ≤ intV m - intV l)) = true then inB c DG else (List.range (intV m + 1 - intV l).toNat).any fun (i : Nat) => inB c (dg (intV l + i))
  | .fixed _ => inB c DG
  | .listed x => x.els.any fun v => inB c (strV v)
  | .ended s e _ m => decide (V.str c = e) || wwB s m c
inductive OD where
  | val (v : V)
  | pl (d : PD)
  | mk (n m : V) (i : OD)
def iDue (n m : V) : OD → Option Str
  | .pl d => if (d.has (strV n) || d.has (strV m)) = true then some "field" else none
  | _ => some "field"
def OD.due : OD → Option Str
  | .val _ => none
  | .pl d => d.due
  | .mk n m i => if (!isSignB n) = true then some "none" else if (!isSignB m || decide (m = n)) = true then some "mark" else iDue n m i
theorem one_of {z : Str} (h : z.length = 1) : z = ⟨#[z.cps.getD 0 0]⟩ := by
  obtain ⟨a⟩ := z
  have h : a.size = 1 := h
  cases e : a.toList with
  | nil =>
    have z : a.toList.length = 1 := by rw [Array.length_toList]; exact h
    rw [e] at z
    cases z
  | cons x xs =>
    have z : a.toList.length = 1 := by rw [Array.length_toList]; exact h
    rw [e] at z
    have e2 : xs = [] := List.length_eq_zero_iff.mp (Nat.succ.inj z)
    have e3 : a = #[x] := by rw [← Array.toArray_toList (xs := a), e, e2]
    rw [e3]
    rfl
theorem vM_facts (v : V) (h : v ∈ vM) : flatV v = true ∧ True ∧ True ∧ lenV v ≤ 20 := by
  obtain ⟨h1, h2⟩ := (show flatV v = true ∧ lenOf v ≤ 20 from h)
  refine ⟨h1, trivial, trivial, ?_⟩
  cases v <;> exact h2
theorem one_sign (v : V) (_ : v ∈ vM) (h : lenV v = 1) : v = .str ⟨#[(strV v).cps.getD 0 0]⟩ := by
  cases v with
  | str z => exact congrArg V.str (one_of h)
  | _ => cases h
theorem bDue_none {l m : V} (h : bDue l m = none) : (∃ i, l = .int i ∧ 0 ≤ i) ∧ (m = .non ∨ ∃ j, m = .int j ∧ 0 ≤ j) := by
  unfold bDue at h
  split at h
  · cases h
  · rename_i h1
    split at h
    · cases h
    · rename_i h2
      cases l with
      | int i =>
        have hi : 0 ≤ i := by
          have z : ¬ (decide (i < 0)) = true := fun e => h1 (by show (!true || decide (i < 0)) = true; rw [e]; rfl)
          have : ¬ i < 0 := fun e => z (decide_eq_true e)
          omega
        refine ⟨⟨i, rfl, hi⟩, ?_⟩
        cases m with
        | non => exact .inl rfl
        | int j =>
          refine .inr ⟨j, rfl, ?_⟩
          have z : ¬ (decide (j < i)) = true := fun e => h2 (by show (!decide (V.int j = .non) && (!true || decide (j < i))) = true; rw [e, decide_eq_false (fun z => nomatch z)]; rfl)
          have : ¬ j < i := fun e => z (decide_eq_true e)
          omega
        | _ => exact absurd (by rw [decide_eq_false (fun z => nomatch z)]; rfl) h2
      | _ => exact absurd rfl h1
theorem sBad_str {s : V} (h : sBad s = false) : ∃ z, s = .str z := by
  cases s with
  | str z => exact ⟨z, rfl⟩
  | _ => cases h
theorem scal_flat {v : V} (h : flatV v = true) : scal v v = true := by cases v <;> first | rfl | cases h
theorem oDue_none {s l m : V} (h : oDue s l m = none) : sBad s = false ∧ bDue l m = none := by
  unfold oDue at h
  split at h
  · cases h
  · rename_i k
    exact ⟨Bool.eq_false_iff.mpr k, h⟩
theorem eDue_none {s e l m : V} (h : eDue s e l m = none) : sBad s = false ∧ isSignB e = true ∧ bDue l m = none := by
  unfold eDue at h
  split at h
  · cases h
  · rename_i k
    split at h
    · cases h
    · rename_i k2
      refine ⟨Bool.eq_false_iff.mpr k, ?_, h⟩
      cases z : isSignB e with
      | true => rfl
      | false => exact absurd (by rw [z]; rfl) k2
theorem sign_one {v : V} (h : isSignB v = true) : v = .str ⟨#[(strV v).cps.getD 0 0]⟩ ∧ True := by
  cases v with
  | str z =>
    have k : (z.length == 1) = true := (Bool.and_eq_true_iff.mp h).1
    exact ⟨congrArg V.str (one_of (by simpa using k)), trivial⟩
  | _ => cases h
theorem sM_vM {v : V} (h : v ∈ sM) : v ∈ vM := h
theorem eM_vM {v : V} (h : v ∈ eM) : v ∈ vM := h
theorem mQ_vM {v : V} (h : v ∈ mQ) : v ∈ vM := h
theorem nh {v : V} (h : v ∈ nM) : v ∈ hM := h
theorem word_due (s : V) (_ : s ∈ sM) (l : V) (_ : l ∈ nM) (m : V) (_ : m ∈ nM) (h : oDue s l m = none) : s = .str (strV s) ∧ scal m (.int 0) = true ∧ (scal s s && (scal l l && scal m m)) = true := by
  obtain ⟨h1, h2⟩ := oDue_none h
  obtain ⟨z, rfl⟩ := sBad_str h1
  obtain ⟨⟨i, rfl, _⟩, rfl | ⟨j, rfl, _⟩⟩ := bDue_none h2 <;> exact ⟨rfl, rfl, rfl⟩
theorem num_due (l : V) (hl : l ∈ nM) (m : V) (hm : m ∈ hM) (h : bDue l m = none) : l = .int (intV l) ∧ (m = .non ∨ m = .int (intV m)) ∧ 0 ≤ intV l ∧ intV l ≤ 300 ∧ 0 ≤ intV m ∧ (intV m ≤ 300 ∨ 110 ≤ intV m ∧ intV m ≤ 999999999) ∧ (scal l l && scal m m) = true := by
  obtain ⟨⟨i, rfl, hi⟩, rfl | ⟨j, rfl, hj⟩⟩ := bDue_none h
  · exact ⟨rfl, .inl rfl, hi, hl.2 i rfl, Int.le_refl _, .inl (by decide), rfl⟩
  · exact ⟨rfl, .inr rfl, hi, hl.2 i rfl, hj, .inl (hm.2 j rfl), rfl⟩
theorem fix_due (w : V) (h : w ∈ wM) (_ : wDue w = none) : scal w w = true := by
  obtain ⟨i, rfl, _⟩ := h
  rfl
theorem lx_bad {x : LX} (hx : x ∈ lM) (h : lxDue x = none) : x.els.all areB = true ∧ x.els ≠ [] := by
  obtain ⟨k, _⟩ := hx
  have z : (if (decide (x.els.length = 0) || xsBad x.els) = true then (some "texts" : Option Str) else none) = none := by
    rcases k with k | k <;> (rw [k] at h ⊢; exact h)
  split at z
  · cases z
  · rename_i h1
    refine ⟨?_, fun e => h1 (by rw [e]; rfl)⟩
    cases q : x.els.all areB with
    | true => rfl
    | false => exact absurd (by unfold xsBad; rw [q]; show (_ || (true || _)) = true; rw [Bool.true_or, Bool.or_true]) h1
theorem are_str {v : V} (h : areB v = true) : v = .str (strV v) := by
  cases v with
  | str z => rfl
  | _ => cases h
theorem lst_due (x : LX) (hx : x ∈ lM) (h : lxDue x = none) : (∀ v ∈ x.els, v = .str (strV v)) ∧ x.els.length ≤ 20 ∧ x.els ≠ [] := by
  obtain ⟨h1, h2⟩ := lx_bad hx h
  exact ⟨fun v hv => are_str (List.all_eq_true.mp h1 v hv), hx.2.1, h2⟩
theorem lst_are (x : LX) (hx : x ∈ lM) (h : lxDue x = none) : x.els.all areB = true := (lx_bad hx h).1
theorem end_due (s : V) (_ : s ∈ sM) (e : V) (_ : e ∈ eM) (l : V) (_ : l ∈ nM) (m : V) (_ : m ∈ nM) (h : eDue s e l m = none) : s = .str (strV s) ∧ e = .str ⟨#[(strV e).cps.getD 0 0]⟩ ∧ scal m (.int 0) = true ∧ (scal s s && (scal e e && (scal l l && scal m m))) = true := by
  obtain ⟨h1, h2, h3⟩ := eDue_none h
  obtain ⟨z, rfl⟩ := sBad_str h1
  have ee := (sign_one h2).1
  refine ⟨rfl, ee, ?_⟩
  rw [ee]
  obtain ⟨⟨i, rfl, _⟩, rfl | ⟨j, rfl, _⟩⟩ := bDue_none h3 <;> exact ⟨rfl, rfl⟩
theorem nM_flat (v : V) (h : v ∈ hM) : flatV v = true := h.1
theorem wM_flat (v : V) (h : v ∈ wM) : flatV v = true := by
  obtain ⟨i, rfl, _⟩ := h
  rfl
theorem lM_vM (x : LX) (h : x ∈ lM) : (∀ v ∈ x.els, v ∈ vM) ∧ x.els.length ≤ 20 := ⟨h.2.2.1, h.2.1⟩
theorem lM_val (x : LX) (h : x ∈ lM) : x = .val (.str "ab") ∨ x = .val .non ∨ (x = .lst x.els ∨ x = .tup x.els) := .inr (.inr h.1)
theorem eM_one (e : V) (_ : e ∈ eM) (h : isSignB e = true) : e = .str ⟨#[(strV e).cps.getD 0 0]⟩ := (sign_one h).1
theorem sM_str (s : V) (_ : s ∈ sM) (h : sBad s = false) : s = .str (strV s) := by
  obtain ⟨z, rfl⟩ := sBad_str h
  rfl
theorem mQ_one (v : V) (_ : v ∈ mQ) (h : isSignB v = true) : v = .str ⟨#[(strV v).cps.getD 0 0]⟩ ∧ True := sign_one h
theorem lM_shaped (x : LX) (hx : x ∈ lM) (h : lxDue x = none) : x.els.all flatV = true ∧ SeqAt.shaped (.tuple (x.els.map dV)) = true :=
  ⟨List.all_eq_true.mpr fun v hv => (hx.2.2.1 v hv).1, hx.2.2.2⟩
theorem word_all (s : V) (_ : s ∈ sM) (l : V) (_ : l ∈ nM) (m : V) (_ : m ∈ nM) (h : oDue s l m = none) : s = .str (strV s) ∧ l = .int (intV l) ∧ (m = .non ∨ m = .int (intV m)) := by
  obtain ⟨h1, h2⟩ := oDue_none h
  obtain ⟨z, rfl⟩ := sBad_str h1
  obtain ⟨⟨i, rfl, _⟩, rfl | ⟨j, rfl, _⟩⟩ := bDue_none h2
  · exact ⟨rfl, rfl, .inl rfl⟩
  · exact ⟨rfl, rfl, .inr rfl⟩
theorem end_all (s : V) (_ : s ∈ sM) (e : V) (_ : e ∈ eM) (l : V) (_ : l ∈ nM) (m : V) (_ : m ∈ nM) (h : eDue s e l m = none) : s = .str (strV s) ∧ e = .str (strV e) ∧ l = .int (intV l) ∧ (m = .non ∨ m = .int (intV m)) ∧ (strV e).length ≤ 10 := by
  obtain ⟨h1, h2, h3⟩ := eDue_none h
  obtain ⟨z, rfl⟩ := sBad_str h1
  have ee := (sign_one h2).1
  have el : (strV e).length ≤ 10 := by rw [ee]; show 1 ≤ 10; decide
  have e2 : e = .str (strV e) := by
    cases e with
    | str y => rfl
    | _ => cases h2
  obtain ⟨⟨i, rfl, _⟩, rfl | ⟨j, rfl, _⟩⟩ := bDue_none h3
  · exact ⟨rfl, e2, rfl, .inl rfl, el⟩
  · exact ⟨rfl, e2, rfl, .inr rfl, el⟩
end L2.K06

set_option Elab.async false
set_option linter.all false
set_option maxRecDepth 100000
set_option maxHeartbeats 4000000
namespace L2.K06
open PySem PySem.W PySem.Spec PySem.Calls PyProof.Rows L2.Jk



/-! ### the law's own numbers: a list of three -/
def StAt (H : Hp) (a : Addr) : Prop := ∃ p q r : Int, H a = some (.lst [.int p, .int q, .int r]) ∧ 0 ≤ p ∧ 0 ≤ q ∧ q < 2147483700 ∧ 0 ≤ r ∧ r < 2147483700
def spState : Sp := fun vs H Q _ => ∃ n : Int, vs = [.int n] ∧ ∀ a H', H a = none → Same H H' → StAt H' a → Q (.ref a) H'
def spDigit : Sp := fun vs H Q _ => ∃ (a : Addr) (b : Int), vs = [.ref a, .int b] ∧ StAt H a ∧ 0 < b ∧ b < 1073741824 ∧ ∀ d H', 0 ≤ d → d < b → But a H H' → StAt H' a → Q (.int d) H'
theorem state_line (n : Int) : 0 ≤ (if n < 0 then -n else n) * (if decide (10 ^ (18 : Int).toNat ≤ (if n < 0 then -n else n)) = true then 1 else 0) := by
  by_cases h : n < 0
  · simp only [if_pos h]
    split <;> omega
  · simp only [if_neg h]
    split <;> omega

structure Bl (mg : Str → Option Value) : Prop where
  abs : mg "abs" = none
  int : mg "int" = none
  bool : mg "bool" = none
  isinstance : mg "isinstance" = none
  range : mg "range" = none
  len : mg "len" = none
  set : mg "set" = none
  type : mg "type" = none
  str : mg "str" = none
  reversed : mg "reversed" = none
  tuple : mg "tuple" = none
  list : mg "list" = none
  any : mg "any" = none
  all : mg "all" = none

theorem bit_line (c : Prop) [Decidable c] : -(2 ^ 64) < (if c then (1 : Int) else 0) ∧ (if c then (1 : Int) else 0) < 2 ^ 64 := by
  split <;> exact ⟨by decide, by decide⟩
/-- the module's own names, the error class -/
structure G0 (P : Program) (w : World) (K : Frag) (mg : Str → Option Value) (base : Heap) : Prop extends Bl mg where
  sg : ∃ t, mg "SIGNS" = some (.str SG t)
  dgs : ∃ t, mg "DIGITS" = some (.str DG t)
  bf : ErrAt P w K mg base "BadField" (He.ga K "BadField") ["what"] "refused badfield"
section
variable {P : Program} {w : World} {K : Frag} {mg : Str → Option Value} {base : Heap} {f : Addr} {fd : FuncData}

abbrev s_state : Stmt := top 30
theorem sc_state : FnScope ["_law_source"] ["_law_source"] (defScope s_state) := ⟨rfl, rfl, rfl, by decide +kernel, rfl, by decide +kernel, by decide +kernel⟩

theorem ok_state (F : FunD K "_law_state" "_law_state" (defArgs s_state) (defBody s_state) (defScope s_state) [] [] f fd) (G : Bl mg) : FnOk P w K mg base CX0 1 f fd ["_law_source"] spState := by
  refine F.ok sc_state (fun vs H Q E h => ?_) (fun cdv A outer s H vs Q E hr h => ?_)
  · obtain ⟨n, rfl, _⟩ := h
    rfl
  · obtain ⟨n, rfl, q⟩ := h
    refine ⟨_, PSs.nox (pss_cons (ps_set (i := 0) sc_state.nd rfl (Or.inl rfl) (pe_callB call_abs (by rfl) G.abs (by decide +kernel) (pa_cons (pv 0) pa_nil)))
    (pss_one (ps_ret (pe_lstS (pa_cons (pe_op op_mul (pv 0) (pe_callTy call_int1 (by rfl) G.int (by decide +kernel) (pa_cons (pe_cmpR op_ge (pv 0) (pe_op op_pow pe_int pe_int) (nomark _)) pa_nil))) (pa_cons (pe_op op_add (pe_op op_mod (pe_callTy call_int1 (by rfl) G.int (by decide +kernel) (pa_cons (pv 0) pa_nil)) pe_int) pe_int) (pa_cons (pe_op op_mod (pe_callTy call_int1 (by rfl) G.int (by decide +kernel) (pa_cons (pv 0) pa_nil)) pe_int) pa_nil))))))), ?_⟩
    refine ⟨_, rfl, n, rfl, ?_⟩
    refine ⟨_, rfl, _, rfl, _, _, rfl, rfl, ⟨by decide, by decide, by decide⟩, _, _, rfl, rfl, .inr ⟨_, rfl, ?_⟩⟩
    refine ⟨_, _, rfl, rfl, .inr (bit_line _), _, rfl, .inl ⟨_, rfl, _, _, rfl, rfl, (by show (0 : Int) < 2147483629; decide), _, _, rfl, rfl, ?_⟩⟩
    refine ⟨_, rfl, .inl ⟨_, rfl, _, _, rfl, rfl, (by show (0 : Int) < 2147483587; decide), ?_⟩⟩
    refine ⟨by show 3 ≤ 1000; decide, fun p H' hp S e => q p H' hp S ⟨_, _, _, e, state_line n, ?_, ?_, ?_, ?_⟩⟩
    · have := Int.emod_nonneg (if n < 0 then -n else n) (show (2147483629 : Int) ≠ 0 by decide)
      omega
    · have := Int.emod_lt_of_pos (if n < 0 then -n else n) (show (0 : Int) < 2147483629 by decide)
      omega
    · exact Int.emod_nonneg _ (by decide)
    · have := Int.emod_lt_of_pos (if n < 0 then -n else n) (show (0 : Int) < 2147483587 by decide)
      omega

abbrev s_digit : Stmt := top 31
theorem sc_digit : FnScope ["_law_state_here", "_law_base", "_law_found", "_law_mixed"] ["_law_state_here", "_law_base"] (defScope s_digit) := ⟨rfl, rfl, rfl, by decide +kernel, rfl, by decide +kernel, by decide +kernel⟩

theorem ok_digit (F : FunD K "_law_digit" "_law_digit" (defArgs s_digit) (defBody s_digit) (defScope s_digit) [] [] f fd) (G : Bl mg) : FnOk P w K mg base CX0 1 f fd ["_law_state_here", "_law_base"] spDigit := by
  refine F.ok sc_digit (fun vs H Q E h => ?_) (fun cdv A outer s H vs Q E hr h => ?_)
  · obtain ⟨a, b, rfl, _⟩ := h
    rfl
  · obtain ⟨a, b, rfl, ⟨x, y, z, ha, hx, hy, hy2, hz, hz2⟩, hb, hb2, q⟩ := h
    refine ⟨_, PSs.nox (pss_cons (ps_if (pt_cmpR op_gt (pe_ix ix_list (pv 0) pe_int (fun _ _ => rfl)) pe_int (nomark _))
      (pss_cons (ps_set (i := 2) sc_digit.nd rfl (Or.inl rfl) (pe_op op_mod (pe_callTy call_int1 (by rfl) G.int (by decide +kernel) (pa_cons (pe_ix ix_list (pv 0) pe_int (fun _ _ => rfl)) pa_nil)) (pv 1)))
      (pss_cons (ps_asg (pe_op op_fdiv (pe_ix ix_list (pv 0) pe_int (fun _ _ => rfl)) (pv 1)) (pg_sub (pv 0) pe_int set_list))
      (pss_one (ps_ret (pv 2)))))
      pss_nil)
    (pss_cons (ps_set (i := 3) sc_digit.nd rfl (Or.inl rfl) (pe_op op_mul (pe_ix ix_list (pv 0) pe_int (fun _ _ => rfl)) (pe_op op_add (pe_op op_fdiv (pe_ix ix_list (pv 0) pe_int (fun _ _ => rfl)) pe_int) pe_int)))
    (pss_cons (ps_asg (pe_op op_add (pe_op op_mod (pe_callTy call_int1 (by rfl) G.int (by decide +kernel) (pa_cons (pe_op op_add (pv 3) (pe_ix ix_list (pv 0) pe_int (fun _ _ => rfl))) pa_nil)) pe_int) pe_int) (pg_sub (pv 0) pe_int set_list))
    (pss_one (ps_ret (pe_op op_mod (pe_callTy call_int1 (by rfl) G.int (by decide +kernel) (pa_cons (pe_op op_fdiv (pe_ix ix_list (pv 0) pe_int (fun _ _ => rfl)) pe_int) pa_nil)) (pv 1))))))), ?_⟩
    refine ⟨_, rfl, _, _, _, _, rfl, rfl, SqL.of ha, atI_nat (j := 0) rfl, _, _, rfl, rfl, _, rfl, ?_⟩
    refine ite2 (fun h0 => ?_) (fun h0 => ?_)
    · refine ⟨_, rfl, _, _, _, _, rfl, rfl, SqL.of ha, atI_nat (j := 0) rfl, .inl ⟨_, rfl, _, rfl, _, _, rfl, rfl, hb, ?_⟩⟩
      refine ⟨_, rfl, _, _, _, _, rfl, rfl, SqL.of ha, atI_nat (j := 0) rfl, _, rfl, _, _, rfl, rfl, ⟨hb, hb2⟩, ?_⟩
      refine ⟨_, rfl, _, _, _, 0, rfl, rfl, ha, rfl, ?_⟩
      refine ⟨_, rfl, q _ _ (Int.emod_nonneg _ (by omega)) (Int.emod_lt_of_pos _ hb) (but_upd _ _ _) ⟨_, _, _, upd_same, Int.ediv_nonneg hx (by omega), hy, hy2, hz, hz2⟩⟩
    · refine ⟨_, rfl, _, _, _, _, rfl, rfl, SqL.of ha, atI_nat (j := 1) rfl, _, rfl, _, _, _, _, rfl, rfl, SqL.of ha, atI_nat (j := 1) rfl, _, _, rfl, rfl, ⟨by decide, by decide⟩, _, _, rfl, rfl, _, _, rfl, rfl, .inl ⟨by omega, by omega⟩, ?_⟩
      refine ⟨_, rfl, _, rfl, _, _, _, _, rfl, rfl, SqL.of ha, atI_nat (j := 2) rfl, _, _, rfl, rfl, .inl ⟨_, rfl, _, _, rfl, rfl, (by show (0 : Int) < 2147483629; decide), _, _, rfl, rfl, ?_⟩⟩
      refine ⟨_, rfl, _, _, _, 1, rfl, rfl, ha, rfl, ?_⟩
      refine ⟨_, rfl, _, _, _, _, rfl, rfl, SqL.of upd_same, atI_nat (j := 1) rfl, _, _, rfl, rfl, ⟨by decide, by decide⟩, .inl ⟨_, rfl, _, rfl, _, _, rfl, rfl, hb, ?_⟩⟩
      have m1 := Int.emod_nonneg (y * (y / 1009 + 69621) + z) (show (2147483629 : Int) ≠ 0 by decide)
      have m2 := Int.emod_lt_of_pos (y * (y / 1009 + 69621) + z) (show (0 : Int) < 2147483629 by decide)
      exact q _ _ (Int.emod_nonneg _ (by omega)) (Int.emod_lt_of_pos _ hb) (but_upd _ _ _) ⟨_, _, _, upd_same, hx, by omega, by omega, hz, hz2⟩


theorem pe_sg {X : Cx} {x : Str} {z : Str} {pos : Pos} (h : ∃ t, X.mg x = some (.str z t)) (hg : Gl X x := by rfl) (hd : (x == ("__debug__" : Str)) = false := by decide) : PE X (.Name x pos) (tC (.str z)) := by
  obtain ⟨t, h⟩ := h
  exact pe_glob (v := .str z) hg h ⟨t, rfl⟩ hd

def spMade : Sp := fun vs H Q _ => ∃ a b : Str, vs = [.str a, .str b] ∧ a.length ≤ 1000 ∧ Q (.bl (madeB a b)) H
def spV (p : V → Bool) : Sp := fun vs H Q _ => ∃ v : V, vs = [v] ∧ v ∈ vM ∧ Q (.bl (p v)) H
def spNum : Sp := fun vs H Q _ => ∃ v : V, vs = [v] ∧ flatV v = true ∧ Q (.bl (numB v)) H
def spDig : Sp := fun vs H Q _ => ∃ n : Int, vs = [.int n] ∧ 0 ≤ n ∧ n < 400 ∧ ∀ H', Same H H' → Q (.str (dg n)) H'
theorem small_line (z : Str) (h : z.length ≤ 1000) : z.length ≤ sizeLine := by
  rw [sizeLine_eq]
  omega

abbrev s_made_of : Stmt := top 7
theorem sc_made_of : FnScope ["text", "signs"] ["text", "signs"] (defScope s_made_of) := ⟨rfl, rfl, rfl, by decide +kernel, rfl, by decide +kernel, by decide +kernel⟩

theorem ok_made_of (F : FunD K "is_made_of" "is_made_of" (defArgs s_made_of) (defBody s_made_of) (defScope s_made_of) [] [] f fd) (G : G0 P w K mg base) : FnOk P w K mg base CX0 1 f fd ["text", "signs"] spMade := by
  refine F.ok (CX := CX0) sc_made_of (fun vs H Q E h => ?_) (fun cdv A outer s H vs Q E hr h => ?_)
  · obtain ⟨a, b, rfl, _⟩ := h
    rfl
  · refine ⟨_, PSs.nox (pss_one (ps_ret (pe_cmpR op_eq (pe_bm PySem.F.plainAttrs_str PySem.F.slot_str_strip PySem.F.type_str_strip mt_stripChars (pv 0) (pa_cons (pv 1) pa_nil)) pe_str (nomark _)))), ?_⟩
    obtain ⟨a, b, rfl, hz, q⟩ := h
    exact ⟨_, rfl, rfl, _, rfl, a, b, rfl, rfl, small_line a hz, rfl, q⟩

abbrev s_is_sign : Stmt := top 8
theorem sc_is_sign : FnScope ["thing"] ["thing"] (defScope s_is_sign) := ⟨rfl, rfl, rfl, by decide +kernel, rfl, by decide +kernel, by decide +kernel⟩

theorem ok_is_sign (F : FunD K "is_sign" "is_sign" (defArgs s_is_sign) (defBody s_is_sign) (defScope s_is_sign) [] [] f fd) (G : G0 P w K mg base) : FnOk P w K mg base CX0 1 f fd ["thing"] (spV isSignB) := by
  refine F.ok (CX := CX0) sc_is_sign (fun vs H Q E h => ?_) (fun cdv A outer s H vs Q E hr h => ?_)
  · obtain ⟨v, rfl, _⟩ := h
    rfl
  · refine ⟨_, PSs.nox (pss_one (ps_ret (pe_and (pe_callB call_ie (by rfl) G.isinstance (by decide +kernel) (pa_cons (pv 0) (pa_cons (pe_bty (n := "str") (by rfl) G.str (by decide +kernel)) pa_nil))) (pe_and (pe_cmpR op_eq (pe_callB call_len_str (by rfl) G.len (by decide +kernel) (pa_cons (pv 0) pa_nil)) pe_int (nomark _)) (pe_one (pe_cmpR op_in_sign (pv 0) (pe_sg G.sg) (by rfl))))))), ?_⟩
    obtain ⟨v, rfl, hv, q⟩ := h
    obtain ⟨hf, _, _, hz⟩ := vM_facts v hv
    refine ⟨_, rfl, _, _, _, _, _, rfl, .ty _, flat_ty hf, kit_ty (kit_str hf), _, rfl, ?_⟩
    cases v with
    | str z =>
      refine iteT ⟨_, rfl, z, rfl, small_line z (Nat.le_trans hz (by decide)), rfl, _, rfl, ?_⟩
      refine ite2 (fun h1 => ?_) (fun h1 => ?_)
      · have h1' : z.length = 1 := by have := of_decide_eq_true h1; simp at this; omega
        have e := one_sign (.str z) hv h1'
        refine ⟨_, rfl, _, SG, e, rfl, ?_⟩
        have r : isSignB (.str z) = decide (z.cps.getD 0 0 ∈ SG.cps.toList) := by show ((z.length == 1) && inB z SG) = _; rw [h1']; rfl
        rw [r] at q
        exact q
      · have h1' : z.length ≠ 1 := fun e => h1 (by rw [e]; rfl)
        have r : isSignB (.str z) = false := by show ((z.length == 1) && inB z SG) = _; rw [beq_eq_false_iff_ne.mpr h1']; rfl
        rw [r] at q
        exact q
    | non => exact iteF q
    | bl b => exact iteF q
    | int i => exact iteF q
    | _ => cases hf

abbrev s_is_number : Stmt := top 11
theorem sc_is_number : FnScope ["thing"] ["thing"] (defScope s_is_number) := ⟨rfl, rfl, rfl, by decide +kernel, rfl, by decide +kernel, by decide +kernel⟩

theorem ok_is_number (F : FunD K "is_number" "is_number" (defArgs s_is_number) (defBody s_is_number) (defScope s_is_number) [] [] f fd) (G : G0 P w K mg base) : FnOk P w K mg base CX0 1 f fd ["thing"] spNum := by
  refine F.ok (CX := CX0) sc_is_number (fun vs H Q E h => ?_) (fun cdv A outer s H vs Q E hr h => ?_)
  · obtain ⟨v, rfl, _⟩ := h
    rfl
  · refine ⟨_, PSs.nox (pss_one (ps_ret (pe_and (pe_callB call_ie (by rfl) G.isinstance (by decide +kernel) (pa_cons (pv 0) (pa_cons (pe_bty (n := "int") (by rfl) G.int (by decide +kernel)) pa_nil))) (pe_one (pe_not (pe_callB call_ie (by rfl) G.isinstance (by decide +kernel) (pa_cons (pv 0) (pa_cons (pe_bty (n := "bool") (by rfl) G.bool (by decide +kernel)) pa_nil)))))))), ?_⟩
    obtain ⟨v, rfl, hf, q⟩ := h
    refine ⟨_, rfl, _, _, _, _, _, rfl, .ty _, flat_ty hf, kit_ty (kit_int hf), _, rfl, ?_⟩
    cases v with
    | non => exact iteF q
    | str z => exact iteF q
    | bl b => exact iteT ⟨_, rfl, _, _, _, _, _, rfl, .ty _, flat_ty hf, kit_ty (kit_bool hf), _, rfl, q⟩
    | int i => exact iteT ⟨_, rfl, _, _, _, _, _, rfl, .ty _, flat_ty hf, kit_ty (kit_bool hf), _, rfl, q⟩
    | _ => cases hf

theorem dg_ok : ∀ n ∈ List.range 400, JoinOk "" [(toString (n : Int) : Str)] = true := by decide +kernel
theorem dg_log : ∀ n ∈ List.range 400, (n : Int).natAbs.log2 < 1920 := by decide +kernel

abbrev s_digits_of : Stmt := top 12
theorem sc_digits_of : FnScope ["number", "limit", "pieces", "piece"] ["number"] (defScope s_digits_of) := ⟨rfl, rfl, rfl, by decide +kernel, rfl, by decide +kernel, by decide +kernel⟩

theorem ok_digits_of (F : FunD K "digits_of" "digits_of" (defArgs s_digits_of) (defBody s_digits_of) (defScope s_digits_of) [] [] f fd) (G : G0 P w K mg base) : FnOk P w K mg base CX0 1 f fd ["number"] spDig := by
  refine F.ok (CX := CX0) sc_digits_of (fun vs H Q E h => ?_) (fun cdv A outer s H vs Q E hr h => ?_)
  · obtain ⟨n, rfl, _⟩ := h
    rfl
  · refine ⟨_, PSs.nox (pss_cons (ps_set (i := 1) sc_digits_of.nd rfl (Or.inl rfl) (pe_op op_pow pe_int pe_int))
    (pss_cons (ps_set (i := 2) sc_digits_of.nd rfl (Or.inl rfl) (pe_lstS pa_nil))
    (pss_cons (ps_while PassesOwn.never (pt_cmpR op_ge (pv 0) (pv 1) (nomark _)) pss_never)
    (pss_cons (ps_expr (pe_bm PySem.F.plainAttrs_list PySem.F.slot_list_append PySem.F.type_list_append mt_append (pv 2) (pa_cons (pe_callTy call_str_int (by rfl) G.str (by decide +kernel) (pa_cons (pv 0) pa_nil)) pa_nil)))
    (pss_one (ps_ret (pe_joinRev rfl (by rfl) G.reversed pe_str (pv 2)))))))), ?_⟩
    obtain ⟨n, rfl, h0, h1, q⟩ := h
    obtain ⟨k, rfl⟩ : ∃ k : Nat, n = (k : Int) := ⟨n.toNat, by omega⟩
    have hk : k ∈ List.range 400 := List.mem_range.mpr (by omega)
    refine ⟨_, _, rfl, rfl, ⟨by decide, by decide, by decide⟩, ?_⟩
    refine ⟨by show 0 ≤ 1000; decide, fun p H1 hp S e => ?_⟩
    refine ⟨fun m σ' H' => m = 0 ∧ σ' = [some (.int (k : Int)), some (.int (10 ^ (64 : Int).toNat)), some (.ref p), none] ∧ H' = H1, ⟨0, rfl, rfl, rfl⟩, ?_⟩
    rintro m σ' H' ⟨rfl, rfl, rfl⟩
    refine ⟨_, rfl, _, rfl, _, _, rfl, rfl, _, rfl, ?_⟩
    refine ite2 (fun hf => ?_) (fun _ => ?_)
    · have z := of_decide_eq_true hf
      have e : (10 : Int) ^ (64 : Int).toNat = 10000000000000000000000000000000000000000000000000000000000000000 := by decide +kernel
      rw [e] at z
      omega
    refine ⟨_, rfl, .inl ⟨rfl, _, SqL.of e⟩, _, rfl, _, rfl, dg_log k hk, p, _, _, rfl, rfl, e, (by rw [sizeLine_eq]; decide), ?_⟩
    refine ⟨_, rfl, _, rfl, p, [(toString (k : Int) : Str)], rfl, SqL.of upd_same, dg_ok k hk, ?_⟩
    exact q _ (same_put S hp)

structure G1 (P : Program) (w : World) (K : Frag) (mg : Str → Option Value) (base : Heap) : Prop extends G0 P w K mg base where
  is_made_of : FnAt P w K mg base CX0 1 "is_made_of" ["text", "signs"] spMade
  is_sign : FnAt P w K mg base CX0 1 "is_sign" ["thing"] (spV isSignB)
  is_number : FnAt P w K mg base CX0 1 "is_number" ["thing"] spNum
  digits_of : FnAt P w K mg base CX0 1 "digits_of" ["number"] spDig

abbrev s_are_signs : Stmt := top 9
theorem sc_are_signs : FnScope ["thing"] ["thing"] (defScope s_are_signs) := ⟨rfl, rfl, rfl, by decide +kernel, rfl, by decide +kernel, by decide +kernel⟩

theorem ok_are_signs (F : FunD K "are_signs" "are_signs" (defArgs s_are_signs) (defBody s_are_signs) (defScope s_are_signs) [] [] f fd) (G : G1 P w K mg base) : FnOk P w K mg base CX0 2 f fd ["thing"] (spV areB) := by
  refine F.ok (CX := CX0) sc_are_signs (fun vs H Q E h => ?_) (fun cdv A outer s H vs Q E hr h => ?_)
  · obtain ⟨v, rfl, _⟩ := h
    rfl
  · refine ⟨_, PSs.nox (pss_one (ps_ret (pe_and (pe_callB call_ie (by rfl) G.isinstance (by decide +kernel) (pa_cons (pv 0) (pa_cons (pe_bty (n := "str") (by rfl) G.str (by decide +kernel)) pa_nil))) (pe_one (pe_fn G.is_made_of hr pass0 (by rfl) (pa_cons (pv 0) (pa_cons (pe_sg G.sg) pa_nil))))))), ?_⟩
    obtain ⟨v, rfl, hv, q⟩ := h
    obtain ⟨hf, _, _, hz⟩ := vM_facts v hv
    refine ⟨_, rfl, _, _, _, _, _, rfl, .ty _, flat_ty hf, kit_ty (kit_str hf), _, rfl, ?_⟩
    cases v with
    | str z => exact iteT ⟨_, rfl, z, SG, rfl, Nat.le_trans hz (by decide), q⟩
    | non => exact iteF q
    | bl b => exact iteF q
    | int i => exact iteF q
    | _ => cases hf

structure G2 (P : Program) (w : World) (K : Frag) (mg : Str → Option Value) (base : Heap) : Prop extends G1 P w K mg base where
  are_signs : FnAt P w K mg base CX0 2 "are_signs" ["thing"] (spV areB)
def spChkS (K : Frag) : Sp := fun vs H Q E => ∃ v : V, vs = [v] ∧ v ∈ sM ∧ (sBad v = false → Q .non H) ∧ (sBad v = true → RaiseE (BF K) "what" (.str "signs") H E)
def spChkB (K : Frag) : Sp := fun vs H Q E => ∃ l m : V, vs = [l, m] ∧ flatV l = true ∧ flatV m = true ∧ (bDue l m = none → Q .non H) ∧ (∀ z, bDue l m = some z → RaiseE (BF K) "what" (.str z) H E)

abbrev s_check_signs : Stmt := top 14
theorem sc_check_signs : FnScope ["signs"] ["signs"] (defScope s_check_signs) := ⟨rfl, rfl, rfl, by decide +kernel, rfl, by decide +kernel, by decide +kernel⟩

theorem ok_check_signs (F : FunD K "check_signs" "check_signs" (defArgs s_check_signs) (defBody s_check_signs) (defScope s_check_signs) [] [] f fd) (G : G2 P w K mg base) : FnOk P w K mg base (L2.CX P w) 3 f fd ["signs"] (spChkS K) := by
  refine F.ok (CX := (L2.CX P w)) sc_check_signs (fun vs H Q E h => ?_) (fun cdv A outer s H vs Q E hr h => ?_)
  · obtain ⟨v, rfl, _⟩ := h
    rfl
  · have hr2 : Room 2 _ := hr
    refine ⟨_, (pss_one (ps_if (PW.pt (pw_or (pt_not (pt_val (pe_fn G.are_signs hr2 pass0 (by rfl) (pa_cons (pv 0) pa_nil)))) (pw_or (pt_cmpR op_eq (pv 0) pe_str (nomark _)) (pw_or1 (pt_cmpR op_lt (pe_lenSetStr rfl (by rfl) G.len (by rfl) G.set (pv 0)) (pe_callB call_len_str (by rfl) G.len (by decide +kernel) (pa_cons (pv 0) pa_nil)) (nomark _))))))
      (pss_one (ps_raise rfl (takes_of rfl rfl rfl rfl) (pmk_1 G.bf hr2 (by rfl) (pa_cons pe_str pa_nil))))
      pss_nil)), ?_⟩
    obtain ⟨v, rfl, hv, q1, q2⟩ := h
    obtain ⟨hf, _, _, hz⟩ := vM_facts v (sM_vM hv)
    refine ⟨_, rfl, v, rfl, sM_vM hv, _, rfl, ?_⟩
    have bad : ∀ h : sBad v = true, _ := fun h => mkO_1 (q2 h)
    show if (!areB v) = true then _ else _
    refine ite2 (fun h1 => bad (by show (!areB v || _) = true; rw [h1]; rfl)) (fun h1 => ?_)
    cases v with
    | str z =>
      refine ⟨_, rfl, rfl, _, rfl, ?_⟩
      refine ite2 (fun h2 => bad (by show (_ || (decide _ || _)) = true; rw [h2]; exact Bool.or_true _)) (fun h2 => ?_)
      refine ⟨_, rfl, z, rfl, Nat.le_trans hz (by decide), _, rfl, z, rfl, small_line z (Nat.le_trans hz (by decide)), _, _, rfl, rfl, _, rfl, ?_⟩
      refine ite2 (fun h3 => bad ?_) (fun h3 => q1 ?_)
      · have h4 : twB (.str z) = true := decide_eq_true (by have := of_decide_eq_true h3; omega)
        show (_ || (_ || twB (.str z))) = true
        rw [h4, Bool.or_true, Bool.or_true]
      · have h4 : twB (.str z) = false := decide_eq_false (fun h => h3 (decide_eq_true (by omega)))
        show (!areB (.str z) || (decide (V.str z = .str "") || twB (.str z))) = false
        rw [h4, Bool.eq_false_iff.mpr h1, Bool.eq_false_iff.mpr h2]
        rfl
    | _ => exact absurd rfl h1

abbrev s_check_span : Stmt := top 15
theorem sc_check_span : FnScope ["least", "most"] ["least", "most"] (defScope s_check_span) := ⟨rfl, rfl, rfl, by decide +kernel, rfl, by decide +kernel, by decide +kernel⟩

theorem ok_check_span (F : FunD K "check_span" "check_span" (defArgs s_check_span) (defBody s_check_span) (defScope s_check_span) [] [] f fd) (G : G2 P w K mg base) : FnOk P w K mg base (L2.CX P w) 3 f fd ["least", "most"] (spChkB K) := by
  refine F.ok (CX := (L2.CX P w)) sc_check_span (fun vs H Q E h => ?_) (fun cdv A outer s H vs Q E hr h => ?_)
  · obtain ⟨l, m, rfl, _⟩ := h
    rfl
  · have hr2 : Room 2 _ := hr
    refine ⟨_, (pss_cons (ps_if (PW.pt (pw_or (pt_not (pt_val (pe_fn G.is_number (hr2.mono (by decide)) pass0 (by rfl) (pa_cons (pv 0) pa_nil)))) (pw_or1 (pt_cmpR op_lt (pv 0) pe_int (nomark _)))))
      (pss_one (ps_raise rfl (takes_of rfl rfl rfl rfl) (pmk_1 G.bf hr2 (by rfl) (pa_cons pe_str pa_nil))))
      pss_nil)
    (pss_one (ps_if (PW.pt (pw_and (pt_cmpR op_notN (pv 1) pe_non (nomark _)) (pw_and1 (PW.pt (pw_or (pt_not (pt_val (pe_fn G.is_number (hr2.mono (by decide)) pass0 (by rfl) (pa_cons (pv 1) pa_nil)))) (pw_or1 (pt_cmpR op_lt (pv 1) (pv 0) (nomark _))))))))
      (pss_one (ps_raise rfl (takes_of rfl rfl rfl rfl) (pmk_1 G.bf hr2 (by rfl) (pa_cons pe_str pa_nil))))
      pss_nil))), ?_⟩
    obtain ⟨l, m, rfl, hl, hm, q1, q2⟩ := h
    refine ⟨_, rfl, l, rfl, hl, _, rfl, ?_⟩
    show if (!numB l) = true then _ else _
    refine ite2 (fun h1 => mkO_1 (q2 _ (by show (if (!numB l || _) = true then _ else _) = _; rw [h1]; rfl))) (fun h1 => ?_)
    cases l with
    | int i =>
      refine ⟨_, rfl, _, _, rfl, rfl, _, rfl, ?_⟩
      refine ite2 (fun h2 => mkO_1 (q2 _ (by show (if (_ || decide (i < 0)) = true then _ else _) = _; rw [h2]; rfl))) (fun h2 => ?_)
      refine ⟨_, rfl, rfl, _, rfl, ?_⟩
      have e0 : bDue (.int i) m = if (!decide (m = .non) && (!numB m || ltV m (.int i))) = true then (some "most" : Option Str) else none := by
        show (if (!true || decide (i < 0)) = true then _ else _) = _
        rw [Bool.eq_false_iff.mpr h2]
        rfl
      rw [e0] at q1 q2
      refine ite2 (fun h3 => ?_) (fun h3 => q1 (by rw [Bool.eq_false_iff.mpr h3]; rfl))
      refine ⟨_, rfl, m, rfl, hm, _, rfl, ?_⟩
      show if (!numB m) = true then _ else _
      refine ite2 (fun h4 => mkO_1 (q2 _ (by rw [h3, h4]; rfl))) (fun h4 => ?_)
      cases m with
      | int j =>
        refine ⟨_, rfl, _, rfl, _, _, rfl, rfl, _, rfl, ?_⟩
        refine ite2 (fun h5 => mkO_1 (q2 _ (by show (if (_ && (_ || decide (j < i))) = true then _ else _) = _; rw [h3, h5]; rfl))) (fun h5 => q1 (by show (if (_ && (!true || decide (j < i))) = true then _ else _) = _; rw [h3, Bool.eq_false_iff.mpr h5]; rfl))
      | _ => exact absurd rfl h4
    | _ => exact absurd rfl h1

def spHww (K : Frag) : Sp := fun vs H Q _ => ∃ (a C dx : Addr) (fs : List (Str × V)) (c : Nat) (z : Str) (m : V), vs = [.ref a, .str ⟨#[c]⟩] ∧ H a = some (.ins C dx fs) ∧ Cls K C ∧ NoAttr K C "signs" ∧ NoAttr K C "most" ∧ fs.lookup ("signs" : Str) = some (.str z) ∧ fs.lookup ("most" : Str) = some m ∧
  scal m (.int 0) = true ∧ Q (.bl (wwB (.str z) m ⟨#[c]⟩)) H

abbrev s_has_words : Stmt := top 16
theorem sc_has_words : FnScope ["field", "sign"] ["field", "sign"] (defScope s_has_words) := ⟨rfl, rfl, rfl, by decide +kernel, rfl, by decide +kernel, by decide +kernel⟩

theorem ok_has_words (F : FunD K "has_words_with" "has_words_with" (defArgs s_has_words) (defBody s_has_words) (defScope s_has_words) [] [] f fd) (G : G0 P w K mg base) : FnOk P w K mg base CX0 1 f fd ["field", "sign"] (spHww K) := by
  refine F.ok (CX := CX0) sc_has_words (fun vs H Q E h => ?_) (fun cdv A outer s H vs Q E hr h => ?_)
  · obtain ⟨a, C, dx, fs, c, z, m, rfl, _⟩ := h
    rfl
  · refine ⟨_, PSs.nox (pss_one (ps_ret (pe_and (pe_cmpR op_in_sign (pv 1) (pe_fld (pv 0) rfl) (by rfl)) (pe_one (pe_cmpR op_ne (pe_fld (pv 0) rfl) pe_int (nomark _)))))), ?_⟩
    obtain ⟨a, C, dx, fs, c, z, m, rfl, ha, hC, n1, n2, l1, l2, sc, q⟩ := h
    refine ⟨_, rfl, _, rfl, a, C, dx, fs, _, rfl, ha, hC, n1, l1, c, z, rfl, rfl, _, rfl, ?_⟩
    refine ite2 (fun h1 => ?_) (fun h1 => ?_)
    · refine ⟨_, rfl, a, C, dx, fs, _, rfl, ha, hC, n2, l2, sc, ?_⟩
      have e : wwB (.str z) m ⟨#[c]⟩ = !decide (m = .int 0) := by show (decide (c ∈ z.cps.toList) && _) = _; rw [h1]; rfl
      rw [e] at q
      exact q
    · have e : wwB (.str z) m ⟨#[c]⟩ = false := by show (decide (c ∈ z.cps.toList) && _) = _; rw [Bool.eq_false_iff.mpr h1]; rfl
      rw [e] at q
      exact q

end
end L2.K06

set_option Elab.async false
set_option linter.all false
set_option maxRecDepth 100000
set_option maxHeartbeats 4000000
/-! 'x' * n, n at least 1. -/
namespace L2.Jk
open PySem PySem.W PySem.Spec PySem.Calls PyProof.Rows
def repS (z : Str) (i : Int) : Str := ⟨(List.replicate i.toNat z.cps).foldl (· ++ ·) #[]⟩
/-- it may be done -/
def repOk (z : Str) (i : Int) : Bool := decide (1 ≤ i) && (decide (i < 1000) && (decide (z.length = 1) && (!Builtin.Str.tooLong (z.length * i.toNat) && decide ((repS z i).length ≤ 16777216))))
theorem op_mulStr {X : Cx} : OpR X (binaryOp .Mult) (fun x y H Q => ∃ (z : Str) (i : Int), x = .str z ∧ y = .int i ∧ repOk z i = true ∧ Q (.str (repS z i)) H) := by
  intro pins s σ H x y v u Q I rx ry h
  obtain ⟨z, i, rfl, rfl, ok, q⟩ := h
  obtain ⟨t, rfl⟩ := rx
  obtain ⟨t', rfl⟩ := ry
  obtain ⟨o1, ok⟩ := Bool.and_eq_true_iff.mp ok
  obtain ⟨o2, ok⟩ := Bool.and_eq_true_iff.mp ok
  obtain ⟨o3, ok⟩ := Bool.and_eq_true_iff.mp ok
  obtain ⟨o4, o5⟩ := Bool.and_eq_true_iff.mp ok
  replace o1 := of_decide_eq_true o1
  replace o2 := of_decide_eq_true o2
  replace o3 := of_decide_eq_true o3
  replace o5 := of_decide_eq_true o5
  have e1 : ¬ i < 1 := by omega
  by_cases h1 : i = 1
  · subst h1
    have er : repS z 1 = z := by
      obtain ⟨c⟩ := z
      show (⟨(List.replicate 1 c).foldl (· ++ ·) #[]⟩ : Str) = ⟨c⟩
      simp
    rw [er] at q
    refine P.mul_str (by decide) (fun _ h => absurd h (by simp)) (fun _ h => absurd h (by simp)) ?_
    rw [if_neg e1, if_pos (show ((1 : Int) == 1 || z.length == 0) = true from rfl)]
    exact ⟨.str z, H, I, ⟨t, rfl⟩, q⟩
  have e2 : (i == 1 || z.length == 0) = false := by
    rw [o3, show (i == 1) = false from beq_eq_false_iff_ne.mpr h1]
    rfl
  refine P.mul_str (by rw [decide_eq_false (by omega), decide_eq_false (by omega)]; rfl) (fun _ _ => ?_) (fun _ _ => by rwa [Bool.not_eq_true'] at o4) ?_
  · rw [o3]
    have h2 : (1 : Int) ≤ (2 ^ 63 - 1) / i := Int.le_ediv_of_mul_le (by omega) (by omega)
    omega
  · rw [if_neg e1, e2]
    exact ⟨by rw [sizeLine_eq]; exact o5, ⟨.str _, H, I.tok _, ⟨_, rfl⟩, q⟩⟩
end L2.Jk

set_option Elab.async false
set_option linter.all false
set_option maxRecDepth 100000
set_option maxHeartbeats 4000000
/-! Tuples of which it is known that they have no dict: made, their methods called. -/
namespace L2.Jk
open PySem PySem.W PySem.Spec PySem.Calls PyProof.Rows
/-- at t: a tuple of these items, an object without a dict -/
def TupZ (H : Hp) (t : Addr) (xs : List V) : Prop := ∃ o : Obj, o.cls = .type "tuple" ∧ o.dict = none ∧ H t = some (.frz o (.tup xs))
theorem TupZ.same {H H' : Hp} {t : Addr} {xs : List V} (S : Same H H') (h : TupZ H t xs) : TupZ H' t xs := by
  obtain ⟨o, c, d, e⟩ := h
  exact ⟨o, c, d, S _ _ e⟩
theorem TupZ.sq {K : Frag} {H : Hp} {t : Addr} {xs : List V} (h : TupZ H t xs) : SqT K H t xs := by
  obtain ⟨o, c, d, e⟩ := h
  exact .inl (.inr ⟨o, e⟩)
section
variable {X : Cx}
def rTupZ (K : Frag) : List V → Hp → VK → Prop := fun xs H Q => ∃ p ys, xs = [.ref p] ∧ ((SqL K H p ys ∧ ∀ l H', H l = none → Same H H' → TupZ H' l ys → Q (.ref l) H') ∨ (SqT K H p ys ∧ Q (.ref p) H))
theorem call_tupleZ : CallR X (.type "tuple") (rTupZ X.K) := by
  intro pins s σ H xs us Q I r h
  obtain ⟨p, ys, rfl, h⟩ := h
  obtain ⟨u, rfl, rx⟩ := vals1 r
  cases rx
  rcases h with ⟨hq, q⟩ | ⟨hq, q⟩
  · obtain ⟨its, r', pl, hz⟩ := I.list hq
    have hlen := r'.length
    refine call_tuple_list pl.isList (fun h' kp => ?_) (by simp only [List.size_toArray] <;> omega)
    have I1 : Inv X pins σ H { s with heap := h' } := I.kept (t' := s.toks) kp
    have I2 : Inv X pins σ (upd H h'.objs.size (.frz { cls := .type "tuple", data := .seq its.toArray } (.tup ys))) { s with heap := h'.push { cls := .type "tuple", data := .seq its.toArray } } :=
      I1.laid (t' := s.toks) (fun b o e => Heap.get?_push_of_some _ e) (Nat.le_refl _) ⟨Heap.get?_push_size _ rfl, show ObjOk X.prog X.w _ _ _ (.tup ys) from ⟨hz, its, r', IsTup.new _ _⟩⟩
    have n := I1.hok.fresh (a := h'.objs.size) (Nat.le_refl _)
    exact ⟨.ref h'.objs.size, _, I2, rfl, q _ _ n (same_upd n) ⟨_, rfl, rfl, upd_same⟩⟩
  · obtain ⟨its, r', pl, hz⟩ := I.tuple hq
    exact call_tuple_same pl ⟨.ref p, H, I, rfl, q⟩
/-- a tuple display -/
def tTupZ (t : TA) : TE := fun σ H Q => t σ H fun xs H1 => xs.length ≤ 1000 ∧ ∀ p H', H1 p = none → Same H1 H' → TupZ H' p xs → Q (.ref p) H'
theorem pe_tupZ {es : List Expr} {t : TA} {pos : Pos} {k} (ha : PA X es t) : PE X (.Tuple es k pos) (tTupZ t) := by
  constructor
  intro pins s σ H Q I h
  refine wpAny_Tuple_spliced (thn (ha.run pos pins s σ H _ I h) fun us s1 ⟨xs, H1, I1, r, z, q⟩ => ?_)
  have z' := Nat.le_of_lt (small1000 z)
  have n : H1 s1.heap.objs.size = none := I1.fresh
  refine ⟨by rw [← r.length]; exact z', .ref s1.heap.objs.size, _, I1.laid (t' := s1.toks) (o := .frz { cls := .type "tuple", data := .seq us.toArray } (.tup xs)) (fun b u e => Heap.get?_push_of_some _ e) (Nat.le_refl _) ?_, rfl, q _ _ n (same_upd n) ⟨_, rfl, rfl, upd_same⟩⟩
  exact ⟨Heap.get?_push_size _ rfl, z', us, r, IsTup.new _ _⟩
/-- o.m(e, ..) of such a tuple -/
def tBMZ (r : V → List V → Hp → VK → Prop) (to : TE) (t : TA) : TE := fun σ H Q => to σ H fun x H1 => (∃ p xs, x = .ref p ∧ TupZ H1 p xs) ∧ t σ H1 fun xs H2 => r x xs H2 Q
variable {o e : Expr} {es : List Expr} {to : TE} {t : TA} {name : Str} {apos cpos : Pos} {id : String} {r : V → List V → Hp → VK → Prop}
theorem pe_bmZ (slot : Slot "tuple" name id) (hty : typeOf (.builtin id) = pure (.type "method_descriptor")) (pa : PlainAttrs "tuple") (hm : MtR X id r) (ho : PE X o to) (ha : PA X (e :: es) t)
    (hbase : attributeBase o name X.env (eval o X.env) = eval o X.env := by rfl)
    (hfew : ((backTo cpos (starEach (e :: es) X.env)).all (fun x => !x.1) && (backToKw cpos (keywordEach [] X.env)).all (fun x => x.1.isSome)
      && decide ((e :: es).length + ([] : List Keyword).length + (if ([] : List Keyword).isEmpty then 0 else 1) < 30)) = true := by rfl)
    (hline : (apos.endLine == cpos.line) = true := by rfl) (hs : starEach (e :: es) X.env = (false, eval e X.env) :: starEach es X.env := by rfl) (hplain : (backTo cpos (starEach es X.env)).any (·.1) = false := by rfl) :
    PE X (.Call (.Attribute o name apos) (e :: es) [] cpos) (tBMZ r to t) := by
  refine ⟨fun pins s σ H Q I h => ?_⟩
  refine wpAny_Call_method_late hbase hfew hline rfl (thn (ho.run pins s σ H _ I h) fun v s1 ⟨x, H1, I1, r1, ⟨p, ys, ex, ob, hc, hd, hp⟩, q1⟩ => ?_)
  subst ex
  obtain rfl : v = Value.ref p := r1
  obtain ⟨hg, _⟩ := (show s1.heap.get? p = some ob ∧ ObjOk X.prog X.w H1 s1.heap p (.tup ys) from I1.hok p _ hp)
  refine ⟨"tuple", id, pa, slot, hty, ⟨ob, hg, hc⟩, (fun a e => by cases e; exact ⟨ob, hg, hd⟩), ?_⟩
  have hA := ha.run cpos pins s1 σ H1 _ I1 q1
  rw [hs] at hA ⊢
  refine Calls.callWith_builtin (by show (false || (backTo cpos (starEach es X.env)).any (·.1)) = false; rw [hplain] <;> rfl) (Calls.evalArgs_plain ?_)
  exact thn hA fun us s2 ⟨vs, H2, I2, r2, q2⟩ => hm pins s2 σ H2 (.ref p) vs (.ref p) us Q I2 rfl r2 q2
end
end L2.Jk

set_option Elab.async false
set_option linter.all false
set_option maxRecDepth 100000
set_option maxHeartbeats 4000000
namespace L2.K06
open PySem PySem.W PySem.Spec PySem.Calls PyProof.Rows L2.Jk
section
variable {P : Program} {w : World} {K : Frag} {mg : Str → Option Value} {base : Heap} {f : Addr} {fd : FuncData}

/-- a field class: its name, its attributes -/
structure C0 (K : Frag) (mg : Str → Option Value) (x : Str) (fs : List Str) : Prop where
  mgC : mg x = some (.ref (He.ga K x))
  cl : Cls K (He.ga K x)
  no : ∀ f ∈ fs, NoAttr K (He.ga K x) f

def fWord (s l m : V) : List (Str × V) := (putF "most" m (putF "least" l (putF "signs" s [])))
theorem lWord_signs {s l m : V} : (fWord s l m).lookup ("signs" : Str) = some s := by unfold fWord; rw [lookup_putF, if_neg (by decide +kernel)]; rw [lookup_putF, if_neg (by decide +kernel)]; rw [lookup_putF, if_pos rfl]
theorem lWord_least {s l m : V} : (fWord s l m).lookup ("least" : Str) = some l := by unfold fWord; rw [lookup_putF, if_neg (by decide +kernel)]; rw [lookup_putF, if_pos rfl]
theorem lWord_most {s l m : V} : (fWord s l m).lookup ("most" : Str) = some m := by unfold fWord; rw [lookup_putF, if_pos rfl]
theorem lWord_hs {s l m : V} : (fWord s l m).lookup ("has_sign" : Str) = none := by unfold fWord; rw [lookup_putF, if_neg (by decide +kernel)]; rw [lookup_putF, if_neg (by decide +kernel)]; rw [lookup_putF, if_neg (by decide +kernel)]; rfl
def fNumber (l m : V) : List (Str × V) := (putF "most" m (putF "least" l []))
theorem lNumber_least {l m : V} : (fNumber l m).lookup ("least" : Str) = some l := by unfold fNumber; rw [lookup_putF, if_neg (by decide +kernel)]; rw [lookup_putF, if_pos rfl]
theorem lNumber_most {l m : V} : (fNumber l m).lookup ("most" : Str) = some m := by unfold fNumber; rw [lookup_putF, if_pos rfl]
theorem lNumber_hs {l m : V} : (fNumber l m).lookup ("has_sign" : Str) = none := by unfold fNumber; rw [lookup_putF, if_neg (by decide +kernel)]; rw [lookup_putF, if_neg (by decide +kernel)]; rfl
def fFixed (w : V) : List (Str × V) := (putF "width" w [])
theorem lFixed_width {w : V} : (fFixed w).lookup ("width" : Str) = some w := by unfold fFixed; rw [lookup_putF, if_pos rfl]
theorem lFixed_hs {w : V} : (fFixed w).lookup ("has_sign" : Str) = none := by unfold fFixed; rw [lookup_putF, if_neg (by decide +kernel)]; rfl
def fListed (x : V) : List (Str × V) := (putF "texts" x [])
theorem lListed_texts {x : V} : (fListed x).lookup ("texts" : Str) = some x := by unfold fListed; rw [lookup_putF, if_pos rfl]
theorem lListed_hs {x : V} : (fListed x).lookup ("has_sign" : Str) = none := by unfold fListed; rw [lookup_putF, if_neg (by decide +kernel)]; rfl
def fEnded (s e l m : V) : List (Str × V) := (putF "most" m (putF "least" l (putF "sign" e (putF "signs" s []))))
theorem lEnded_signs {s e l m : V} : (fEnded s e l m).lookup ("signs" : Str) = some s := by unfold fEnded; rw [lookup_putF, if_neg (by decide +kernel)]; rw [lookup_putF, if_neg (by decide +kernel)]; rw [lookup_putF, if_neg (by decide +kernel)]; rw [lookup_putF, if_pos rfl]
theorem lEnded_sign {s e l m : V} : (fEnded s e l m).lookup ("sign" : Str) = some e := by unfold fEnded; rw [lookup_putF, if_neg (by decide +kernel)]; rw [lookup_putF, if_neg (by decide +kernel)]; rw [lookup_putF, if_pos rfl]
theorem lEnded_least {s e l m : V} : (fEnded s e l m).lookup ("least" : Str) = some l := by unfold fEnded; rw [lookup_putF, if_neg (by decide +kernel)]; rw [lookup_putF, if_pos rfl]
theorem lEnded_most {s e l m : V} : (fEnded s e l m).lookup ("most" : Str) = some m := by unfold fEnded; rw [lookup_putF, if_pos rfl]
theorem lEnded_hs {s e l m : V} : (fEnded s e l m).lookup ("has_sign" : Str) = none := by unfold fEnded; rw [lookup_putF, if_neg (by decide +kernel)]; rw [lookup_putF, if_neg (by decide +kernel)]; rw [lookup_putF, if_neg (by decide +kernel)]; rw [lookup_putF, if_neg (by decide +kernel)]; rfl
def fMarked (n k y : V) : List (Str × V) := (putF "field" y (putF "mark" k (putF "none" n [])))
theorem lMarked_none {n k y : V} : (fMarked n k y).lookup ("none" : Str) = some n := by unfold fMarked; rw [lookup_putF, if_neg (by decide +kernel)]; rw [lookup_putF, if_neg (by decide +kernel)]; rw [lookup_putF, if_pos rfl]
theorem lMarked_mark {n k y : V} : (fMarked n k y).lookup ("mark" : Str) = some k := by unfold fMarked; rw [lookup_putF, if_neg (by decide +kernel)]; rw [lookup_putF, if_pos rfl]
theorem lMarked_field {n k y : V} : (fMarked n k y).lookup ("field" : Str) = some y := by unfold fMarked; rw [lookup_putF, if_pos rfl]
theorem lMarked_hs {n k y : V} : (fMarked n k y).lookup ("has_sign" : Str) = none := by unfold fMarked; rw [lookup_putF, if_neg (by decide +kernel)]; rw [lookup_putF, if_neg (by decide +kernel)]; rw [lookup_putF, if_neg (by decide +kernel)]; rfl

/-- the field d stands at a -/
def FieldAt (K : Frag) (H : Hp) (a : Addr) : PD → Prop
  | .word s l m => ∃ dx, H a = some (.ins (He.ga K "Word") dx (fWord s l m))
  | .number l m => ∃ dx, H a = some (.ins (He.ga K "Number") dx (fNumber l m))
  | .fixed w => ∃ dx, H a = some (.ins (He.ga K "Fixed") dx (fFixed w))
  | .listed x => ∃ dx t, H a = some (.ins (He.ga K "Listed") dx (fListed (.ref t))) ∧ TupZ H t x.els
  | .ended s e l m => ∃ dx, H a = some (.ins (He.ga K "Ended") dx (fEnded s e l m))
theorem FieldAt.same {H H' : Hp} {a : Addr} (S : Same H H') : ∀ {d : PD}, FieldAt K H a d → FieldAt K H' a d
  | .word .., ⟨dx, h⟩ => ⟨dx, S _ _ h⟩
  | .number .., ⟨dx, h⟩ => ⟨dx, S _ _ h⟩
  | .fixed _, ⟨dx, h⟩ => ⟨dx, S _ _ h⟩
  | .listed _, ⟨dx, t, h, k⟩ => ⟨dx, t, S _ _ h, k.same S⟩
  | .ended .., ⟨dx, h⟩ => ⟨dx, S _ _ h⟩
/-- of values that are taken -/
structure G3 (P : Program) (w : World) (K : Frag) (mg : Str → Option Value) (base : Heap) : Prop extends G2 P w K mg base where
  check_signs : FnAt P w K mg base (L2.CX P w) 3 "check_signs" ["signs"] (spChkS K)
  check_span : FnAt P w K mg base (L2.CX P w) 3 "check_span" ["least", "most"] (spChkB K)
  has_words_with : FnAt P w K mg base CX0 1 "has_words_with" ["field", "sign"] (spHww K)
  cWord : C0 K mg "Word" ["signs", "least", "most"]
  cNumber : C0 K mg "Number" ["least", "most"]
  cFixed : C0 K mg "Fixed" ["width"]
  cListed : C0 K mg "Listed" ["texts"]
  cEnded : C0 K mg "Ended" ["signs", "sign", "least", "most"]
  cMarked : C0 K mg "Marked" ["none", "mark", "field"]

def spWord (K : Frag) : Sp := fun vs H Q E => ∃ (a dx : Addr) (s l m : V), vs = [.ref a, s, l, m] ∧ H a = some (.ins (He.ga K "Word") dx []) ∧ s ∈ sM ∧ l ∈ nM ∧ m ∈ nM ∧ (oDue s l m = none → Q .non (upd H a (.ins (He.ga K "Word") dx (fWord s l m)))) ∧
  ∀ z, oDue s l m = some z → RaiseE (BF K) "what" (.str z) H E

abbrev s_Word_init : Stmt := inClass (top 17) 0
theorem sc_Word_init : FnScope ["self", "signs", "least", "most"] ["self", "signs", "least", "most"] (defScope s_Word_init) := ⟨rfl, rfl, rfl, by decide +kernel, rfl, by decide +kernel, by decide +kernel⟩

theorem ok_Word_init (F : FunD K "__init__" "Word.__init__" (defArgs s_Word_init) (defBody s_Word_init) (defScope s_Word_init) [] [] f fd) (G : G3 P w K mg base) : FnOk P w K mg base (L2.CX P w) 4 f fd ["self", "signs", "least", "most"] (spWord K) := by
  refine F.ok (CX := (L2.CX P w)) sc_Word_init (fun vs H Q E h => ?_) (fun cdv A outer s H vs Q E hr h => ?_)
  · obtain ⟨a, dx, s, l, m, rfl, _⟩ := h
    rfl
  · have hr3 : Room 3 _ := hr
    refine ⟨_, (pss_cons (ps_expr (pe_fnS G.check_signs hr3 (fun σ => passAt (takes_of rfl rfl rfl rfl) σ) (by rfl) (pa_cons (pv 1) pa_nil)))
    (pss_cons (ps_expr (pe_fnS G.check_span hr3 (fun σ => passAt (takes_of rfl rfl rfl rfl) σ) (by rfl) (pa_cons (pv 2) (pa_cons (pv 3) pa_nil))))
    (pss_cons (ps_fld (pv 0) (pv 1) rfl)
    (pss_cons (ps_fld (pv 0) (pv 2) rfl)
    (pss_one (ps_fld (pv 0) (pv 3) rfl)))))), ?_⟩
    obtain ⟨a, dx, s, l, m, rfl, ha, hs, hl, hm, q1, q2⟩ := h
    refine ⟨_, rfl, s, rfl, hs, fun e1 => ?_, fun e1 => q2 _ (by unfold oDue; rw [if_pos e1])⟩
    have e0 : oDue s l m = bDue l m := by unfold oDue; rw [e1]; rfl
    rw [e0] at q1 q2
    refine ⟨_, rfl, _, rfl, l, m, rfl, nM_flat l (nh hl), nM_flat m (nh hm), fun e2 => ?_, fun z e2 => q2 z e2⟩
    refine ⟨_, rfl, _, rfl, a, _, dx, _, rfl, ha, G.cWord.cl, G.cWord.no _ (by decide +kernel), (by show 0 < 1000; decide), _, rfl, _, rfl, a, _, dx, _, rfl, upd_same, G.cWord.cl, G.cWord.no _ (by decide +kernel), (by show 1 < 1000; decide), _, rfl, _, rfl, a, _, dx, _, rfl, upd_same, G.cWord.cl, G.cWord.no _ (by decide +kernel), (by show 2 < 1000; decide), ?_⟩
    have z := q1 e2
    show Q .non _
    rw [upd_upd, upd_upd]
    exact z

theorem pi_or {X : Cx} {tg e : Expr} {t1 t2 : TI} (h1 : PI X tg e t1) (h2 : PI X tg e t2) : PI X tg e (fun σ H R => t1 σ H R ∨ t2 σ H R) :=
  ⟨fun pins s σ H R I h => h.elim (h1.run pins s σ H R I) (h2.run pins s σ H R I)⟩
def spNumber (K : Frag) : Sp := fun vs H Q E => ∃ (a dx : Addr) (l m : V), vs = [.ref a, l, m] ∧ H a = some (.ins (He.ga K "Number") dx []) ∧ l ∈ nM ∧ m ∈ hM ∧ (bDue l m = none → Q .non (upd H a (.ins (He.ga K "Number") dx (fNumber l m)))) ∧
  ∀ z, bDue l m = some z → RaiseE (BF K) "what" (.str z) H E

abbrev s_Number_init : Stmt := inClass (top 18) 0
theorem sc_Number_init : FnScope ["self", "least", "most"] ["self", "least", "most"] (defScope s_Number_init) := ⟨rfl, rfl, rfl, by decide +kernel, rfl, by decide +kernel, by decide +kernel⟩

theorem ok_Number_init (F : FunD K "__init__" "Number.__init__" (defArgs s_Number_init) (defBody s_Number_init) (defScope s_Number_init) [] [] f fd) (G : G3 P w K mg base) : FnOk P w K mg base (L2.CX P w) 4 f fd ["self", "least", "most"] (spNumber K) := by
  refine F.ok (CX := (L2.CX P w)) sc_Number_init (fun vs H Q E h => ?_) (fun cdv A outer s H vs Q E hr h => ?_)
  · obtain ⟨a, dx, l, m, rfl, _⟩ := h
    rfl
  · have hr3 : Room 3 _ := hr
    refine ⟨_, (pss_cons (ps_expr (pe_fnS G.check_span hr3 (fun σ => passAt (takes_of rfl rfl rfl rfl) σ) (by rfl) (pa_cons (pv 1) (pa_cons (pv 2) pa_nil))))
    (pss_cons (ps_fld (pv 0) (pv 1) rfl)
    (pss_one (ps_fld (pv 0) (pv 2) rfl)))), ?_⟩
    obtain ⟨a, dx, l, m, rfl, ha, hl, hm, q1, q2⟩ := h
    refine ⟨_, rfl, _, rfl, l, m, rfl, nM_flat l (nh hl), nM_flat m hm, fun e2 => ?_, fun z e2 => q2 z e2⟩
    refine ⟨_, rfl, _, rfl, a, _, dx, _, rfl, ha, G.cNumber.cl, G.cNumber.no _ (by decide +kernel), (by show 0 < 1000; decide), _, rfl, _, rfl, a, _, dx, _, rfl, upd_same, G.cNumber.cl, G.cNumber.no _ (by decide +kernel), (by show 1 < 1000; decide), ?_⟩
    have z := q1 e2
    show Q .non _
    rw [upd_upd]
    exact z

def spFixed (K : Frag) : Sp := fun vs H Q E => ∃ (a dx : Addr) (v : V), vs = [.ref a, v] ∧ H a = some (.ins (He.ga K "Fixed") dx []) ∧ v ∈ wM ∧ (wDue v = none → Q .non (upd H a (.ins (He.ga K "Fixed") dx (fFixed v)))) ∧
  ∀ z, wDue v = some z → RaiseE (BF K) "what" (.str z) H E

abbrev s_Fixed_init : Stmt := inClass (top 19) 0
theorem sc_Fixed_init : FnScope ["self", "width"] ["self", "width"] (defScope s_Fixed_init) := ⟨rfl, rfl, rfl, by decide +kernel, rfl, by decide +kernel, by decide +kernel⟩

theorem ok_Fixed_init (F : FunD K "__init__" "Fixed.__init__" (defArgs s_Fixed_init) (defBody s_Fixed_init) (defScope s_Fixed_init) [] [] f fd) (G : G3 P w K mg base) : FnOk P w K mg base (L2.CX P w) 4 f fd ["self", "width"] (spFixed K) := by
  refine F.ok (CX := (L2.CX P w)) sc_Fixed_init (fun vs H Q E h => ?_) (fun cdv A outer s H vs Q E hr h => ?_)
  · obtain ⟨a, dx, v, rfl, _⟩ := h
    rfl
  · have hr3 : Room 3 _ := hr
    have hr2 : Room 2 _ := hr.mono (by decide)
    refine ⟨_, (pss_cons (ps_if (PW.pt (pw_or (pt_not (pt_val (pe_fn G.is_number (hr2.mono (by decide)) pass0 (by rfl) (pa_cons (pv 1) pa_nil)))) (pw_or1 (pt_cmpR op_lt (pv 1) pe_int (nomark _)))))
      (pss_one (ps_raise rfl (takes_of rfl rfl rfl rfl) (pmk_1 G.bf hr2 (by rfl) (pa_cons pe_str pa_nil))))
      pss_nil)
    (pss_one (ps_fld (pv 0) (pv 1) rfl))), ?_⟩
    obtain ⟨a, dx, v, rfl, ha, hv, q1, q2⟩ := h
    refine ⟨_, rfl, v, rfl, wM_flat v hv, _, rfl, ?_⟩
    show if (!numB v) = true then _ else _
    refine ite2 (fun h1 => mkO_1 (q2 _ (by show (if (!numB v || _) = true then _ else _) = _; rw [h1]; rfl))) (fun h1 => ?_)
    cases v with
    | int i =>
      refine ⟨_, rfl, _, _, rfl, rfl, _, rfl, ?_⟩
      refine ite2 (fun h2 => mkO_1 (q2 _ (by show (if (_ || decide (i < 1)) = true then _ else _) = _; rw [h2]; rfl))) (fun h2 => ?_)
      refine ⟨_, rfl, _, rfl, a, _, dx, _, rfl, ha, G.cFixed.cl, G.cFixed.no _ (by decide +kernel), (by show 0 < 1000; decide), q1 ?_⟩
      show (if (!true || decide (i < 1)) = true then _ else _) = _
      rw [Bool.eq_false_iff.mpr h2]
      rfl
    | _ => exact absurd rfl h1

/-- what is handed in as texts -/
def LXAt (H : Hp) (v : V) : LX → Prop
  | .lst xs => ∃ b, v = .ref b ∧ H b = some (.lst xs)
  | .tup xs => ∃ b, v = .ref b ∧ TupZ H b xs
  | .val u => v = u
theorem LXAt.same {H H' : Hp} {v : V} (S : Same H H') : ∀ {x : LX}, LXAt H v x → LXAt H' v x
  | .lst _, ⟨b, e, h⟩ => ⟨b, e, S _ _ h⟩
  | .tup _, ⟨b, e, h⟩ => ⟨b, e, h.same S⟩
  | .val _, e => e
theorem all_str : ∀ xs : List V, xs.all areB = true → (xs.map strV).map V.str = xs
  | [], _ => rfl
  | v :: xs, h => by
    obtain ⟨h1, h2⟩ := Bool.and_eq_true_iff.mp (show (areB v && xs.all areB) = true from h)
    have e : V.str (strV v) = v := by cases v <;> first | rfl | cases h1
    show V.str (strV v) :: (xs.map strV).map V.str = v :: xs
    rw [e, all_str xs h2]
theorem raise_mono {C : Addr} {g : Str} {v : V} {H H1 : Hp} {E : XK} (S : Same H H1) (h : RaiseE C g v H E) : RaiseE C g v H1 E := fun d H2 hd S2 e => by
  refine h d H2 ?_ (S.trans S2) e
  cases q : H d with
  | none => rfl
  | some o => rw [S d o q] at hd; cases hd
def spListed (K : Frag) : Sp := fun vs H Q E => ∃ (a dx : Addr) (v : V) (x : LX), vs = [.ref a, v] ∧ H a = some (.ins (He.ga K "Listed") dx []) ∧ x ∈ lM ∧ LXAt H v x ∧
  (lxDue x = none → ∀ t H2, Same H H2 → TupZ H2 t x.els → Q .non (upd H2 a (.ins (He.ga K "Listed") dx (fListed (.ref t))))) ∧ ∀ z, lxDue x = some z → RaiseE (BF K) "what" (.str z) H E
theorem kit_LT (K : Frag) : kitAny K (.type "list") [.type "list", .type "tuple"] = some true ∧ kitAny K (.type "tuple") [.type "list", .type "tuple"] = some true ∧ kitAny K (.type "str") [.type "list", .type "tuple"] = some false ∧ kitAny K (.type "NoneType") [.type "list", .type "tuple"] = some false := by
  have k : ∀ {S T : String} {b : Bool}, kitB S T = some b → kitOne K (.type S) (.type T) = some b := fun h => kit_ty h
  refine ⟨?_, ?_, ?_, ?_⟩
  · exact kitAny_cons (b := true) (k (by decide +kernel)) (fun z => nomatch z) (fun _ => rfl)
  · exact kitAny_cons (b := false) (k (by decide +kernel)) (fun _ => kitAny_cons (b := true) (k (by decide +kernel)) (fun z => nomatch z) (fun _ => rfl)) (fun z => nomatch z)
  · exact kitAny_cons (b := false) (k (by decide +kernel)) (fun _ => kitAny_cons (b := false) (k (by decide +kernel)) (fun _ => kitAny_nil) (fun z => nomatch z)) (fun z => nomatch z)
  · exact kitAny_cons (b := false) (k (by decide +kernel)) (fun _ => kitAny_cons (b := false) (k (by decide +kernel)) (fun _ => kitAny_nil) (fun z => nomatch z)) (fun z => nomatch z)
theorem take_succ_map {α β : Type} (g : α → β) {xs : List α} {i : Nat} {x : α} (h : xs[i]? = some x) : (xs.take (i + 1)).map g = (xs.take i).map g ++ [g x] := by
  rw [List.take_add_one, h, List.map_append]
  rfl

abbrev s_Listed_init : Stmt := inClass (top 20) 0
theorem sc_Listed_init : FnScope ["self", "texts", "text"] ["self", "texts"] (defScope s_Listed_init) := ⟨rfl, rfl, rfl, by decide +kernel, rfl, by decide +kernel, by decide +kernel⟩

theorem ok_Listed_init (F : FunD K "__init__" "Listed.__init__" (defArgs s_Listed_init) (defBody s_Listed_init) (defScope s_Listed_init) [] [] f fd) (G : G3 P w K mg base) : FnOk P w K mg base (L2.CX P w) 4 f fd ["self", "texts"] (spListed K) := by
  refine F.ok (CX := (L2.CX P w)) sc_Listed_init (fun vs H Q E h => ?_) (fun cdv A outer s H vs Q E hr h => ?_)
  · obtain ⟨a, dx, v, x, rfl, _⟩ := h
    rfl
  · have hr3 : Room 3 _ := hr
    have hr2 : Room 2 _ := hr.mono (by decide)
    refine ⟨_, (pss_cons (ps_if (PW.pt (pw_or (pt_not (pt_val (pe_callB call_ieT (by rfl) G.isinstance (by decide +kernel) (pa_cons (pv 1) (pa_cons (pe_tupS (pa_cons (pe_bty (n := "list") (by rfl) G.list (by decide +kernel)) (pa_cons (pe_bty (n := "tuple") (by rfl) G.tuple (by decide +kernel)) pa_nil))) pa_nil))))) (pw_or1 (pt_cmpR op_eq (pe_callB call_len_seq (by rfl) G.len (by decide +kernel) (pa_cons (pv 1) pa_nil)) pe_int (nomark _)))))
      (pss_one (ps_raise rfl (takes_of rfl rfl rfl rfl) (pmk_1 G.bf hr2 (by rfl) (pa_cons pe_str pa_nil))))
      pss_nil)
    (pss_cons (ps_if (PW.pt (pw_or (pt_not (pt_val (pe_callB (cr_all rfl) (by rfl) G.all (by decide +kernel) (pa_cons (pe_lc (own := [("text", 2)]) (g := gName 2) (tt := tYes) rfl sc_Listed_init.nd (pi_or (pi_list (pv 1)) (pi_tup (pv 1))) (blkOk_by (N := ["self", "texts", "text"]) (sc := defScope s_Listed_init) (by decide +kernel)) (fun _ _ _ _ _ => pg_name (i := 2) sc_Listed_init.nd rfl (Or.inl rfl)) (fun _ _ _ _ _ => pts_nil) (fun _ _ _ _ _ => (pe_fn G.are_signs hr2 pass0 (by rfl) (pa_cons (pv 2) pa_nil)))) pa_nil)))) (pw_or1 (pt_cmpR op_lt (pe_lenSetSeq rfl (by rfl) G.len (by rfl) G.set (pv 1)) (pe_callB call_len_seq (by rfl) G.len (by decide +kernel) (pa_cons (pv 1) pa_nil)) (nomark _)))))
      (pss_one (ps_raise rfl (takes_of rfl rfl rfl rfl) (pmk_1 G.bf hr2 (by rfl) (pa_cons pe_str pa_nil))))
      pss_nil)
    (pss_one (ps_fld (pv 0) (pe_callTy call_tupleZ (by rfl) G.tuple (by decide +kernel) (pa_cons (pv 1) pa_nil)) rfl)))), ?_⟩
    obtain ⟨a, dx, v, x, rfl, ha, hx, hL, q1, q2⟩ := h
    obtain ⟨hv, hz⟩ := lM_vM x hx
    rcases lM_val x hx with e | e | e
    · subst e
      obtain rfl : v = .str "ab" := hL
      refine ⟨_, rfl, by show 2 ≤ 1000; decide, fun p0 H0 hp0 S0 e0 => ⟨_, p0, _, _, _, false, rfl, e0, .cons (.ty _) (.cons (.ty _) Paired.nil), .x (.base (.str _)), (kit_LT K).2.2.1, _, rfl, iteT (mkO_1 (raise_mono S0 (q2 _ rfl)))⟩⟩
    · subst e
      obtain rfl : v = .non := hL
      refine ⟨_, rfl, by show 2 ≤ 1000; decide, fun p0 H0 hp0 S0 e0 => ⟨_, p0, _, _, _, false, rfl, e0, .cons (.ty _) (.cons (.ty _) Paired.nil), .x (.base .non), (kit_LT K).2.2.2, _, rfl, iteT (mkO_1 (raise_mono S0 (q2 _ rfl)))⟩⟩
    · cases x with
      | val u => rcases e with e | e <;> cases e
      | lst xs =>
      obtain ⟨b, rfl, hb⟩ := hL
      have hz' : xs.length ≤ 20 := hz
      refine ⟨_, rfl, by show 2 ≤ 1000; decide, fun p0 H0 hp0 S0 e0 => ⟨_, p0, _, _, _, true, rfl, e0, .cons (.ty _) (.cons (.ty _) Paired.nil), .x (.base (.lst (S0 _ _ hb))), (kit_LT K).1, _, rfl, iteF ?_⟩⟩
      refine ⟨_, rfl, b, _, rfl, .inl (SqL.of (S0 _ _ hb)), rfl, _, rfl, ?_⟩
      refine ite2 (fun h1 => mkO_1 (raise_mono S0 (q2 _ (by show (if (decide (xs.length = 0) || _) = true then _ else _) = _; rw [show decide (xs.length = 0) = true from decide_eq_true (by have := of_decide_eq_true h1; simpa using this)]; rfl)))) (fun h1 => ?_)
      have n0 : decide (xs.length = 0) = false := decide_eq_false (fun z => h1 (decide_eq_true (by rw [z]; rfl)))
      have eD : lxDue (.lst xs) = if xsBad xs = true then (some "texts" : Option Str) else none := by
        show (if (decide (xs.length = 0) || xsBad xs) = true then _ else _) = _
        rw [n0]
        rfl
      rw [eD] at q1 q2
      refine .inl ⟨_, rfl, b, rfl, ⟨_, SqL.of (S0 _ _ hb)⟩, fun D hD => ?_⟩
      refine lc_list (K := K) (a := b) (xs := xs) (LcP H0 D fun n => (xs.take n).map fun v => V.bl (areB v)) (LcP.start hD rfl) (fun i J hi p => SqL.of (p.1 _ _ (S0 _ _ hb))) ?_ ?_
      · intro i v J hx p
        refine ⟨rfl, _, rfl, v, rfl, hv v (List.mem_of_getElem? hx), p.put (Same.refl _) (take_succ_map _ hx) ?_⟩
        have := (List.getElem?_eq_some_iff.mp hx).1
        omega
      · rintro J ⟨S1, _, eJ, _⟩
        have eJ2 : J D = some (.lst ((xs.map areB).map V.bl)) := by rw [eJ]; show some (HO.lst ((xs.take xs.length).map fun v => V.bl (areB v))) = _; rw [List.take_length, List.map_map]; rfl
        refine ⟨D, xs.map areB, rfl, SqL.of eJ2, _, rfl, ?_⟩
        have ea : (xs.map areB).all id = xs.all areB := by rw [List.all_map]; rfl
        rw [ea]
        show if (!xs.all areB) = true then _ else _
        have S2 : Same H J := S0.trans S1
        refine ite2 (fun h2 => mkO_1 (raise_mono S2 (q2 _ (by unfold xsBad; rw [h2]; rfl)))) (fun h2 => ?_)
        have h2' : xs.all areB = true := by cases z : xs.all areB with | true => rfl | false => exact absurd (by rw [z]; rfl) h2
        refine ⟨_, rfl, b, xs.map strV, rfl, .inl (by rw [all_str xs h2']; exact SqL.of (S2 _ _ hb)), by rw [List.length_map]; omega, _, rfl, b, _, rfl, .inl (SqL.of (S2 _ _ hb)), _, _, rfl, rfl, _, rfl, ?_⟩
        refine ite2 (fun h3 => mkO_1 (raise_mono S2 (q2 _ ?_))) (fun h3 => ?_)
        · unfold xsBad
          rw [show decide ((newS (fun i => (xs.map strV).getD i Str.empty) (xs.map strV).length : Nat) < xs.length) = true from decide_eq_true (by have := of_decide_eq_true h3; omega), Bool.or_true]
          rfl
        · have q1' := q1 (by unfold xsBad; rw [h2', show decide ((newS (fun i => (xs.map strV).getD i Str.empty) (xs.map strV).length : Nat) < xs.length) = false from decide_eq_false (fun z => h3 (decide_eq_true (by omega)))]; rfl)
          refine ⟨_, rfl, b, xs, rfl, .inl ⟨SqL.of (S2 _ _ hb), fun t H3 ht S3 tz => ?_⟩⟩
          refine ⟨_, rfl, a, _, dx, _, rfl, S3 _ _ (S2 _ _ ha), G.cListed.cl, G.cListed.no _ (by decide +kernel), (by show 0 < 1000; decide), ?_⟩
          exact q1' t _ (S2.trans S3) tz
      | tup xs =>
      obtain ⟨b, rfl, hb⟩ := hL
      have hz' : xs.length ≤ 20 := hz
      refine ⟨_, rfl, by show 2 ≤ 1000; decide, fun p0 H0 hp0 S0 e0 => ⟨_, p0, _, _, _, true, rfl, e0, .cons (.ty _) (.cons (.ty _) Paired.nil), .x (.fTuple (hb.same S0).choose_spec.2.2), (kit_LT K).2.1, _, rfl, iteF ?_⟩⟩
      refine ⟨_, rfl, b, _, rfl, .inr ((hb.same S0).sq), rfl, _, rfl, ?_⟩
      refine ite2 (fun h1 => mkO_1 (raise_mono S0 (q2 _ (by show (if (decide (xs.length = 0) || _) = true then _ else _) = _; rw [show decide (xs.length = 0) = true from decide_eq_true (by have := of_decide_eq_true h1; simpa using this)]; rfl)))) (fun h1 => ?_)
      have n0 : decide (xs.length = 0) = false := decide_eq_false (fun z => h1 (decide_eq_true (by rw [z]; rfl)))
      have eD : lxDue (.tup xs) = if xsBad xs = true then (some "texts" : Option Str) else none := by
        show (if (decide (xs.length = 0) || xsBad xs) = true then _ else _) = _
        rw [n0]
        rfl
      rw [eD] at q1 q2
      refine .inr ⟨_, rfl, b, rfl, ⟨_, (hb.same S0).sq⟩, fun D hD => ?_⟩
      refine lc_tup (K := K) (a := b) (xs := xs) (LcP H0 D fun n => (xs.take n).map fun v => V.bl (areB v)) (LcP.start hD rfl) (fun i J hi p => ((hb.same S0).same p.1).sq) ?_ ?_
      · intro i v J hx p
        refine ⟨rfl, _, rfl, v, rfl, hv v (List.mem_of_getElem? hx), p.put (Same.refl _) (take_succ_map _ hx) ?_⟩
        have := (List.getElem?_eq_some_iff.mp hx).1
        omega
      · rintro J ⟨S1, _, eJ, _⟩
        have eJ2 : J D = some (.lst ((xs.map areB).map V.bl)) := by rw [eJ]; show some (HO.lst ((xs.take xs.length).map fun v => V.bl (areB v))) = _; rw [List.take_length, List.map_map]; rfl
        refine ⟨D, xs.map areB, rfl, SqL.of eJ2, _, rfl, ?_⟩
        have ea : (xs.map areB).all id = xs.all areB := by rw [List.all_map]; rfl
        rw [ea]
        show if (!xs.all areB) = true then _ else _
        have S2 : Same H J := S0.trans S1
        refine ite2 (fun h2 => mkO_1 (raise_mono S2 (q2 _ (by unfold xsBad; rw [h2]; rfl)))) (fun h2 => ?_)
        have h2' : xs.all areB = true := by cases z : xs.all areB with | true => rfl | false => exact absurd (by rw [z]; rfl) h2
        refine ⟨_, rfl, b, xs.map strV, rfl, .inr (by rw [all_str xs h2']; exact (hb.same S2).sq), by rw [List.length_map]; omega, _, rfl, b, _, rfl, .inr ((hb.same S2).sq), _, _, rfl, rfl, _, rfl, ?_⟩
        refine ite2 (fun h3 => mkO_1 (raise_mono S2 (q2 _ ?_))) (fun h3 => ?_)
        · unfold xsBad
          rw [show decide ((newS (fun i => (xs.map strV).getD i Str.empty) (xs.map strV).length : Nat) < xs.length) = true from decide_eq_true (by have := of_decide_eq_true h3; omega), Bool.or_true]
          rfl
        · have q1' := q1 (by unfold xsBad; rw [h2', show decide ((newS (fun i => (xs.map strV).getD i Str.empty) (xs.map strV).length : Nat) < xs.length) = false from decide_eq_false (fun z => h3 (decide_eq_true (by omega)))]; rfl)
          refine ⟨_, rfl, b, xs, rfl, .inr ⟨(hb.same S2).sq, ?_⟩⟩
          refine ⟨_, rfl, a, _, dx, _, rfl, S2 _ _ ha, G.cListed.cl, G.cListed.no _ (by decide +kernel), (by show 0 < 1000; decide), ?_⟩
          exact q1' b _ S2 (hb.same S2)


def spEnded (K : Frag) : Sp := fun vs H Q E => ∃ (a dx : Addr) (s e l m : V), vs = [.ref a, s, e, l, m] ∧ H a = some (.ins (He.ga K "Ended") dx []) ∧ s ∈ sM ∧ e ∈ eM ∧ l ∈ nM ∧ m ∈ nM ∧ (eDue s e l m = none → Q .non (upd H a (.ins (He.ga K "Ended") dx (fEnded s e l m)))) ∧
  ∀ z, eDue s e l m = some z → RaiseE (BF K) "what" (.str z) H E

abbrev s_Ended_init : Stmt := inClass (top 21) 0
theorem sc_Ended_init : FnScope ["self", "signs", "sign", "least", "most"] ["self", "signs", "sign", "least", "most"] (defScope s_Ended_init) := ⟨rfl, rfl, rfl, by decide +kernel, rfl, by decide +kernel, by decide +kernel⟩

theorem ok_Ended_init (F : FunD K "__init__" "Ended.__init__" (defArgs s_Ended_init) (defBody s_Ended_init) (defScope s_Ended_init) [] [] f fd) (G : G3 P w K mg base) : FnOk P w K mg base (L2.CX P w) 4 f fd ["self", "signs", "sign", "least", "most"] (spEnded K) := by
  refine F.ok (CX := (L2.CX P w)) sc_Ended_init (fun vs H Q E h => ?_) (fun cdv A outer s H vs Q E hr h => ?_)
  · obtain ⟨a, dx, s, e, l, m, rfl, _⟩ := h
    rfl
  · have hr3 : Room 3 _ := hr
    have hr2 : Room 2 _ := hr.mono (by decide)
    refine ⟨_, (pss_cons (ps_expr (pe_fnS G.check_signs hr3 (fun σ => passAt (takes_of rfl rfl rfl rfl) σ) (by rfl) (pa_cons (pv 1) pa_nil)))
    (pss_cons (ps_if (PW.pt (pw_or (pt_not (pt_val (pe_fn G.is_sign (hr2.mono (by decide)) pass0 (by rfl) (pa_cons (pv 2) pa_nil)))) (pw_or1 (pt_cmpR op_in_sign (pv 2) (pv 1) (by rfl)))))
      (pss_one (ps_raise rfl (takes_of rfl rfl rfl rfl) (pmk_1 G.bf hr2 (by rfl) (pa_cons pe_str pa_nil))))
      pss_nil)
    (pss_cons (ps_expr (pe_fnS G.check_span hr3 (fun σ => passAt (takes_of rfl rfl rfl rfl) σ) (by rfl) (pa_cons (pv 3) (pa_cons (pv 4) pa_nil))))
    (pss_cons (ps_fld (pv 0) (pv 1) rfl)
    (pss_cons (ps_fld (pv 0) (pv 2) rfl)
    (pss_cons (ps_fld (pv 0) (pv 3) rfl)
    (pss_one (ps_fld (pv 0) (pv 4) rfl)))))))), ?_⟩
    obtain ⟨a, dx, s, e, l, m, rfl, ha, hs, he, hl, hm, q1, q2⟩ := h
    refine ⟨_, rfl, s, rfl, hs, fun e1 => ?_, fun e1 => q2 _ (by unfold eDue; rw [if_pos e1])⟩
    have e0 : eDue s e l m = if (!isSignB e || inB (strV e) (strV s)) = true then (some "sign" : Option Str) else bDue l m := by unfold eDue; rw [e1]; rfl
    rw [e0] at q1 q2
    refine ⟨_, rfl, e, rfl, eM_vM he, _, rfl, ?_⟩
    show if (!isSignB e) = true then _ else _
    refine ite2 (fun h1 => mkO_1 (q2 _ (by rw [h1]; rfl))) (fun h1 => ?_)
    have h1' : isSignB e = true := by cases z : isSignB e with | true => rfl | false => exact absurd (by rw [z]; rfl) h1
    refine ⟨_, rfl, _, rfl, _, strV s, eM_one e he h1', sM_str s hs e1, _, rfl, ?_⟩
    show if inB (strV e) (strV s) = true then _ else _
    refine ite2 (fun h2 => mkO_1 (q2 _ (by rw [h2, Bool.or_true]; rfl))) (fun h2 => ?_)
    have h2' : inB (strV e) (strV s) = false := Bool.eq_false_iff.mpr h2
    rw [h1', h2'] at q1 q2
    refine ⟨_, rfl, _, rfl, l, m, rfl, nM_flat l (nh hl), nM_flat m (nh hm), fun e2 => ?_, fun z e2 => q2 z e2⟩
    refine ⟨_, rfl, _, rfl, a, _, dx, _, rfl, ha, G.cEnded.cl, G.cEnded.no _ (by decide +kernel), (by show 0 < 1000; decide), _, rfl, _, rfl, a, _, dx, _, rfl, upd_same, G.cEnded.cl, G.cEnded.no _ (by decide +kernel), (by show 1 < 1000; decide), _, rfl, _, rfl, a, _, dx, _, rfl, upd_same, G.cEnded.cl, G.cEnded.no _ (by decide +kernel), (by show 2 < 1000; decide), _, rfl, _, rfl, a, _, dx, _, rfl, upd_same, G.cEnded.cl, G.cEnded.no _ (by decide +kernel), (by show 3 < 1000; decide), ?_⟩
    have z := q1 e2
    show Q .non _
    rw [upd_upd, upd_upd, upd_upd]
    exact z

def spHasWord (K : Frag) : Sp := fun vs H Q _ => ∃ (a : Addr) (c : Nat) (s l m : V), vs = [.ref a, .str ⟨#[c]⟩] ∧ FieldAt K H a (.word s l m) ∧ PD.In (.word s l m) ∧ PD.due (.word s l m) = none ∧ ∀ H', Same H H' → Q (.bl (PD.has ⟨#[c]⟩ (.word s l m))) H'

def spHasNumber (K : Frag) : Sp := fun vs H Q _ => ∃ (a : Addr) (c : Nat) (l m : V), vs = [.ref a, .str ⟨#[c]⟩] ∧ FieldAt K H a (.number l m) ∧ PD.In (.number l m) ∧ PD.due (.number l m) = none ∧ ∀ H', Same H H' → Q (.bl (PD.has ⟨#[c]⟩ (.number l m))) H'

def spHasFixed (K : Frag) : Sp := fun vs H Q _ => ∃ (a : Addr) (c : Nat) (v : V), vs = [.ref a, .str ⟨#[c]⟩] ∧ FieldAt K H a (.fixed v) ∧ PD.In (.fixed v) ∧ PD.due (.fixed v) = none ∧ ∀ H', Same H H' → Q (.bl (PD.has ⟨#[c]⟩ (.fixed v))) H'

def spHasListed (K : Frag) : Sp := fun vs H Q _ => ∃ (a : Addr) (c : Nat) (x : LX), vs = [.ref a, .str ⟨#[c]⟩] ∧ FieldAt K H a (.listed x) ∧ PD.In (.listed x) ∧ PD.due (.listed x) = none ∧ ∀ H', Same H H' → Q (.bl (PD.has ⟨#[c]⟩ (.listed x))) H'

def spHasEnded (K : Frag) : Sp := fun vs H Q _ => ∃ (a : Addr) (c : Nat) (s e l m : V), vs = [.ref a, .str ⟨#[c]⟩] ∧ FieldAt K H a (.ended s e l m) ∧ PD.In (.ended s e l m) ∧ PD.due (.ended s e l m) = none ∧ ∀ H', Same H H' → Q (.bl (PD.has ⟨#[c]⟩ (.ended s e l m))) H'

abbrev s_Word_has : Stmt := inClass (top 17) 7
theorem sc_Word_has : FnScope ["self", "sign"] ["self", "sign"] (defScope s_Word_has) := ⟨rfl, rfl, rfl, by decide +kernel, rfl, by decide +kernel, by decide +kernel⟩

theorem ok_Word_has (F : FunD K "has_sign" "Word.has_sign" (defArgs s_Word_has) (defBody s_Word_has) (defScope s_Word_has) [] [] f fd) (G : G3 P w K mg base) : FnOk P w K mg base CX0 2 f fd ["self", "sign"] (spHasWord K) := by
  refine F.ok (CX := CX0) sc_Word_has (fun vs H Q E h => ?_) (fun cdv A outer s H vs Q E hr h => ?_)
  · obtain ⟨a, c, s, l, m, rfl, _⟩ := h
    rfl
  · refine ⟨_, PSs.nox (pss_one (ps_ret (pe_fn G.has_words_with hr pass0 (by rfl) (pa_cons (pv 0) (pa_cons (pv 1) pa_nil))))), ?_⟩
    obtain ⟨a, c, s, l, m, rfl, ⟨dx, ha⟩, ⟨hs, hl, hm⟩, hd, q⟩ := h
    obtain ⟨es, sc, _⟩ := word_due s hs l hl m hm hd
    rw [es] at ha q
    exact ⟨_, rfl, _, rfl, a, _, dx, _, c, strV s, m, rfl, ha, G.cWord.cl, G.cWord.no _ (by decide +kernel), G.cWord.no _ (by decide +kernel), lWord_signs, lWord_most, sc, q _ (Same.refl _)⟩

abbrev s_Fixed_has : Stmt := inClass (top 19) 7
theorem sc_Fixed_has : FnScope ["self", "sign"] ["self", "sign"] (defScope s_Fixed_has) := ⟨rfl, rfl, rfl, by decide +kernel, rfl, by decide +kernel, by decide +kernel⟩

theorem ok_Fixed_has (F : FunD K "has_sign" "Fixed.has_sign" (defArgs s_Fixed_has) (defBody s_Fixed_has) (defScope s_Fixed_has) [] [] f fd) (G : G3 P w K mg base) : FnOk P w K mg base CX0 2 f fd ["self", "sign"] (spHasFixed K) := by
  refine F.ok (CX := CX0) sc_Fixed_has (fun vs H Q E h => ?_) (fun cdv A outer s H vs Q E hr h => ?_)
  · obtain ⟨a, c, v, rfl, _⟩ := h
    rfl
  · refine ⟨_, PSs.nox (pss_one (ps_ret (pe_cmpR op_in_sign (pv 1) (pe_sg G.dgs) (by rfl)))), ?_⟩
    obtain ⟨a, c, v, rfl, hf, _, _, q⟩ := h
    exact ⟨_, rfl, c, DG, rfl, rfl, q _ (Same.refl _)⟩

abbrev s_Ended_has : Stmt := inClass (top 21) 7
theorem sc_Ended_has : FnScope ["self", "sign"] ["self", "sign"] (defScope s_Ended_has) := ⟨rfl, rfl, rfl, by decide +kernel, rfl, by decide +kernel, by decide +kernel⟩

theorem ok_Ended_has (F : FunD K "has_sign" "Ended.has_sign" (defArgs s_Ended_has) (defBody s_Ended_has) (defScope s_Ended_has) [] [] f fd) (G : G3 P w K mg base) : FnOk P w K mg base CX0 2 f fd ["self", "sign"] (spHasEnded K) := by
  refine F.ok (CX := CX0) sc_Ended_has (fun vs H Q E h => ?_) (fun cdv A outer s H vs Q E hr h => ?_)
  · obtain ⟨a, c, s, e, l, m, rfl, _⟩ := h
    rfl
  · refine ⟨_, PSs.nox (pss_one (ps_ret (pe_or (pe_cmpR op_eq (pv 1) (pe_fld (pv 0) rfl) (nomark _)) (pe_one (pe_fn G.has_words_with hr pass0 (by rfl) (pa_cons (pv 0) (pa_cons (pv 1) pa_nil))))))), ?_⟩
    obtain ⟨a, c, s, e, l, m, rfl, ⟨dx, ha⟩, ⟨hs, he, hl, hm⟩, hd, q⟩ := h
    obtain ⟨es, ee, sc, _⟩ := end_due s hs e he l hl m hm hd
    have q0 := q _ (Same.refl _)
    refine ⟨_, rfl, _, rfl, a, _, dx, _, _, rfl, ha, G.cEnded.cl, G.cEnded.no _ (by decide +kernel), lEnded_sign, (by rw [ee]; rfl), _, rfl, ?_⟩
    refine ite2 (fun h1 => ?_) (fun h1 => ?_)
    · have r : PD.has ⟨#[c]⟩ (.ended s e l m) = true := by show (decide (V.str ⟨#[c]⟩ = e) || _) = true; rw [h1]; rfl
      rw [r] at q0
      exact q0
    · have r : PD.has ⟨#[c]⟩ (.ended s e l m) = wwB s m ⟨#[c]⟩ := by show (decide (V.str ⟨#[c]⟩ = e) || _) = _; rw [Bool.eq_false_iff.mpr h1]; rfl
      rw [r] at q0
      rw [es] at ha q0
      exact ⟨_, rfl, _, rfl, a, _, dx, _, c, strV s, m, rfl, ha, G.cEnded.cl, G.cEnded.no _ (by decide +kernel), G.cEnded.no _ (by decide +kernel), lEnded_signs, lEnded_most, sc, q0⟩

abbrev s_Listed_has : Stmt := inClass (top 20) 7
theorem sc_Listed_has : FnScope ["self", "sign", "text"] ["self", "sign"] (defScope s_Listed_has) := ⟨rfl, rfl, rfl, by decide +kernel, rfl, by decide +kernel, by decide +kernel⟩

theorem ok_Listed_has (F : FunD K "has_sign" "Listed.has_sign" (defArgs s_Listed_has) (defBody s_Listed_has) (defScope s_Listed_has) [] [] f fd) (G : G3 P w K mg base) : FnOk P w K mg base CX0 2 f fd ["self", "sign"] (spHasListed K) := by
  refine F.ok (CX := CX0) sc_Listed_has (fun vs H Q E h => ?_) (fun cdv A outer s H vs Q E hr h => ?_)
  · obtain ⟨a, c, x, rfl, _⟩ := h
    rfl
  · refine ⟨_, PSs.nox (pss_one (ps_ret (pe_callB (cr_any rfl) (by rfl) G.any (by decide +kernel) (pa_cons (pe_lc (own := [("text", 2)]) (g := gName 2) (tt := tYes) rfl sc_Listed_has.nd (pi_tup (pe_fld (pv 0) rfl)) (blkOk_by (N := ["self", "sign", "text"]) (sc := defScope s_Listed_has) (by decide +kernel)) (fun _ _ _ _ _ => pg_name (i := 2) sc_Listed_has.nd rfl (Or.inl rfl)) (fun _ _ _ _ _ => pts_nil) (fun _ _ _ _ _ => (pe_cmpR op_in_sign (pv 1) (pv 2) (by rfl)))) pa_nil)))), ?_⟩
    obtain ⟨a, c, x, rfl, ⟨dx, t, ha, ht⟩, hx, hd, q⟩ := h
    obtain ⟨hs, hz, _⟩ := lst_due x hx hd
    refine ⟨_, rfl, a, _, dx, _, _, rfl, ha, G.cListed.cl, G.cListed.no _ (by decide +kernel), lListed_texts, t, rfl, ⟨_, ht.sq⟩, fun D hD => ?_⟩
    refine lc_tup (K := K) (a := t) (xs := x.els) (LcP H D fun n => (x.els.take n).map fun v => V.bl (inB ⟨#[c]⟩ (strV v))) (LcP.start hD rfl) (fun i J hi p => (ht.same p.1).sq) ?_ ?_
    · intro i v J hv p
      have ev := hs v (List.mem_of_getElem? hv)
      have := (List.getElem?_eq_some_iff.mp hv).1
      exact ⟨rfl, _, rfl, _, rfl, c, strV v, rfl, ev, p.put (Same.refl _) (take_succ_map _ hv) (by omega)⟩
    · rintro J ⟨S1, _, eJ, _⟩
      have eJ2 : J D = some (.lst ((x.els.map fun v => inB ⟨#[c]⟩ (strV v)).map V.bl)) := by rw [eJ]; show some (HO.lst ((x.els.take x.els.length).map fun v => V.bl (inB ⟨#[c]⟩ (strV v)))) = _; rw [List.take_length, List.map_map]; rfl
      refine ⟨D, _, rfl, SqL.of eJ2, ?_⟩
      rw [List.any_map]
      exact q _ S1

abbrev s_Number_has : Stmt := inClass (top 18) 7
theorem sc_Number_has : FnScope ["self", "sign", "number"] ["self", "sign"] (defScope s_Number_has) := ⟨rfl, rfl, rfl, by decide +kernel, rfl, by decide +kernel, by decide +kernel⟩

theorem ok_Number_has (F : FunD K "has_sign" "Number.has_sign" (defArgs s_Number_has) (defBody s_Number_has) (defScope s_Number_has) [] [] f fd) (G : G3 P w K mg base) : FnOk P w K mg base CX0 2 f fd ["self", "sign"] (spHasNumber K) := by
  refine F.ok (CX := CX0) sc_Number_has (fun vs H Q E h => ?_) (fun cdv A outer s H vs Q E hr h => ?_)
  · obtain ⟨a, c, l, m, rfl, _⟩ := h
    rfl
  · refine ⟨_, PSs.nox (pss_cons (ps_if (PW.pt (pw_or (pt_cmpR op_isN (pe_fld (pv 0) rfl) pe_non (nomark _)) (pw_or1 (pt_cmpR op_ge (pe_op op_sub (pe_fld (pv 0) rfl) (pe_fld (pv 0) rfl)) pe_int (nomark _)))))
      (pss_one (ps_ret (pe_cmpR op_in_sign (pv 1) (pe_sg G.dgs) (by rfl))))
      pss_nil)
    (pss_one (ps_ret (pe_callB (cr_any rfl) (by rfl) G.any (by decide +kernel) (pa_cons (pe_lc (own := [("number", 2)]) (g := gName 2) (tt := tYes) rfl sc_Number_has.nd (pi_range2 (by rfl) G.range (pa_cons (pe_fld (pv 0) rfl) (pa_cons (pe_op op_add (pe_fld (pv 0) rfl) pe_int) pa_nil))) (blkOk_by (N := ["self", "sign", "number"]) (sc := defScope s_Number_has) (by decide +kernel)) (fun _ _ _ _ _ => pg_name (i := 2) sc_Number_has.nd rfl (Or.inl rfl)) (fun _ _ _ _ _ => pts_nil) (fun _ _ _ _ _ => (pe_cmpR op_in_sign (pv 1) (pe_fn G.digits_of hr pass0 (by rfl) (pa_cons (pv 2) pa_nil)) (by rfl)))) pa_nil))))), ?_⟩
    obtain ⟨a, c, l, m, rfl, ⟨dx, ha⟩, ⟨hl, hm⟩, hd, q⟩ := h
    obtain ⟨el, em, hl0, hl1, hm0, hm1, _⟩ := num_due l hl m hm hd
    refine ⟨_, rfl, a, _, dx, _, _, rfl, ha, G.cNumber.cl, G.cNumber.no _ (by decide +kernel), lNumber_most, rfl, _, rfl, ?_⟩
    refine ite2 (fun h1 => ?_) (fun h1 => ?_)
    · have r : PD.has ⟨#[c]⟩ (.number l m) = inB ⟨#[c]⟩ DG := by show (if (decide (m = .non) || _) = true then _ else _) = _; rw [h1]; rfl
      have q0 := q _ (Same.refl _)
      rw [r] at q0
      exact ⟨_, rfl, c, DG, rfl, rfl, q0⟩
    rcases em with em | em
    · exact absurd (decide_eq_true em) h1
    refine ⟨_, rfl, a, _, dx, _, _, rfl, ha, G.cNumber.cl, G.cNumber.no _ (by decide +kernel), lNumber_most, _, rfl, a, _, dx, _, _, rfl, ha, G.cNumber.cl, G.cNumber.no _ (by decide +kernel), lNumber_least, intV m, intV l, em, el, _, _, rfl, rfl, _, rfl, ?_⟩
    refine ite2 (fun h2 => ?_) (fun h2 => ?_)
    · have r : PD.has ⟨#[c]⟩ (.number l m) = inB ⟨#[c]⟩ DG := by show (if (_ || decide (9 ≤ intV m - intV l)) = true then _ else _) = _; rw [h2, Bool.or_true]; rfl
      have q0 := q _ (Same.refl _)
      rw [r] at q0
      exact ⟨_, rfl, c, DG, rfl, rfl, q0⟩
    have h9 : ¬ 9 ≤ intV m - intV l := fun z => h2 (decide_eq_true z)
    have r : PD.has ⟨#[c]⟩ (.number l m) = (List.range (intV m + 1 - intV l).toNat).any fun (i : Nat) => inB ⟨#[c]⟩ (dg (intV l + i)) := by
      show (if (decide (m = .non) || decide (9 ≤ intV m - intV l)) = true then _ else _) = _
      rw [Bool.eq_false_iff.mpr h1, Bool.eq_false_iff.mpr h2]
      rfl
    rw [r] at q
    refine ⟨_, rfl, a, _, dx, _, _, rfl, ha, G.cNumber.cl, G.cNumber.no _ (by decide +kernel), lNumber_least, _, rfl, a, _, dx, _, _, rfl, ha, G.cNumber.cl, G.cNumber.no _ (by decide +kernel), lNumber_most, intV m, 1, em, rfl, intV l, intV m + 1, by rw [el]; rfl, ⟨by omega, by omega, by omega, by omega⟩, fun D hD => ?_⟩
    refine lc_range (lo := intV l) (n := (intV m + 1 - intV l).toNat) (LcP H D fun n => (List.range n).map fun (i : Nat) => V.bl (inB ⟨#[c]⟩ (dg (intV l + i)))) (LcP.start hD rfl) ?_ ?_
    · intro i J hi p
      refine ⟨rfl, _, rfl, _, rfl, _, rfl, by omega, by omega, fun J' S' => ⟨c, _, rfl, rfl, p.put S' (by rw [List.range_succ, List.map_append]; rfl) (by omega)⟩⟩
    · rintro J ⟨S1, _, eJ, _⟩
      have eJ2 : J D = some (.lst (((List.range (intV m + 1 - intV l).toNat).map fun (i : Nat) => inB ⟨#[c]⟩ (dg (intV l + i))).map V.bl)) := by rw [eJ, List.map_map]; rfl
      refine ⟨D, _, rfl, SqL.of eJ2, ?_⟩
      rw [List.any_map]
      exact q _ S1

end
end L2.K06

set_option Elab.async false
set_option linter.all false
set_option maxRecDepth 100000
set_option maxHeartbeats 4000000
namespace L2.K06
open PySem PySem.W PySem.Spec PySem.Calls PyProof.Rows L2.Jk
def PD.ci : PD → Nat
  | .word .. => 0
  | .number .. => 1
  | .fixed _ => 2
  | .listed _ => 3
  | .ended .. => 4
theorem PD.ci_lt (d : PD) : d.ci < 5 := by cases d <;> simp [PD.ci]
/-- what the head says of a field class beyond C0 -/
structure KC (K : Frag) (C : Addr) : Prop where
  kk : findIn K (.ref C) "__class__" = some (some (.builtin "object.__class__"))
  km : mroIn K C (.type "object") = some true
  nf : notFirst K C (.type "tuple") = true
  eq : EqcC K C
  ke : keepIn K (.ref (He.ma K C "__eq__")) = true
structure G4 (P : Program) (w : World) (K : Frag) (mg : Str → Option Value) (base : Heap) : Prop extends G3 P w K mg base where
  kc : ∀ i, i < 6 → KC K (ca K i)
  kn : specialIn K (.builtin "object.__class__") "__get__" = some (some (.builtin "getset_descriptor.__get__"))
  kt : takesIn K (.builtin "object.__class__") = some true
  kit : ∀ i j, i < 6 → j < 6 → kitOne K (.ref (ca K i)) (.ref (ca K j)) = some (decide (i = j))
  kitN : ∀ j, j < 6 → kitOne K (.type "NoneType") (.ref (ca K j)) = some false
  kitS : ∀ j, j < 6 → kitOne K (.type "str") (.ref (ca K j)) = some false
section
variable {P : Program} {w : World} {K : Frag} {mg : Str → Option Value} {base : Heap} {f : Addr} {fd : FuncData}
theorem FieldAt.ins {H : Hp} {y : Addr} : ∀ {d : PD}, FieldAt K H y d → ∃ dx fs, H y = some (.ins (ca K d.ci) dx fs) ∧ fs.lookup ("has_sign" : Str) = none
  | .word .., ⟨dx, h⟩ => ⟨dx, _, h, lWord_hs⟩
  | .number .., ⟨dx, h⟩ => ⟨dx, _, h, lNumber_hs⟩
  | .fixed _, ⟨dx, h⟩ => ⟨dx, _, h, lFixed_hs⟩
  | .listed _, ⟨dx, t, h, k⟩ => ⟨dx, _, h, lListed_hs⟩
  | .ended .., ⟨dx, h⟩ => ⟨dx, _, h, lEnded_hs⟩
theorem G4.cl (G : G4 P w K mg base) : ∀ i, i < 6 → Cls K (ca K i)
  | 0, _ => G.cWord.cl
  | 1, _ => G.cNumber.cl
  | 2, _ => G.cFixed.cl
  | 3, _ => G.cListed.cl
  | 4, _ => G.cEnded.cl
  | 5, _ => G.cMarked.cl
  | n + 6, h => absurd h (by omega)
theorem G4.ty (G : G4 P w K mg base) {H : Hp} {y dx : Addr} {fs : List (Str × V)} {i : Nat} (hi : i < 6) (h : H y = some (.ins (ca K i) dx fs)) : TyE K H (.ref y) (.ref (ca K i)) :=
  .x (.base (.ins h (G.cl i hi) (G.kc i hi).kk G.kn G.kt (G.kc i hi).km))
theorem dp_flat {H : Hp} : ∀ {v : V}, flatV v = true → Dp K H v (dV v)
  | .non, _ => .non
  | .bl b, _ => .bl b
  | .int i, _ => .int i
  | .str z, _ => .str z
theorem dpAll_flat {H : Hp} : ∀ {xs : List V}, xs.all flatV = true → DpAll K H xs (xs.map dV)
  | [], _ => .nil
  | v :: xs, h => by
    obtain ⟨h1, h2⟩ := Bool.and_eq_true_iff.mp (show (flatV v && xs.all flatV) = true from h)
    exact .cons (dp_flat h1) (dpAll_flat h2)

def spEqWord (K : Frag) : Sp := fun vs H Q _ => ∃ (a : Addr) (u : V) (s l m : V), vs = [.ref a, u] ∧ FieldAt K H a (.word s l m) ∧ PD.In (.word s l m) ∧ PD.due (.word s l m) = none ∧
  ((∃ b, u = .ref b ∧ FieldAt K H b (.word s l m) ∧ Q (.bl true) H) ∨ (∃ b xs, u = .ref b ∧ H b = some (.tup xs) ∧ Q (.bl false) H))

def spEqNumber (K : Frag) : Sp := fun vs H Q _ => ∃ (a : Addr) (u : V) (l m : V), vs = [.ref a, u] ∧ FieldAt K H a (.number l m) ∧ PD.In (.number l m) ∧ PD.due (.number l m) = none ∧
  ((∃ b, u = .ref b ∧ FieldAt K H b (.number l m) ∧ Q (.bl true) H) ∨ (∃ b xs, u = .ref b ∧ H b = some (.tup xs) ∧ Q (.bl false) H))

def spEqFixed (K : Frag) : Sp := fun vs H Q _ => ∃ (a : Addr) (u : V) (v : V), vs = [.ref a, u] ∧ FieldAt K H a (.fixed v) ∧ PD.In (.fixed v) ∧ PD.due (.fixed v) = none ∧
  ((∃ b, u = .ref b ∧ FieldAt K H b (.fixed v) ∧ Q (.bl true) H) ∨ (∃ b xs, u = .ref b ∧ H b = some (.tup xs) ∧ Q (.bl false) H))

def spEqListed (K : Frag) : Sp := fun vs H Q _ => ∃ (a : Addr) (u : V) (x : LX), vs = [.ref a, u] ∧ FieldAt K H a (.listed x) ∧ PD.In (.listed x) ∧ PD.due (.listed x) = none ∧
  ((∃ b, u = .ref b ∧ FieldAt K H b (.listed x) ∧ Q (.bl true) H) ∨ (∃ b xs, u = .ref b ∧ H b = some (.tup xs) ∧ Q (.bl false) H))

def spEqEnded (K : Frag) : Sp := fun vs H Q _ => ∃ (a : Addr) (u : V) (s e l m : V), vs = [.ref a, u] ∧ FieldAt K H a (.ended s e l m) ∧ PD.In (.ended s e l m) ∧ PD.due (.ended s e l m) = none ∧
  ((∃ b, u = .ref b ∧ FieldAt K H b (.ended s e l m) ∧ Q (.bl true) H) ∨ (∃ b xs, u = .ref b ∧ H b = some (.tup xs) ∧ Q (.bl false) H))

abbrev s_Word_eq : Stmt := inClass (top 17) 1
theorem sc_Word_eq : FnScope ["self", "other"] ["self", "other"] (defScope s_Word_eq) := ⟨rfl, rfl, rfl, by decide +kernel, rfl, by decide +kernel, by decide +kernel⟩

theorem ok_Word_eq (F : FunD K "__eq__" "Word.__eq__" (defArgs s_Word_eq) (defBody s_Word_eq) (defScope s_Word_eq) [] [] f fd) (G : G4 P w K mg base) : FnOk P w K mg base CX0 1 f fd ["self", "other"] (spEqWord K) := by
  refine F.ok (CX := CX0) sc_Word_eq (fun vs H Q E h => ?_) (fun cdv A outer s H vs Q E hr h => ?_)
  · obtain ⟨a, u, s, l, m, rfl, _⟩ := h
    rfl
  · refine ⟨_, PSs.nox (pss_one (ps_ret (pe_and (pe_cmpR op_isA (pe_callTy call_tyA (by rfl) G.type (by decide +kernel) (pa_cons (pv 0) pa_nil)) (pe_callTy call_tyA (by rfl) G.type (by decide +kernel) (pa_cons (pv 1) pa_nil)) (nomark _)) (pe_and (pe_cmpR op_eq (pe_fld (pv 0) rfl) (pe_fld (pv 1) rfl) (nomark _)) (pe_and (pe_cmpR op_eq (pe_fld (pv 0) rfl) (pe_fld (pv 1) rfl) (nomark _)) (pe_one (pe_cmpR op_eq (pe_fld (pv 0) rfl) (pe_fld (pv 1) rfl) (nomark _)))))))), ?_⟩
    obtain ⟨a, u, s, l, m, rfl, ⟨dx, ha⟩, hin, hd, h⟩ := h
    obtain ⟨hs, hl, hm⟩ := hin
    obtain ⟨_, _, z⟩ := word_due s hs l hl m hm hd
    obtain ⟨k0, z⟩ := Bool.and_eq_true_iff.mp z
    obtain ⟨k1, k2⟩ := Bool.and_eq_true_iff.mp z

    rcases h with ⟨b, rfl, ⟨dy, hb⟩, q⟩ | ⟨b, xs, rfl, hb, q⟩
    · refine ⟨_, rfl, _, rfl, .inl ⟨a, _, dx, _, rfl, ha, _, rfl, _, rfl, .inl ⟨b, _, dy, _, rfl, hb, _, rfl, .inl ⟨_, rfl, .inl rfl, _, rfl, ?_⟩⟩⟩⟩
      refine ite2 (fun _ => ?_) (fun h => absurd (decide_eq_true rfl) h)
      refine ⟨_, rfl, a, _, dx, _, _, rfl, ha, G.cWord.cl, G.cWord.no _ (by decide +kernel), lWord_signs, _, rfl, b, _, dy, _, _, rfl, hb, G.cWord.cl, G.cWord.no _ (by decide +kernel), lWord_signs, k0, _, rfl, ?_⟩
      refine ite2 (fun _ => ?_) (fun h => absurd (decide_eq_true rfl) h)
      refine ⟨_, rfl, a, _, dx, _, _, rfl, ha, G.cWord.cl, G.cWord.no _ (by decide +kernel), lWord_least, _, rfl, b, _, dy, _, _, rfl, hb, G.cWord.cl, G.cWord.no _ (by decide +kernel), lWord_least, k1, _, rfl, ?_⟩
      refine ite2 (fun _ => ?_) (fun h => absurd (decide_eq_true rfl) h)
      refine ⟨_, rfl, a, _, dx, _, _, rfl, ha, G.cWord.cl, G.cWord.no _ (by decide +kernel), lWord_most, _, rfl, b, _, dy, _, _, rfl, hb, G.cWord.cl, G.cWord.no _ (by decide +kernel), lWord_most, k2, ?_⟩
      rw [decide_eq_true rfl]
      exact q
    · exact ⟨_, rfl, _, rfl, .inl ⟨a, _, dx, _, rfl, ha, _, rfl, _, rfl, .inr ⟨_, .tup hb, _, rfl, .inr ⟨_, rfl, _, rfl, iteF q⟩⟩⟩⟩


abbrev s_Number_eq : Stmt := inClass (top 18) 1
theorem sc_Number_eq : FnScope ["self", "other"] ["self", "other"] (defScope s_Number_eq) := ⟨rfl, rfl, rfl, by decide +kernel, rfl, by decide +kernel, by decide +kernel⟩

theorem ok_Number_eq (F : FunD K "__eq__" "Number.__eq__" (defArgs s_Number_eq) (defBody s_Number_eq) (defScope s_Number_eq) [] [] f fd) (G : G4 P w K mg base) : FnOk P w K mg base CX0 1 f fd ["self", "other"] (spEqNumber K) := by
  refine F.ok (CX := CX0) sc_Number_eq (fun vs H Q E h => ?_) (fun cdv A outer s H vs Q E hr h => ?_)
  · obtain ⟨a, u, l, m, rfl, _⟩ := h
    rfl
  · refine ⟨_, PSs.nox (pss_one (ps_ret (pe_and (pe_cmpR op_isA (pe_callTy call_tyA (by rfl) G.type (by decide +kernel) (pa_cons (pv 0) pa_nil)) (pe_callTy call_tyA (by rfl) G.type (by decide +kernel) (pa_cons (pv 1) pa_nil)) (nomark _)) (pe_and (pe_cmpR op_eq (pe_fld (pv 0) rfl) (pe_fld (pv 1) rfl) (nomark _)) (pe_one (pe_cmpR op_eq (pe_fld (pv 0) rfl) (pe_fld (pv 1) rfl) (nomark _))))))), ?_⟩
    obtain ⟨a, u, l, m, rfl, ⟨dx, ha⟩, hin, hd, h⟩ := h
    obtain ⟨hl, hm⟩ := hin
    obtain ⟨_, _, _, _, _, _, z⟩ := num_due l hl m hm hd
    obtain ⟨k0, k1⟩ := Bool.and_eq_true_iff.mp z

    rcases h with ⟨b, rfl, ⟨dy, hb⟩, q⟩ | ⟨b, xs, rfl, hb, q⟩
    · refine ⟨_, rfl, _, rfl, .inl ⟨a, _, dx, _, rfl, ha, _, rfl, _, rfl, .inl ⟨b, _, dy, _, rfl, hb, _, rfl, .inl ⟨_, rfl, .inl rfl, _, rfl, ?_⟩⟩⟩⟩
      refine ite2 (fun _ => ?_) (fun h => absurd (decide_eq_true rfl) h)
      refine ⟨_, rfl, a, _, dx, _, _, rfl, ha, G.cNumber.cl, G.cNumber.no _ (by decide +kernel), lNumber_least, _, rfl, b, _, dy, _, _, rfl, hb, G.cNumber.cl, G.cNumber.no _ (by decide +kernel), lNumber_least, k0, _, rfl, ?_⟩
      refine ite2 (fun _ => ?_) (fun h => absurd (decide_eq_true rfl) h)
      refine ⟨_, rfl, a, _, dx, _, _, rfl, ha, G.cNumber.cl, G.cNumber.no _ (by decide +kernel), lNumber_most, _, rfl, b, _, dy, _, _, rfl, hb, G.cNumber.cl, G.cNumber.no _ (by decide +kernel), lNumber_most, k1, ?_⟩
      rw [decide_eq_true rfl]
      exact q
    · exact ⟨_, rfl, _, rfl, .inl ⟨a, _, dx, _, rfl, ha, _, rfl, _, rfl, .inr ⟨_, .tup hb, _, rfl, .inr ⟨_, rfl, _, rfl, iteF q⟩⟩⟩⟩


abbrev s_Fixed_eq : Stmt := inClass (top 19) 1
theorem sc_Fixed_eq : FnScope ["self", "other"] ["self", "other"] (defScope s_Fixed_eq) := ⟨rfl, rfl, rfl, by decide +kernel, rfl, by decide +kernel, by decide +kernel⟩

theorem ok_Fixed_eq (F : FunD K "__eq__" "Fixed.__eq__" (defArgs s_Fixed_eq) (defBody s_Fixed_eq) (defScope s_Fixed_eq) [] [] f fd) (G : G4 P w K mg base) : FnOk P w K mg base CX0 1 f fd ["self", "other"] (spEqFixed K) := by
  refine F.ok (CX := CX0) sc_Fixed_eq (fun vs H Q E h => ?_) (fun cdv A outer s H vs Q E hr h => ?_)
  · obtain ⟨a, u, v, rfl, _⟩ := h
    rfl
  · refine ⟨_, PSs.nox (pss_one (ps_ret (pe_and (pe_cmpR op_isA (pe_callTy call_tyA (by rfl) G.type (by decide +kernel) (pa_cons (pv 0) pa_nil)) (pe_callTy call_tyA (by rfl) G.type (by decide +kernel) (pa_cons (pv 1) pa_nil)) (nomark _)) (pe_one (pe_cmpR op_eq (pe_fld (pv 0) rfl) (pe_fld (pv 1) rfl) (nomark _)))))), ?_⟩
    obtain ⟨a, u, v, rfl, ⟨dx, ha⟩, hin, hd, h⟩ := h
    have k0 := fix_due v hin hd

    rcases h with ⟨b, rfl, ⟨dy, hb⟩, q⟩ | ⟨b, xs, rfl, hb, q⟩
    · refine ⟨_, rfl, _, rfl, .inl ⟨a, _, dx, _, rfl, ha, _, rfl, _, rfl, .inl ⟨b, _, dy, _, rfl, hb, _, rfl, .inl ⟨_, rfl, .inl rfl, _, rfl, ?_⟩⟩⟩⟩
      refine ite2 (fun _ => ?_) (fun h => absurd (decide_eq_true rfl) h)
      refine ⟨_, rfl, a, _, dx, _, _, rfl, ha, G.cFixed.cl, G.cFixed.no _ (by decide +kernel), lFixed_width, _, rfl, b, _, dy, _, _, rfl, hb, G.cFixed.cl, G.cFixed.no _ (by decide +kernel), lFixed_width, k0, ?_⟩
      rw [decide_eq_true rfl]
      exact q
    · exact ⟨_, rfl, _, rfl, .inl ⟨a, _, dx, _, rfl, ha, _, rfl, _, rfl, .inr ⟨_, .tup hb, _, rfl, .inr ⟨_, rfl, _, rfl, iteF q⟩⟩⟩⟩


abbrev s_Ended_eq : Stmt := inClass (top 21) 1
theorem sc_Ended_eq : FnScope ["self", "other"] ["self", "other"] (defScope s_Ended_eq) := ⟨rfl, rfl, rfl, by decide +kernel, rfl, by decide +kernel, by decide +kernel⟩

theorem ok_Ended_eq (F : FunD K "__eq__" "Ended.__eq__" (defArgs s_Ended_eq) (defBody s_Ended_eq) (defScope s_Ended_eq) [] [] f fd) (G : G4 P w K mg base) : FnOk P w K mg base CX0 1 f fd ["self", "other"] (spEqEnded K) := by
  refine F.ok (CX := CX0) sc_Ended_eq (fun vs H Q E h => ?_) (fun cdv A outer s H vs Q E hr h => ?_)
  · obtain ⟨a, u, s, e, l, m, rfl, _⟩ := h
    rfl
  · refine ⟨_, PSs.nox (pss_one (ps_ret (pe_and (pe_cmpR op_isA (pe_callTy call_tyA (by rfl) G.type (by decide +kernel) (pa_cons (pv 0) pa_nil)) (pe_callTy call_tyA (by rfl) G.type (by decide +kernel) (pa_cons (pv 1) pa_nil)) (nomark _)) (pe_and (pe_cmpR op_eq (pe_fld (pv 0) rfl) (pe_fld (pv 1) rfl) (nomark _)) (pe_and (pe_cmpR op_eq (pe_fld (pv 0) rfl) (pe_fld (pv 1) rfl) (nomark _)) (pe_and (pe_cmpR op_eq (pe_fld (pv 0) rfl) (pe_fld (pv 1) rfl) (nomark _)) (pe_one (pe_cmpR op_eq (pe_fld (pv 0) rfl) (pe_fld (pv 1) rfl) (nomark _))))))))), ?_⟩
    obtain ⟨a, u, s, e, l, m, rfl, ⟨dx, ha⟩, hin, hd, h⟩ := h
    obtain ⟨hs, he, hl, hm⟩ := hin
    obtain ⟨_, _, _, z⟩ := end_due s hs e he l hl m hm hd
    obtain ⟨k0, z⟩ := Bool.and_eq_true_iff.mp z
    obtain ⟨k1, z⟩ := Bool.and_eq_true_iff.mp z
    obtain ⟨k2, k3⟩ := Bool.and_eq_true_iff.mp z

    rcases h with ⟨b, rfl, ⟨dy, hb⟩, q⟩ | ⟨b, xs, rfl, hb, q⟩
    · refine ⟨_, rfl, _, rfl, .inl ⟨a, _, dx, _, rfl, ha, _, rfl, _, rfl, .inl ⟨b, _, dy, _, rfl, hb, _, rfl, .inl ⟨_, rfl, .inl rfl, _, rfl, ?_⟩⟩⟩⟩
      refine ite2 (fun _ => ?_) (fun h => absurd (decide_eq_true rfl) h)
      refine ⟨_, rfl, a, _, dx, _, _, rfl, ha, G.cEnded.cl, G.cEnded.no _ (by decide +kernel), lEnded_signs, _, rfl, b, _, dy, _, _, rfl, hb, G.cEnded.cl, G.cEnded.no _ (by decide +kernel), lEnded_signs, k0, _, rfl, ?_⟩
      refine ite2 (fun _ => ?_) (fun h => absurd (decide_eq_true rfl) h)
      refine ⟨_, rfl, a, _, dx, _, _, rfl, ha, G.cEnded.cl, G.cEnded.no _ (by decide +kernel), lEnded_sign, _, rfl, b, _, dy, _, _, rfl, hb, G.cEnded.cl, G.cEnded.no _ (by decide +kernel), lEnded_sign, k1, _, rfl, ?_⟩
      refine ite2 (fun _ => ?_) (fun h => absurd (decide_eq_true rfl) h)
      refine ⟨_, rfl, a, _, dx, _, _, rfl, ha, G.cEnded.cl, G.cEnded.no _ (by decide +kernel), lEnded_least, _, rfl, b, _, dy, _, _, rfl, hb, G.cEnded.cl, G.cEnded.no _ (by decide +kernel), lEnded_least, k2, _, rfl, ?_⟩
      refine ite2 (fun _ => ?_) (fun h => absurd (decide_eq_true rfl) h)
      refine ⟨_, rfl, a, _, dx, _, _, rfl, ha, G.cEnded.cl, G.cEnded.no _ (by decide +kernel), lEnded_most, _, rfl, b, _, dy, _, _, rfl, hb, G.cEnded.cl, G.cEnded.no _ (by decide +kernel), lEnded_most, k3, ?_⟩
      rw [decide_eq_true rfl]
      exact q
    · exact ⟨_, rfl, _, rfl, .inl ⟨a, _, dx, _, rfl, ha, _, rfl, _, rfl, .inr ⟨_, .tup hb, _, rfl, .inr ⟨_, rfl, _, rfl, iteF q⟩⟩⟩⟩


abbrev s_Listed_eq : Stmt := inClass (top 20) 1
theorem sc_Listed_eq : FnScope ["self", "other"] ["self", "other"] (defScope s_Listed_eq) := ⟨rfl, rfl, rfl, by decide +kernel, rfl, by decide +kernel, by decide +kernel⟩

theorem ok_Listed_eq (F : FunD K "__eq__" "Listed.__eq__" (defArgs s_Listed_eq) (defBody s_Listed_eq) (defScope s_Listed_eq) [] [] f fd) (G : G4 P w K mg base) : FnOk P w K mg base CX0 1 f fd ["self", "other"] (spEqListed K) := by
  refine F.ok (CX := CX0) sc_Listed_eq (fun vs H Q E h => ?_) (fun cdv A outer s H vs Q E hr h => ?_)
  · obtain ⟨a, u, x, rfl, _⟩ := h
    rfl
  · refine ⟨_, PSs.nox (pss_one (ps_ret (pe_and (pe_cmpR op_isA (pe_callTy call_tyA (by rfl) G.type (by decide +kernel) (pa_cons (pv 0) pa_nil)) (pe_callTy call_tyA (by rfl) G.type (by decide +kernel) (pa_cons (pv 1) pa_nil)) (nomark _)) (pe_one (pe_cmpR (op_eqD hr.units) (pe_fld (pv 0) rfl) (pe_fld (pv 1) rfl) (nomark _)))))), ?_⟩
    obtain ⟨a, u, x, rfl, ⟨dx, t, ha, ht⟩, hin, hd, h⟩ := h
    obtain ⟨hf, hsh⟩ := lM_shaped x hin hd
    rcases h with ⟨b, rfl, ⟨dy, t2, hb, ht2⟩, q⟩ | ⟨b, xs, rfl, hb, q⟩
    · refine ⟨_, rfl, _, rfl, .inl ⟨a, _, dx, _, rfl, ha, _, rfl, _, rfl, .inl ⟨b, _, dy, _, rfl, hb, _, rfl, .inl ⟨_, rfl, .inl rfl, _, rfl, ?_⟩⟩⟩⟩
      refine ite2 (fun _ => ?_) (fun h => absurd (decide_eq_true rfl) h)
      refine ⟨_, rfl, a, _, dx, _, _, rfl, ha, G.cListed.cl, G.cListed.no _ (by decide +kernel), lListed_texts, _, rfl, b, _, dy, _, _, rfl, hb, G.cListed.cl, G.cListed.no _ (by decide +kernel), lListed_texts, _, _, .tup ht.sq (dpAll_flat hf), .tup ht2.sq (dpAll_flat hf), hsh, hsh, ?_⟩
      rw [eqv_same hsh]
      exact q
    · exact ⟨_, rfl, _, rfl, .inl ⟨a, _, dx, _, rfl, ha, _, rfl, _, rfl, .inr ⟨_, .tup hb, _, rfl, .inr ⟨_, rfl, _, rfl, iteF q⟩⟩⟩⟩


/-- has_sign and == of each class -/
structure HM (P : Program) (w : World) (K : Frag) (mg : Str → Option Value) (base : Heap) (k : Nat) (C : Addr) (m : Str) (ps : List Str) (sp : Sp) : Prop where
  me : Meth K C m (He.ma K C m)
  ok : ∃ fd, FnOk P w K mg base CX0 k (He.ma K C m) fd ps sp ∧ Binds K fd ps []
structure EQ (P : Program) (w : World) (K : Frag) (mg : Str → Option Value) (base : Heap) (C : Addr) (sp : Sp) : Prop where
  ok : ∃ fd, FnOk P w K mg base CX0 1 (He.ma K C "__eq__") fd ["self", "other"] sp ∧ Binds K fd ["self", "other"] []
structure G5 (P : Program) (w : World) (K : Frag) (mg : Str → Option Value) (base : Heap) : Prop extends G4 P w K mg base where
  hWord : HM P w K mg base 2 (ca K 0) "has_sign" ["self", "sign"] (spHasWord K)
  eWord : EQ P w K mg base (ca K 0) (spEqWord K)
  hNumber : HM P w K mg base 2 (ca K 1) "has_sign" ["self", "sign"] (spHasNumber K)
  eNumber : EQ P w K mg base (ca K 1) (spEqNumber K)
  hFixed : HM P w K mg base 2 (ca K 2) "has_sign" ["self", "sign"] (spHasFixed K)
  eFixed : EQ P w K mg base (ca K 2) (spEqFixed K)
  hListed : HM P w K mg base 2 (ca K 3) "has_sign" ["self", "sign"] (spHasListed K)
  eListed : EQ P w K mg base (ca K 3) (spEqListed K)
  hEnded : HM P w K mg base 2 (ca K 4) "has_sign" ["self", "sign"] (spHasEnded K)
  eEnded : EQ P w K mg base (ca K 4) (spEqEnded K)
theorem G5.has (G : G5 P w K mg base) {H : Hp} {y : Addr} : ∀ {d : PD}, FieldAt K H y d → d.In → d.due = none → ∃ sp, HM P w K mg base 2 (ca K d.ci) "has_sign" ["self", "sign"] sp ∧
    ∀ c Q E, (∀ H', Same H H' → Q (.bl (d.has ⟨#[c]⟩)) H') → sp [.ref y, .str ⟨#[c]⟩] H Q E
  | .word s l m, h, i, u => ⟨_, G.hWord, fun c Q E q => ⟨y, c, s, l, m, rfl, h, i, u, q⟩⟩
  | .number l m, h, i, u => ⟨_, G.hNumber, fun c Q E q => ⟨y, c, l, m, rfl, h, i, u, q⟩⟩
  | .fixed v, h, i, u => ⟨_, G.hFixed, fun c Q E q => ⟨y, c, v, rfl, h, i, u, q⟩⟩
  | .listed x, h, i, u => ⟨_, G.hListed, fun c Q E q => ⟨y, c, x, rfl, h, i, u, q⟩⟩
  | .ended s e l m, h, i, u => ⟨_, G.hEnded, fun c Q E q => ⟨y, c, s, e, l, m, rfl, h, i, u, q⟩⟩
theorem G5.eqs (G : G5 P w K mg base) {H : Hp} {y : Addr} : ∀ {d : PD}, FieldAt K H y d → d.In → d.due = none → ∃ sp, EQ P w K mg base (ca K d.ci) sp ∧
    ∀ u Q E, ((∃ b, u = .ref b ∧ FieldAt K H b d ∧ Q (.bl true) H) ∨ (∃ b xs, u = .ref b ∧ H b = some (.tup xs) ∧ Q (.bl false) H)) → sp [.ref y, u] H Q E
  | .word s l m, h, i, u => ⟨_, G.eWord, fun v Q E q => ⟨y, v, s, l, m, rfl, h, i, u, q⟩⟩
  | .number l m, h, i, u => ⟨_, G.eNumber, fun v Q E q => ⟨y, v, l, m, rfl, h, i, u, q⟩⟩
  | .fixed z, h, i, u => ⟨_, G.eFixed, fun v Q E q => ⟨y, v, z, rfl, h, i, u, q⟩⟩
  | .listed x, h, i, u => ⟨_, G.eListed, fun v Q E q => ⟨y, v, x, rfl, h, i, u, q⟩⟩
  | .ended s e l m, h, i, u => ⟨_, G.eEnded, fun v Q E q => ⟨y, v, s, e, l, m, rfl, h, i, u, q⟩⟩
/-- what is handed in as the field of a marked one -/
def IVAt (K : Frag) (H : Hp) (fv : V) : OD → Prop
  | .val u => fv = u ∧ (u = .non ∨ u = .str "word")
  | .pl d => ∃ y, fv = .ref y ∧ FieldAt K H y d ∧ d.In ∧ d.due = none
  | .mk .. => ∃ y dx fs, fv = .ref y ∧ H y = some (.ins (ca K 5) dx fs)
theorem kit5 (G : G4 P w K mg base) : ∀ i, i < 6 → kitAny K (.ref (ca K i)) [.ref (ca K 0), .ref (ca K 1), .ref (ca K 2), .ref (ca K 3), .ref (ca K 4)] = some (decide (i < 5))
  | 0, h => by
    have k := fun j (hj : j < 6) => G.kit 0 j h hj
    exact kitAny_cons (b := true) (k 0 (by decide)) (fun z => nomatch z) (fun _ => rfl)
  | 1, h => by
    have k := fun j (hj : j < 6) => G.kit 1 j h hj
    exact kitAny_cons (b := false) (k 0 (by decide)) (fun _ => kitAny_cons (b := true) (k 1 (by decide)) (fun z => nomatch z) (fun _ => rfl)) (fun z => nomatch z)
  | 2, h => by
    have k := fun j (hj : j < 6) => G.kit 2 j h hj
    exact kitAny_cons (b := false) (k 0 (by decide)) (fun _ => kitAny_cons (b := false) (k 1 (by decide)) (fun _ => kitAny_cons (b := true) (k 2 (by decide)) (fun z => nomatch z) (fun _ => rfl)) (fun z => nomatch z)) (fun z => nomatch z)
  | 3, h => by
    have k := fun j (hj : j < 6) => G.kit 3 j h hj
    exact kitAny_cons (b := false) (k 0 (by decide)) (fun _ => kitAny_cons (b := false) (k 1 (by decide)) (fun _ => kitAny_cons (b := false) (k 2 (by decide)) (fun _ => kitAny_cons (b := true) (k 3 (by decide)) (fun z => nomatch z) (fun _ => rfl)) (fun z => nomatch z)) (fun z => nomatch z)) (fun z => nomatch z)
  | 4, h => by
    have k := fun j (hj : j < 6) => G.kit 4 j h hj
    exact kitAny_cons (b := false) (k 0 (by decide)) (fun _ => kitAny_cons (b := false) (k 1 (by decide)) (fun _ => kitAny_cons (b := false) (k 2 (by decide)) (fun _ => kitAny_cons (b := false) (k 3 (by decide)) (fun _ => kitAny_cons (b := true) (k 4 (by decide)) (fun z => nomatch z) (fun _ => rfl)) (fun z => nomatch z)) (fun z => nomatch z)) (fun z => nomatch z)) (fun z => nomatch z)
  | 5, h => by
    have k := fun j (hj : j < 6) => G.kit 5 j h hj
    exact kitAny_cons (b := false) (k 0 (by decide)) (fun _ => kitAny_cons (b := false) (k 1 (by decide)) (fun _ => kitAny_cons (b := false) (k 2 (by decide)) (fun _ => kitAny_cons (b := false) (k 3 (by decide)) (fun _ => kitAny_cons (b := false) (k 4 (by decide)) (fun _ => kitAny_nil) (fun z => nomatch z)) (fun z => nomatch z)) (fun z => nomatch z)) (fun z => nomatch z)) (fun z => nomatch z)
  | n + 6, h => absurd h (by omega)
theorem kit5N (G : G4 P w K mg base) : kitAny K (.type "NoneType") [.ref (ca K 0), .ref (ca K 1), .ref (ca K 2), .ref (ca K 3), .ref (ca K 4)] = some false := by
  have k := G.kitN
  exact kitAny_cons (b := false) (k 0 (by decide)) (fun _ => kitAny_cons (b := false) (k 1 (by decide)) (fun _ => kitAny_cons (b := false) (k 2 (by decide)) (fun _ => kitAny_cons (b := false) (k 3 (by decide)) (fun _ => kitAny_cons (b := false) (k 4 (by decide)) (fun _ => kitAny_nil) (fun z => nomatch z)) (fun z => nomatch z)) (fun z => nomatch z)) (fun z => nomatch z)) (fun z => nomatch z)
theorem kit5S (G : G4 P w K mg base) : kitAny K (.type "str") [.ref (ca K 0), .ref (ca K 1), .ref (ca K 2), .ref (ca K 3), .ref (ca K 4)] = some false := by
  have k := G.kitS
  exact kitAny_cons (b := false) (k 0 (by decide)) (fun _ => kitAny_cons (b := false) (k 1 (by decide)) (fun _ => kitAny_cons (b := false) (k 2 (by decide)) (fun _ => kitAny_cons (b := false) (k 3 (by decide)) (fun _ => kitAny_cons (b := false) (k 4 (by decide)) (fun _ => kitAny_nil) (fun z => nomatch z)) (fun z => nomatch z)) (fun z => nomatch z)) (fun z => nomatch z)) (fun z => nomatch z)
def spMarked (K : Frag) : Sp := fun vs H Q E => ∃ (a dx : Addr) (n m fv : V) (i : OD), vs = [.ref a, n, m, fv] ∧ H a = some (.ins (ca K 5) dx []) ∧ n ∈ mQ ∧ m ∈ mQ ∧ IVAt K H fv i ∧
  (OD.due (.mk n m i) = none → ∀ H2, Same H H2 → Q .non (upd H2 a (.ins (ca K 5) dx (fMarked n m fv)))) ∧ ∀ z, OD.due (.mk n m i) = some z → RaiseE (BF K) "what" (.str z) H E

abbrev s_Marked_init : Stmt := inClass (top 22) 0
theorem sc_Marked_init : FnScope ["self", "none", "mark", "field"] ["self", "none", "mark", "field"] (defScope s_Marked_init) := ⟨rfl, rfl, rfl, by decide +kernel, rfl, by decide +kernel, by decide +kernel⟩

theorem ok_Marked_init (F : FunD K "__init__" "Marked.__init__" (defArgs s_Marked_init) (defBody s_Marked_init) (defScope s_Marked_init) [] [] f fd) (G : G5 P w K mg base) : FnOk P w K mg base (L2.CX P w) 4 f fd ["self", "none", "mark", "field"] (spMarked K) := by
  refine F.ok (CX := (L2.CX P w)) sc_Marked_init (fun vs H Q E h => ?_) (fun cdv A outer s H vs Q E hr h => ?_)
  · obtain ⟨a, dx, n, m, fv, i, rfl, _⟩ := h
    rfl
  · have hr3 : Room 3 _ := hr
    have hr2 : Room 2 _ := hr.mono (by decide)
    refine ⟨_, (pss_cons (ps_if (pt_not (pt_val (pe_fn G.is_sign (hr2.mono (by decide)) pass0 (by rfl) (pa_cons (pv 1) pa_nil))))
      (pss_one (ps_raise rfl (takes_of rfl rfl rfl rfl) (pmk_1 G.bf hr2 (by rfl) (pa_cons pe_str pa_nil))))
      pss_nil)
    (pss_cons (ps_if (PW.pt (pw_or (pt_not (pt_val (pe_fn G.is_sign (hr2.mono (by decide)) pass0 (by rfl) (pa_cons (pv 2) pa_nil)))) (pw_or1 (pt_cmpR op_eq (pv 2) (pv 1) (nomark _)))))
      (pss_one (ps_raise rfl (takes_of rfl rfl rfl rfl) (pmk_1 G.bf hr2 (by rfl) (pa_cons pe_str pa_nil))))
      pss_nil)
    (pss_cons (ps_if (pt_not (pt_val (pe_callB call_ieT (by rfl) G.isinstance (by decide +kernel) (pa_cons (pv 3) (pa_cons (pe_tupS (pa_cons (pe_gref (by rfl) G.cWord.mgC) (pa_cons (pe_gref (by rfl) G.cNumber.mgC) (pa_cons (pe_gref (by rfl) G.cFixed.mgC) (pa_cons (pe_gref (by rfl) G.cListed.mgC) (pa_cons (pe_gref (by rfl) G.cEnded.mgC) pa_nil)))))) pa_nil)))))
      (pss_one (ps_raise rfl (takes_of rfl rfl rfl rfl) (pmk_1 G.bf hr2 (by rfl) (pa_cons pe_str pa_nil))))
      pss_nil)
    (pss_cons (ps_if (PW.pt (pw_or (pt_val (pe_methD (CX := CX0) (pv 3) pass0 (pa_cons (pv 1) pa_nil))) (pw_or1 (pt_val (pe_methD (CX := CX0) (pv 3) pass0 (pa_cons (pv 2) pa_nil))))))
      (pss_one (ps_raise rfl (takes_of rfl rfl rfl rfl) (pmk_1 G.bf hr2 (by rfl) (pa_cons pe_str pa_nil))))
      pss_nil)
    (pss_cons (ps_fld (pv 0) (pv 1) rfl)
    (pss_cons (ps_fld (pv 0) (pv 2) rfl)
    (pss_one (ps_fld (pv 0) (pv 3) rfl)))))))), ?_⟩
    obtain ⟨a, dx, n, m, fv, i, rfl, ha, hn, hm, hI, q1, q2⟩ := h
    refine ⟨_, rfl, n, rfl, mQ_vM hn, _, rfl, ?_⟩
    show if (!isSignB n) = true then _ else _
    refine ite2 (fun h1 => mkO_1 (q2 _ (by show (if (!isSignB n) = true then _ else _) = _; rw [if_pos h1]))) (fun h1 => ?_)
    have e1 : OD.due (.mk n m i) = if (!isSignB m || decide (m = n)) = true then (some "mark" : Option Str) else iDue n m i := by show (if (!isSignB n) = true then _ else _) = _; rw [if_neg h1]
    rw [e1] at q1 q2
    have h1' : isSignB n = true := by cases z : isSignB n with | true => rfl | false => exact absurd (by rw [z]; rfl) h1
    obtain ⟨en, cn⟩ := mQ_one n hn h1'
    refine ⟨_, rfl, m, rfl, mQ_vM hm, _, rfl, ?_⟩
    show if (!isSignB m) = true then _ else _
    refine ite2 (fun h2 => mkO_1 (q2 _ (by rw [h2]; rfl))) (fun h2 => ?_)
    have h2' : isSignB m = true := by cases z : isSignB m with | true => rfl | false => exact absurd (by rw [z]; rfl) h2
    obtain ⟨em, cm⟩ := mQ_one m hm h2'
    refine ⟨_, rfl, _, rfl, (by rw [en, em]; rfl), _, rfl, ?_⟩
    refine ite2 (fun h3 => mkO_1 (q2 _ (by rw [h3, Bool.or_true]; rfl))) (fun h3 => ?_)
    rw [h2', Bool.eq_false_iff.mpr h3] at q1 q2
    replace q1 : iDue n m i = none → ∀ H2, Same H H2 → Q .non (upd H2 a (.ins (ca K 5) dx (fMarked n m fv))) := q1
    replace q2 : ∀ z, iDue n m i = some z → RaiseE (BF K) "what" (.str z) H E := q2
    clear e1
    cases i with
    | val u =>
      obtain ⟨rfl, rfl | rfl⟩ := hI
      · refine ⟨_, rfl, by show 5 ≤ 1000; decide, fun p0 H0 hp0 S0 e0 => ⟨_, p0, _, _, _, false, rfl, e0, .cons (.own _) (.cons (.own _) (.cons (.own _) (.cons (.own _) (.cons (.own _) Paired.nil)))), .x (.base .non), (kit5N G.toG4), _, rfl, iteT (mkO_1 (raise_mono S0 (q2 _ rfl)))⟩⟩
      · refine ⟨_, rfl, by show 5 ≤ 1000; decide, fun p0 H0 hp0 S0 e0 => ⟨_, p0, _, _, _, false, rfl, e0, .cons (.own _) (.cons (.own _) (.cons (.own _) (.cons (.own _) (.cons (.own _) Paired.nil)))), .x (.base (.str _)), (kit5S G.toG4), _, rfl, iteT (mkO_1 (raise_mono S0 (q2 _ rfl)))⟩⟩
    | mk n2 m2 i2 =>
      obtain ⟨y, dy, fs, rfl, hy⟩ := hI
      refine ⟨_, rfl, by show 5 ≤ 1000; decide, fun p0 H0 hp0 S0 e0 => ⟨_, p0, _, _, _, false, rfl, e0, .cons (.own _) (.cons (.own _) (.cons (.own _) (.cons (.own _) (.cons (.own _) Paired.nil)))), G.ty (i := 5) (by decide) (S0 _ _ hy), (kit5 G.toG4 5 (by decide)), _, rfl, iteT (mkO_1 (raise_mono S0 (q2 _ rfl)))⟩⟩
    | pl d =>
      obtain ⟨y, rfl, hy, hin, hd⟩ := hI
      have eD : iDue n m (.pl d) = if (d.has ⟨#[(strV n).cps.getD 0 0]⟩ || d.has ⟨#[(strV m).cps.getD 0 0]⟩) = true then (some "field" : Option Str) else none := by
        have e1 : strV n = ⟨#[(strV n).cps.getD 0 0]⟩ := congrArg strV en
        have e2 : strV m = ⟨#[(strV m).cps.getD 0 0]⟩ := congrArg strV em
        rw [← e1, ← e2]
        rfl
      rw [eD] at q1 q2
      obtain ⟨dy, fs, hi, lf⟩ := hy.ins
      refine ⟨_, rfl, by show 5 ≤ 1000; decide, fun p0 H0 hp0 S0 e0 => ⟨_, p0, _, _, _, true, rfl, e0, .cons (.own _) (.cons (.own _) (.cons (.own _) (.cons (.own _) (.cons (.own _) Paired.nil)))), G.ty (Nat.lt_of_lt_of_le d.ci_lt (by decide)) (S0 _ _ hi), ((kit5 G.toG4 d.ci (Nat.lt_of_lt_of_le d.ci_lt (by decide))).trans (congrArg some (decide_eq_true d.ci_lt))), _, rfl, iteF ?_⟩⟩
      obtain ⟨sp, M, Hs⟩ := G.has (hy.same S0) hin hd
      obtain ⟨fdh, Fh, Bh⟩ := M.ok
      refine ⟨_, rfl, y, _, dy, _, fs, 2, fdh, _, sp, rfl, S0 _ _ hi, lf, G.cl _ (Nat.lt_of_lt_of_le d.ci_lt (by decide)), M.me, Fh, hr2, Bh, _, rfl, ?_⟩
      show sp [.ref y, n] H0 _ _
      rw [en]
      refine Hs _ _ _ fun H1 S1 => ⟨_, rfl, ?_⟩
      have S1' := S0.trans S1
      refine ite2 (fun h4 => mkO_1 (raise_mono S1' (q2 _ (by rw [h4]; rfl)))) (fun h4 => ?_)
      obtain ⟨sp2, M2, Hs2⟩ := G.has (hy.same S1') hin hd
      obtain ⟨fdh2, Fh2, Bh2⟩ := M2.ok
      refine ⟨_, rfl, y, _, dy, _, fs, 2, fdh2, _, sp2, rfl, S1' _ _ hi, lf, G.cl _ (Nat.lt_of_lt_of_le d.ci_lt (by decide)), M2.me, Fh2, hr2, Bh2, _, rfl, ?_⟩
      show sp2 [.ref y, m] H1 _ _
      rw [em]
      refine Hs2 _ _ _ fun H2 S2 => ⟨_, rfl, ?_⟩
      have S2' := S1'.trans S2
      refine ite2 (fun h5 => mkO_1 (raise_mono S2' (q2 _ (by rw [h5, Bool.or_true]; rfl)))) (fun h5 => ?_)
      have z := q1 (by rw [Bool.eq_false_iff.mpr h4, Bool.eq_false_iff.mpr h5]; rfl) H2 S2'
      rw [← en, ← em]
      have ha := S2' _ _ ha
      refine ⟨_, rfl, _, rfl, a, _, dx, _, rfl, ha, G.cMarked.cl, G.cMarked.no _ (by decide +kernel), (by show 0 < 1000; decide), _, rfl, _, rfl, a, _, dx, _, rfl, upd_same, G.cMarked.cl, G.cMarked.no _ (by decide +kernel), (by show 1 < 1000; decide), _, rfl, _, rfl, a, _, dx, _, rfl, upd_same, G.cMarked.cl, G.cMarked.no _ (by decide +kernel), (by show 2 < 1000; decide), ?_⟩
      show Q .non _
      rw [upd_upd, upd_upd]
      exact z

/-- a marked field -/
def MkAt (K : Frag) (H : Hp) (a : Addr) (n m : V) (d : PD) : Prop := ∃ dx y, H a = some (.ins (ca K 5) dx (fMarked n m (.ref y))) ∧ FieldAt K H y d
def spEqMarked (K : Frag) : Sp := fun vs H Q _ => ∃ (a : Addr) (u n m : V) (d : PD), vs = [.ref a, u] ∧ MkAt K H a n m d ∧ d.In ∧ d.due = none ∧ scal n n = true ∧ scal m m = true ∧
  ((∃ b, u = .ref b ∧ MkAt K H b n m d ∧ Q (.bl true) H) ∨ (∃ b xs, u = .ref b ∧ H b = some (.tup xs) ∧ Q (.bl false) H))

abbrev s_Marked_eq : Stmt := inClass (top 22) 1
theorem sc_Marked_eq : FnScope ["self", "other"] ["self", "other"] (defScope s_Marked_eq) := ⟨rfl, rfl, rfl, by decide +kernel, rfl, by decide +kernel, by decide +kernel⟩

theorem ok_Marked_eq (F : FunD K "__eq__" "Marked.__eq__" (defArgs s_Marked_eq) (defBody s_Marked_eq) (defScope s_Marked_eq) [] [] f fd) (G : G5 P w K mg base) : FnOk P w K mg base CX0 2 f fd ["self", "other"] (spEqMarked K) := by
  refine F.ok (CX := CX0) sc_Marked_eq (fun vs H Q E h => ?_) (fun cdv A outer s H vs Q E hr h => ?_)
  · obtain ⟨a, u, n, m, d, rfl, _⟩ := h
    rfl
  · refine ⟨_, PSs.nox (pss_one (ps_ret (pe_and (pe_cmpR op_isA (pe_callTy call_tyA (by rfl) G.type (by decide +kernel) (pa_cons (pv 0) pa_nil)) (pe_callTy call_tyA (by rfl) G.type (by decide +kernel) (pa_cons (pv 1) pa_nil)) (nomark _)) (pe_and (pe_cmpR op_eq (pe_fld (pv 0) rfl) (pe_fld (pv 1) rfl) (nomark _)) (pe_and (pe_cmpR op_eq (pe_fld (pv 0) rfl) (pe_fld (pv 1) rfl) (nomark _)) (pe_one (pe_cmpR (op_eqO (CX := CX0) pass0) (pe_fld (pv 0) rfl) (pe_fld (pv 1) rfl) (nomark _)))))))), ?_⟩
    obtain ⟨a, u, n, m, d, rfl, ⟨dx, y, ha, hy⟩, hin, hd, k0, k1, h⟩ := h
    rcases h with ⟨b, rfl, ⟨dy, y2, hb, hy2⟩, q⟩ | ⟨b, xs, rfl, hb, q⟩
    · refine ⟨_, rfl, _, rfl, .inl ⟨a, _, dx, _, rfl, ha, _, rfl, _, rfl, .inl ⟨b, _, dy, _, rfl, hb, _, rfl, .inl ⟨_, rfl, .inl rfl, _, rfl, ?_⟩⟩⟩⟩
      refine ite2 (fun _ => ?_) (fun h => absurd (decide_eq_true rfl) h)
      refine ⟨_, rfl, a, _, dx, _, _, rfl, ha, G.cMarked.cl, G.cMarked.no _ (by decide +kernel), lMarked_none, _, rfl, b, _, dy, _, _, rfl, hb, G.cMarked.cl, G.cMarked.no _ (by decide +kernel), lMarked_none, k0, _, rfl, ?_⟩
      refine ite2 (fun _ => ?_) (fun h => absurd (decide_eq_true rfl) h)
      refine ⟨_, rfl, a, _, dx, _, _, rfl, ha, G.cMarked.cl, G.cMarked.no _ (by decide +kernel), lMarked_mark, _, rfl, b, _, dy, _, _, rfl, hb, G.cMarked.cl, G.cMarked.no _ (by decide +kernel), lMarked_mark, k1, _, rfl, ?_⟩
      refine ite2 (fun _ => ?_) (fun h => absurd (decide_eq_true rfl) h)
      obtain ⟨ey, fs, hi, _⟩ := hy.ins
      obtain ⟨ey2, fs2, hi2, _⟩ := hy2.ins
      have h6 := Nat.lt_of_lt_of_le d.ci_lt (by decide : 5 ≤ 6)
      obtain ⟨sp, M, Hs⟩ := G.eqs hy hin hd
      obtain ⟨fde, Fe, Be⟩ := M.ok
      refine ⟨_, rfl, a, _, dx, _, _, rfl, ha, G.cMarked.cl, G.cMarked.no _ (by decide +kernel), lMarked_field, _, rfl, b, _, dy, _, _, rfl, hb, G.cMarked.cl, G.cMarked.no _ (by decide +kernel), lMarked_field, y, ca K d.ci, ey, fs, .ref (ca K d.ci), rfl, hi, (G.kc _ h6).eq, G.ty h6 hi2, ?_, 1, fde, _, sp, (G.kc _ h6).ke, Fe, hr, Be, Hs _ _ _ (.inl ⟨y2, rfl, hy2, true, rfl, q⟩)⟩
      unfold notFirst
      rw [beq_self_eq_true]
      rfl
    · exact ⟨_, rfl, _, rfl, .inl ⟨a, _, dx, _, rfl, ha, _, rfl, _, rfl, .inr ⟨_, .tup hb, _, rfl, .inr ⟨_, rfl, _, rfl, iteF q⟩⟩⟩⟩


end
end L2.K06

set_option Elab.async false
set_option linter.all false
set_option maxRecDepth 100000
set_option maxHeartbeats 4000000
/-! What the law draws: letters, bounds, fields. -/
namespace L2.K06
open PySem PySem.W PySem.Spec PySem.Calls PyProof.Rows L2.Jk
theorem StAt.same {H H' : Hp} {a : Addr} (h : StAt H a) (s : Same H H') : StAt H' a := by
  obtain ⟨x, y, z, e, r⟩ := h
  exact ⟨x, y, z, s _ _ e, r⟩
theorem StAt.ne {H : Hp} {a b : Addr} (h : StAt H a) (n : H b = none) : b ≠ a := by
  obtain ⟨x, y, z, e, r⟩ := h
  exact ne_new e n
theorem pick {α : Type} {xs : List α} {i : Nat} (h : i < xs.length) : ∃ v, xs[i]? = some v ∧ v ∈ xs := ⟨xs[i], List.getElem?_eq_getElem h, List.getElem_mem h⟩
theorem map_eraseIdx' {α β : Type} (g : α → β) : ∀ (xs : List α) (k : Nat), (xs.map g).eraseIdx k = (xs.eraseIdx k).map g
  | [], _ => rfl
  | _ :: _, 0 => rfl
  | x :: xs, k + 1 => by
    show g x :: (xs.map g).eraseIdx k = g x :: (xs.eraseIdx k).map g
    rw [map_eraseIdx' g xs k]
/-- letters taken one by one: what is found, what is left -/
def LS : Nat → List (Str × List Str)
  | 0 => [("", ["a", "b", "-", ".", "z", "0", "A", "_", "9"])]
  | n + 1 => (LS n).flatMap fun q => (List.range q.2.length).map fun i => (q.1 ++ q.2.getD i "", q.2.eraseIdx i)
def letM (n : Nat) : List Str := ((List.range n).flatMap fun k => LS (k + 1)).map (·.1)
def spLet : Sp := fun vs H Q _ => ∃ (a : Addr) (n : Nat), vs = [.ref a, .int (n : Nat)] ∧ 1 ≤ n ∧ n ≤ 3 ∧ StAt H a ∧ ∀ z H', z ∈ letM n → But a H H' → StAt H' a → Q (.str z) H'
theorem LS_small : ∀ n ∈ List.range 3, ∀ q ∈ LS n, q.2.length = 9 - n ∧ q.1.length = n ∧ ∀ s ∈ q.2, s.length = 1 := by decide +kernel
structure GR0 (P : Program) (w : World) (K : Frag) (mg : Str → Option Value) (base : Heap) : Prop extends G5 P w K mg base where
  law_digit : FnAt P w K mg base CX0 1 "_law_digit" ["_law_state_here", "_law_base"] spDigit
section
variable {P : Program} {w : World} {K : Frag} {mg : Str → Option Value} {base : Heap} {f : Addr} {fd : FuncData}

abbrev s_law_letters : Stmt := top 32
theorem sc_law_letters : FnScope ["_law_s", "_law_most", "_law_left", "_law_found", "_law_turn"] ["_law_s", "_law_most"] (defScope s_law_letters) := ⟨rfl, rfl, rfl, by decide +kernel, rfl, by decide +kernel, by decide +kernel⟩

theorem ok_law_letters (F : FunD K "_law_letters" "_law_letters" (defArgs s_law_letters) (defBody s_law_letters) (defScope s_law_letters) [] [] f fd) (G : GR0 P w K mg base) : FnOk P w K mg base CX0 2 f fd ["_law_s", "_law_most"] spLet := by
  refine F.ok (CX := CX0) sc_law_letters (fun vs H Q E h => ?_) (fun cdv A outer s H vs Q E hr h => ?_)
  · obtain ⟨a, n, rfl, _⟩ := h
    rfl
  · refine ⟨_, PSs.nox (pss_cons (ps_par (i := 2) (j := 3) (by rfl) sc_law_letters.nd rfl rfl (by decide) rfl rfl (pa_cons (pe_callTy (call_listStr rfl) (by rfl) G.list (by decide +kernel) (pa_cons pe_str pa_nil)) (pa_cons pe_str pa_nil)) (by rfl))
    (pss_cons (ps_for PassesOwn.never rfl (pi_range1 (by rfl) G.range (pa_cons (pe_op op_add pe_int (pe_fn G.law_digit hr pass0 (by rfl) (pa_cons (pv 0) (pa_cons (pv 1) pa_nil)))) pa_nil)) (pg_name (i := 4) sc_law_letters.nd rfl (Or.inl rfl))
      (pss_one (ps_set (i := 3) sc_law_letters.nd rfl (Or.inl rfl) (pe_op op_add_str (pv 3) (pe_bm PySem.F.plainAttrs_list PySem.F.slot_list_pop PySem.F.type_list_pop mt_popAt (pv 2) (pa_cons (pe_fn G.law_digit hr pass0 (by rfl) (pa_cons (pv 0) (pa_cons (pe_callB call_len_seq (by rfl) G.len (by decide +kernel) (pa_cons (pv 2) pa_nil)) pa_nil))) pa_nil))))))
    (pss_one (ps_ret (pv 3))))), ?_⟩
    obtain ⟨a, n, rfl, hn, hn3, st, q⟩ := h
    refine ⟨_, rfl, by decide +kernel, fun p H1 hp S1 e1 => ⟨_, _, rfl, ?_⟩⟩
    have e1' : H1 p = some (.lst ((["a", "b", "-", ".", "z", "0", "A", "_", "9"] : List Str).map V.str)) := by
      rw [e1, show signsV "ab-.z0A_9" = (["a", "b", "-", ".", "z", "0", "A", "_", "9"] : List Str).map V.str from by decide +kernel]
    have npa : p ≠ a := st.ne hp
    refine ⟨_, rfl, _, rfl, a, _, rfl, st.same S1, by omega, by omega, fun d H2 h0 h1 B2 st2 => ⟨1, d, rfl, rfl, ?_⟩⟩
    obtain ⟨k, rfl⟩ : ∃ k : Nat, d = (k : Int) := ⟨d.toNat, by omega⟩
    have hk : (1 + (k : Int)).toNat = k + 1 := by omega
    refine ⟨1 + (k : Int), rfl, by omega, by omega, ?_⟩
    rw [hk]
    refine for_range (n := k + 1) (fun i σ H' => ∃ (z : Str) (L : List Str) (v4 : Option V), σ = [some (.ref a), some (.int (n : Nat)), some (.ref p), some (.str z), v4] ∧ (z, L) ∈ LS i ∧ H' p = some (.lst (L.map V.str)) ∧ StAt H' a ∧ But a H H')
      ⟨"", _, _, rfl, List.mem_singleton_self _, B2 _ _ npa e1', st2, (But.of_same S1).trans B2⟩ ?_ ?_
    · rintro i σ H3 hi ⟨z, L, v4, rfl, hm, e3, st3, B3⟩
      obtain ⟨l1, l2, l3⟩ := LS_small i (List.mem_range.mpr (by omega)) _ hm
      replace l1 : L.length = 9 - i := l1
      replace l2 : z.length = i := l2
      refine ⟨_, rfl, _, rfl, .inl ⟨rfl, _, SqL.of e3⟩, _, rfl, _, rfl, p, _, rfl, .inl (SqL.of e3), a, _, rfl, st3, ?_, ?_, fun d2 H4 h02 h12 B4 st4 => ?_⟩
      · rw [List.length_map]
        omega
      · rw [List.length_map]
        omega
      obtain ⟨k2, rfl⟩ : ∃ k : Nat, d2 = (k : Int) := ⟨d2.toNat, by omega⟩
      rw [List.length_map] at h12
      have hk2 : k2 < L.length := by omega
      obtain ⟨y, hy, my⟩ := pick hk2
      have l4 := l3 y my
      refine ⟨p, _, _, k2, .str y, rfl, rfl, B4 _ _ npa e3, by omega, by omega, ?_, by rw [List.getElem?_map, hy]; rfl, z, y, rfl, rfl, by rw [sizeLine_eq, l4]; show z.length + 1 ≤ 16777216; omega, ?_⟩
      · refine (ixN_seq ?_).1
        unfold ixN
        rw [List.length_map, if_pos (by omega), if_pos (by omega)]
        simp
      · refine ⟨z ++ y, L.eraseIdx k2, _, rfl, ?_, ?_, ?_, ?_⟩
        · refine List.mem_flatMap.mpr ⟨_, hm, List.mem_map.mpr ⟨k2, List.mem_range.mpr hk2, ?_⟩⟩
          show (z ++ L.getD k2 "", L.eraseIdx k2) = _
          rw [List.getD_eq_getElem?_getD, hy]
          rfl
        · rw [upd_same, map_eraseIdx']
        · obtain ⟨a1, a2, a3, a4, a5⟩ := st4
          exact ⟨a1, a2, a3, by rw [upd_ne (Ne.symm npa)]; exact a4, a5⟩
        · intro c o hc ho
          rw [upd_ne (ne_of_none ho hp)]
          exact B4 _ _ hc (B3 _ _ hc ho)
    · rintro σ H3 ⟨z, L, v4, rfl, hm, e3, st3, B3⟩
      refine ⟨_, rfl, q z H3 ?_ B3 st3⟩
      exact List.mem_map.mpr ⟨_, List.mem_flatMap.mpr ⟨k, List.mem_range.mpr (by omega), hm⟩, rfl⟩

/-- (least, most) as a tuple at b -/
def BdAt (H : Hp) (b : Addr) (l : Int) (m : V) : Prop := H b = some (.tup [.int l, m])
def spBds : Sp := fun vs H Q _ => ∃ (a : Addr) (n k : Nat), vs = [.ref a, .int (n : Nat), .int (k : Nat)] ∧ 1 ≤ n ∧ n ≤ 1000 ∧ 1 ≤ k ∧ k ≤ 1000 ∧ StAt H a ∧
  ∀ b (l : Nat) m H', l < n → (m = .non ∨ ∃ j : Nat, m = .int (j : Nat) ∧ l ≤ j ∧ j < l + k) → b ≠ a → BdAt H' b l m → But a H H' → StAt H' a → Q (.ref b) H'
structure GR1 (P : Program) (w : World) (K : Frag) (mg : Str → Option Value) (base : Heap) : Prop extends GR0 P w K mg base where
  law_letters : FnAt P w K mg base CX0 2 "_law_letters" ["_law_s", "_law_most"] spLet

abbrev s_law_bounds : Stmt := top 33
theorem sc_law_bounds : FnScope ["_law_s", "_law_least", "_law_more", "_law_low"] ["_law_s", "_law_least", "_law_more"] (defScope s_law_bounds) := ⟨rfl, rfl, rfl, by decide +kernel, rfl, by decide +kernel, by decide +kernel⟩

theorem ok_law_bounds (F : FunD K "_law_bounds" "_law_bounds" (defArgs s_law_bounds) (defBody s_law_bounds) (defScope s_law_bounds) [] [] f fd) (G : GR0 P w K mg base) : FnOk P w K mg base CX0 2 f fd ["_law_s", "_law_least", "_law_more"] spBds := by
  refine F.ok (CX := CX0) sc_law_bounds (fun vs H Q E h => ?_) (fun cdv A outer s H vs Q E hr h => ?_)
  · obtain ⟨a, n, k, rfl, _⟩ := h
    rfl
  · refine ⟨_, PSs.nox (pss_cons (ps_set (i := 3) sc_law_bounds.nd rfl (Or.inl rfl) (pe_fn G.law_digit hr pass0 (by rfl) (pa_cons (pv 0) (pa_cons (pv 1) pa_nil))))
    (pss_one (ps_ret (pe_tupS (pa_cons (pv 3) (pa_cons (pe_ix ix_list (pe_lstS (pa_cons (pe_op op_add (pv 3) (pe_fn G.law_digit hr pass0 (by rfl) (pa_cons (pv 0) (pa_cons (pv 2) pa_nil)))) (pa_cons (pe_op op_add (pv 3) (pe_fn G.law_digit hr pass0 (by rfl) (pa_cons (pv 0) (pa_cons (pv 2) pa_nil)))) (pa_cons pe_non pa_nil)))) (pe_fn G.law_digit hr pass0 (by rfl) (pa_cons (pv 0) (pa_cons pe_int pa_nil))) (fun _ _ => rfl)) pa_nil)))))), ?_⟩
    obtain ⟨a, n, k, rfl, hn, hn2, hk, hk2, st, q⟩ := h
    refine ⟨_, rfl, _, rfl, a, n, rfl, st, by omega, by omega, fun d1 H1 h01 h11 B1 st1 => ?_⟩
    refine ⟨_, rfl, _, rfl, _, rfl, _, rfl, a, k, rfl, st1, by omega, by omega, fun d2 H2 h02 h12 B2 st2 => ⟨_, _, rfl, rfl, _, rfl, _, rfl, _, rfl, a, k, rfl, st2, by omega, by omega, fun d3 H3 h03 h13 B3 st3 => ⟨_, _, rfl, rfl, by show 3 ≤ 1000; decide, fun p H4 hp S4 e4 => ⟨_, rfl, a, 3, rfl, (st3.same S4), by omega, by omega, fun d5 H5 h05 h15 B5 st5 => ?_⟩⟩⟩⟩
    have npa := st3.ne hp
    obtain ⟨l, rfl⟩ : ∃ l : Nat, d1 = (l : Int) := ⟨d1.toNat, by omega⟩
    have e5 := B5 _ _ npa e4
    have BB := (((B1.trans B2).trans B3).trans (But.of_same S4)).trans B5
    obtain ⟨i, rfl⟩ : ∃ i : Nat, d5 = (i : Int) := ⟨d5.toNat, by omega⟩
    have fin : ∀ m : V, ([V.int ((l : Int) + d2), V.int ((l : Int) + d3), V.non])[i]? = some m → (m = .non ∨ ∃ j : Nat, m = .int (j : Nat) ∧ l ≤ j ∧ j < l + k) := fun m hm => by
      match i, hm with
      | 0, hm => exact .inr ⟨l + d2.toNat, by rw [← Option.some.inj hm]; congr 1; omega, by omega, by omega⟩
      | 1, hm => exact .inr ⟨l + d3.toNat, by rw [← Option.some.inj hm]; congr 1; omega, by omega, by omega⟩
      | 2, hm => exact .inl (Option.some.inj hm).symm
      | j + 3, hm => cases hm
    obtain ⟨m, hm, _⟩ := pick (xs := [V.int ((l : Int) + d2), V.int ((l : Int) + d3), V.non]) (i := i) (by show i < 3; omega)
    refine ⟨p, _, _, _, rfl, rfl, SqL.of e5, atI_nat (j := i) hm, by show 2 ≤ 1000; decide, fun b H6 hb S6 e6 => ?_⟩
    exact q b l m H6 (by omega) (fin m hm) (st5.ne hb) e6 (BB.trans (But.of_same S6)) (st5.same S6)

theorem itN {a b : Str} {A B : Prop} (h : decide (V.str a = V.str b) = false) (k : B) : if decide (V.str a = V.str b) = true then A else B := by
  rw [h]
  exact iteF k
theorem itY {a : V} {A B : Prop} (k : A) : if decide (a = a) = true then A else B := by
  rw [decide_eq_true rfl]
  exact iteT k
/-- a field, marked or not -/
inductive FD where
  | pl (d : PD)
  | mk (n m : V) (d : PD)
def FdAt (K : Frag) (H : Hp) (a : Addr) : FD → Prop
  | .pl d => FieldAt K H a d ∧ d.In ∧ d.due = none
  | .mk n m d => MkAt K H a n m d ∧ d.In ∧ d.due = none ∧ (∃ c, n = .str ⟨#[c]⟩) ∧ ∃ c, m = .str ⟨#[c]⟩
theorem FdAt.same {K : Frag} {H H' : Hp} {a : Addr} (S : Same H H') : ∀ {d : FD}, FdAt K H a d → FdAt K H' a d
  | .pl _, ⟨h, i⟩ => ⟨h.same S, i⟩
  | .mk _ _ _, ⟨⟨dx, y, h, k⟩, i⟩ => ⟨⟨dx, y, S _ _ h, k.same S⟩, i⟩
/-- a field as the law draws it, its parts not at s -/
def PDAt (s : Addr) (H : Hp) (v : V) : PD → Prop
  | .word x l m => ∃ b, v = .ref b ∧ b ≠ s ∧ H b = some (.tup [.str "word", x, l, m])
  | .number l m => ∃ b, v = .ref b ∧ b ≠ s ∧ H b = some (.tup [.str "number", l, m])
  | .fixed u => ∃ b, v = .ref b ∧ b ≠ s ∧ H b = some (.tup [.str "fixed", u])
  | .listed x => ∃ b u, v = .ref b ∧ b ≠ s ∧ H b = some (.tup [.str "listed", u]) ∧ LXAt H u x ∧ ∀ c, u = .ref c → c ≠ s
  | .ended x e l m => ∃ b, v = .ref b ∧ b ≠ s ∧ H b = some (.tup [.str "ended", x, e, l, m])
def FIn (s : Addr) (H : Hp) (v : V) : FD → Prop
  | .pl d => PDAt s H v d
  | .mk n m d => ∃ b u, v = .ref b ∧ b ≠ s ∧ H b = some (.tup [.str "marked", n, m, u]) ∧ PDAt s H u d
def FD.good : FD → Prop
  | .pl d => d.In ∧ d.due = none
  | .mk n m d => d.In ∧ d.due = none ∧ n ∈ mQ ∧ m ∈ mQ ∧ OD.due (.mk n m (.pl d)) = none
def FD.dep : FD → Nat
  | .pl _ => 0
  | .mk .. => 1
theorem mk_due {n m : V} {i : OD} (h : OD.due (.mk n m i) = none) : isSignB n = true ∧ isSignB m = true := by
  have h : (if (!isSignB n) = true then (some "none" : Option Str) else if (!isSignB m || decide (m = n)) = true then some "mark" else iDue n m i) = none := h
  cases k : isSignB n with
  | false => rw [k] at h; cases h
  | true =>
    rw [k] at h
    cases k2 : isSignB m with
    | false => rw [k2] at h; cases h
    | true => exact ⟨rfl, rfl⟩
structure G6 (P : Program) (w : World) (K : Frag) (mg : Str → Option Value) (base : Heap) : Prop extends GR1 P w K mg base where
  kWord : ClsAt P w K mg base (L2.CX P w) 4 "Word" (ca K 0) ["self", "signs", "least", "most"] (spWord K)
  kNumber : ClsAt P w K mg base (L2.CX P w) 4 "Number" (ca K 1) ["self", "least", "most"] (spNumber K)
  kFixed : ClsAt P w K mg base (L2.CX P w) 4 "Fixed" (ca K 2) ["self", "width"] (spFixed K)
  kListed : ClsAt P w K mg base (L2.CX P w) 4 "Listed" (ca K 3) ["self", "texts"] (spListed K)
  kEnded : ClsAt P w K mg base (L2.CX P w) 4 "Ended" (ca K 4) ["self", "signs", "sign", "least", "most"] (spEnded K)
  kMarked : ClsAt P w K mg base (L2.CX P w) 4 "Marked" (ca K 5) ["self", "none", "mark", "field"] (spMarked K)
def spMd (K : Frag) (n : Nat) : Sp := fun vs H Q _ => ∃ (s0 : Addr) (v : V) (d : FD), vs = [v] ∧ FIn s0 H v d ∧ d.good ∧ d.dep < n ∧ ∀ r H', Same H H' → FdAt K H' r d → Q (.ref r) H'

abbrev s_law_made : Stmt := top 36
theorem sc_law_made : FnScope ["_law_one"] ["_law_one"] (defScope s_law_made) := ⟨rfl, rfl, rfl, by decide +kernel, rfl, by decide +kernel, by decide +kernel⟩

theorem ok_law_made (F : FunD K "_law_made" "_law_made" (defArgs s_law_made) (defBody s_law_made) (defScope s_law_made) [] [] f fd) (G : G6 P w K mg base) {n : Nat} (AM : FnAt P w K mg base CX0 (n + 5) "_law_made" ["_law_one"] (spMd K n)) : FnOk P w K mg base CX0 (n + 5 + 1) f fd ["_law_one"] (spMd K (n + 1)) := by
  refine F.ok (CX := CX0) sc_law_made (fun vs H Q E h => ?_) (fun cdv A outer s H vs Q E hr h => ?_)
  · obtain ⟨s0, v, d, rfl, _⟩ := h
    rfl
  · have hr5 : Room 5 _ := hr.mono (by omega)
    refine ⟨_, PSs.nox (pss_cons (ps_if (pt_cmpR op_eq (pe_ix ix_tup (pv 0) pe_int (fun _ _ => rfl)) pe_str (nomark _))
      (pss_one (ps_ret (pe_newS G.kWord hr5 (fun σ => passAt takes0 σ) (by rfl) (pa_cons (pe_ix ix_tup (pv 0) pe_int (fun _ _ => rfl)) (pa_cons (pe_ix ix_tup (pv 0) pe_int (fun _ _ => rfl)) (pa_cons (pe_ix ix_tup (pv 0) pe_int (fun _ _ => rfl)) pa_nil))))))
      pss_nil)
    (pss_cons (ps_if (pt_cmpR op_eq (pe_ix ix_tup (pv 0) pe_int (fun _ _ => rfl)) pe_str (nomark _))
      (pss_one (ps_ret (pe_newS G.kNumber hr5 (fun σ => passAt takes0 σ) (by rfl) (pa_cons (pe_ix ix_tup (pv 0) pe_int (fun _ _ => rfl)) (pa_cons (pe_ix ix_tup (pv 0) pe_int (fun _ _ => rfl)) pa_nil)))))
      pss_nil)
    (pss_cons (ps_if (pt_cmpR op_eq (pe_ix ix_tup (pv 0) pe_int (fun _ _ => rfl)) pe_str (nomark _))
      (pss_one (ps_ret (pe_newS G.kFixed hr5 (fun σ => passAt takes0 σ) (by rfl) (pa_cons (pe_ix ix_tup (pv 0) pe_int (fun _ _ => rfl)) pa_nil))))
      pss_nil)
    (pss_cons (ps_if (pt_cmpR op_eq (pe_ix ix_tup (pv 0) pe_int (fun _ _ => rfl)) pe_str (nomark _))
      (pss_one (ps_ret (pe_newS G.kListed hr5 (fun σ => passAt takes0 σ) (by rfl) (pa_cons (pe_ix ix_tup (pv 0) pe_int (fun _ _ => rfl)) pa_nil))))
      pss_nil)
    (pss_cons (ps_if (pt_cmpR op_eq (pe_ix ix_tup (pv 0) pe_int (fun _ _ => rfl)) pe_str (nomark _))
      (pss_one (ps_ret (pe_newS G.kEnded hr5 (fun σ => passAt takes0 σ) (by rfl) (pa_cons (pe_ix ix_tup (pv 0) pe_int (fun _ _ => rfl)) (pa_cons (pe_ix ix_tup (pv 0) pe_int (fun _ _ => rfl)) (pa_cons (pe_ix ix_tup (pv 0) pe_int (fun _ _ => rfl)) (pa_cons (pe_ix ix_tup (pv 0) pe_int (fun _ _ => rfl)) pa_nil)))))))
      pss_nil)
    (pss_one (ps_ret (pe_newS G.kMarked hr5 (fun σ => passAt takes0 σ) (by rfl) (pa_cons (pe_ix ix_tup (pv 0) pe_int (fun _ _ => rfl)) (pa_cons (pe_ix ix_tup (pv 0) pe_int (fun _ _ => rfl)) (pa_cons (pe_fn AM hr pass0 (by rfl) (pa_cons (pe_ix ix_tup (pv 0) pe_int (fun _ _ => rfl)) pa_nil)) pa_nil))))))))))), ?_⟩
    obtain ⟨s0, v, d, rfl, hP, hg, hdep, q⟩ := h
    cases d with
    | mk n m d =>
      obtain ⟨b, u, rfl, hne, hb, hI⟩ := hP
      obtain ⟨hin, hd, hn, hm, hod⟩ := hg
      obtain ⟨sn, sm⟩ := mk_due hod
      refine ⟨_, rfl, b, _, _, _, rfl, rfl, SqT.of hb, atI_nat (j := 0) rfl, rfl, _, rfl, itN (by decide +kernel) ?_⟩
      refine ⟨_, rfl, b, _, _, _, rfl, rfl, SqT.of hb, atI_nat (j := 0) rfl, rfl, _, rfl, itN (by decide +kernel) ?_⟩
      refine ⟨_, rfl, b, _, _, _, rfl, rfl, SqT.of hb, atI_nat (j := 0) rfl, rfl, _, rfl, itN (by decide +kernel) ?_⟩
      refine ⟨_, rfl, b, _, _, _, rfl, rfl, SqT.of hb, atI_nat (j := 0) rfl, rfl, _, rfl, itN (by decide +kernel) ?_⟩
      refine ⟨_, rfl, b, _, _, _, rfl, rfl, SqT.of hb, atI_nat (j := 0) rfl, rfl, _, rfl, itN (by decide +kernel) ?_⟩
      refine ⟨_, rfl, b, _, _, _, rfl, rfl, SqT.of hb, atI_nat (j := 1) rfl, _, rfl, b, _, _, _, rfl, rfl, SqT.of hb, atI_nat (j := 2) rfl, _, rfl, b, _, _, _, rfl, rfl, SqT.of hb, atI_nat (j := 3) rfl, s0, u, .pl d, rfl, hI, ⟨hin, hd⟩, Nat.lt_of_succ_lt_succ hdep, fun r H1 S1 hR => ?_⟩
      intro a dx ha hx ne
      refine ⟨a, dx, n, m, .ref r, .pl d, rfl, upd_same, hn, hm, ⟨r, rfl, hR.1.same (same_new ha hx), hin, hd⟩, fun e H2 S2 => ⟨rfl, ?_⟩, fun z e => (by have e3 := hod.symm.trans e; cases e3)⟩
      have SH : Same H1 H2 := (same_new ha hx).trans S2
      exact q _ _ (S1.trans (same_put SH ha)) ⟨⟨dx, r, upd_same, hR.1.same (same_put SH ha)⟩, hin, hd, ⟨_, (sign_one sn).1⟩, _, (sign_one sm).1⟩
    | pl d =>
    obtain ⟨hin, hd⟩ := hg
    cases d with
    | word s l m =>
      obtain ⟨b, rfl, hn, hb⟩ := hP
      have hin0 := hin
      obtain ⟨hs, hl, hm⟩ := hin
      refine ⟨_, rfl, b, _, _, _, rfl, rfl, SqT.of hb, atI_nat (j := 0) rfl, rfl, _, rfl, itY ?_⟩
      refine ⟨_, rfl, b, _, _, _, rfl, rfl, SqT.of hb, atI_nat (j := 1) rfl, _, rfl, b, _, _, _, rfl, rfl, SqT.of hb, atI_nat (j := 2) rfl, _, rfl, b, _, _, _, rfl, rfl, SqT.of hb, atI_nat (j := 3) rfl, fun a dx ha hx ne => ?_⟩
      exact ⟨a, dx, s, l, m, rfl, upd_same, hs, hl, hm, fun e => ⟨rfl, q _ _ (same_put (same_new ha hx) ha) ⟨⟨dx, upd_same⟩, hin0, hd⟩⟩, fun z e => (by have e3 := hd.symm.trans e; cases e3)⟩
    | number l m =>
      obtain ⟨b, rfl, hn, hb⟩ := hP
      have hin0 := hin
      obtain ⟨hl, hm⟩ := hin
      refine ⟨_, rfl, b, _, _, _, rfl, rfl, SqT.of hb, atI_nat (j := 0) rfl, rfl, _, rfl, itN (by decide +kernel) ?_⟩
      refine ⟨_, rfl, b, _, _, _, rfl, rfl, SqT.of hb, atI_nat (j := 0) rfl, rfl, _, rfl, itY ?_⟩
      refine ⟨_, rfl, b, _, _, _, rfl, rfl, SqT.of hb, atI_nat (j := 1) rfl, _, rfl, b, _, _, _, rfl, rfl, SqT.of hb, atI_nat (j := 2) rfl, fun a dx ha hx ne => ?_⟩
      exact ⟨a, dx, l, m, rfl, upd_same, hl, hm, fun e => ⟨rfl, q _ _ (same_put (same_new ha hx) ha) ⟨⟨dx, upd_same⟩, hin0, hd⟩⟩, fun z e => (by have e3 := hd.symm.trans e; cases e3)⟩
    | fixed w =>
      obtain ⟨b, rfl, hn, hb⟩ := hP
      have hin0 := hin
      refine ⟨_, rfl, b, _, _, _, rfl, rfl, SqT.of hb, atI_nat (j := 0) rfl, rfl, _, rfl, itN (by decide +kernel) ?_⟩
      refine ⟨_, rfl, b, _, _, _, rfl, rfl, SqT.of hb, atI_nat (j := 0) rfl, rfl, _, rfl, itN (by decide +kernel) ?_⟩
      refine ⟨_, rfl, b, _, _, _, rfl, rfl, SqT.of hb, atI_nat (j := 0) rfl, rfl, _, rfl, itY ?_⟩
      refine ⟨_, rfl, b, _, _, _, rfl, rfl, SqT.of hb, atI_nat (j := 1) rfl, fun a dx ha hx ne => ?_⟩
      exact ⟨a, dx, w, rfl, upd_same, hin, fun e => ⟨rfl, q _ _ (same_put (same_new ha hx) ha) ⟨⟨dx, upd_same⟩, hin0, hd⟩⟩, fun z e => (by have e3 := hd.symm.trans e; cases e3)⟩
    | ended s e l m =>
      obtain ⟨b, rfl, hn, hb⟩ := hP
      have hin0 := hin
      obtain ⟨hs, he, hl, hm⟩ := hin
      refine ⟨_, rfl, b, _, _, _, rfl, rfl, SqT.of hb, atI_nat (j := 0) rfl, rfl, _, rfl, itN (by decide +kernel) ?_⟩
      refine ⟨_, rfl, b, _, _, _, rfl, rfl, SqT.of hb, atI_nat (j := 0) rfl, rfl, _, rfl, itN (by decide +kernel) ?_⟩
      refine ⟨_, rfl, b, _, _, _, rfl, rfl, SqT.of hb, atI_nat (j := 0) rfl, rfl, _, rfl, itN (by decide +kernel) ?_⟩
      refine ⟨_, rfl, b, _, _, _, rfl, rfl, SqT.of hb, atI_nat (j := 0) rfl, rfl, _, rfl, itN (by decide +kernel) ?_⟩
      refine ⟨_, rfl, b, _, _, _, rfl, rfl, SqT.of hb, atI_nat (j := 0) rfl, rfl, _, rfl, itY ?_⟩
      refine ⟨_, rfl, b, _, _, _, rfl, rfl, SqT.of hb, atI_nat (j := 1) rfl, _, rfl, b, _, _, _, rfl, rfl, SqT.of hb, atI_nat (j := 2) rfl, _, rfl, b, _, _, _, rfl, rfl, SqT.of hb, atI_nat (j := 3) rfl, _, rfl, b, _, _, _, rfl, rfl, SqT.of hb, atI_nat (j := 4) rfl, fun a dx ha hx ne => ?_⟩
      exact ⟨a, dx, s, e, l, m, rfl, upd_same, hs, he, hl, hm, fun e => ⟨rfl, q _ _ (same_put (same_new ha hx) ha) ⟨⟨dx, upd_same⟩, hin0, hd⟩⟩, fun z e => (by have e3 := hd.symm.trans e; cases e3)⟩
    | listed x =>
      obtain ⟨b, u, rfl, hn, hb, hL, _⟩ := hP
      refine ⟨_, rfl, b, _, _, _, rfl, rfl, SqT.of hb, atI_nat (j := 0) rfl, rfl, _, rfl, itN (by decide +kernel) ?_⟩
      refine ⟨_, rfl, b, _, _, _, rfl, rfl, SqT.of hb, atI_nat (j := 0) rfl, rfl, _, rfl, itN (by decide +kernel) ?_⟩
      refine ⟨_, rfl, b, _, _, _, rfl, rfl, SqT.of hb, atI_nat (j := 0) rfl, rfl, _, rfl, itN (by decide +kernel) ?_⟩
      refine ⟨_, rfl, b, _, _, _, rfl, rfl, SqT.of hb, atI_nat (j := 0) rfl, rfl, _, rfl, itY ?_⟩
      refine ⟨_, rfl, b, _, _, _, rfl, rfl, SqT.of hb, atI_nat (j := 1) rfl, fun a dx ha hx ne => ?_⟩
      refine ⟨a, dx, u, x, rfl, upd_same, hin, hL.same (same_new ha hx), fun e t H2 S2 e2 => ⟨rfl, ?_⟩, fun z e => (by have e3 := hd.symm.trans e; cases e3)⟩
      have SH : Same H H2 := (same_new ha hx).trans S2
      obtain ⟨ob, c1, c2, c3⟩ := e2
      have nt : t ≠ a := ne_of c3 (S2 _ _ upd_same) (fun z => by cases z)
      exact q _ _ (same_put SH ha) ⟨⟨dx, t, upd_same, ob, c1, c2, by rw [upd_ne nt]; exact c3⟩, hin, hd⟩


end
end L2.K06

set_option Elab.async false
set_option linter.all false
set_option maxRecDepth 100000
set_option maxHeartbeats 4000000
/-! All strings of some signs. -/
namespace L2.K06
open PySem PySem.W PySem.Spec PySem.Calls PyProof.Rows L2.Jk
/-- the signs of a text, one text each -/
def sgT (z : Str) : List Str := z.cps.toList.map fun c => ⟨#[c]⟩
def lay (z : Str) : Nat → List Str
  | 0 => [""]
  | n + 1 => (lay z n).flatMap fun t => (sgT z).map fun s => t ++ s
def allS (z : Str) (l n : Nat) : List Str := (List.range n).flatMap fun i => if l ≤ i then lay z i else []
def spStrs : Sp := fun vs H Q _ => ∃ (z : Str) (l m : Nat), vs = [.str z, .int (l : Nat), .int (m : Nat)] ∧ z.cps.size ≤ 3 ∧ m ≤ 3 ∧ (allS z l (m + 1)).length < 64 ∧ (∀ i, i ≤ 4 → (lay z i).length ≤ 100 ∧ ∀ t ∈ lay z i, t.length ≤ 10) ∧
  ∀ p (ys : List Str) H', ys.Perm (allS z l (m + 1)) → sortedS ys = true → Same H H' → H' p = some (.lst (ys.map V.str)) → Q (.ref p) H'
theorem allS_succ (z : Str) (l n : Nat) : allS z l (n + 1) = allS z l n ++ (if l ≤ n then lay z n else []) := by
  unfold allS
  rw [List.range_succ, List.flatMap_append]
  simp
theorem allS_small {z : Str} {l n m : Nat} (h : n ≤ m) (k : (allS z l m).length < 64) : (allS z l n).length < 64 := by
  obtain ⟨d, rfl⟩ := Nat.exists_eq_add_of_le h
  induction d with
  | zero => exact k
  | succ d ih =>
    refine ih (Nat.le_add_right _ _) ?_
    rw [← Nat.add_assoc, allS_succ, List.length_append] at k
    omega
section
variable {P : Program} {w : World} {K : Frag} {mg : Str → Option Value} {base : Heap} {f : Addr} {fd : FuncData}

structure GS (P : Program) (w : World) (K : Frag) (mg : Str → Option Value) (base : Heap) : Prop extends G0 P w K mg base where
  sorted : mg "sorted" = none

abbrev s_law_strings : Stmt := top 37
theorem sc_law_strings : FnScope ["_law_signs", "_law_least", "_law_most", "_law_found", "_law_layer", "_law_length", "_law_longer", "_law_text", "_law_sign"] ["_law_signs", "_law_least", "_law_most"] (defScope s_law_strings) := ⟨rfl, rfl, rfl, by decide +kernel, rfl, by decide +kernel, by decide +kernel⟩

theorem ok_law_strings (F : FunD K "_law_strings" "_law_strings" (defArgs s_law_strings) (defBody s_law_strings) (defScope s_law_strings) [] [] f fd) (G : GS P w K mg base) : FnOk P w K mg base CX0 1 f fd ["_law_signs", "_law_least", "_law_most"] spStrs := by
  refine F.ok (CX := CX0) sc_law_strings (fun vs H Q E h => ?_) (fun cdv A outer s H vs Q E hr h => ?_)
  · obtain ⟨z, l, m, rfl, _⟩ := h
    rfl
  · refine ⟨_, PSs.nox (pss_cons (ps_par (i := 3) (j := 4) (by rfl) sc_law_strings.nd rfl rfl (by decide) rfl rfl (pa_cons (pe_lstS pa_nil) (pa_cons (pe_lstS (pa_cons pe_str pa_nil)) pa_nil)) (by rfl))
    (pss_cons (ps_for PassesOwn.never rfl (pi_range1 (by rfl) G.range (pa_cons (pe_op op_add (pv 2) pe_int) pa_nil)) (pg_name (i := 5) sc_law_strings.nd rfl (Or.inl rfl))
      (pss_cons (ps_if (pt_cmpR op_ge (pv 5) (pv 1) (nomark _))
        (pss_one (ps_set (i := 3) sc_law_strings.nd rfl (Or.inl rfl) (pe_op op_catS (pv 3) (pv 4))))
        pss_nil)
      (pss_cons (ps_set (i := 6) sc_law_strings.nd rfl (Or.inl rfl) (pe_lstS pa_nil))
      (pss_cons (ps_for PassesOwn.never rfl (pi_list (pv 4)) (pg_name (i := 7) sc_law_strings.nd rfl (Or.inr rfl))
        (pss_one (ps_set (i := 6) sc_law_strings.nd rfl (Or.inl rfl) (pe_op op_catS (pv 6) (pe_lc (own := [("_law_sign", 8)]) (g := gName 8) (tt := tYes) rfl sc_law_strings.nd (pi_str (pv 0)) (blkOk_by (N := ["_law_signs", "_law_least", "_law_most", "_law_found", "_law_layer", "_law_length", "_law_longer", "_law_text", "_law_sign"]) (sc := defScope s_law_strings) (by decide +kernel)) (fun _ _ _ _ _ => pg_name (i := 8) sc_law_strings.nd rfl (Or.inl rfl)) (fun _ _ _ _ _ => pts_nil) (fun _ _ _ _ _ => (pe_op op_add_str (pv 7) (pv 8))))))))
      (pss_one (ps_set (i := 4) sc_law_strings.nd rfl (Or.inl rfl) (pv 6)))))))
    (pss_one (ps_ret (pe_callB cr_sortedS (by rfl) G.sorted (by decide +kernel) (pa_cons (pv 3) pa_nil)))))), ?_⟩
    obtain ⟨z, l, m, rfl, hz, hm, hs, hb, q⟩ := h
    refine ⟨by show 0 ≤ 1000; decide, fun p1 H1 hp1 S1 e1 => ⟨by show 1 ≤ 1000; decide, fun p2 H2 hp2 S2 e2 => ⟨_, _, rfl, ?_⟩⟩⟩
    refine ⟨_, rfl, _, _, rfl, rfl, (m : Int) + 1, rfl, by omega, by omega, ?_⟩
    rw [show ((m : Int) + 1).toNat = m + 1 by omega]
    refine for_range (n := m + 1) (fun i σ H' => ∃ (pf pl : Addr) (v5 v6 v7 v8 : Option V), σ = [some (.str z), some (.int (l : Nat)), some (.int (m : Nat)), some (.ref pf), some (.ref pl), v5, v6, v7, v8] ∧ Same H H' ∧ H' pf = some (.lst ((allS z l i).map V.str)) ∧ H' pl = some (.lst ((lay z i).map V.str)))
      ⟨p1, p2, _, _, _, _, rfl, S1.trans S2, S2 _ _ e1, e2⟩ ?_ ?_
    · rintro i σ H3 hi ⟨pf, pl, v5, v6, v7, v8, rfl, S3, ef, el⟩
      have hsm := allS_small (show i + 1 ≤ m + 1 by omega) hs
      refine ⟨_, rfl, _, rfl, _, _, rfl, rfl, _, rfl, ?_⟩
      refine ite2 (fun h1 => ?_) (fun h1 => ?_)
      · have hle : l ≤ i := by have := of_decide_eq_true h1; omega
        have ll := (hb i (by omega)).1
        refine ⟨_, rfl, _, rfl, pf, pl, _, _, rfl, rfl, SqL.of ef, SqL.of el, ?_, fun pg H4 hpg S34 eg => ?_⟩
        · rw [List.length_map, List.length_map, sizeLine_eq]
          have := allS_small (show i ≤ m + 1 by omega) hs
          omega
        have S4 := S3.trans S34
        have eg4 : H4 pg = some (.lst ((allS z l (i + 1)).map V.str)) := by rw [eg, allS_succ, if_pos hle, List.map_append]
        have el4 := S34 _ _ el
        refine ⟨by show 0 ≤ 1000; decide, fun pn H5 hpn S5 e5 => ?_⟩
        refine ⟨_, rfl, pl, rfl, ⟨_, SqL.of (S5 _ _ el4)⟩, for_list (K := K) (a := pl) (xs := (lay z i).map V.str) (fun j σ H' => ∃ (pn' : Addr) (v7 v8 : Option V), σ = [some (.str z), some (.int (l : Nat)), some (.int (m : Nat)), some (.ref pg), some (.ref pl), some (.int (0 + (i : Int))), some (.ref pn'), v7, v8] ∧ Same H5 H' ∧ H' pn' = some (.lst ((((lay z i).take j).flatMap fun t => (sgT z).map fun s => t ++ s).map V.str)))
          ⟨pn, _, _, rfl, Same.refl _, e5⟩ (fun j σ H' _ ⟨_, _, _, _, S, _⟩ => SqL.of (S _ _ (S5 _ _ el4))) ?_ ?_⟩
        · rintro j x0 σ H6 hx ⟨pn', v7, v8, rfl, S6, e6⟩
          obtain ⟨t, ht, rfl⟩ : ∃ t, (lay z i)[j]? = some t ∧ x0 = .str t := by
            rw [List.getElem?_map] at hx
            obtain ⟨t, h1, h2⟩ := Option.map_eq_some_iff.mp hx
            exact ⟨t, h1, h2.symm⟩
          have tl := (hb i (by omega)).2 t (List.mem_of_getElem? ht)
          have jl := (List.getElem?_eq_some_iff.mp ht).1
          have ll := (hb i (by omega)).1
          refine ⟨_, rfl, _, rfl, z, rfl, fun D hD => ?_⟩
          refine lc_str (x := z) (LcP H6 D fun n => ((sgT z).take n).map fun s => V.str (t ++ s)) (LcP.start hD rfl) ?_ ?_
          · intro k c J hc pJ
            have hk : k < z.cps.size := (Array.getElem?_eq_some_iff.mp hc).1
            have hg : (sgT z)[k]? = some ⟨#[c]⟩ := by
              unfold sgT
              rw [List.getElem?_map]
              have e : z.cps.toList[k]? = some c := by rw [← hc]; simp
              rw [e]
              rfl
            refine ⟨rfl, _, rfl, _, rfl, t, ⟨#[c]⟩, rfl, rfl, by rw [sizeLine_eq]; show t.length + 1 ≤ 16777216; omega, pJ.put (Same.refl _) ?_ (by omega)⟩
            show ((sgT z).take (k + 1)).map _ = _
            rw [List.take_add_one, hg, List.map_append]
            rfl
          · rintro J ⟨S7, _, e7, _⟩
            have sz : (sgT z).length = z.cps.size := by unfold sgT; rw [List.length_map, Array.length_toList]
            have e7' : J D = some (.lst ((sgT z).map fun s => V.str (t ++ s))) := by
              rw [e7]
              show some (HO.lst (((sgT z).take z.cps.size).map _)) = _
              rw [← sz, List.take_length]
            refine ⟨pn', D, _, _, rfl, rfl, SqL.of (S7 _ _ e6), SqL.of e7', ?_, fun pn2 H8 hp8 S8 e8 => ?_⟩
            · rw [List.length_map, List.length_map, sizeLine_eq, sz]
              have : (((lay z i).take j).flatMap fun t => (sgT z).map fun s => t ++ s).length ≤ 1000 := by
                rw [List.length_flatMap]
                have h1 : (((lay z i).take j).map fun t => ((sgT z).map fun s => t ++ s).length).sum = ((lay z i).take j).length * (sgT z).length := by
                  simp [List.map_const']
                have h2 : ((lay z i).take j).length ≤ 100 := by rw [List.length_take]; omega
                rw [h1, sz]
                exact Nat.le_trans (Nat.mul_le_mul h2 hz) (by decide)
              omega
            · refine ⟨pn2, _, _, rfl, (S6.trans S7).trans S8, ?_⟩
              rw [e8, List.take_add_one, ht, List.flatMap_append, List.map_append]
              simp
        · rintro σ H6 ⟨pn', v7, v8, rfl, S6, e6⟩
          refine ⟨_, rfl, pg, pn', _, _, _, _, rfl, (S4.trans S5).trans S6, S6 _ _ (S5 _ _ eg4), ?_⟩
          rw [e6, List.length_map, List.take_length]
          rfl
      · have hle : ¬ l ≤ i := fun z => h1 (decide_eq_true (by omega))
        obtain ⟨pg, H4, S4, eg4, el4, eH⟩ : ∃ pg H4, Same H H4 ∧ H4 pg = some (.lst ((allS z l (i + 1)).map V.str)) ∧ H4 pl = some (.lst ((lay z i).map V.str)) ∧ (pg = pf ∧ H4 = H3) := ⟨pf, H3, S3, by rw [ef, allS_succ, if_neg hle, List.append_nil], el, rfl, rfl⟩
        obtain ⟨rfl, rfl⟩ := eH
        refine ⟨by show 0 ≤ 1000; decide, fun pn H5 hpn S5 e5 => ?_⟩
        refine ⟨_, rfl, pl, rfl, ⟨_, SqL.of (S5 _ _ el4)⟩, for_list (K := K) (a := pl) (xs := (lay z i).map V.str) (fun j σ H' => ∃ (pn' : Addr) (v7 v8 : Option V), σ = [some (.str z), some (.int (l : Nat)), some (.int (m : Nat)), some (.ref pg), some (.ref pl), some (.int (0 + (i : Int))), some (.ref pn'), v7, v8] ∧ Same H5 H' ∧ H' pn' = some (.lst ((((lay z i).take j).flatMap fun t => (sgT z).map fun s => t ++ s).map V.str)))
          ⟨pn, _, _, rfl, Same.refl _, e5⟩ (fun j σ H' _ ⟨_, _, _, _, S, _⟩ => SqL.of (S _ _ (S5 _ _ el4))) ?_ ?_⟩
        · rintro j x0 σ H6 hx ⟨pn', v7, v8, rfl, S6, e6⟩
          obtain ⟨t, ht, rfl⟩ : ∃ t, (lay z i)[j]? = some t ∧ x0 = .str t := by
            rw [List.getElem?_map] at hx
            obtain ⟨t, h1, h2⟩ := Option.map_eq_some_iff.mp hx
            exact ⟨t, h1, h2.symm⟩
          have tl := (hb i (by omega)).2 t (List.mem_of_getElem? ht)
          have jl := (List.getElem?_eq_some_iff.mp ht).1
          have ll := (hb i (by omega)).1
          refine ⟨_, rfl, _, rfl, z, rfl, fun D hD => ?_⟩
          refine lc_str (x := z) (LcP H6 D fun n => ((sgT z).take n).map fun s => V.str (t ++ s)) (LcP.start hD rfl) ?_ ?_
          · intro k c J hc pJ
            have hk : k < z.cps.size := (Array.getElem?_eq_some_iff.mp hc).1
            have hg : (sgT z)[k]? = some ⟨#[c]⟩ := by
              unfold sgT
              rw [List.getElem?_map]
              have e : z.cps.toList[k]? = some c := by rw [← hc]; simp
              rw [e]
              rfl
            refine ⟨rfl, _, rfl, _, rfl, t, ⟨#[c]⟩, rfl, rfl, by rw [sizeLine_eq]; show t.length + 1 ≤ 16777216; omega, pJ.put (Same.refl _) ?_ (by omega)⟩
            show ((sgT z).take (k + 1)).map _ = _
            rw [List.take_add_one, hg, List.map_append]
            rfl
          · rintro J ⟨S7, _, e7, _⟩
            have sz : (sgT z).length = z.cps.size := by unfold sgT; rw [List.length_map, Array.length_toList]
            have e7' : J D = some (.lst ((sgT z).map fun s => V.str (t ++ s))) := by
              rw [e7]
              show some (HO.lst (((sgT z).take z.cps.size).map _)) = _
              rw [← sz, List.take_length]
            refine ⟨pn', D, _, _, rfl, rfl, SqL.of (S7 _ _ e6), SqL.of e7', ?_, fun pn2 H8 hp8 S8 e8 => ?_⟩
            · rw [List.length_map, List.length_map, sizeLine_eq, sz]
              have : (((lay z i).take j).flatMap fun t => (sgT z).map fun s => t ++ s).length ≤ 1000 := by
                rw [List.length_flatMap]
                have h1 : (((lay z i).take j).map fun t => ((sgT z).map fun s => t ++ s).length).sum = ((lay z i).take j).length * (sgT z).length := by
                  simp [List.map_const']
                have h2 : ((lay z i).take j).length ≤ 100 := by rw [List.length_take]; omega
                rw [h1, sz]
                exact Nat.le_trans (Nat.mul_le_mul h2 hz) (by decide)
              omega
            · refine ⟨pn2, _, _, rfl, (S6.trans S7).trans S8, ?_⟩
              rw [e8, List.take_add_one, ht, List.flatMap_append, List.map_append]
              simp
        · rintro σ H6 ⟨pn', v7, v8, rfl, S6, e6⟩
          refine ⟨_, rfl, pg, pn', _, _, _, _, rfl, (S4.trans S5).trans S6, S6 _ _ (S5 _ _ eg4), ?_⟩
          rw [e6, List.length_map, List.take_length]
          rfl
    · rintro σ H3 ⟨pf, pl, v5, v6, v7, v8, rfl, S3, ef, el⟩
      exact ⟨_, rfl, pf, _, rfl, SqL.of ef, hs, fun ys p perm srt hp => q p ys _ perm srt (S3.trans (same_upd hp)) upd_same⟩

end
end L2.K06

set_option Elab.async false
set_option linter.all false
set_option maxRecDepth 100000
set_option maxHeartbeats 4000000
/-! The drawn fields are taken. -/
namespace L2.K06
open PySem PySem.W PySem.Spec PySem.Calls PyProof.Rows L2.Jk
theorem let_good : ∀ z ∈ letM 3, sBad (.str z) = false ∧ z.length ≤ 3 ∧ z.cps.size ≤ 3 ∧ 1 ≤ z.length := by decide +kernel
def tens : List Str := ["a", "ab", "b", "", "ba", "abb", "0", "aa", "b-", "bab"]
def texN : List Str := (["a", "ab", "b", "", "ba", "abb", "0", "aa", "b-", "bab", "bb", "aba"] : List Str) ++ (["aab", "c", "ca", "cb", "cd", "ce", "cf", "cg", "ch", "ci", "cj", "cax"] : List Str) ++ (["zca", "zcab", "cjj", "abcde", "abcdef", "de", "d", "bcde", "e", "abab", "aaaaaaa", "aaaaa"] : List Str) ++ (["xabcdefabcde"] : List Str)
theorem tens_sub : ∀ t ∈ tens, t ∈ texN := by decide +kernel
theorem tens_are : ∀ t ∈ texN, areB (.str t) = true ∧ t.length ≤ 12 := by decide +kernel
def BdOk (l : Nat) (m : V) (k : Nat) : Prop := m = .non ∨ ∃ j : Nat, m = .int (j : Nat) ∧ l ≤ j ∧ j < l + k
theorem bd_due {l : Nat} {m : V} {k : Nat} (h : BdOk l m k) : bDue (.int (l : Nat)) m = none := by
  have h1 : decide ((l : Int) < 0) = false := decide_eq_false (by omega)
  have e : bDue (.int (l : Nat)) m = if (!decide (m = .non) && (!numB m || ltV m (.int (l : Nat)))) = true then (some "most" : Option Str) else none := by
    show (if (!true || decide ((l : Int) < 0)) = true then _ else _) = _
    rw [h1]
    rfl
  rw [e]
  rcases h with rfl | ⟨j, rfl, h2, _⟩
  · rfl
  · have h3 : ltV (.int (j : Nat)) (.int (l : Nat)) = false := decide_eq_false (by omega)
    rw [h3]
    show (if (_ && (!true || false)) = true then _ else _) = _
    rw [show (!true || false) = false from rfl, Bool.and_false]
    rfl
theorem newS_all {ks : Nat → Str} : ∀ {n : Nat}, (∀ i j, i < n → j < n → ks i = ks j → i = j) → newS ks n = n
  | 0, _ => rfl
  | n + 1, h => by
    have ih := newS_all (n := n) fun i j hi hj e => h i j (by omega) (by omega) e
    unfold newS
    have no : (List.range n).any (fun j => ks j == ks n) = false := by
      refine Bool.eq_false_iff.mpr fun q => ?_
      obtain ⟨j, hj, e⟩ := List.any_eq_true.mp q
      have lt := List.mem_range.mp hj
      have := h j n (by omega) (by omega) (by simpa using e)
      omega
    rw [no, if_neg Bool.false_ne_true, ih]
theorem map_strV (ts : List Str) : (ts.map V.str).map strV = ts := by
  rw [List.map_map]
  exact List.map_id' ts
theorem lay_strs : ∀ ts : List Str, (∀ t ∈ ts, (PyData.str t).canLay0 = true) → PyData.canLayAll0 ((ts.map V.str).map dV) = true ∧ PyData.depthAll ((ts.map V.str).map dV) ≤ 1
  | [], _ => ⟨rfl, by decide⟩
  | t :: ts, h => by
    obtain ⟨h1, h2⟩ := lay_strs ts fun x hx => h x (List.mem_cons_of_mem _ hx)
    refine ⟨Bool.and_eq_true_iff.mpr ⟨h t (List.mem_cons_self ..), h1⟩, ?_⟩
    show max (PyData.str t).depth _ ≤ 1
    exact Nat.max_le.mpr ⟨by show 0 ≤ 1; decide, h2⟩
theorem tens_lay : ∀ t ∈ texN, (PyData.str t).canLay0 = true := by decide +kernel
theorem lst_good {ts : List Str} (hn : ts.Nodup) (hs : ∀ t ∈ ts, t ∈ texN) (h0 : ts ≠ []) (hl : ts.length ≤ 12) : PD.In (.listed (.lst (ts.map V.str))) ∧ PD.due (.listed (.lst (ts.map V.str))) = none := by
  obtain ⟨l1, l2⟩ := lay_strs ts fun t ht => tens_lay t (hs t ht)
  have all : (ts.map V.str).all areB = true := by
    rw [List.all_map]
    exact List.all_eq_true.mpr fun t ht => (tens_are t (hs t ht)).1
  refine ⟨⟨.inl rfl, by show (ts.map V.str).length ≤ 20; rw [List.length_map]; omega, ?_, ?_⟩, ?_⟩
  · intro v hv
    obtain ⟨t, ht, rfl⟩ := List.mem_map.mp hv
    exact ⟨rfl, Nat.le_trans (tens_are t (hs t ht)).2 (by decide)⟩
  · refine Bool.and_eq_true_iff.mpr ⟨l1, decide_eq_true ?_⟩
    show PyData.depthAll ((ts.map V.str).map dV) + 1 ≤ 64
    omega
  · show (if (decide ((ts.map V.str).length = 0) || xsBad (ts.map V.str)) = true then _ else _) = _
    have e1 : decide ((ts.map V.str).length = 0) = false := decide_eq_false (by rw [List.length_map]; exact fun e => h0 (List.length_eq_zero_iff.mp e))
    have e2 : xsBad (ts.map V.str) = false := by
      unfold xsBad
      rw [all, map_strV, newS_all ?_, List.length_map]
      · show (false || decide (ts.length < ts.length)) = false
        rw [decide_eq_false (Nat.lt_irrefl _)]
        rfl
      · intro i j hi hj e
        rw [List.getD_eq_getElem?_getD, List.getD_eq_getElem?_getD, List.getElem?_eq_getElem hi, List.getElem?_eq_getElem hj] at e
        exact (List.getElem_inj hn).mp e
    rw [e1, e2]
    rfl
theorem word_good {z : Str} (hz : z ∈ letM 3) {l : Nat} {m : V} (hl : l < 3) (hm : BdOk l m 3) : PD.In (.word (.str z) (.int (l : Nat)) m) ∧ PD.due (.word (.str z) (.int (l : Nat)) m) = none := by
  obtain ⟨g1, g2, _, _⟩ := let_good z hz
  have gm : m ∈ nM := by
    rcases hm with rfl | ⟨j, rfl, h1, h2⟩
    · exact ⟨rfl, fun i e => by cases e⟩
    · exact ⟨rfl, fun i e => by injection e with e; omega⟩
  refine ⟨⟨⟨rfl, Nat.le_trans g2 (by decide)⟩, ⟨rfl, fun i e => by injection e with e; omega⟩, gm⟩, ?_⟩
  show oDue _ _ _ = none
  unfold oDue
  rw [g1, if_neg Bool.false_ne_true]
  exact bd_due hm
theorem number_good {l : Nat} {m : V} (hl : l < 15) (hm : BdOk l m 120) : PD.In (.number (.int (l : Nat)) m) ∧ PD.due (.number (.int (l : Nat)) m) = none := by
  have gm : m ∈ hM := by
    rcases hm with rfl | ⟨j, rfl, h1, h2⟩
    · exact ⟨rfl, fun i e => by cases e⟩
    · exact ⟨rfl, fun i e => by injection e with e; omega⟩
  exact ⟨⟨⟨rfl, fun i e => by injection e with e; omega⟩, gm⟩, bd_due hm⟩
end L2.K06

set_option Elab.async false
set_option linter.all false
set_option maxRecDepth 100000
set_option maxHeartbeats 4000000
/-! The law's plain fields. -/
namespace L2.K06
open PySem PySem.W PySem.Spec PySem.Calls PyProof.Rows L2.Jk
section
variable {X : Cx} {o e : Expr} {es : List Expr} {to : TE} {t : TA} {name : Str} {apos cpos : Pos} {T id : String} {r : V → List V → Hp → VK → Prop}
/-- as pe_bm, the heap's known part by its own name -/
theorem pe_bmK {K : Frag} (hK : X.K = K) (pa : PlainAttrs T) (slot : Slot T name id) (hty : typeOf (.builtin id) = pure (.type "method_descriptor")) (hm : MtR X id r) (ho : PE X o to) (ha : PA X (e :: es) t)
    (hbase : attributeBase o name X.env (eval o X.env) = eval o X.env := by rfl)
    (hfew : ((backTo cpos (starEach (e :: es) X.env)).all (fun x => !x.1) && (backToKw cpos (keywordEach [] X.env)).all (fun x => x.1.isSome)
      && decide ((e :: es).length + ([] : List Keyword).length + (if ([] : List Keyword).isEmpty then 0 else 1) < 30)) = true := by rfl)
    (hline : (apos.endLine == cpos.line) = true := by rfl) (hs : starEach (e :: es) X.env = (false, eval e X.env) :: starEach es X.env := by rfl) (hplain : (backTo cpos (starEach es X.env)).any (·.1) = false := by rfl) :
    PE X (.Call (.Attribute o name apos) (e :: es) [] cpos) (tBM K T r to t) := by
  subst hK
  exact pe_bm pa slot hty hm ho ha hbase hfew hline hs hplain
def rLenK (K : Frag) : List V → Hp → VK → Prop := fun xs H Q => ∃ p ys, xs = [.ref p] ∧ (SqL K H p ys ∨ SqT K H p ys) ∧ Q (.int ys.length) H
theorem call_lenK {K : Frag} (hK : X.K = K) : CallR X (.builtin "len") (rLenK K) := by
  subst hK
  exact call_len_seq
end
theorem erase_perm {α : Type} : ∀ (L : List α) (k : Nat) (h : k < L.length), (L[k] :: L.eraseIdx k).Perm L
  | [], _, h => absurd h (Nat.not_lt_zero _)
  | _ :: _, 0, _ => List.Perm.refl _
  | x :: xs, k + 1, h => (List.Perm.swap x (xs[k]'(Nat.lt_of_succ_lt_succ h)) _).trans ((erase_perm xs k (Nat.lt_of_succ_lt_succ h)).cons x)
/-- the end signs that are left -/
def fltN (z : Str) (n : Nat) : List Str := ((("ab-.z" : Str).cps.toList.take n).filter fun c => !decide (c ∈ z.cps.toList)).map fun c => ⟨#[c]⟩
theorem fltN_succ {z : Str} {i c : Nat} (h : ("ab-.z" : Str).cps[i]? = some c) : fltN z (i + 1) = if (!decide (c ∈ z.cps.toList)) = true then fltN z i ++ [⟨#[c]⟩] else fltN z i := by
  have e : ("ab-.z" : Str).cps.toList[i]? = some c := by rw [← h]; simp
  unfold fltN
  rw [List.take_add_one, e, List.filter_append, List.map_append]
  show _ ++ (List.filter _ [c]).map _ = _
  by_cases k : (!decide (c ∈ z.cps.toList)) = true
  · rw [if_pos k, List.filter_cons_of_pos (p := fun c => !decide (c ∈ z.cps.toList)) k]
    rfl
  · rw [if_neg k, List.filter_cons_of_neg (p := fun c => !decide (c ∈ z.cps.toList)) k]
    show _ ++ [] = _
    rw [List.append_nil]
def fives : List Str := ["a", "b", "-", ".", "z"]
theorem end_good0 : ∀ z ∈ letM 2, ∀ e ∈ fives, inB e z = false → sBad (.str z) = false ∧ isSignB (.str e) = true ∧ z.length ≤ 3 := by decide +kernel
theorem flt_facts : ∀ z ∈ letM 2, 3 ≤ (fltN z 5).length ∧ ∀ e ∈ fltN z 5, e ∈ fives ∧ inB e z = false := by decide +kernel
/-- what is drawn -/
inductive Dr : PD → Prop
  | word {z : Str} {l : Nat} {m : V} : z ∈ letM 3 → l < 3 → BdOk l m 3 → Dr (.word (.str z) (.int (l : Nat)) m)
  | number {l : Nat} {m : V} : l < 15 → BdOk l m 120 → Dr (.number (.int (l : Nat)) m)
  | fixed {w : Nat} : 1 ≤ w → w ≤ 3 → Dr (.fixed (.int (w : Nat)))
  | listed {ts : List Str} : ts.Nodup → (∀ t ∈ ts, t ∈ texN) → ts ≠ [] → ts.length ≤ 12 → Dr (.listed (.lst (ts.map V.str)))
  | ended {z e : Str} {l : Nat} {m : V} : z ∈ letM 2 → e ∈ fives → inB e z = false → l < 3 → BdOk l m 3 → Dr (.ended (.str z) (.str e) (.int (l : Nat)) m)
theorem Dr.good : ∀ {d : PD}, Dr d → d.In ∧ d.due = none
  | _, .word a b c => word_good a b c
  | _, .number a b => number_good a b
  | _, .fixed (w := w) a b => ⟨⟨_, rfl, by omega, by omega⟩, by
      show (if (!true || decide ((w : Int) < 1)) = true then _ else _) = _
      rw [decide_eq_false (by omega)]
      rfl⟩
  | _, .listed a b c e => lst_good a b c e
  | _, .ended (z := z) (e := e) (l := l) (m := m) a b c f g => by
      obtain ⟨g1, g2, g3⟩ := end_good0 z a e b c
      have el : e.length ≤ 20 := by
        have k : ∀ e ∈ fives, e.length ≤ 20 := by decide +kernel
        exact k e b
      have gm : m ∈ nM := by
        rcases g with rfl | ⟨j, rfl, h1, h2⟩
        · exact ⟨rfl, fun i e => by cases e⟩
        · exact ⟨rfl, fun i e => by injection e with e; omega⟩
      refine ⟨⟨⟨rfl, Nat.le_trans g3 (by decide)⟩, ⟨rfl, el⟩, ⟨rfl, fun i e => by injection e with e; omega⟩, gm⟩, ?_⟩
      show eDue _ _ _ _ = none
      unfold eDue
      rw [g1, g2, if_neg Bool.false_ne_true]
      show (if (!true || inB e z) = true then _ else _) = _
      rw [c]
      exact bd_due g
structure GP (P : Program) (w : World) (K : Frag) (mg : Str → Option Value) (base : Heap) : Prop extends GR1 P w K mg base where
  law_bounds : FnAt P w K mg base CX0 2 "_law_bounds" ["_law_s", "_law_least", "_law_more"] spBds
def spPlain : Sp := fun vs H Q _ => ∃ (a : Addr) (k : Nat), vs = [.ref a, .int (k : Nat)] ∧ StAt H a ∧ ∀ v d H', Dr d → PDAt a H' v d → But a H H' → StAt H' a → Q v H'
section
variable {P : Program} {w : World} {K : Frag} {mg : Str → Option Value} {base : Heap} {f : Addr} {fd : FuncData}

abbrev s_law_plain : Stmt := top 34
theorem sc_law_plain : FnScope ["_law_s", "_law_way", "_law_some", "_law_turn", "_law_signs", "_law_sign"] ["_law_s", "_law_way"] (defScope s_law_plain) := ⟨rfl, rfl, rfl, by decide +kernel, rfl, by decide +kernel, by decide +kernel⟩

theorem ok_law_plain (F : FunD K "_law_plain" "_law_plain" (defArgs s_law_plain) (defBody s_law_plain) (defScope s_law_plain) [] [] f fd) (G : GP P w K mg base) : FnOk P w K mg base CX0 3 f fd ["_law_s", "_law_way"] spPlain := by
  refine F.ok (CX := CX0) sc_law_plain (fun vs H Q E h => ?_) (fun cdv A outer s H vs Q E hr h => ?_)
  · obtain ⟨a, k, rfl, _⟩ := h
    rfl
  · refine ⟨_, PSs.nox (pss_cons (ps_if (pt_cmpR op_eq (pv 1) pe_int (nomark _))
      (pss_one (ps_ret (pe_op op_catT (pe_tupS (pa_cons pe_str (pa_cons (pe_fn G.law_letters hr pass0 (by rfl) (pa_cons (pv 0) (pa_cons pe_int pa_nil))) pa_nil))) (pe_fn G.law_bounds hr pass0 (by rfl) (pa_cons (pv 0) (pa_cons pe_int (pa_cons pe_int pa_nil)))))))
      pss_nil)
    (pss_cons (ps_if (pt_cmpR op_eq (pv 1) pe_int (nomark _))
      (pss_one (ps_ret (pe_op op_catT (pe_tupS (pa_cons pe_str pa_nil)) (pe_fn G.law_bounds hr pass0 (by rfl) (pa_cons (pv 0) (pa_cons pe_int (pa_cons pe_int pa_nil)))))))
      pss_nil)
    (pss_cons (ps_if (pt_cmpR op_eq (pv 1) pe_int (nomark _))
      (pss_one (ps_ret (pe_tupS (pa_cons pe_str (pa_cons (pe_op op_add pe_int (pe_fn G.law_digit (hr.mono (by decide)) pass0 (by rfl) (pa_cons (pv 0) (pa_cons pe_int pa_nil)))) pa_nil)))))
      pss_nil)
    (pss_cons (ps_if (pt_cmpR op_eq (pv 1) pe_int (nomark _))
      (pss_cons (ps_set (i := 2) sc_law_plain.nd rfl (Or.inr rfl) (pe_lstS (pa_cons pe_str (pa_cons pe_str (pa_cons pe_str (pa_cons pe_str (pa_cons pe_str (pa_cons pe_str (pa_cons pe_str (pa_cons pe_str (pa_cons pe_str (pa_cons pe_str pa_nil))))))))))))
      (pss_one (ps_ret (pe_tupS (pa_cons pe_str (pa_cons (pe_lc (own := [("_law_turn", 3)]) (g := gName 3) (tt := tYes) rfl sc_law_plain.nd (pi_range1 (by rfl) G.range (pa_cons (pe_op op_add pe_int (pe_fn G.law_digit (hr.mono (by decide)) pass0 (by rfl) (pa_cons (pv 0) (pa_cons pe_int pa_nil)))) pa_nil)) (blkOk_by (N := ["_law_s", "_law_way", "_law_some", "_law_turn", "_law_signs", "_law_sign"]) (sc := defScope s_law_plain) (by decide +kernel)) (fun _ _ _ _ _ => pg_name (i := 3) sc_law_plain.nd rfl (Or.inl rfl)) (fun _ _ _ _ _ => pts_nil) (fun _ _ _ _ _ => (by exact (pe_bmK (K := K) rfl PySem.F.plainAttrs_list PySem.F.slot_list_pop PySem.F.type_list_pop mt_popAt (pv 2) (pa_cons (pe_fn G.law_digit (hr.mono (by decide)) pass0 (by rfl) (pa_cons (pv 0) (pa_cons (pe_callB (call_lenK (K := K) rfl) (by rfl) G.len (by decide +kernel) (pa_cons (pv 2) pa_nil)) pa_nil))) pa_nil))))) pa_nil))))))
      pss_nil)
    (pss_cons (ps_set (i := 4) sc_law_plain.nd rfl (Or.inr rfl) (pe_fn G.law_letters hr pass0 (by rfl) (pa_cons (pv 0) (pa_cons pe_int pa_nil))))
    (pss_one (ps_ret (pe_op op_catT (pe_tupS (pa_cons pe_str (pa_cons (pv 4) (pa_cons (pe_ix ix_list (pe_lc (own := [("_law_sign", 5)]) (g := gName 5) (tt := _) rfl sc_law_plain.nd (pi_str pe_str) (blkOk_by (N := ["_law_s", "_law_way", "_law_some", "_law_turn", "_law_signs", "_law_sign"]) (sc := defScope s_law_plain) (by decide +kernel)) (fun _ _ _ _ _ => pg_name (i := 5) sc_law_plain.nd rfl (Or.inl rfl)) (fun _ _ _ _ _ => pts_one (pt_cmpR op_notIn_sign (pv 5) (pv 4) (by rfl))) (fun _ _ _ _ _ => (pv 5))) (pe_fn G.law_digit (hr.mono (by decide)) pass0 (by rfl) (pa_cons (pv 0) (pa_cons pe_int pa_nil))) (fun _ _ => rfl)) pa_nil)))) (pe_fn G.law_bounds hr pass0 (by rfl) (pa_cons (pv 0) (pa_cons pe_int (pa_cons pe_int pa_nil)))))))))))), ?_⟩
    obtain ⟨a, k, rfl, st, q⟩ := h
    refine ⟨_, rfl, rfl, _, rfl, ?_⟩
    refine ite2 (fun _ => ?_) (fun _ => ?_)
    · refine ⟨_, rfl, a, 3, rfl, by decide, by decide, st, fun z H1 hz B1 st1 => ⟨by show 2 ≤ 1000; decide, fun p H2 hp S2 e2 => ⟨_, rfl, a, 3, 3, rfl, by decide, by decide, by decide, by decide, st1.same S2, fun b l m H3 hl hm nb hb B3 st3 => ?_⟩⟩⟩
      have np := st1.ne hp
      refine ⟨p, b, _, _, rfl, rfl, SqT.of (B3 _ _ np e2), SqT.of hb, (fun z => nomatch z), (by rw [sizeLine_eq]; show 2 + 2 ≤ 16777216; decide), (fun z => nomatch z), fun _ pz hpz => ?_⟩
      exact q _ (.word (.str z) (.int (l : Nat)) m) _ (.word hz hl hm) ⟨pz, rfl, st3.ne hpz, upd_same⟩ (((B1.trans (But.of_same S2)).trans B3).trans (But.of_same (same_upd hpz))) (st3.same (same_upd hpz))
    refine ⟨_, rfl, rfl, _, rfl, ?_⟩
    refine ite2 (fun _ => ?_) (fun _ => ?_)
    · refine ⟨by show 1 ≤ 1000; decide, fun p H2 hp S2 e2 => ⟨_, rfl, a, 15, 120, rfl, by decide, by decide, by decide, by decide, st.same S2, fun b l m H3 hl hm nb hb B3 st3 => ?_⟩⟩
      have np := st.ne hp
      refine ⟨p, b, _, _, rfl, rfl, SqT.of (B3 _ _ np e2), SqT.of hb, (fun z => nomatch z), (by rw [sizeLine_eq]; show 1 + 2 ≤ 16777216; decide), (fun z => nomatch z), fun _ pz hpz => ?_⟩
      exact q _ (.number (.int (l : Nat)) m) _ (.number hl hm) ⟨pz, rfl, st3.ne hpz, upd_same⟩ (((But.of_same S2).trans B3).trans (But.of_same (same_upd hpz))) (st3.same (same_upd hpz))
    refine ⟨_, rfl, rfl, _, rfl, ?_⟩
    refine ite2 (fun _ => ?_) (fun _ => ?_)
    · refine ⟨_, rfl, a, 3, rfl, st, by decide, by decide, fun dd H1 h0 h1 B1 st1 => ⟨1, dd, rfl, rfl, by show 2 ≤ 1000; decide, fun p H2 hp S2 e2 => ?_⟩⟩
      obtain ⟨j, rfl⟩ : ∃ j : Nat, dd = (j : Int) := ⟨dd.toNat, by omega⟩
      have ej : (1 + (j : Int)) = ((j + 1 : Nat) : Int) := by omega
      exact q _ (.fixed (.int ((j + 1 : Nat) : Int))) _ (.fixed (by omega) (by omega)) ⟨p, rfl, st1.ne hp, by rw [e2]; show some (HO.tup [V.str "fixed", V.int (1 + (j : Int))]) = _; rw [ej]⟩ (B1.trans (But.of_same S2)) (st1.same S2)
    refine ⟨_, rfl, rfl, _, rfl, ?_⟩
    refine ite2 (fun _ => ?_) (fun _ => ?_)
    · refine ⟨by show 10 ≤ 1000; decide, fun p H1 hp S1 e1 => ?_⟩
      have npa := st.ne hp
      refine ⟨_, rfl, a, 4, rfl, st.same S1, by decide, by decide, fun dd H2 h0 h1 B2 st2 => ⟨1, dd, rfl, rfl, ?_⟩⟩
      obtain ⟨j, rfl⟩ : ∃ j : Nat, dd = (j : Int) := ⟨dd.toNat, by omega⟩
      refine ⟨1 + (j : Int), rfl, by omega, by omega, fun D hD => ?_⟩
      rw [show (1 + (j : Int)).toNat = j + 1 by omega]
      have e2 := B2 _ _ npa e1
      have nDp : D ≠ p := fun z => by rw [z, e2] at hD; cases hD
      have nDa : D ≠ a := st2.ne hD
      have hDH : H D = none := by
        cases z : H D with
        | none => rfl
        | some o => rw [B2 _ _ nDa (S1 _ _ z)] at hD; cases hD
      refine lc_range (lo := 0) (n := j + 1) (fun i H' => ∃ pk L : List Str, (pk ++ L).Perm tens ∧ pk.length = i ∧ H' p = some (.lst (L.map V.str)) ∧ H' D = some (.lst (pk.map V.str)) ∧ StAt H' a ∧ But a H H') ?_ ?_ ?_
      · refine ⟨[], tens, List.Perm.refl _, rfl, by rw [upd_ne (Ne.symm nDp)]; exact e2, upd_same, ?_, ?_⟩
        · obtain ⟨a1, a2, a3, a4, a5⟩ := st2
          exact ⟨a1, a2, a3, by rw [upd_ne (Ne.symm nDa)]; exact a4, a5⟩
        · intro c o hc ho
          rw [upd_ne (ne_of_none ho hDH)]
          exact B2 _ _ hc (S1 _ _ ho)
      · rintro i H3 hi ⟨pk, L, perm, hpk, eL, eD, st3, B3⟩
        have ln := perm.length_eq
        rw [List.length_append, hpk] at ln
        replace ln : i + L.length = 10 := ln
        refine ⟨rfl, _, rfl, .inl ⟨rfl, _, SqL.of eL⟩, _, rfl, _, rfl, p, _, rfl, .inl (SqL.of eL), a, _, rfl, st3, by rw [List.length_map]; omega, by rw [List.length_map]; omega, fun d2 H4 h02 h12 B4 st4 => ?_⟩
        obtain ⟨k2, rfl⟩ : ∃ k : Nat, d2 = (k : Int) := ⟨d2.toNat, by omega⟩
        rw [List.length_map] at h12
        have hk2 : k2 < L.length := by omega
        refine ⟨p, _, _, k2, .str L[k2], rfl, rfl, B4 _ _ npa eL, by omega, by omega, ?_, by rw [List.getElem?_map, List.getElem?_eq_getElem hk2]; rfl, pk.map V.str, ?_, ?_, ?_⟩
        · refine (ixN_seq ?_).1
          unfold ixN
          rw [List.length_map, if_pos (by omega), if_pos (by omega)]
          simp
        · rw [upd_ne nDp]
          exact B4 _ _ nDa eD
        · rw [List.length_map, sizeLine_eq]
          omega
        · refine ⟨pk ++ [L[k2]], L.eraseIdx k2, ?_, ?_, ?_, ?_, ?_, ?_⟩
          · refine List.Perm.trans ?_ perm
            rw [List.append_assoc]
            exact List.Perm.append_left _ (erase_perm L k2 hk2)
          · rw [List.length_append, hpk]
            rfl
          · rw [upd_ne (Ne.symm nDp), upd_same, map_eraseIdx']
          · rw [upd_same, List.map_append]
            rfl
          · obtain ⟨a1, a2, a3, a4, a5⟩ := st4
            exact ⟨a1, a2, a3, by rw [upd_ne (Ne.symm nDa), upd_ne (Ne.symm npa)]; exact a4, a5⟩
          · intro c o hc ho
            rw [upd_ne (ne_of_none ho hDH), upd_ne (ne_of_none ho hp)]
            exact B4 _ _ hc (B3 _ _ hc ho)
      · rintro H3 ⟨pk, L, perm, hpk, eL, eD, st3, B3⟩
        refine ⟨by show 2 ≤ 1000; decide, fun pt Ht hpt St et => ?_⟩
        have nd : (pk ++ L).Nodup := perm.nodup_iff.mpr (by decide +kernel)
        have ml := perm.length_eq
        rw [List.length_append, hpk] at ml
        replace ml : j + 1 + L.length = 10 := ml
        refine q _ (.listed (.lst (pk.map V.str))) Ht (.listed (List.nodup_append.mp nd).1 (fun t ht => tens_sub t (perm.mem_iff.mp (List.mem_append_left _ ht))) (fun z => by rw [z] at hpk; cases hpk) (by omega)) ⟨pt, .ref D, rfl, st3.ne hpt, et, ⟨D, rfl, St _ _ eD⟩, fun c e => by injection e with e; exact e ▸ nDa⟩ (B3.trans (But.of_same St)) (st3.same St)
    refine ⟨_, rfl, a, 2, rfl, by decide, by decide, st, fun z H1 hz B1 st1 => ?_⟩
    obtain ⟨f1, f2⟩ := flt_facts z hz
    refine ⟨_, rfl, _, rfl, fun D hD => ?_⟩
    have nDa : D ≠ a := st1.ne hD
    refine lc_str (x := "ab-.z") (LcP H1 D fun n => (fltN z n).map V.str) (LcP.start hD rfl) ?_ ?_
    · intro i c J hc pJ
      have hi : i < 5 := (Array.getElem?_eq_some_iff.mp hc).1
      have e := fltN_succ (z := z) hc
      refine ⟨rfl, _, rfl, _, rfl, c, z, rfl, rfl, _, rfl, ?_⟩
      refine ite2 (fun k => ?_) (fun k => ?_)
      · exact ⟨_, rfl, pJ.put (Same.refl _) (by show (fltN z (i + 1)).map _ = _; rw [e, if_pos k, List.map_append]; rfl) (by omega)⟩
      · exact pJ.pass (Same.refl _) (by show (fltN z (i + 1)).map _ = _; rw [e, if_neg k])
    · rintro J ⟨S1, _, eJ, _⟩
      have eJ' : J D = some (.lst ((fltN z 5).map V.str)) := eJ
      refine ⟨_, rfl, a, 3, rfl, st1.same S1, by decide, by decide, fun dd H2 h0 h1 B2 st2 => ?_⟩
      obtain ⟨i, rfl⟩ : ∃ i : Nat, dd = (i : Int) := ⟨dd.toNat, by omega⟩
      obtain ⟨e, he, me⟩ := pick (xs := fltN z 5) (i := i) (by omega)
      obtain ⟨g1, g2⟩ := f2 e me
      refine ⟨D, _, _, _, rfl, rfl, SqL.of (B2 _ _ nDa eJ'), atI_nat (j := i) (by rw [List.getElem?_map, he]; rfl), by show 3 ≤ 1000; decide, fun p H4 hp S4 e4 => ⟨_, rfl, a, 3, 3, rfl, by decide, by decide, by decide, by decide, st2.same S4, fun b l m H3 hl hm nb hb B3 st3 => ?_⟩⟩
      have np := st2.ne hp
      refine ⟨p, b, _, _, rfl, rfl, SqT.of (B3 _ _ np e4), SqT.of hb, (fun z => nomatch z), (by rw [sizeLine_eq]; show 3 + 2 ≤ 16777216; decide), (fun z => nomatch z), fun _ pz hpz => ?_⟩
      exact q _ (.ended (.str z) (.str e) (.int (l : Nat)) m) _ (.ended hz g1 g2 hl hm) ⟨pz, rfl, st3.ne hpz, upd_same⟩ (((((B1.trans (But.of_same S1)).trans B2).trans (But.of_same S4)).trans B3).trans (But.of_same (same_upd hpz))) (st3.same (same_upd hpz))

end
end L2.K06

set_option Elab.async false
set_option linter.all false
set_option maxRecDepth 100000
set_option maxHeartbeats 4000000
/-! The law's fields, marked or not. -/
namespace L2.K06
open PySem PySem.W PySem.Spec PySem.Calls PyProof.Rows L2.Jk
theorem StAt.at {H : Hp} {s : Addr} (h : StAt H s) : ∃ xs, H s = some (.lst xs) := by
  obtain ⟨x, y, z, e, _⟩ := h
  exact ⟨_, e⟩
theorem PDAt.same {s : Addr} {H H' : Hp} {v : V} (S : Same H H') : ∀ {d : PD}, PDAt s H v d → PDAt s H' v d
  | .word .., ⟨b, e, n, h⟩ => ⟨b, e, n, S _ _ h⟩
  | .number .., ⟨b, e, n, h⟩ => ⟨b, e, n, S _ _ h⟩
  | .fixed _, ⟨b, e, n, h⟩ => ⟨b, e, n, S _ _ h⟩
  | .listed _, ⟨b, u, e, n, h, l, k⟩ => ⟨b, u, e, n, S _ _ h, l.same S, k⟩
  | .ended .., ⟨b, e, n, h⟩ => ⟨b, e, n, S _ _ h⟩
theorem LXAt.but {s : Addr} {H H' : Hp} {v : V} (B : But s H H') (k : ∀ c, v = .ref c → c ≠ s) : ∀ {x : LX}, LXAt H v x → LXAt H' v x
  | .lst _, ⟨b, e, h⟩ => ⟨b, e, B _ _ (k _ e) h⟩
  | .tup _, ⟨b, e, h⟩ => ⟨b, e, by
      obtain ⟨o, c, d, g⟩ := h
      exact ⟨o, c, d, B _ _ (k _ e) g⟩⟩
  | .val _, e => e
theorem PDAt.but {s : Addr} {H H' : Hp} {v : V} (B : But s H H') : ∀ {d : PD}, PDAt s H v d → PDAt s H' v d
  | .word .., ⟨b, e, n, h⟩ => ⟨b, e, n, B _ _ n h⟩
  | .number .., ⟨b, e, n, h⟩ => ⟨b, e, n, B _ _ n h⟩
  | .fixed _, ⟨b, e, n, h⟩ => ⟨b, e, n, B _ _ n h⟩
  | .listed _, ⟨b, u, e, n, h, l, k⟩ => ⟨b, u, e, n, B _ _ n h, l.but B k, k⟩
  | .ended .., ⟨b, e, n, h⟩ => ⟨b, e, n, B _ _ n h⟩
theorem FIn.same {s : Addr} {H H' : Hp} {v : V} (S : Same H H') : ∀ {d : FD}, FIn s H v d → FIn s H' v d
  | .pl _, h => PDAt.same S h
  | .mk .., ⟨b, u, e, n, h, k⟩ => ⟨b, u, e, n, S _ _ h, k.same S⟩
theorem FIn.but {s : Addr} {H H' : Hp} {v : V} (B : But s H H') : ∀ {d : FD}, FIn s H v d → FIn s H' v d
  | .pl _, h => PDAt.but B h
  | .mk .., ⟨b, u, e, n, h, k⟩ => ⟨b, u, e, n, B _ _ n h, k.but B⟩
theorem FieldAt.but {K : Frag} {s : Addr} {H H' : Hp} {y : Addr} {xs : List V} (hs : H s = some (.lst xs)) (B : But s H H') : ∀ {d : PD}, FieldAt K H y d → FieldAt K H' y d
  | .word .., ⟨dx, h⟩ => ⟨dx, B _ _ (ne_of h hs (fun z => by cases z)) h⟩
  | .number .., ⟨dx, h⟩ => ⟨dx, B _ _ (ne_of h hs (fun z => by cases z)) h⟩
  | .fixed _, ⟨dx, h⟩ => ⟨dx, B _ _ (ne_of h hs (fun z => by cases z)) h⟩
  | .listed _, ⟨dx, t, h, ⟨o, c, d, g⟩⟩ => ⟨dx, t, B _ _ (ne_of h hs (fun z => by cases z)) h, o, c, d, B _ _ (ne_of g hs (fun z => by cases z)) g⟩
  | .ended .., ⟨dx, h⟩ => ⟨dx, B _ _ (ne_of h hs (fun z => by cases z)) h⟩
theorem FdAt.but {K : Frag} {s : Addr} {H H' : Hp} {y : Addr} (st : StAt H s) (B : But s H H') : ∀ {d : FD}, FdAt K H y d → FdAt K H' y d
  | .pl _, ⟨h, i⟩ => by
    obtain ⟨xs, hs⟩ := st.at
    exact ⟨h.but hs B, i⟩
  | .mk _ _ _, ⟨⟨dx, z, h, k⟩, i⟩ => by
    obtain ⟨xs, hs⟩ := st.at
    exact ⟨⟨dx, z, B _ _ (ne_of h hs (fun z => by cases z)) h, k.but hs B⟩, i⟩
def mks : List (Str × Str) := [("N", "m"), ("m", "N"), ("N", "/")]
/-- what is drawn, marked or not -/
inductive DrF : FD → Prop
  | pl {d : PD} : Dr d → DrF (.pl d)
  | mk {n m : Str} {d : PD} : (n, m) ∈ mks → Dr d → DrF (.mk (.str n) (.str m) d)
theorem mks_facts : ∀ q ∈ mks, isSignB (.str q.1) = true ∧ isSignB (.str q.2) = true ∧ q.1 ≠ q.2 ∧ q.1.length = 1 ∧ q.2.length = 1 := by decide +kernel
def marks : List Str := ["N", "m", "/"]
theorem mks_in : ∀ q ∈ mks, q.1 ∈ marks ∧ q.2 ∈ marks := by decide +kernel
theorem has_word : ∀ c ∈ marks, ∀ z ∈ letM 3, inB c z = false := by decide +kernel
theorem has_word2 : ∀ c ∈ marks, ∀ z ∈ letM 2, inB c z = false := by decide +kernel
theorem has_dig : ∀ c ∈ marks, inB c DG = false ∧ ∀ n ∈ List.range 400, inB c (dg (n : Nat)) = false := by decide +kernel
theorem has_tens : ∀ c ∈ marks, ∀ z ∈ texN, inB c z = false := by decide +kernel
theorem has_fives : ∀ c ∈ marks, ∀ e ∈ fives, c ≠ e := by decide +kernel
theorem Dr.has {c : Str} (hc : c ∈ marks) : ∀ {d : PD}, Dr d → d.has c = false
  | _, .word (z := z) (m := m) a b k => by
    show (inB c z && _) = false
    rw [has_word c hc z a]
    rfl
  | _, .number (l := l) (m := m) a k => by
    obtain ⟨h1, h2⟩ := has_dig c hc
    show (if _ then _ else _) = false
    split
    · exact h1
    · rename_i hh
      refine Bool.eq_false_iff.mpr fun q => ?_
      obtain ⟨i, hi, e⟩ := List.any_eq_true.mp q
      have hi := List.mem_range.mp hi
      rcases k with rfl | ⟨j, rfl, k1, k2⟩
      · exact hh rfl
      · have hi : i < ((j : Int) + 1 - (l : Int)).toNat := hi
        have e2 : (intV (.int (l : Nat)) + (i : Int)) = ((l + i : Nat) : Int) := by show (l : Int) + (i : Int) = _; omega
        rw [e2, h2 (l + i) (List.mem_range.mpr (by omega))] at e
        cases e
  | _, .fixed a b => (has_dig c hc).1
  | _, .listed (ts := ts) a b k e => by
    refine Bool.eq_false_iff.mpr fun q => ?_
    obtain ⟨v, hv, e2⟩ := List.any_eq_true.mp q
    obtain ⟨t, ht, rfl⟩ := List.mem_map.mp hv
    rw [show strV (.str t) = t from rfl, has_tens c hc t (b t ht)] at e2
    cases e2
  | _, .ended (z := z) (e := e) (l := l) (m := m) a b k f g => by
    show (decide (V.str c = .str e) || (inB c z && _)) = false
    rw [has_word2 c hc z a, decide_eq_false (fun q => has_fives c hc e b (by injection q))]
    rfl
theorem DrF.good : ∀ {d : FD}, DrF d → d.good
  | _, .pl h => h.good
  | _, .mk (n := n) (m := m) (d := d) hq h => by
    obtain ⟨g1, g2⟩ := h.good
    obtain ⟨f1, f2, f3, f4, f5⟩ := mks_facts _ hq
    obtain ⟨m1, m2⟩ := mks_in _ hq
    refine ⟨g1, g2, ⟨rfl, by show n.length ≤ 20; rw [f4]; decide⟩, ⟨rfl, by show m.length ≤ 20; rw [f5]; decide⟩, ?_⟩
    show (if (!isSignB (.str n)) = true then _ else if (!isSignB (.str m) || decide (V.str m = .str n)) = true then _ else _) = _
    rw [f1, f2, decide_eq_false (fun q => f3 (by injection q with q; exact q.symm))]
    show (if (d.has n || d.has m) = true then _ else _) = _
    rw [h.has m1, h.has m2]
    rfl
structure GF (P : Program) (w : World) (K : Frag) (mg : Str → Option Value) (base : Heap) : Prop extends GR0 P w K mg base where
  law_plain : FnAt P w K mg base CX0 3 "_law_plain" ["_law_s", "_law_way"] spPlain
def spField : Sp := fun vs H Q _ => ∃ a : Addr, vs = [.ref a] ∧ StAt H a ∧ ∀ v d H', DrF d → FIn a H' v d → But a H H' → StAt H' a → Q v H'
section
variable {P : Program} {w : World} {K : Frag} {mg : Str → Option Value} {base : Heap} {f : Addr} {fd : FuncData}

abbrev s_law_field : Stmt := top 35
theorem sc_law_field : FnScope ["_law_s", "_law_way"] ["_law_s"] (defScope s_law_field) := ⟨rfl, rfl, rfl, by decide +kernel, rfl, by decide +kernel, by decide +kernel⟩

theorem ok_law_field (F : FunD K "_law_field" "_law_field" (defArgs s_law_field) (defBody s_law_field) (defScope s_law_field) [] [] f fd) (G : GF P w K mg base) : FnOk P w K mg base CX0 4 f fd ["_law_s"] spField := by
  refine F.ok (CX := CX0) sc_law_field (fun vs H Q E h => ?_) (fun cdv A outer s H vs Q E hr h => ?_)
  · obtain ⟨a, rfl, _⟩ := h
    rfl
  · refine ⟨_, PSs.nox (pss_cons (ps_set (i := 1) sc_law_field.nd rfl (Or.inl rfl) (pe_fn G.law_digit (hr.mono (by decide)) pass0 (by rfl) (pa_cons (pv 0) (pa_cons pe_int pa_nil))))
    (pss_cons (ps_if (pt_cmpR op_lt (pv 1) pe_int (nomark _))
      (pss_one (ps_ret (pe_fn G.law_plain hr pass0 (by rfl) (pa_cons (pv 0) (pa_cons (pv 1) pa_nil)))))
      pss_nil)
    (pss_one (ps_ret (pe_op op_catT (pe_op op_catT (pe_tupS (pa_cons pe_str pa_nil)) (pe_ix ix_list (pe_lstS (pa_cons (pe_tupS (pa_cons pe_str (pa_cons pe_str pa_nil))) (pa_cons (pe_tupS (pa_cons pe_str (pa_cons pe_str pa_nil))) (pa_cons (pe_tupS (pa_cons pe_str (pa_cons pe_str pa_nil))) pa_nil)))) (pe_fn G.law_digit (hr.mono (by decide)) pass0 (by rfl) (pa_cons (pv 0) (pa_cons pe_int pa_nil))) (fun _ _ => rfl))) (pe_tupS (pa_cons (pe_fn G.law_plain hr pass0 (by rfl) (pa_cons (pv 0) (pa_cons (pe_fn G.law_digit (hr.mono (by decide)) pass0 (by rfl) (pa_cons (pv 0) (pa_cons pe_int pa_nil))) pa_nil))) pa_nil))))))), ?_⟩
    obtain ⟨a, rfl, st, q⟩ := h
    refine ⟨_, rfl, a, 6, rfl, st, by decide, by decide, fun dd H1 h0 h1 B1 st1 => ?_⟩
    obtain ⟨j, rfl⟩ : ∃ j : Nat, dd = (j : Int) := ⟨dd.toNat, by omega⟩
    refine ⟨_, rfl, _, _, rfl, rfl, _, rfl, ?_⟩
    refine ite2 (fun hlt => ?_) (fun hge => ?_)
    · exact ⟨_, rfl, _, rfl, a, j, rfl, st1, fun v d H' hd hp hB hst => q v (.pl d) H' (.pl hd) hp (B1.trans hB) hst⟩
    refine ⟨by show 1 ≤ 1000; decide, fun tm H2 hm S2 em => ?_⟩
    refine ⟨by show 2 ≤ 1000; decide, fun t1 H3 hp1 S3 e1 => ⟨by show 2 ≤ 1000; decide, fun t2 H4 hp2 S4 e2 => ⟨by show 2 ≤ 1000; decide, fun t3 H5 hp3 S5 e3 => ⟨by show 3 ≤ 1000; decide, fun L H6 hL S6 eL => ?_⟩⟩⟩⟩
    have st6 := (((((st1.same S2).same S3).same S4).same S5).same S6)
    refine ⟨_, rfl, a, 3, rfl, st6, by decide, by decide, fun d2 H7 h02 h12 B7 st7 => ?_⟩
    obtain ⟨i, rfl⟩ : ∃ i : Nat, d2 = (i : Int) := ⟨d2.toNat, by omega⟩
    have st2 := st1.same S2
    have st3 := st2.same S3
    have st4 := st3.same S4
    have st5 := st4.same S5
    have n1 : t1 ≠ a := st2.ne hp1
    have n2 : t2 ≠ a := st3.ne hp2
    have n3 : t3 ≠ a := st4.ne hp3
    have nL : L ≠ a := st5.ne hL
    have nm : tm ≠ a := st1.ne hm
    have ch : ∃ (r : Addr) (n m : Str), ([V.ref t1, V.ref t2, V.ref t3])[i]? = some (.ref r) ∧ H7 r = some (.tup [.str n, .str m]) ∧ (n, m) ∈ mks := by
      match i, h12 with
      | 0, _ => exact ⟨t1, "N", "m", rfl, B7 _ _ n1 (S6 _ _ (S5 _ _ (S4 _ _ e1))), by decide +kernel⟩
      | 1, _ => exact ⟨t2, "m", "N", rfl, B7 _ _ n2 (S6 _ _ (S5 _ _ e2)), by decide +kernel⟩
      | 2, _ => exact ⟨t3, "N", "/", rfl, B7 _ _ n3 (S6 _ _ e3), by decide +kernel⟩
      | k + 3, h => omega
    obtain ⟨r, n, m, hr1, hr2, hq⟩ := ch
    have eL7 := B7 _ _ nL eL
    have em7 := B7 _ _ nm (S6 _ _ (S5 _ _ (S4 _ _ (S3 _ _ em))))
    refine ⟨L, _, _, _, rfl, rfl, SqL.of eL7, atI_nat (j := i) hr1, ?_⟩
    refine ⟨tm, r, _, _, rfl, rfl, SqT.of em7, SqT.of hr2, (fun z => nomatch z), (by rw [sizeLine_eq]; show 1 + 2 ≤ 16777216; decide), (fun z => nomatch z), fun _ pz hpz => ?_⟩
    have S8 := same_upd (o := .tup ([V.str "marked"] ++ [V.str n, V.str m])) hpz
    have st8 := st7.same S8
    refine ⟨_, rfl, _, rfl, a, 5, rfl, st8, by decide, by decide, fun d3 H9 h03 h13 B9 st9 => ?_⟩
    obtain ⟨k, rfl⟩ : ∃ k : Nat, d3 = (k : Int) := ⟨d3.toNat, by omega⟩
    refine ⟨a, k, rfl, st9, fun v d H10 hd hp hB10 st10 => ⟨by show 1 ≤ 1000; decide, fun pv H11 hpv S11 e11 => ?_⟩⟩
    have npz : pz ≠ a := st7.ne hpz
    have ez : H11 pz = some (.tup [.str "marked", .str n, .str m]) := S11 _ _ (hB10 _ _ npz (B9 _ _ npz upd_same))
    refine ⟨pz, pv, _, _, rfl, rfl, SqT.of ez, SqT.of e11, (fun z => nomatch z), (by rw [sizeLine_eq]; show 3 + 1 ≤ 16777216; decide), (fun z => nomatch z), fun _ pw hpw => ?_⟩
    have st11 := st10.same S11
    have S12 := same_upd (o := .tup ([V.str "marked", V.str n, V.str m] ++ [v])) hpw
    refine q _ (.mk (.str n) (.str m) d) _ (.mk hq hd) ⟨pw, v, rfl, st11.ne hpw, upd_same, (hp.same S11).same S12⟩ ?_ (st11.same S12)
    exact ((((B1.trans (But.of_same (((((S2.trans S3).trans S4).trans S5).trans S6)))).trans B7).trans (But.of_same S8)).trans B9).trans (hB10.trans (But.of_same (S11.trans S12)))

end
end L2.K06

set_option Elab.async false
set_option linter.all false
set_option maxRecDepth 100000
set_option maxHeartbeats 4000000
/-! A field's values in their order: lists of pairs (value, text). -/
namespace L2.K06
open PySem PySem.W PySem.Spec PySem.Calls PyProof.Rows L2.Jk
/-! ### pairs in the heap -/
def TsAt (H : Hp) : List V → List (V × Str) → Prop
  | [], [] => True
  | r :: rs, q :: qs => (∃ a, r = .ref a ∧ H a = some (.tup [q.1, .str q.2])) ∧ TsAt H rs qs
  | _, _ => False
theorem TsAt.same {H H' : Hp} (S : Same H H') : ∀ {rs : List V} {qs : List (V × Str)}, TsAt H rs qs → TsAt H' rs qs
  | [], [], _ => trivial
  | _ :: _, _ :: _, ⟨⟨a, e, h⟩, t⟩ => ⟨⟨a, e, S _ _ h⟩, t.same S⟩
  | [], _ :: _, h => h
  | _ :: _, [], h => h
theorem TsAt.len {H : Hp} : ∀ {rs : List V} {qs : List (V × Str)}, TsAt H rs qs → rs.length = qs.length
  | [], [], _ => rfl
  | _ :: _, _ :: _, ⟨_, t⟩ => congrArg Nat.succ t.len
  | [], _ :: _, h => h.elim
  | _ :: _, [], h => h.elim
theorem TsAt.app {H : Hp} : ∀ {rs : List V} {qs : List (V × Str)} {rs2 : List V} {qs2 : List (V × Str)}, TsAt H rs qs → TsAt H rs2 qs2 → TsAt H (rs ++ rs2) (qs ++ qs2)
  | [], [], _, _, _, k => k
  | _ :: _, _ :: _, _, _, ⟨h, t⟩, k => ⟨h, t.app k⟩
  | [], _ :: _, _, _, h, _ => h.elim
  | _ :: _, [], _, _, h, _ => h.elim
theorem TsAt.one {H : Hp} {a : Addr} {q : V × Str} (h : H a = some (.tup [q.1, .str q.2])) : TsAt H [.ref a] [q] := ⟨⟨a, rfl, h⟩, trivial⟩
theorem TsAt.get {H : Hp} : ∀ {rs : List V} {qs : List (V × Str)} {i : Nat} {r : V}, TsAt H rs qs → rs[i]? = some r → ∃ a q, r = .ref a ∧ qs[i]? = some q ∧ H a = some (.tup [q.1, .str q.2])
  | _ :: _, q :: _, 0, _, ⟨⟨a, e, h⟩, _⟩, k => by
    cases k
    exact ⟨a, q, e, rfl, h⟩
  | _ :: _, _ :: _, i + 1, _, ⟨_, t⟩, k => t.get (i := i) k
  | [], [], _, _, _, k => by cases k
  | [], _ :: _, _, _, h, _ => h.elim
  | _ :: _, [], _, _, h, _ => h.elim
theorem TsAt.put {H : Hp} {D : Addr} {xs ys : List V} (hD : H D = some (.lst xs)) : ∀ {rs : List V} {qs : List (V × Str)}, TsAt H rs qs → TsAt (upd H D (.lst ys)) rs qs
  | [], [], _ => trivial
  | _ :: _, _ :: _, ⟨⟨a, e, h⟩, t⟩ => ⟨⟨a, e, by rw [upd_ne (ne_of h hD (fun z => by cases z))]; exact h⟩, t.put hD⟩
  | [], _ :: _, h => h
  | _ :: _, [], h => h
theorem TsAt.but {s : Addr} {H H' : Hp} {xs : List V} (hs : H s = some (.lst xs)) (B : But s H H') : ∀ {rs : List V} {qs : List (V × Str)}, TsAt H rs qs → TsAt H' rs qs
  | [], [], _ => trivial
  | _ :: _, _ :: _, ⟨⟨a, e, h⟩, t⟩ => ⟨⟨a, e, B _ _ (ne_of h hs (fun z => by cases z)) h⟩, t.but hs B⟩
  | [], _ :: _, h => h
  | _ :: _, [], h => h
def PrsAt (H : Hp) (p : Addr) (qs : List (V × Str)) : Prop := ∃ rs, H p = some (.lst rs) ∧ TsAt H rs qs
/-- a new list of pairs that a comprehension fills -/
def LcT (H1 : Hp) (D : Addr) (fm : Nat → List (V × Str)) (i : Nat) (H : Hp) : Prop := Same H1 H ∧ H1 D = none ∧ ∃ rs, H D = some (.lst rs) ∧ TsAt H rs (fm i) ∧ (fm i).length ≤ i
theorem LcT.start {H1 : Hp} {D : Addr} {fm : Nat → List (V × Str)} (h : H1 D = none) (e : fm 0 = []) : LcT H1 D fm 0 (upd H1 D (.lst [])) :=
  ⟨same_upd h, h, [], upd_same, by rw [e]; trivial, by rw [e]; exact Nat.le_refl _⟩
theorem LcT.put {H1 H H4 : Hp} {D a : Addr} {fm : Nat → List (V × Str)} {i : Nat} {v : V} {t : Str} (p : LcT H1 D fm i H) (s : Same H H4) (ha : H4 a = some (.tup [v, .str t])) (e : fm (i + 1) = fm i ++ [(v, t)]) (hi : i < 10000) :
    ∃ acc, H4 D = some (.lst acc) ∧ acc.length < sizeLine ∧ LcT H1 D fm (i + 1) (upd H4 D (.lst (acc ++ [.ref a]))) := by
  obtain ⟨s0, n, rs, d, k, l⟩ := p
  have d4 := s _ _ d
  refine ⟨rs, d4, by rw [k.len, sizeLine_eq]; omega, fun c o z => ?_, n, rs ++ [.ref a], upd_same, ?_, by rw [e, List.length_append]; exact Nat.succ_le_succ l⟩
  · rw [upd_ne (ne_of_none z n)]
    exact s _ _ (s0 _ _ z)
  · rw [e]
    exact ((k.same s).app (TsAt.one (q := (v, t)) ha)).put d4
theorem LcT.pass {H1 H H4 : Hp} {D : Addr} {fm : Nat → List (V × Str)} {i : Nat} (p : LcT H1 D fm i H) (s : Same H H4) (e : fm (i + 1) = fm i) : LcT H1 D fm (i + 1) H4 := by
  obtain ⟨s0, n, rs, d, k, l⟩ := p
  exact ⟨s0.trans s, n, rs, s _ _ d, by rw [e]; exact k.same s, by rw [e]; omega⟩
/-! ### the order of texts -/
theorem lt_tri : ∀ a b : List Nat, ltCps a b = true ∨ a = b ∨ ltCps b a = true
  | [], [] => .inr (.inl rfl)
  | [], _ :: _ => .inl rfl
  | _ :: _, [] => .inr (.inr rfl)
  | x :: xs, y :: ys => by
    show (decide (x < y) || (x == y && ltCps xs ys)) = true ∨ _ ∨ (decide (y < x) || (y == x && ltCps ys xs)) = true
    by_cases h : x < y
    · exact .inl (by rw [decide_eq_true h]; rfl)
    by_cases h2 : y < x
    · exact .inr (.inr (by rw [decide_eq_true h2]; rfl))
    have e : x = y := by omega
    subst e
    rw [decide_eq_false h, beq_self_eq_true]
    rcases lt_tri xs ys with k | k | k
    · exact .inl k
    · exact .inr (.inl (by rw [k]))
    · exact .inr (.inr k)
theorem lt_asym : ∀ a b : List Nat, ltCps a b = true → ltCps b a = false := fun a b h => by
  rw [ltCps_eq] at h ⊢
  exact decide_eq_false (List.lt_asymm (of_decide_eq_true h))
theorem lt_trans' (a b c : List Nat) (h : ltCps a b = true) (k : ltCps b c = true) : ltCps a c = true := by
  rw [ltCps_eq] at h k ⊢
  exact decide_eq_true (List.lt_trans (of_decide_eq_true h) (of_decide_eq_true k))
theorem lt_irr (a : List Nat) : ltCps a a = false := by
  rw [ltCps_eq]
  exact decide_eq_false (List.lt_irrefl a)
def ltS (a b : Str) : Bool := ltCps a.cps.toList b.cps.toList
theorem rising_pw : ∀ (ys : List Str) (p : Str), (p :: ys).Nodup → risingS p ys = true → (p :: ys).Pairwise fun a b => ltS a b = true
  | [], p, _, _ => List.pairwise_singleton _ _
  | y :: ys, p, nd, h => by
    obtain ⟨h1, h2⟩ := Bool.and_eq_true_iff.mp (show (!ltCps y.cps.toList p.cps.toList && risingS y ys) = true from h)
    obtain ⟨n1, n2⟩ := List.nodup_cons.mp nd
    have ih := rising_pw ys y n2 h2
    have py : ltS p y = true := by
      rcases lt_tri p.cps.toList y.cps.toList with k | k | k
      · exact k
      · have e : p = y := by
          obtain ⟨a⟩ := p
          obtain ⟨b⟩ := y
          have k : a.toList = b.toList := k
          rw [Array.toList_inj.mp k]
        exact absurd (e ▸ List.mem_cons_self ..) n1
      · rw [k] at h1
        cases h1
    refine List.pairwise_cons.mpr ⟨fun z hz => ?_, ih⟩
    rcases List.mem_cons.mp hz with rfl | hz
    · exact py
    · exact lt_trans' _ _ _ py ((List.pairwise_cons.mp ih).1 z hz)
theorem sorted_pw {ys : List Str} (nd : ys.Nodup) (h : sortedS ys = true) : ys.Pairwise fun a b => ltS a b = true := by
  cases ys with
  | nil => exact List.Pairwise.nil
  | cons y ys => exact rising_pw ys y nd h
/-! ### words -/
theorem lay_mem {z t : Str} {n : Nat} (h : t ∈ lay z (n + 1)) : ∃ a c, a ∈ lay z n ∧ c ∈ z.cps.toList ∧ t.cps.toList = a.cps.toList ++ [c] := by
  obtain ⟨a, ha, hb⟩ := List.mem_flatMap.mp h
  obtain ⟨s, hs, rfl⟩ := List.mem_map.mp hb
  obtain ⟨c, hc, rfl⟩ := List.mem_map.mp hs
  exact ⟨a, c, ha, hc, by show (a.cps ++ #[c]).toList = _; simp⟩
theorem lay_len {z : Str} : ∀ {n : Nat} {t : Str}, t ∈ lay z n → t.length = n
  | 0, t, h => by
    cases List.mem_singleton.mp h
    rfl
  | n + 1, t, h => by
    obtain ⟨a, c, ha, _, e⟩ := lay_mem h
    have k := lay_len ha
    have k : a.cps.size = n := k
    have e2 := congrArg List.length e
    rw [List.length_append, Array.length_toList, Array.length_toList, k] at e2
    exact e2
theorem lay_chars {z : Str} : ∀ {n : Nat} {t : Str}, t ∈ lay z n → ∀ c ∈ t.cps.toList, c ∈ z.cps.toList
  | 0, t, h, c, hc => by
    cases List.mem_singleton.mp h
    cases hc
  | n + 1, t, h, c, hc => by
    obtain ⟨a, c2, ha, h2, e⟩ := lay_mem h
    rw [e] at hc
    rcases List.mem_append.mp hc with hc | hc
    · exact lay_chars ha c hc
    · cases List.mem_singleton.mp hc
      exact h2
theorem snoc_inj {a b : Str} {c d : Nat} (h : a ++ (⟨#[c]⟩ : Str) = b ++ ⟨#[d]⟩) : a = b ∧ c = d := by
  have e : (a.cps ++ #[c]).toList = (b.cps ++ #[d]).toList := congrArg (fun s : Str => s.cps.toList) h
  rw [Array.toList_append, Array.toList_append] at e
  obtain ⟨e1, e2⟩ := List.append_inj' e rfl
  obtain ⟨x⟩ := a
  obtain ⟨y⟩ := b
  have e1 : x.toList = y.toList := e1
  cases e2
  exact ⟨by rw [Array.toList_inj.mp e1], rfl⟩
theorem lay_nodup {z : Str} (h : z.cps.toList.Nodup) : ∀ n, (lay z n).Nodup
  | 0 => List.pairwise_singleton _ _
  | n + 1 => by
    refine List.pairwise_flatMap.mpr ⟨fun a _ => List.pairwise_map.mpr (List.pairwise_map.mpr (h.imp fun {c d} k e => k (snoc_inj e).2)), (lay_nodup h n).imp fun {a b} k x hx y hy e => ?_⟩
    obtain ⟨s, hs, rfl⟩ := List.mem_map.mp hx
    obtain ⟨c, hc, rfl⟩ := List.mem_map.mp hs
    obtain ⟨s2, hs2, rfl⟩ := List.mem_map.mp hy
    obtain ⟨d, hd, rfl⟩ := List.mem_map.mp hs2
    exact k (snoc_inj e).1
theorem lay_length (z : Str) : ∀ n, (lay z n).length = z.cps.size ^ n
  | 0 => rfl
  | n + 1 => by
    show ((lay z n).flatMap fun t => (sgT z).map fun s => t ++ s).length = _
    rw [List.length_flatMap]
    have h1 : ((lay z n).map fun t => ((sgT z).map fun s => t ++ s).length).sum = (lay z n).length * (sgT z).length := by simp [List.map_const']
    have h2 : (sgT z).length = z.cps.size := by unfold sgT; rw [List.length_map, Array.length_toList]
    rw [h1, h2, lay_length z n, Nat.pow_succ]
theorem let_nodup : ∀ z ∈ letM 3, z.cps.toList.Nodup := by decide +kernel
theorem lay_size {z : Str} (hz : z ∈ letM 3) : (allS z 0 4).length < 64 ∧ ∀ i, i ≤ 4 → (lay z i).length ≤ 100 ∧ ∀ t ∈ lay z i, t.length ≤ 10 := by
  have s3 := (let_good z hz).2.2.1
  have p : ∀ i, (lay z i).length ≤ 3 ^ i := fun i => by rw [lay_length]; exact Nat.pow_le_pow_left s3 i
  refine ⟨?_, fun i hi => ⟨Nat.le_trans (p i) (Nat.le_trans (Nat.pow_le_pow_right (by decide) hi) (by decide)), fun t ht => by rw [lay_len ht]; omega⟩⟩
  have q0 : (lay z 0).length ≤ 1 := p 0
  have q1 : (lay z 1).length ≤ 3 := p 1
  have q2 : (lay z 2).length ≤ 9 := p 2
  have q3 : (lay z 3).length ≤ 27 := p 3
  rw [allS_succ, allS_succ, allS_succ, allS_succ, if_pos (Nat.zero_le _), if_pos (Nat.zero_le _), if_pos (Nat.zero_le _), if_pos (Nat.zero_le _)]
  simp only [List.length_append]
  have : (allS z 0 0).length = 0 := rfl
  omega
theorem let_23 : ∀ z ∈ letM 2, z ∈ letM 3 := by
  intro z hz
  obtain ⟨q, hq, e⟩ := List.mem_map.mp hz
  obtain ⟨k, hk, h⟩ := List.mem_flatMap.mp hq
  exact List.mem_map.mpr ⟨q, List.mem_flatMap.mpr ⟨k, List.mem_range.mpr (by have := List.mem_range.mp hk; omega), h⟩, e⟩
theorem nodup_of_map {α β : Type} {f : α → β} {xs : List α} (h : (xs.map f).Nodup) : xs.Nodup := (List.pairwise_map.mp h).imp fun k e => k (by rw [e])
theorem allS_sub0 (z : Str) (l : Nat) : ∀ n, (allS z l n).Sublist (allS z 0 n)
  | 0 => List.Sublist.refl _
  | n + 1 => by
    rw [allS_succ, allS_succ]
    refine (allS_sub0 z l n).append ?_
    rw [if_pos (Nat.zero_le n)]
    split
    · exact List.Sublist.refl _
    · exact List.nil_sublist _
theorem allS_sub1 (z : Str) (l n : Nat) : ∀ d, (allS z l n).Sublist (allS z l (n + d))
  | 0 => List.Sublist.refl _
  | d + 1 => (allS_sub1 z l n d).trans (by rw [← Nat.add_assoc, allS_succ]; exact List.sublist_append_left _ _)
theorem allS_sub (z : Str) (l : Nat) {n : Nat} (h : n ≤ 4) : (allS z l n).Sublist (allS z 0 4) := by
  have e : n + (4 - n) = 4 := by omega
  have k := (allS_sub0 z l n).trans (allS_sub1 z 0 n (4 - n))
  rwa [e] at k
theorem mem_allS {z t : Str} {l n : Nat} (h : t ∈ allS z l n) : ∃ i, i < n ∧ l ≤ i ∧ t ∈ lay z i := by
  obtain ⟨i, hi, k⟩ := List.mem_flatMap.mp h
  by_cases g : l ≤ i
  · rw [if_pos g] at k
    exact ⟨i, List.mem_range.mp hi, g, k⟩
  · rw [if_neg g] at k
    cases k
theorem allS_nodup0 {z : Str} (h : z.cps.toList.Nodup) (l : Nat) : ∀ n, (allS z l n).Nodup
  | 0 => List.Pairwise.nil
  | n + 1 => by
    rw [allS_succ]
    split
    · refine List.nodup_append.mpr ⟨allS_nodup0 h l n, lay_nodup h n, fun a ha b hb e => ?_⟩
      obtain ⟨i, hi, _, k⟩ := mem_allS ha
      have k1 := lay_len k
      rw [e, lay_len hb] at k1
      omega
    · rw [List.append_nil]
      exact allS_nodup0 h l n
theorem allS_nodup {z : Str} (hz : z ∈ letM 3) (l : Nat) {n : Nat} (_ : n ≤ 4) : (allS z l n).Nodup := allS_nodup0 (let_nodup z hz) l n
/-- the greatest length that is asked for -/
def highOf (k : Nat) : V → Nat
  | .int j => min k j.toNat
  | _ => k
theorem strs_small {z : Str} (hz : z ∈ letM 3) {ys : List Str} {l n : Nat} (h : n ≤ 4) (p : ys.Perm (allS z l n)) : ys.length ≤ 1000 := by
  rw [p.length_eq]
  exact Nat.le_trans (allS_sub z l h).length_le (Nat.le_trans (Nat.le_of_lt (lay_size hz).1) (by decide))
theorem high_le (k : Nat) (m : V) : highOf k m ≤ k := by
  cases m with
  | int j => exact Nat.min_le_left _ _
  | _ => exact Nat.le_refl _
/-! ### numbers -/
/-! ### listed texts -/
/-! ### marked ones -/
theorem word_has {z t : Str} {l k : Nat} {m : V} {r : Nat} (_ : z ∈ letM 3) (_ : BdOk l m r) (hk : k ≤ 3) (h : t ∈ allS z l (highOf k m + 1)) : True ∧ t.length ≤ 3 := by
  obtain ⟨i, hi, _, ht⟩ := mem_allS h
  have := lay_len ht
  have := high_le k m
  exact ⟨trivial, by omega⟩
end L2.K06

set_option Elab.async false
set_option linter.all false
set_option maxRecDepth 100000
set_option maxHeartbeats 4000000
/-! The law's pairs of a field. -/
namespace L2.K06
open PySem PySem.W PySem.Spec PySem.Calls PyProof.Rows L2.Jk
section
variable {X : Cx} {K : Frag}
theorem pg_tupK {es : List Expr} {k : Nat} {t : TGs} {n : Nat} {pos : Pos} (hK : X.K = K) (hc : X.calm = true) (h : PGs X es t)
    (hn : (assignEach es X.env).length = n := by rfl) (hst : (assignEach es X.env).findIdx? (·.1) = none := by rfl) : PG X (.Tuple es k pos) (gTup K n t) := by
  subst hK
  exact pg_tup hc h hn hst
theorem ix_tupK (h : X.K = K) : IxR X (rIxT K) := by
  subst h
  exact ix_tup
end
structure GQ (P : Program) (w : World) (K : Frag) (mg : Str → Option Value) (base : Heap) : Prop extends GS P w K mg base where
  law_strings : FnAt P w K mg base CX0 1 "_law_strings" ["_law_signs", "_law_least", "_law_most"] spStrs
  min : mg "min" = none
theorem take_map {α : Type} {xs : List α} {f : α → V × Str} {i : Nat} {x : α} (h : xs[i]? = some x) : (xs.take (i + 1)).map f = (xs.take i).map f ++ [f x] := by
  rw [List.take_add_one, h, List.map_append]
  rfl
theorem range_map {f : Nat → V × Str} (n : Nat) : (List.range (n + 1)).map f = (List.range n).map f ++ [f n] := by
  rw [List.range_succ, List.map_append]
  rfl
theorem map_get {α : Type} {xs : List α} {f : α → V} {i : Nat} {x : V} (h : (xs.map f)[i]? = some x) : ∃ t, xs[i]? = some t ∧ x = f t := by
  rw [List.getElem?_map] at h
  obtain ⟨t, h1, h2⟩ := Option.map_eq_some_iff.mp h
  exact ⟨t, h1, h2.symm⟩
theorem num_len : ∀ n ∈ List.range 1001, ((toString ((n : Nat) : Int) : Str)).length ≤ 20 := by decide +kernel
theorem num_log {i : Int} (h0 : 0 ≤ i) (h1 : i ≤ 1000) : i.natAbs.log2 < 1920 := by
  have h : i.natAbs < 2 ^ 11 := by omega
  by_cases h0 : i.natAbs = 0
  · rw [h0]
    decide
  · have := (Nat.log2_lt h0).mpr h
    omega
/-- ('00000' + str(i))[0 - w:] -/
def fixS (w : Nat) (i : Nat) : Str := cutS (("00000" : Str) ++ (toString ((0 : Int) + (i : Int)) : Str)) (some ((0 : Int) - (w : Int))) none
theorem fix_len : ∀ w ∈ [1, 2, 3], ∀ i ∈ List.range 1000, (fixS w i).length ≤ 20 ∧ (("00000" : Str) ++ (toString ((0 : Int) + (i : Int)) : Str)).length ≤ 30 ∧ (toString ((0 : Int) + (i : Int)) : Str).length ≤ 20 := by decide +kernel
theorem append_len (a b : Str) : (a ++ b).length = a.length + b.length := by
  show (a.cps ++ b.cps).size = _
  rw [Array.size_append]
  rfl
theorem nines : ∀ k ∈ [2, 3], PySem.intText? (repS "9" (k : Nat)) = some ((10 ^ k : Nat) - 1 : Int) ∧ (repS "9" (k : Nat)).length ≤ 640 ∧ repOk "9" (k : Nat) = true := by decide +kernel
theorem tens_tx : ∀ w ∈ [1, 2, 3], PySem.intText? (("1" : Str) ++ repS "0" (w : Nat)) = some ((10 ^ w : Nat) : Int) ∧ (("1" : Str) ++ repS "0" (w : Nat)).length ≤ 640 ∧ repOk "0" (w : Nat) = true ∧ ("1" : Str).length + (repS "0" (w : Nat)).length ≤ 640 := by decide +kernel
theorem word_args {z : Str} (hz : z ∈ letM 3) (l : Nat) {m : Nat} (hm : m ≤ 3) : z.cps.size ≤ 3 ∧ m ≤ 3 ∧ (allS z l (m + 1)).length < 64 ∧ ∀ i, i ≤ 4 → (lay z i).length ≤ 100 ∧ ∀ t ∈ lay z i, t.length ≤ 10 := by
  obtain ⟨s1, s2⟩ := lay_size hz
  refine ⟨(let_good z hz).2.2.1, hm, Nat.lt_of_le_of_lt (allS_sub z l (by omega)).length_le s1, s2⟩
/-- how long texts are looked at -/
def PD.mo : PD → Nat
  | .listed _ => 12
  | _ => 3
def FD.mo : FD → Nat
  | .pl d => d.mo
  | .mk _ _ d => d.mo + 1
/-- the law's pairs of a field -/
inductive PrP : PD → List (V × Str) → Prop
  | word {z : Str} {l : Nat} {m : V} {ys : List Str} : z ∈ letM 3 → BdOk l m 3 → ys.Perm (allS z l (highOf 3 m + 1)) → sortedS ys = true → PrP (.word (.str z) (.int (l : Nat)) m) (ys.map fun t => (V.str t, t))
  | ended {z e : Str} {l : Nat} {m : V} {ys : List Str} : z ∈ letM 2 → e ∈ fives → inB e z = false → BdOk l m 3 → ys.Perm (allS z l (highOf 2 m + 1)) → sortedS ys = true → PrP (.ended (.str z) (.str e) (.int (l : Nat)) m) (ys.map fun t => (V.str t, t ++ e))
  | number {l h : Nat} {m : V} : l < 15 → BdOk l m 120 → (m = .non → h = 1000) → (∀ j : Nat, m = .int (j : Nat) → h = min (j + 1) 1000) → PrP (.number (.int (l : Nat)) m) ((List.range (h - l)).map fun i : Nat => (V.int ((l : Int) + (i : Int)), (toString ((l : Int) + (i : Int)) : Str)))
  | fixed {w : Nat} : 1 ≤ w → w ≤ 3 → PrP (.fixed (.int (w : Nat))) ((List.range (10 ^ w)).map fun i : Nat => (V.int ((0 : Int) + (i : Int)), fixS w i))
  | listed {ts : List Str} : ts.Nodup → (∀ t ∈ ts, t ∈ texN) → PrP (.listed (.lst (ts.map V.str))) ((ts.filter fun t => decide ((t.length : Int) ≤ ((12 : Nat) : Int))).map fun t => (V.str t, t))
inductive PrIs : FD → List (V × Str) → Prop
  | pl {d : PD} {qs : List (V × Str)} : PrP d qs → PrIs (.pl d) qs
  | mk {n m : Str} {d : PD} {qs : List (V × Str)} : (n, m) ∈ mks → PrP d qs → PrIs (.mk (.str n) (.str m) d) ((V.non, n) :: qs.map fun q => (q.1, m ++ q.2))
def spPairs (n : Nat) : Sp := fun vs H Q _ => ∃ (s0 : Addr) (v : V) (d : FD), vs = [v, .int (d.mo : Nat)] ∧ FIn s0 H v d ∧ DrF d ∧ d.dep < n ∧ ∀ p qs H', PrIs d qs → PrsAt H' p qs → Same H H' → Q (.ref p) H'
theorem PrP.small {d : PD} {qs : List (V × Str)} (hd : Dr d) (h : PrP d qs) : qs.length ≤ 1000 ∧ ∀ q ∈ qs, q.2.length ≤ 20 := by
  cases h with
  | @word z l m ys hz hm p s =>
    refine ⟨by rw [List.length_map]; exact strs_small hz (by have := high_le 3 m; omega) p, fun q hq => ?_⟩
    obtain ⟨t, ht, rfl⟩ := List.mem_map.mp hq
    have := (word_has (l := l) (m := m) (r := 3) hz hm (k := 3) (by decide) (p.mem_iff.mp ht)).2
    show t.length ≤ 20
    omega
  | @ended z e l m ys hz he _ hm p s =>
    refine ⟨by rw [List.length_map]; exact strs_small (let_23 z hz) (by have := high_le 2 m; omega) p, fun q hq => ?_⟩
    obtain ⟨t, ht, rfl⟩ := List.mem_map.mp hq
    have := (word_has (l := l) (m := m) (r := 3) (let_23 z hz) hm (k := 2) (by decide) (p.mem_iff.mp ht)).2
    have k : ∀ e ∈ fives, e.length ≤ 1 := by decide +kernel
    have := k e he
    show (t ++ e).length ≤ 20
    rw [append_len]
    omega
  | @number l h m hl hm h1 h2 =>
    have hh : h ≤ 1000 := by
      rcases hm with rfl | ⟨j, rfl, _, _⟩
      · rw [h1 rfl]; exact Nat.le_refl _
      · have := h2 j rfl; omega
    refine ⟨by rw [List.length_map, List.length_range]; omega, fun q hq => ?_⟩
    obtain ⟨i, hi, rfl⟩ := List.mem_map.mp hq
    have := List.mem_range.mp hi
    show (toString ((l : Int) + (i : Int)) : Str).length ≤ 20
    rw [show (l : Int) + (i : Int) = ((l + i : Nat) : Int) by omega]
    exact num_len (l + i) (List.mem_range.mpr (by omega))
  | @fixed w h1 h2 =>
    refine ⟨?_, fun q hq => ?_⟩
    · rw [List.length_map, List.length_range]
      obtain rfl | rfl | rfl : w = 1 ∨ w = 2 ∨ w = 3 := by omega
      all_goals decide
    obtain ⟨i, hi, rfl⟩ := List.mem_map.mp hq
    have hi := List.mem_range.mp hi
    obtain rfl | rfl | rfl : w = 1 ∨ w = 2 ∨ w = 3 := by omega
    · exact (fix_len 1 (by decide) i (List.mem_range.mpr (Nat.lt_of_lt_of_le hi (by decide)))).1
    · exact (fix_len 2 (by decide) i (List.mem_range.mpr (Nat.lt_of_lt_of_le hi (by decide)))).1
    · exact (fix_len 3 (by decide) i (List.mem_range.mpr (Nat.lt_of_lt_of_le hi (by decide)))).1
  | @listed ts a b =>
    refine ⟨?_, fun q hq => ?_⟩
    · rw [List.length_map]
      refine Nat.le_trans (List.length_filter_le _ _) ?_
      generalize ex : (LX.lst (ts.map V.str)) = X at hd
      cases hd with
      | @listed ts2 _ _ _ hl2 =>
        injection ex with ex
        have := congrArg List.length ex
        rw [List.length_map, List.length_map] at this
        omega
    · obtain ⟨t, ht, rfl⟩ := List.mem_map.mp hq
      have := (tens_are t (b t (List.mem_filter.mp ht).1)).2
      show t.length ≤ 20
      omega
section
variable {P : Program} {w : World} {K : Frag} {mg : Str → Option Value} {base : Heap} {f : Addr} {fd : FuncData}

abbrev s_law_pairs : Stmt := top 38
theorem sc_law_pairs : FnScope ["_law_one", "_law_most", "_law_high", "_law_text", "_law_value", "_law_inner"] ["_law_one", "_law_most"] (defScope s_law_pairs) := ⟨rfl, rfl, rfl, by decide +kernel, rfl, by decide +kernel, by decide +kernel⟩

theorem ok_law_pairs (F : FunD K "_law_pairs" "_law_pairs" (defArgs s_law_pairs) (defBody s_law_pairs) (defScope s_law_pairs) [] [] f fd) (G : GQ P w K mg base) {n : Nat} (AM : FnAt P w K mg base CX0 (n + 1) "_law_pairs" ["_law_one", "_law_most"] (spPairs n)) : FnOk P w K mg base CX0 (n + 1 + 1) f fd ["_law_one", "_law_most"] (spPairs (n + 1)) := by
  refine F.ok (CX := CX0) sc_law_pairs (fun vs H Q E h => ?_) (fun cdv A outer s H vs Q E hr h => ?_)
  · obtain ⟨s0, v, d, rfl, _⟩ := h
    rfl
  · refine ⟨_, PSs.nox (pss_cons (ps_if (pt_cmpR op_eq (pe_ix (ix_tupK (K := K) rfl) (pv 0) pe_int (fun _ _ => rfl)) pe_str (nomark _))
      (pss_cons (ps_set (i := 2) sc_law_pairs.nd rfl (Or.inl rfl) (pe_ifExp (pt_cmpR op_isN (pe_ix (ix_tupK (K := K) rfl) (pv 0) pe_int (fun _ _ => rfl)) pe_non (nomark _)) (pv 1) (pe_callB (call_min2 rfl) (by rfl) G.min (by decide +kernel) (pa_cons (pv 1) (pa_cons (pe_ix (ix_tupK (K := K) rfl) (pv 0) pe_int (fun _ _ => rfl)) pa_nil)))))
      (pss_one (ps_ret (pe_lc (own := [("_law_text", 3)]) (g := gName 3) (tt := tYes) rfl sc_law_pairs.nd (pi_list (pe_fn G.law_strings (hr.mono (by omega)) pass0 (by rfl) (pa_cons (pe_ix (ix_tupK (K := K) rfl) (pv 0) pe_int (fun _ _ => rfl)) (pa_cons (pe_ix (ix_tupK (K := K) rfl) (pv 0) pe_int (fun _ _ => rfl)) (pa_cons (pv 2) pa_nil))))) (blkOk_by (N := ["_law_one", "_law_most", "_law_high", "_law_text", "_law_value", "_law_inner"]) (sc := defScope s_law_pairs) (by decide +kernel)) (fun _ _ _ _ _ => pg_name (i := 3) sc_law_pairs.nd rfl (Or.inl rfl)) (fun _ _ _ _ _ => pts_nil) (fun _ _ _ _ _ => (pe_tupS (pa_cons (pv 3) (pa_cons (pv 3) pa_nil))))))))
      pss_nil)
    (pss_cons (ps_if (pt_cmpR op_eq (pe_ix (ix_tupK (K := K) rfl) (pv 0) pe_int (fun _ _ => rfl)) pe_str (nomark _))
      (pss_cons (ps_set (i := 2) sc_law_pairs.nd rfl (Or.inl rfl) (pe_ifExp (pt_cmpR op_isN (pe_ix (ix_tupK (K := K) rfl) (pv 0) pe_int (fun _ _ => rfl)) pe_non (nomark _)) (pe_op op_sub (pv 1) pe_int) (pe_callB (call_min2 rfl) (by rfl) G.min (by decide +kernel) (pa_cons (pe_op op_sub (pv 1) pe_int) (pa_cons (pe_ix (ix_tupK (K := K) rfl) (pv 0) pe_int (fun _ _ => rfl)) pa_nil)))))
      (pss_one (ps_ret (pe_lc (own := [("_law_text", 3)]) (g := gName 3) (tt := tYes) rfl sc_law_pairs.nd (pi_list (pe_fn G.law_strings (hr.mono (by omega)) pass0 (by rfl) (pa_cons (pe_ix (ix_tupK (K := K) rfl) (pv 0) pe_int (fun _ _ => rfl)) (pa_cons (pe_ix (ix_tupK (K := K) rfl) (pv 0) pe_int (fun _ _ => rfl)) (pa_cons (pv 2) pa_nil))))) (blkOk_by (N := ["_law_one", "_law_most", "_law_high", "_law_text", "_law_value", "_law_inner"]) (sc := defScope s_law_pairs) (by decide +kernel)) (fun _ _ _ _ _ => pg_name (i := 3) sc_law_pairs.nd rfl (Or.inl rfl)) (fun _ _ _ _ _ => pts_nil) (fun _ _ _ _ _ => (pe_tupS (pa_cons (pv 3) (pa_cons (pe_op op_add_str (pv 3) (pe_ix (ix_tupK (K := K) rfl) (pv 0) pe_int (fun _ _ => rfl))) pa_nil))))))))
      pss_nil)
    (pss_cons (ps_if (pt_cmpR op_eq (pe_ix (ix_tupK (K := K) rfl) (pv 0) pe_int (fun _ _ => rfl)) pe_str (nomark _))
      (pss_cons (ps_set (i := 2) sc_law_pairs.nd rfl (Or.inl rfl) (pe_ifExp (pt_cmpR op_isN (pe_ix (ix_tupK (K := K) rfl) (pv 0) pe_int (fun _ _ => rfl)) pe_non (nomark _)) (pe_callTy call_int_str (by rfl) G.int (by decide +kernel) (pa_cons (pe_op op_mulStr pe_str (pv 1)) pa_nil)) (pe_callB (call_min2 rfl) (by rfl) G.min (by decide +kernel) (pa_cons (pe_callTy call_int_str (by rfl) G.int (by decide +kernel) (pa_cons (pe_op op_mulStr pe_str (pv 1)) pa_nil)) (pa_cons (pe_ix (ix_tupK (K := K) rfl) (pv 0) pe_int (fun _ _ => rfl)) pa_nil)))))
      (pss_one (ps_ret (pe_lc (own := [("_law_value", 4)]) (g := gName 4) (tt := tYes) rfl sc_law_pairs.nd (pi_range2 (by rfl) G.range (pa_cons (pe_ix (ix_tupK (K := K) rfl) (pv 0) pe_int (fun _ _ => rfl)) (pa_cons (pe_op op_add (pv 2) pe_int) pa_nil))) (blkOk_by (N := ["_law_one", "_law_most", "_law_high", "_law_text", "_law_value", "_law_inner"]) (sc := defScope s_law_pairs) (by decide +kernel)) (fun _ _ _ _ _ => pg_name (i := 4) sc_law_pairs.nd rfl (Or.inl rfl)) (fun _ _ _ _ _ => pts_nil) (fun _ _ _ _ _ => (pe_tupS (pa_cons (pv 4) (pa_cons (pe_callTy call_str_int (by rfl) G.str (by decide +kernel) (pa_cons (pv 4) pa_nil)) pa_nil))))))))
      pss_nil)
    (pss_cons (ps_if (pt_cmpR op_eq (pe_ix (ix_tupK (K := K) rfl) (pv 0) pe_int (fun _ _ => rfl)) pe_str (nomark _))
      (pss_cons (ps_if (pt_cmpR op_gt (pe_ix (ix_tupK (K := K) rfl) (pv 0) pe_int (fun _ _ => rfl)) (pv 1) (nomark _))
        (pss_one (ps_ret (pe_lstS pa_nil)))
        pss_nil)
      (pss_one (ps_ret (pe_lc (own := [("_law_value", 4)]) (g := gName 4) (tt := tYes) rfl sc_law_pairs.nd (pi_range1 (by rfl) G.range (pa_cons (pe_callTy call_int_str (by rfl) G.int (by decide +kernel) (pa_cons (pe_op op_add_str pe_str (pe_op op_mulStr pe_str (pe_ix (ix_tupK (K := K) rfl) (pv 0) pe_int (fun _ _ => rfl)))) pa_nil)) pa_nil)) (blkOk_by (N := ["_law_one", "_law_most", "_law_high", "_law_text", "_law_value", "_law_inner"]) (sc := defScope s_law_pairs) (by decide +kernel)) (fun _ _ _ _ _ => pg_name (i := 4) sc_law_pairs.nd rfl (Or.inl rfl)) (fun _ _ _ _ _ => pts_nil) (fun _ _ _ _ _ => (pe_tupS (pa_cons (pv 4) (pa_cons (pe_slice sl_str (pe_op op_add_str pe_str (pe_callTy call_str_int (by rfl) G.str (by decide +kernel) (pa_cons (pv 4) pa_nil))) (po_some (pe_op op_sub pe_int (pe_ix (ix_tupK (K := K) rfl) (pv 0) pe_int (fun _ _ => rfl)))) po_none) pa_nil))))))))
      pss_nil)
    (pss_cons (ps_if (pt_cmpR op_eq (pe_ix (ix_tupK (K := K) rfl) (pv 0) pe_int (fun _ _ => rfl)) pe_str (nomark _))
      (pss_one (ps_ret (pe_lc (own := [("_law_text", 3)]) (g := gName 3) (tt := _) rfl sc_law_pairs.nd (pi_list (pe_ix (ix_tupK (K := K) rfl) (pv 0) pe_int (fun _ _ => rfl))) (blkOk_by (N := ["_law_one", "_law_most", "_law_high", "_law_text", "_law_value", "_law_inner"]) (sc := defScope s_law_pairs) (by decide +kernel)) (fun _ _ _ _ _ => pg_name (i := 3) sc_law_pairs.nd rfl (Or.inl rfl)) (fun _ _ _ _ _ => pts_one (pt_cmpR op_le (pe_callB call_len_str (by rfl) G.len (by decide +kernel) (pa_cons (pv 3) pa_nil)) (pv 1) (nomark _))) (fun _ _ _ _ _ => (pe_tupS (pa_cons (pv 3) (pa_cons (pv 3) pa_nil)))))))
      pss_nil)
    (pss_cons (ps_setLc (i := 5) (own := [("_law_value", 4), ("_law_text", 3)]) (g := _) (tt := tYes) (by rfl) sc_law_pairs.nd rfl rfl (sw_true rfl rfl rfl (by decide +kernel)) (pi_list (pe_fn AM hr pass0 (by rfl) (pa_cons (pe_ix (ix_tupK (K := K) rfl) (pv 0) pe_int (fun _ _ => rfl)) (pa_cons (pe_op op_sub (pv 1) pe_int) pa_nil)))) (blkOk_by (N := ["_law_one", "_law_most", "_law_high", "_law_text", "_law_value", "_law_inner"]) (sc := defScope s_law_pairs) (by decide +kernel)) (fun _ _ _ _ _ => pg_tupK (n := 2) (K := K) rfl rfl (pgs_cons (pg_name (i := 4) sc_law_pairs.nd rfl (Or.inl rfl)) (pgs_cons (pg_name (i := 3) sc_law_pairs.nd rfl (Or.inl rfl)) pgs_nil))) (fun _ _ _ _ _ => pts_nil) (fun _ _ _ _ _ => (pe_tupS (pa_cons (pv 4) (pa_cons (pe_op op_add_str (pe_ix (ix_tupK (K := K) rfl) (pv 0) pe_int (fun _ _ => rfl)) (pv 3)) pa_nil)))))
    (pss_one (ps_ret (pe_op op_catS (pe_lstS (pa_cons (pe_tupS (pa_cons pe_non (pa_cons (pe_ix (ix_tupK (K := K) rfl) (pv 0) pe_int (fun _ _ => rfl)) pa_nil))) pa_nil)) (pv 5)))))))))), ?_⟩
    obtain ⟨s0, v, d, rfl, hP, hD, hdep, q⟩ := h
    cases hD with
    | pl hd =>
      cases hd with
      | word hz hl hm =>
        rename_i z l m
        obtain ⟨b, rfl, hn, hb⟩ := hP
        refine ⟨_, rfl, b, _, _, _, rfl, rfl, SqT.of hb, atI_nat (j := 0) rfl, rfl, _, rfl, itY ?_⟩
        have wa := word_args hz l (m := highOf 3 m) (by have := high_le 3 m; omega)
        have hk4 : highOf 3 m + 1 ≤ 4 := by have := high_le 3 m; omega
        have hk' : 3 ≤ 3 := by decide
        refine ⟨_, rfl, b, _, _, _, rfl, rfl, SqT.of hb, atI_nat (j := 3) rfl, rfl, _, rfl, ?_⟩
        rcases id hm with rfl | ⟨j, rfl, hj1, hj2⟩
        · refine iteT ?_
          refine ⟨_, rfl, ?_⟩
          refine ⟨_, rfl, b, _, _, _, rfl, rfl, SqT.of hb, atI_nat (j := 1) rfl, _, rfl, b, _, _, _, rfl, rfl, SqT.of hb, atI_nat (j := 2) rfl, _, rfl, z, l, highOf 3 V.non, rfl, wa.1, wa.2.1, wa.2.2.1, wa.2.2.2, fun p ys H1 perm srt S1 e1 => ?_⟩
          refine ⟨p, rfl, ⟨_, SqL.of e1⟩, fun D hD => ?_⟩
          refine lc_list (K := K) (a := p) (xs := ys.map V.str) (LcT H1 D fun n => (ys.take n).map fun t => (V.str t, t)) (LcT.start hD rfl) (fun i J hi pJ => SqL.of (pJ.1 _ _ e1)) ?_ ?_
          · intro i x J hx pJ
            obtain ⟨t, ht, rfl⟩ := map_get hx
            have hi := (List.getElem?_eq_some_iff.mp ht).1
            have tl : t.length ≤ 3 := (word_has hz hm hk' (perm.mem_iff.mp (List.mem_of_getElem? ht))).2
            have yl : ys.length ≤ 1000 := strs_small hz hk4 perm
            exact ⟨rfl, _, rfl, _, rfl, by show 2 ≤ 1000; decide, fun pt Ht hpt St et => pJ.put St et (take_map ht) (by omega)⟩
          · rintro J ⟨S2, _, rs, eD, ts, _⟩
            refine q D _ J (.pl (.word hz hm perm srt)) ⟨rs, eD, ?_⟩ (S1.trans S2)
            rw [List.length_map] at ts
            dsimp only at ts
            rw [List.take_length] at ts
            exact ts
          
        · refine iteF ?_
          refine ⟨_, rfl, _, rfl, b, _, _, _, rfl, rfl, SqT.of hb, atI_nat (j := 3) rfl, _, _, rfl, ?_⟩
          have hv : (if (j : Int) < ((3 : Nat) : Int) then (j : Int) else ((3 : Nat) : Int)) = ((highOf 3 (.int (j : Nat)) : Nat) : Int) := by
            show _ = ((min 3 (j : Int).toNat : Nat) : Int)
            split <;> omega
          refine ⟨_, rfl, b, _, _, _, rfl, rfl, SqT.of hb, atI_nat (j := 1) rfl, _, rfl, b, _, _, _, rfl, rfl, SqT.of hb, atI_nat (j := 2) rfl, _, rfl, z, l, highOf 3 (.int (j : Nat)), by rw [← hv]; rfl, wa.1, wa.2.1, wa.2.2.1, wa.2.2.2, fun p ys H1 perm srt S1 e1 => ?_⟩
          refine ⟨p, rfl, ⟨_, SqL.of e1⟩, fun D hD => ?_⟩
          refine lc_list (K := K) (a := p) (xs := ys.map V.str) (LcT H1 D fun n => (ys.take n).map fun t => (V.str t, t)) (LcT.start hD rfl) (fun i J hi pJ => SqL.of (pJ.1 _ _ e1)) ?_ ?_
          · intro i x J hx pJ
            obtain ⟨t, ht, rfl⟩ := map_get hx
            have hi := (List.getElem?_eq_some_iff.mp ht).1
            have tl : t.length ≤ 3 := (word_has hz hm hk' (perm.mem_iff.mp (List.mem_of_getElem? ht))).2
            have yl : ys.length ≤ 1000 := strs_small hz hk4 perm
            exact ⟨rfl, _, rfl, _, rfl, by show 2 ≤ 1000; decide, fun pt Ht hpt St et => pJ.put St et (take_map ht) (by omega)⟩
          · rintro J ⟨S2, _, rs, eD, ts, _⟩
            refine q D _ J (.pl (.word hz hm perm srt)) ⟨rs, eD, ?_⟩ (S1.trans S2)
            rw [List.length_map] at ts
            dsimp only at ts
            rw [List.take_length] at ts
            exact ts
          
      | ended hz he hin hl hm =>
        rename_i z e l m
        obtain ⟨b, rfl, hn, hb⟩ := hP
        refine ⟨_, rfl, b, _, _, _, rfl, rfl, SqT.of hb, atI_nat (j := 0) rfl, rfl, _, rfl, itN (by decide +kernel) ?_⟩
        refine ⟨_, rfl, b, _, _, _, rfl, rfl, SqT.of hb, atI_nat (j := 0) rfl, rfl, _, rfl, itY ?_⟩
        have hz3 := let_23 z hz
        have wa := word_args hz3 l (m := highOf 2 m) (by have := high_le 2 m; omega)
        have hk4 : highOf 2 m + 1 ≤ 4 := by have := high_le 2 m; omega
        have hk' : 2 ≤ 3 := by decide
        have el : e.length ≤ 20 := by
          have k : ∀ e ∈ fives, e.length ≤ 20 := by decide +kernel
          exact k e he
        refine ⟨_, rfl, b, _, _, _, rfl, rfl, SqT.of hb, atI_nat (j := 4) rfl, rfl, _, rfl, ?_⟩
        rcases id hm with rfl | ⟨j, rfl, hj1, hj2⟩
        · refine iteT ?_
          refine ⟨_, rfl, _, _, rfl, rfl, ?_⟩
          refine ⟨_, rfl, b, _, _, _, rfl, rfl, SqT.of hb, atI_nat (j := 1) rfl, _, rfl, b, _, _, _, rfl, rfl, SqT.of hb, atI_nat (j := 3) rfl, _, rfl, z, l, highOf 2 V.non, rfl, wa.1, wa.2.1, wa.2.2.1, wa.2.2.2, fun p ys H1 perm srt S1 e1 => ?_⟩
          refine ⟨p, rfl, ⟨_, SqL.of e1⟩, fun D hD => ?_⟩
          refine lc_list (K := K) (a := p) (xs := ys.map V.str) (LcT H1 D fun n => (ys.take n).map fun t => (V.str t, t ++ e)) (LcT.start hD rfl) (fun i J hi pJ => SqL.of (pJ.1 _ _ e1)) ?_ ?_
          · intro i x J hx pJ
            obtain ⟨t, ht, rfl⟩ := map_get hx
            have hi := (List.getElem?_eq_some_iff.mp ht).1
            have tl : t.length ≤ 3 := (word_has hz3 hm hk' (perm.mem_iff.mp (List.mem_of_getElem? ht))).2
            have yl : ys.length ≤ 1000 := strs_small hz3 hk4 perm
            exact ⟨rfl, _, rfl, _, rfl, _, rfl, b, _, _, _, rfl, rfl, SqT.of (pJ.1 _ _ (S1 _ _ hb)), atI_nat (j := 2) rfl, t, e, rfl, rfl, by rw [sizeLine_eq]; omega, by show 2 ≤ 1000; decide, fun pt Ht hpt St et => pJ.put St et (take_map ht) (by omega)⟩
          · rintro J ⟨S2, _, rs, eD, ts, _⟩
            refine q D _ J (.pl (.ended hz he hin hm perm srt)) ⟨rs, eD, ?_⟩ (S1.trans S2)
            rw [List.length_map] at ts
            dsimp only at ts
            rw [List.take_length] at ts
            exact ts
          
        · refine iteF ?_
          refine ⟨_, rfl, _, _, rfl, rfl, _, rfl, b, _, _, _, rfl, rfl, SqT.of hb, atI_nat (j := 4) rfl, _, _, rfl, ?_⟩
          have hv : (if (j : Int) < ((3 : Nat) : Int) - 1 then (j : Int) else ((3 : Nat) : Int) - 1) = ((highOf 2 (.int (j : Nat)) : Nat) : Int) := by
            show _ = ((min 2 (j : Int).toNat : Nat) : Int)
            split <;> omega
          refine ⟨_, rfl, b, _, _, _, rfl, rfl, SqT.of hb, atI_nat (j := 1) rfl, _, rfl, b, _, _, _, rfl, rfl, SqT.of hb, atI_nat (j := 3) rfl, _, rfl, z, l, highOf 2 (.int (j : Nat)), by rw [← hv]; rfl, wa.1, wa.2.1, wa.2.2.1, wa.2.2.2, fun p ys H1 perm srt S1 e1 => ?_⟩
          refine ⟨p, rfl, ⟨_, SqL.of e1⟩, fun D hD => ?_⟩
          refine lc_list (K := K) (a := p) (xs := ys.map V.str) (LcT H1 D fun n => (ys.take n).map fun t => (V.str t, t ++ e)) (LcT.start hD rfl) (fun i J hi pJ => SqL.of (pJ.1 _ _ e1)) ?_ ?_
          · intro i x J hx pJ
            obtain ⟨t, ht, rfl⟩ := map_get hx
            have hi := (List.getElem?_eq_some_iff.mp ht).1
            have tl : t.length ≤ 3 := (word_has hz3 hm hk' (perm.mem_iff.mp (List.mem_of_getElem? ht))).2
            have yl : ys.length ≤ 1000 := strs_small hz3 hk4 perm
            exact ⟨rfl, _, rfl, _, rfl, _, rfl, b, _, _, _, rfl, rfl, SqT.of (pJ.1 _ _ (S1 _ _ hb)), atI_nat (j := 2) rfl, t, e, rfl, rfl, by rw [sizeLine_eq]; omega, by show 2 ≤ 1000; decide, fun pt Ht hpt St et => pJ.put St et (take_map ht) (by omega)⟩
          · rintro J ⟨S2, _, rs, eD, ts, _⟩
            refine q D _ J (.pl (.ended hz he hin hm perm srt)) ⟨rs, eD, ?_⟩ (S1.trans S2)
            rw [List.length_map] at ts
            dsimp only at ts
            rw [List.take_length] at ts
            exact ts
          
      | number hl hm =>
        rename_i l m
        obtain ⟨b, rfl, hn, hb⟩ := hP
        obtain ⟨n1, n2, n3⟩ := nines 3 (by decide)
        refine ⟨_, rfl, b, _, _, _, rfl, rfl, SqT.of hb, atI_nat (j := 0) rfl, rfl, _, rfl, itN (by decide +kernel) ?_⟩
        refine ⟨_, rfl, b, _, _, _, rfl, rfl, SqT.of hb, atI_nat (j := 0) rfl, rfl, _, rfl, itN (by decide +kernel) ?_⟩
        refine ⟨_, rfl, b, _, _, _, rfl, rfl, SqT.of hb, atI_nat (j := 0) rfl, rfl, _, rfl, itY ?_⟩
        refine ⟨_, rfl, b, _, _, _, rfl, rfl, SqT.of hb, atI_nat (j := 2) rfl, rfl, _, rfl, ?_⟩
        rcases id hm with rfl | ⟨j, rfl, hj1, hj2⟩
        · refine iteT ?_
          refine ⟨_, rfl, "9", _, rfl, rfl, n3, _, _, rfl, n1, n2, ?_⟩
          obtain ⟨hh, ehh, eh1⟩ : ∃ hh : Nat, (((10 ^ 3 : Nat) : Int) - 1) + 1 = (hh : Int) ∧ hh = 1000 := ⟨1000, by decide, rfl⟩
          refine ⟨_, rfl, b, _, _, _, rfl, rfl, SqT.of hb, atI_nat (j := 1) rfl, _, rfl, _, _, rfl, rfl, _, _, rfl, ⟨by omega, by omega, by omega, by omega⟩, fun D hD => ?_⟩
          rw [show (((10 ^ 3 : Nat) : Int) - 1 + 1 - (l : Int)).toNat = hh - l by rw [ehh]; omega]
          refine lc_range (lo := (l : Int)) (n := hh - l) (LcT H D fun n => (List.range n).map fun i : Nat => (V.int ((l : Int) + (i : Int)), (toString ((l : Int) + (i : Int)) : Str))) (LcT.start hD rfl) ?_ ?_
          · intro i J hi pJ
            exact ⟨rfl, _, rfl, _, rfl, _, rfl, num_log (by omega) (by omega), by show 2 ≤ 1000; decide, fun pt Ht hpt St et => pJ.put St et (range_map i) (by omega)⟩
          · rintro J ⟨S2, _, rs, eD, ts, _⟩
            exact q D _ J (.pl (.number hl hm (fun hj => eh1) (fun j hj => (by cases hj)))) ⟨rs, eD, ts⟩ S2
        
        · refine iteF ?_
          refine ⟨_, rfl, "9", _, rfl, rfl, n3, _, _, rfl, n1, n2, _, rfl, b, _, _, _, rfl, rfl, SqT.of hb, atI_nat (j := 2) rfl, _, _, rfl, ?_⟩
          obtain ⟨hh, ehh, eh1, eh2⟩ : ∃ hh : Nat, (if (j : Int) < (((10 ^ 3 : Nat) : Int) - 1) then (j : Int) else (((10 ^ 3 : Nat) : Int) - 1)) + 1 = (hh : Int) ∧ hh ≤ 1000 ∧ hh = min (j + 1) 1000 := by
            refine ⟨min (j + 1) 1000, ?_, by omega, rfl⟩
            split <;> omega
          refine ⟨_, rfl, b, _, _, _, rfl, rfl, SqT.of hb, atI_nat (j := 1) rfl, _, rfl, _, _, rfl, rfl, _, _, rfl, ⟨by omega, by omega, by omega, by omega⟩, fun D hD => ?_⟩
          rw [show ((if (j : Int) < (((10 ^ 3 : Nat) : Int) - 1) then (j : Int) else (((10 ^ 3 : Nat) : Int) - 1)) + 1 - (l : Int)).toNat = hh - l by rw [ehh]; omega]
          refine lc_range (lo := (l : Int)) (n := hh - l) (LcT H D fun n => (List.range n).map fun i : Nat => (V.int ((l : Int) + (i : Int)), (toString ((l : Int) + (i : Int)) : Str))) (LcT.start hD rfl) ?_ ?_
          · intro i J hi pJ
            exact ⟨rfl, _, rfl, _, rfl, _, rfl, num_log (by omega) (by omega), by show 2 ≤ 1000; decide, fun pt Ht hpt St et => pJ.put St et (range_map i) (by omega)⟩
          · rintro J ⟨S2, _, rs, eD, ts, _⟩
            exact q D _ J (.pl (.number hl hm (fun hj => (by cases hj)) (fun j hj => (by injection hj with hj; omega)))) ⟨rs, eD, ts⟩ S2
        
      | fixed h1 h2 =>
        rename_i w
        obtain ⟨b, rfl, hn, hb⟩ := hP
        refine ⟨_, rfl, b, _, _, _, rfl, rfl, SqT.of hb, atI_nat (j := 0) rfl, rfl, _, rfl, itN (by decide +kernel) ?_⟩
        refine ⟨_, rfl, b, _, _, _, rfl, rfl, SqT.of hb, atI_nat (j := 0) rfl, rfl, _, rfl, itN (by decide +kernel) ?_⟩
        refine ⟨_, rfl, b, _, _, _, rfl, rfl, SqT.of hb, atI_nat (j := 0) rfl, rfl, _, rfl, itN (by decide +kernel) ?_⟩
        refine ⟨_, rfl, b, _, _, _, rfl, rfl, SqT.of hb, atI_nat (j := 0) rfl, rfl, _, rfl, itY ?_⟩
        refine ⟨_, rfl, b, _, _, _, rfl, rfl, SqT.of hb, atI_nat (j := 1) rfl, _, rfl, _, _, rfl, rfl, _, rfl, ?_⟩
        obtain rfl | rfl | rfl : w = 1 ∨ w = 2 ∨ w = 3 := by omega
        · refine iteF ?_
          obtain ⟨n1, n2, n3, n4⟩ := tens_tx 1 (by decide)
          refine ⟨_, rfl, b, _, _, _, rfl, rfl, SqT.of hb, atI_nat (j := 1) rfl, "0", _, rfl, rfl, n3, _, _, rfl, rfl, Nat.le_trans n4 (by rw [sizeLine_eq]; decide), _, _, rfl, n1, n2, _, rfl, by decide, by decide, fun D hD => ?_⟩
          refine lc_range (lo := 0) (n := 10 ^ 1) (LcT H D fun n => (List.range n).map fun i : Nat => (V.int ((0 : Int) + (i : Int)), fixS 1 i)) (LcT.start hD rfl) ?_ ?_
          · intro i J hi pJ
            have hi' : i < 1000 := Nat.lt_of_lt_of_le hi (by decide)
            obtain ⟨f1, f2, f3⟩ := fix_len 1 (by decide) i (List.mem_range.mpr hi')
            exact ⟨rfl, _, rfl, _, rfl, _, rfl, num_log (by omega) (by omega), _, _, rfl, rfl, by rw [sizeLine_eq]; show 5 + _ ≤ 16777216; omega, _, rfl, b, _, _, _, rfl, rfl, SqT.of (pJ.1 _ _ hb), atI_nat (j := 1) rfl, _, _, rfl, rfl, _, rfl, _, rfl, by rw [sizeLine_eq]; omega, by show 2 ≤ 1000; decide, fun pt Ht hpt St et => pJ.put St et (range_map i) (by omega)⟩
          · rintro J ⟨S2, _, rs, eD, ts, _⟩
            exact q D _ J (.pl (.fixed h1 h2)) ⟨rs, eD, ts⟩ S2
        · refine iteF ?_
          obtain ⟨n1, n2, n3, n4⟩ := tens_tx 2 (by decide)
          refine ⟨_, rfl, b, _, _, _, rfl, rfl, SqT.of hb, atI_nat (j := 1) rfl, "0", _, rfl, rfl, n3, _, _, rfl, rfl, Nat.le_trans n4 (by rw [sizeLine_eq]; decide), _, _, rfl, n1, n2, _, rfl, by decide, by decide, fun D hD => ?_⟩
          refine lc_range (lo := 0) (n := 10 ^ 2) (LcT H D fun n => (List.range n).map fun i : Nat => (V.int ((0 : Int) + (i : Int)), fixS 2 i)) (LcT.start hD rfl) ?_ ?_
          · intro i J hi pJ
            have hi' : i < 1000 := Nat.lt_of_lt_of_le hi (by decide)
            obtain ⟨f1, f2, f3⟩ := fix_len 2 (by decide) i (List.mem_range.mpr hi')
            exact ⟨rfl, _, rfl, _, rfl, _, rfl, num_log (by omega) (by omega), _, _, rfl, rfl, by rw [sizeLine_eq]; show 5 + _ ≤ 16777216; omega, _, rfl, b, _, _, _, rfl, rfl, SqT.of (pJ.1 _ _ hb), atI_nat (j := 1) rfl, _, _, rfl, rfl, _, rfl, _, rfl, by rw [sizeLine_eq]; omega, by show 2 ≤ 1000; decide, fun pt Ht hpt St et => pJ.put St et (range_map i) (by omega)⟩
          · rintro J ⟨S2, _, rs, eD, ts, _⟩
            exact q D _ J (.pl (.fixed h1 h2)) ⟨rs, eD, ts⟩ S2
        · refine iteF ?_
          obtain ⟨n1, n2, n3, n4⟩ := tens_tx 3 (by decide)
          refine ⟨_, rfl, b, _, _, _, rfl, rfl, SqT.of hb, atI_nat (j := 1) rfl, "0", _, rfl, rfl, n3, _, _, rfl, rfl, Nat.le_trans n4 (by rw [sizeLine_eq]; decide), _, _, rfl, n1, n2, _, rfl, by decide, by decide, fun D hD => ?_⟩
          refine lc_range (lo := 0) (n := 10 ^ 3) (LcT H D fun n => (List.range n).map fun i : Nat => (V.int ((0 : Int) + (i : Int)), fixS 3 i)) (LcT.start hD rfl) ?_ ?_
          · intro i J hi pJ
            have hi' : i < 1000 := Nat.lt_of_lt_of_le hi (by decide)
            obtain ⟨f1, f2, f3⟩ := fix_len 3 (by decide) i (List.mem_range.mpr hi')
            exact ⟨rfl, _, rfl, _, rfl, _, rfl, num_log (by omega) (by omega), _, _, rfl, rfl, by rw [sizeLine_eq]; show 5 + _ ≤ 16777216; omega, _, rfl, b, _, _, _, rfl, rfl, SqT.of (pJ.1 _ _ hb), atI_nat (j := 1) rfl, _, _, rfl, rfl, _, rfl, _, rfl, by rw [sizeLine_eq]; omega, by show 2 ≤ 1000; decide, fun pt Ht hpt St et => pJ.put St et (range_map i) (by omega)⟩
          · rintro J ⟨S2, _, rs, eD, ts, _⟩
            exact q D _ J (.pl (.fixed h1 h2)) ⟨rs, eD, ts⟩ S2
      | listed hnd hs h0 hl =>
        rename_i ts
        obtain ⟨b, u, rfl, hn, hb, ⟨b2, rfl, hb2⟩, _⟩ := hP
        refine ⟨_, rfl, b, _, _, _, rfl, rfl, SqT.of hb, atI_nat (j := 0) rfl, rfl, _, rfl, itN (by decide +kernel) ?_⟩
        refine ⟨_, rfl, b, _, _, _, rfl, rfl, SqT.of hb, atI_nat (j := 0) rfl, rfl, _, rfl, itN (by decide +kernel) ?_⟩
        refine ⟨_, rfl, b, _, _, _, rfl, rfl, SqT.of hb, atI_nat (j := 0) rfl, rfl, _, rfl, itN (by decide +kernel) ?_⟩
        refine ⟨_, rfl, b, _, _, _, rfl, rfl, SqT.of hb, atI_nat (j := 0) rfl, rfl, _, rfl, itN (by decide +kernel) ?_⟩
        refine ⟨_, rfl, b, _, _, _, rfl, rfl, SqT.of hb, atI_nat (j := 0) rfl, rfl, _, rfl, itY ?_⟩
        refine ⟨_, rfl, b, _, _, _, rfl, rfl, SqT.of hb, atI_nat (j := 1) rfl, b2, rfl, ⟨_, SqL.of hb2⟩, fun D hD => ?_⟩
        refine lc_list (K := K) (a := b2) (xs := ts.map V.str) (LcT H D fun n => ((ts.take n).filter fun t => decide ((t.length : Int) ≤ ((12 : Nat) : Int))).map fun t => (V.str t, t)) (LcT.start hD rfl) (fun i J hi pJ => SqL.of (pJ.1 _ _ hb2)) ?_ ?_
        · intro i x J hx pJ
          obtain ⟨t, ht, rfl⟩ := map_get hx
          have hi := (List.getElem?_eq_some_iff.mp ht).1
          have tl := (tens_are t (hs t (List.mem_of_getElem? ht))).2
          refine ⟨rfl, _, rfl, t, rfl, by rw [sizeLine_eq]; omega, _, rfl, _, _, rfl, rfl, _, rfl, ?_⟩
          refine ite2 (fun h1 => ?_) (fun h1 => ?_)
          · exact ⟨_, rfl, _, rfl, by show 2 ≤ 1000; decide, fun pt Ht hpt St et => pJ.put St et (by show List.map _ (List.filter _ (ts.take (i + 1))) = _; rw [List.take_add_one, ht, List.filter_append, show (Option.some t).toList = [t] from rfl, List.filter_cons_of_pos (p := fun t : Str => decide ((t.length : Int) ≤ ((12 : Nat) : Int))) h1, List.map_append]; rfl) (by omega)⟩
          · exact pJ.pass (Same.refl _) (by show List.map _ (List.filter _ (ts.take (i + 1))) = _; rw [List.take_add_one, ht, List.filter_append, show (Option.some t).toList = [t] from rfl, List.filter_cons_of_neg (p := fun t : Str => decide ((t.length : Int) ≤ ((12 : Nat) : Int))) h1, List.filter_nil, List.append_nil])
        · rintro J ⟨S2, _, rs, eD, tsq, _⟩
          rw [List.length_map] at tsq
          dsimp only at tsq
          rw [List.take_length] at tsq
          exact q D _ J (.pl (.listed hnd hs)) ⟨rs, eD, tsq⟩ S2
  
    | mk hq hd =>
      rename_i n m d
      obtain ⟨f1, f2, f3, f4, f5⟩ := mks_facts _ hq
      obtain ⟨b, u, rfl, hne, hb, hI⟩ := hP
      refine ⟨_, rfl, b, _, _, _, rfl, rfl, SqT.of hb, atI_nat (j := 0) rfl, rfl, _, rfl, itN (by decide +kernel) ?_⟩
      refine ⟨_, rfl, b, _, _, _, rfl, rfl, SqT.of hb, atI_nat (j := 0) rfl, rfl, _, rfl, itN (by decide +kernel) ?_⟩
      refine ⟨_, rfl, b, _, _, _, rfl, rfl, SqT.of hb, atI_nat (j := 0) rfl, rfl, _, rfl, itN (by decide +kernel) ?_⟩
      refine ⟨_, rfl, b, _, _, _, rfl, rfl, SqT.of hb, atI_nat (j := 0) rfl, rfl, _, rfl, itN (by decide +kernel) ?_⟩
      refine ⟨_, rfl, b, _, _, _, rfl, rfl, SqT.of hb, atI_nat (j := 0) rfl, rfl, _, rfl, itN (by decide +kernel) ?_⟩
      have em : ((FD.mo (.mk (.str n) (.str m) d) : Nat) : Int) - 1 = ((FD.mo (.pl d) : Nat) : Int) := by
        show ((d.mo + 1 : Nat) : Int) - 1 = (d.mo : Int)
        omega
      refine ⟨_, rfl, b, _, _, _, rfl, rfl, SqT.of hb, atI_nat (j := 3) rfl, _, rfl, _, _, rfl, rfl, s0, u, .pl d, by rw [← em]; rfl, hI, .pl hd, Nat.lt_of_succ_lt_succ hdep, fun p qs H1 L P1 S1 => ?_⟩
      obtain ⟨L0⟩ := L
      obtain ⟨hsm, hlen⟩ := L0.small hd
      obtain ⟨rs, ep, tp⟩ := P1
      refine ⟨p, rfl, ⟨_, SqL.of ep⟩, fun D hD => ?_⟩
      refine lc_list (K := K) (a := p) (xs := rs) (LcT H1 D fun n => (qs.take n).map fun q => (q.1, m ++ q.2)) (LcT.start hD rfl) (fun i J hi pJ => SqL.of (pJ.1 _ _ ep)) ?_ ?_
      · intro i x J hx pJ
        obtain ⟨a, q1, rfl, hq1, ha⟩ := tp.get hx
        have hi := (List.getElem?_eq_some_iff.mp hq1).1
        have hs : qs.length ≤ 1000 := hsm
        have hl : q1.2.length ≤ 20 := hlen q1 (List.mem_of_getElem? hq1)
        have f5 : m.length = 1 := f5
        refine ⟨a, _, rfl, SqT.of (pJ.1 _ _ ha), rfl, _, _, rfl, _, _, rfl, rfl, rfl, _, rfl, _, rfl, b, _, _, _, rfl, rfl, SqT.of (pJ.1 _ _ (S1 _ _ hb)), atI_nat (j := 2) rfl, _, rfl, m, q1.2, rfl, rfl, by rw [sizeLine_eq]; omega, by show 2 ≤ 1000; decide, fun pt Ht hpt St et => pJ.put St et (take_map hq1) (by omega)⟩
      · rintro J ⟨S2, _, rs2, eD, ts, _⟩
        rw [tp.len] at ts
        dsimp only at ts
        rw [List.take_length] at ts
        refine ⟨_, rfl, b, _, _, _, rfl, rfl, SqT.of (S2 _ _ (S1 _ _ hb)), atI_nat (j := 1) rfl, by show 2 ≤ 1000; decide, fun pt H3 hpt S3 e3 => ⟨by show 1 ≤ 1000; decide, fun pl H4 hpl S4 e4 => ?_⟩⟩
        refine ⟨_, rfl, pl, D, _, _, rfl, rfl, SqL.of e4, SqL.of (S4 _ _ (S3 _ _ eD)), ?_, fun p5 H5 hp5 S5 e5 => ?_⟩
        · have : qs.length ≤ 1000 := hsm
          rw [ts.len, List.length_map, sizeLine_eq]
          show 1 + qs.length ≤ 16777216
          omega
        · refine q p5 _ H5 (.mk hq L0) ⟨_, e5, ?_⟩ ((((S1.trans S2).trans S3).trans S4).trans S5)
          exact (TsAt.one (q := (V.non, n)) (S5 _ _ (S4 _ _ e3))).app (((ts.same S3).same S4).same S5)

end
end L2.K06

set_option Elab.async false
set_option linter.all false
set_option maxRecDepth 100000
set_option maxHeartbeats 4000000
/-! a comprehension with two for's: the outer walk, the inner walk. -/
namespace L2.Jk
open PySem PySem.W PySem.Spec PySem.Calls PyProof.Rows L2
theorem lc2_out {J : It} {n : Nat} {G : Hp → Prop} {Y : Nat → Hp → V → Hp → Prop} (w : Walk J n G Y) {g : TG} {tt : TT} {body : (Hp → Prop) → St → Hp → Prop} {vs : List Nat} {σ : St} {H1 : Hp} {D : Addr} {Qd : Hp → Prop} (Pv : Nat → Hp → Prop) (h0 : Pv 0 (upd H1 D (.lst []))) (hG : ∀ i H, i ≤ n → Pv i H → G H)
    (hs : ∀ i x H H', i < n → Pv i H → Y i H x H' → g x (wipe σ vs) H' fun σ2 H2 => wipe σ2 vs = wipe σ vs ∧ tt σ2 H2 fun b H3 => if b = true then body (Pv (i + 1)) σ2 H3 else Pv (i + 1) H3) (hd : ∀ H, Pv n H → Qd H) :
    ∃ W : Nat → Nat → Hp → Prop, (∃ m, W 0 m (upd H1 D (.lst []))) ∧ ∀ i m H, W i m H →
      (J.stop i H ∧ Qd H) ∨ (J.go i H ∧ ∃ Nx : Hp → Prop, (∀ H', Nx H' → ∃ m', m' < m ∧ W (i + 1) m' H') ∧ ∀ x H', J.yld i H x H' → g x (wipe σ vs) H' fun σ2 H2 => wipe σ2 vs = wipe σ vs ∧ tt σ2 H2 fun b H3 =>
        if b = true then body Nx σ2 H3 else Nx H3) := by
  refine ⟨fun i m H => m = n - i ∧ i ≤ n ∧ Pv i H, ⟨n, by simp, Nat.zero_le _, h0⟩, ?_⟩
  rintro i m H ⟨rfl, hi, p⟩
  have q := hG i H hi p
  by_cases hlt : i < n
  · exact .inr ⟨w.goes i H hlt q, Pv (i + 1), fun H' p' => ⟨n - (i + 1), by omega, rfl, hlt, p'⟩, fun x H' y => hs i x H H' hlt p (w.yields i H x H' hlt q y)⟩
  · have e : i = n := by omega
    subst e
    exact .inl ⟨w.stops H q, hd H p⟩
theorem lc2_in {J : It} {n : Nat} {G : Hp → Prop} {Y : Nat → Hp → V → Hp → Prop} (w : Walk J n G Y) {g : TG} {tt : TT} {te : TE} {vs : List Nat} {σ : St} {H1 : Hp} {D : Addr} {Nx : Hp → Prop} (Pv : Nat → Hp → Prop) (h0 : Pv 0 H1) (hG : ∀ i H, i ≤ n → Pv i H → G H)
    (hs : ∀ i x H H', i < n → Pv i H → Y i H x H' → g x (wipe σ vs) H' fun σ2 H2 => wipe σ2 vs = wipe σ vs ∧ tt σ2 H2 fun b H3 =>
      if b = true then te σ2 H3 fun y H4 => ∃ acc, H4 D = some (.lst acc) ∧ acc.length < sizeLine ∧ Pv (i + 1) (upd H4 D (.lst (acc ++ [y]))) else Pv (i + 1) H3) (hd : ∀ H, Pv n H → Nx H) :
    ∃ W : Nat → Nat → Hp → Prop, (∃ m, W 0 m H1) ∧ ∀ i m H, W i m H →
      (J.stop i H ∧ Nx H) ∨ (J.go i H ∧ ∃ Nx1 : Hp → Prop, (∀ H', Nx1 H' → ∃ m', m' < m ∧ W (i + 1) m' H') ∧ ∀ x H', J.yld i H x H' → g x (wipe σ vs) H' fun σ2 H2 => wipe σ2 vs = wipe σ vs ∧ tt σ2 H2 fun b H3 =>
        if b = true then te σ2 H3 fun y H4 => ∃ acc, H4 D = some (.lst acc) ∧ acc.length < sizeLine ∧ Nx1 (upd H4 D (.lst (acc ++ [y]))) else Nx1 H3) := by
  refine ⟨fun i m H => m = n - i ∧ i ≤ n ∧ Pv i H, ⟨n, by simp, Nat.zero_le _, h0⟩, ?_⟩
  rintro i m H ⟨rfl, hi, p⟩
  have q := hG i H hi p
  by_cases hlt : i < n
  · exact .inr ⟨w.goes i H hlt q, Pv (i + 1), fun H' p' => ⟨n - (i + 1), by omega, rfl, hlt, p'⟩, fun x H' y => hs i x H H' hlt p (w.yields i H x H' hlt q y)⟩
  · have e : i = n := by omega
    subst e
    exact .inl ⟨w.stops H q, hd H p⟩
end L2.Jk

set_option Elab.async false
set_option linter.all false
set_option maxRecDepth 100000
set_option maxHeartbeats 4000000
/-! list < list, of whole numbers. -/
namespace L2.Jk
open PySem PySem.W PySem.Spec PySem.Calls PyProof.Rows L2
def rLtL (K : Frag) : R2 := fun x y H Q => ∃ a b ns ms, x = .ref a ∧ y = .ref b ∧ SqL K H a (ns.map V.int) ∧ SqL K H b (ms.map V.int) ∧ Q (.bl (listLt ns ms)) H
theorem dp_ints {K : Frag} {H : Hp} : ∀ ns : List Int, DpAll K H (ns.map V.int) (ns.map PyData.int)
  | [] => .nil
  | n :: ns => .cons (.int n) (dp_ints ns)
theorem op_ltL {X : Cx} (hu : X.A.units + 64 < cLine) : OpR X (compareOp .Lt) (rLtL X.K) := by
  intro pins s σ H x y v u Q I rx ry h
  obtain ⟨a, b, ns, ms, rfl, rfl, ha, hb, q⟩ := h
  obtain ⟨as, r1⟩ := Dp.reads I (.list (ns.map PyData.int)) _ v (.lst ha (dp_ints ns)) rx
  obtain ⟨bs, r2⟩ := Dp.reads I (.list (ms.map PyData.int)) _ u (.lst hb (dp_ints ms)) ry
  exact PySem.W.lt_datum (x := ns) (y := ms) ⟨as, r1⟩ ⟨bs, r2⟩ (by
    have : Datum.depth (List Int) ≤ 64 := by decide
    omega) ⟨.bl (listLt ns ms), H, I, rfl, q⟩
/-! tuples: a slice, a sum, told by their items -/
def rSlTS : V → Option Int → Option Int → Hp → VK → Prop := fun x lo hi H Q => ∃ a xs, x = .ref a ∧ H a = some (.tup xs) ∧ ∀ p H', (∀ b o, H b = some o → H' b = some o) → H' p = some (.tup (cutV xs lo hi)) → Q (.ref p) H'
theorem sl_tupTS {X : Cx} : SlR X rSlTS := by
  intro pins s σ H x v vl vu lo hi sl Q I rx hs pl pu h
  obtain ⟨a, xs, rfl, hx, q⟩ := h
  refine sl_tupA pins s σ H _ v vl vu lo hi sl Q I rx hs pl pu ⟨a, xs, rfl, SqT.of hx, fun hw => q a H (fun _ _ e => e) ?_, fun hw p hp => q p _ (fun b o e => ?_) upd_same⟩
  · have e : cutV xs lo hi = xs := by
      unfold cutV
      rw [hw.1, hw.2, List.drop_zero, Nat.sub_zero, List.take_length]
    rw [e]
    exact hx
  · rw [upd_ne (ne_of_none e hp)]
    exact e
def rCatTS : R2 := fun x y H Q => ∃ a b xs ys, x = .ref a ∧ y = .ref b ∧ H a = some (.tup xs) ∧ H b = some (.tup ys) ∧ xs.length + ys.length ≤ sizeLine ∧ ∀ p H', (∀ b o, H b = some o → H' b = some o) → H' p = some (.tup (xs ++ ys)) → Q (.ref p) H'
theorem op_catTS {X : Cx} : OpR X (binaryOp .Add) rCatTS := by
  intro pins s σ H x y v u Q I rx ry h
  obtain ⟨a, b, xs, ys, rfl, rfl, ha, hb, hz, q⟩ := h
  refine op_catA pins s σ H _ _ v u Q I rx ry ⟨a, b, xs, ys, rfl, rfl, SqT.of ha, SqT.of hb, hz, fun e => q b H (fun _ _ e => e) ?_, fun _ e => q a H (fun _ _ e => e) ?_, fun _ _ p hp => q p _ (fun c o e => ?_) upd_same⟩
  · rw [e, List.nil_append]
    exact hb
  · rw [e, List.append_nil]
    exact ha
  · rw [upd_ne (ne_of_none e hp)]
    exact e
theorem call_ieK {X : Cx} {K : Frag} (h : X.K = K) : CallR X (.builtin "isinstance") (rIe K) := by
  subst h
  exact call_ie
theorem mt_indexK {X : Cx} {K : Frag} (h : X.K = K) : MtR X "list.index" (rIndex K) := by
  subst h
  exact mt_index
end L2.Jk

set_option Elab.async false
set_option linter.all false
set_option maxRecDepth 100000
set_option maxHeartbeats 4000000
/-! What kinds of fields have. -/
namespace L2.K06
open PySem PySem.W PySem.Spec PySem.Calls PyProof.Rows L2.Jk
theorem seqT_sm {K : Frag} {H H' : Hp} {a : Addr} {xs : List V} (S : Same H H') (h : SqT K H a xs) : SqT K H' a xs := by
  rcases h with (h | ⟨o, h⟩) | h
  · exact .inl (.inl (S _ _ h))
  · exact .inl (.inr ⟨o, S _ _ h⟩)
  · exact .inr h
theorem tk_snoc {α : Type} {xs : List α} {i : Nat} {x : α} (h : xs[i]? = some x) : xs.take (i + 1) = xs.take i ++ [x] := by
  rw [List.take_add_one, h]
  rfl
/-- a list of truth values that a comprehension makes -/
def LcB (H1 : Hp) (D : Addr) (fm : Nat → List Bool) (i : Nat) (H : Hp) : Prop := Same H1 H ∧ H1 D = none ∧ H D = some (.lst ((fm i).map V.bl)) ∧ (fm i).length ≤ i
theorem LcB.start {H1 : Hp} {D : Addr} {fm : Nat → List Bool} (h : H1 D = none) (e : fm 0 = []) : LcB H1 D fm 0 (upd H1 D (.lst [])) := ⟨same_upd h, h, by rw [upd_same, e]; rfl, by rw [e]; exact Nat.le_refl _⟩
theorem LcB.put {H1 H H4 : Hp} {D : Addr} {fm : Nat → List Bool} {i : Nat} {b : Bool} (p : LcB H1 D fm i H) (s : Same H H4) (e : fm (i + 1) = fm i ++ [b]) (hi : i < 10000) :
    ∃ acc, H4 D = some (.lst acc) ∧ acc.length < sizeLine ∧ LcB H1 D fm (i + 1) (upd H4 D (.lst (acc ++ [V.bl b]))) := by
  obtain ⟨S, hD, eD, hl⟩ := p
  refine ⟨_, s _ _ eD, by rw [List.length_map, sizeLine_eq]; omega, same_put (S.trans s) hD, hD, by rw [upd_same, e, List.map_append]; rfl, by rw [e, List.length_append]; exact Nat.succ_le_succ hl⟩
theorem any_map (bs : List Bool) : bs.any id = bs.any (fun b => b) := rfl
def bwB (t : Str) (ts : List Str) : Bool := (ts.map fun b => Txt.startswith t b).any id
def dropS (t : Str) (k : Nat) : Str := cutS t (some (k : Int)) none
def hwB (ts : List Str) (e : Str) : Bool := decide (e ∈ ts) || !bwB e ts
def weB (ts : List Str) (t : Str) : Bool := (((List.range (t.length - 1)).map fun i : Nat => dropS t (1 + i)).map fun e => hwB ts e).all id
def hbB (ts : List Str) : Bool := !((List.range ts.length).flatMap fun late => (List.range late).map fun early => Txt.startswith (ts.getD early "") (ts.getD late "")).any id
def PD.tx : PD → List Str
  | .listed x => x.els.map strV
  | _ => []
def hbP : PD → Bool
  | .listed x => hbB (x.els.map strV)
  | _ => true
def hbF : FD → Bool
  | .pl d => hbP d
  | .mk _ _ d => hbP d
def iwP : PD → Bool
  | .number l m => decide (intV l > 0) || (!decide (m = .non) && decide (intV m < 100))
  | .listed x => hbB (x.els.map strV) && ((x.els.map strV).map fun t => weB (x.els.map strV) t).all id
  | _ => true
def iwF : FD → Bool
  | .pl d => iwP d
  | .mk _ _ d => hbP d
theorem in_strs {e : Str} : ∀ ts : List Str, inV (.str e) (ts.map V.str) = decide (e ∈ ts) := fun ts => by
  unfold inV
  rw [List.any_map, Bool.eq_iff_iff, List.any_eq_true, decide_eq_true_iff]
  constructor
  · rintro ⟨x, hx, k⟩
    have k : (x == e) = true := k
    rw [← eq_of_beq k]
    exact hx
  · exact fun h => ⟨e, h, beq_self_eq_true e⟩
theorem strs_flat (ts : List Str) : (ts.map V.str).all flatV = true := by
  rw [List.all_map]
  exact List.all_eq_true.mpr fun _ _ => rfl
theorem op_inK {X : Cx} {K : Frag} (h : X.K = K) : OpR X (compareOp .In) (rIn K false) := by
  subst h
  exact op_in_seq
theorem pe_fldK {X : Cx} {K : Frag} {e : Expr} {ta : TE} {f : Str} {pos : Pos} (h : X.K = K) (he : PE X e ta) (hb : attributeBase e f X.env (eval e X.env) = eval e X.env := by rfl) : PE X (.Attribute e f pos) (tFld K ta f) := by
  subst h
  exact pe_fld he hb
def spBw (K : Frag) : Sp := fun vs H Q _ => ∃ (t : Str) (p : Addr) (ts : List Str), vs = [.str t, .ref p] ∧ SqT K H p (ts.map V.str) ∧ ts.length ≤ 20 ∧ ∀ H', Same H H' → Q (.bl (bwB t ts)) H'
def spWe (K : Frag) : Sp := fun vs H Q _ => ∃ (p : Addr) (ts : List Str) (t : Str), vs = [.ref p, .str t] ∧ SqT K H p (ts.map V.str) ∧ ts.length ≤ 20 ∧ t.length ≤ 20 ∧ ∀ H', Same H H' → Q (.bl (weB ts t)) H'
def FD.ci : FD → Nat
  | .pl d => d.ci
  | .mk .. => 5
def spHb (K : Frag) (n : Nat) : Sp := fun vs H Q _ => ∃ (y : Addr) (d : FD), vs = [.ref y] ∧ FdAt K H y d ∧ DrF d ∧ d.dep < n ∧ ∀ H', Same H H' → Q (.bl (hbF d)) H'
def spIw (K : Frag) : Sp := fun vs H Q _ => ∃ (y : Addr) (d : FD), vs = [.ref y] ∧ FdAt K H y d ∧ DrF d ∧ ∀ H', Same H H' → Q (.bl (iwF d)) H'
structure GK (P : Program) (w : World) (K : Frag) (mg : Str → Option Value) (base : Heap) : Prop extends G4 P w K mg base where
  begins_with_one : FnAt P w K mg base CX0 1 "begins_with_one" ["text", "beginnings"] (spBw K)
section
variable {P : Program} {w : World} {K : Frag} {mg : Str → Option Value} {base : Heap} {f : Addr} {fd : FuncData}

abbrev s_bw : Stmt := top 27
theorem sc_bw : FnScope ["text", "beginnings", "beginning"] ["text", "beginnings"] (defScope s_bw) := ⟨rfl, rfl, rfl, by decide +kernel, rfl, by decide +kernel, by decide +kernel⟩

theorem ok_bw (F : FunD K "begins_with_one" "begins_with_one" (defArgs s_bw) (defBody s_bw) (defScope s_bw) [] [] f fd) (G : G4 P w K mg base) : FnOk P w K mg base CX0 1 f fd ["text", "beginnings"] (spBw K) := by
  refine F.ok (CX := CX0) sc_bw (fun vs H Q E h => ?_) (fun cdv A outer s H vs Q E hr h => ?_)
  · obtain ⟨_, _, _, rfl, _⟩ := h
    rfl
  · refine ⟨_, PSs.nox (pss_one (ps_ret (pe_callB (cr_any rfl) (by rfl) G.any (by decide +kernel) (pa_cons (pe_lc (own := [("beginning", 2)]) (g := gName 2) (tt := tYes) rfl sc_bw.nd (pi_tup (pv 1)) (blkOk_by (N := ["text", "beginnings", "beginning"]) (sc := defScope s_bw) (by decide +kernel)) (fun _ _ _ _ _ => pg_name (i := 2) sc_bw.nd rfl (Or.inl rfl)) (fun _ _ _ _ _ => pts_nil) (fun _ _ _ _ _ => (pe_bmK (K := K) rfl PySem.F.plainAttrs_str PySem.F.slot_str_startswith PySem.F.type_str_startswith mt_startswith (pv 0) (pa_cons (pv 2) pa_nil)))) pa_nil)))), ?_⟩
    obtain ⟨t, p, ts, rfl, hp, hl, q⟩ := h
    refine ⟨_, rfl, p, rfl, ⟨_, hp⟩, fun D hD => ?_⟩
    refine lc_tup (K := K) (a := p) (xs := ts.map V.str) (LcB H D fun n => (ts.take n).map fun b => Txt.startswith t b) (LcB.start hD rfl) (fun i J hi pJ => seqT_sm pJ.1 hp) ?_ ?_
    · intro i x J hx pJ
      obtain ⟨b, hb, rfl⟩ := map_get hx
      have hi := (List.getElem?_eq_some_iff.mp hb).1
      exact ⟨rfl, _, rfl, rfl, _, rfl, t, b, rfl, rfl, pJ.put (Same.refl _) (by rw [tk_snoc hb, List.map_append]; rfl) (by omega)⟩
    · rintro J ⟨S, _, eD, _⟩
      rw [List.length_map] at eD
      dsimp only at eD
      rw [List.take_length] at eD
      refine ⟨D, _, rfl, SqL.of eD, ?_⟩
      have z := q J S
      exact z

abbrev s_we : Stmt := top 26
theorem sc_we : FnScope ["texts", "text", "ends", "start", "end"] ["texts", "text"] (defScope s_we) := ⟨rfl, rfl, rfl, by decide +kernel, rfl, by decide +kernel, by decide +kernel⟩

theorem ok_we (F : FunD K "has_whole_ends" "has_whole_ends" (defArgs s_we) (defBody s_we) (defScope s_we) [] [] f fd) (G : GK P w K mg base) : FnOk P w K mg base CX0 2 f fd ["texts", "text"] (spWe K) := by
  refine F.ok (CX := CX0) sc_we (fun vs H Q E h => ?_) (fun cdv A outer s H vs Q E hr h => ?_)
  · obtain ⟨_, _, _, rfl, _⟩ := h
    rfl
  · refine ⟨_, PSs.nox (C8.pss_cut (ps_setLc (i := 2) (own := [("start", 3)]) (g := gName 3) (tt := tYes) (by rfl) sc_we.nd rfl rfl (sw_true rfl rfl rfl (by decide +kernel)) (pi_range2 (by rfl) G.range (pa_cons pe_int (pa_cons (pe_callB call_len_str (by rfl) G.len (by decide +kernel) (pa_cons (pv 1) pa_nil)) pa_nil))) (blkOk_by (N := ["texts", "text", "ends", "start", "end"]) (sc := defScope s_we) (by decide +kernel)) (fun _ _ _ _ _ => pg_name (i := 3) sc_we.nd rfl (Or.inl rfl)) (fun _ _ _ _ _ => pts_nil) (fun _ _ _ _ _ => (pe_slice sl_str (pv 1) (po_some (pv 3)) po_none)))
    (pss_one (ps_ret (pe_callB (cr_all rfl) (by rfl) G.all (by decide +kernel) (pa_cons (pe_lc (own := [("end", 4)]) (g := gName 4) (tt := tYes) rfl sc_we.nd (pi_list (pv 2)) (blkOk_by (N := ["texts", "text", "ends", "start", "end"]) (sc := defScope s_we) (by decide +kernel)) (fun _ _ _ _ _ => pg_name (i := 4) sc_we.nd rfl (Or.inl rfl)) (fun _ _ _ _ _ => pts_nil) (fun _ _ _ _ _ => (pe_or (pe_cmpR (op_inK (K := K) rfl) (pv 4) (pv 0) (by rfl)) (pe_one (pe_not (pe_fn G.begins_with_one hr pass0 (by rfl) (pa_cons (pv 4) (pa_cons (pv 0) pa_nil)))))))) pa_nil))))), ?_⟩
    obtain ⟨p, ts, t, rfl, hp, hl, htl, q⟩ := h
    refine ⟨fun σ J => ∃ v2 v3 D, σ = [some (.ref p), some (.str t), some (.ref D), v2, v3] ∧ Same H J ∧ J D = some (.lst (((List.range (t.length - 1)).map fun i : Nat => dropS t (1 + i)).map V.str)), ?_, ?_⟩
    · refine ⟨_, rfl, t, rfl, by rw [sizeLine_eq]; omega, 1, (t.length : Nat), rfl, ⟨by decide, by decide, by omega, by omega⟩, fun D hD => ?_⟩
      rw [show ((t.length : Int) - 1).toNat = t.length - 1 by omega]
      refine lc_range (lo := 1) (n := t.length - 1) (fun n J => Same H J ∧ J D = some (.lst (((List.range n).map fun i : Nat => dropS t (1 + i)).map V.str))) ⟨same_upd hD, upd_same⟩ ?_ ?_
      · rintro i J hi ⟨S, eD⟩
        refine ⟨rfl, _, rfl, _, rfl, _, rfl, t, rfl, by rw [sizeLine_eq]; omega, ?_⟩
        refine ⟨_, eD, by rw [List.length_map, List.length_map, List.length_range, sizeLine_eq]; omega, same_put S hD, ?_⟩
        rw [upd_same, List.range_succ, List.map_append, List.map_append]
        rfl
      · rintro J ⟨S, eD⟩
        exact ⟨_, _, D, rfl, S, eD⟩
    rintro σ J ⟨v2, v3, D, rfl, S, eD⟩
    refine ⟨_, rfl, D, rfl, ⟨_, SqL.of eD⟩, fun D2 hD2 => ?_⟩
    refine lc_list (K := K) (a := D) (xs := ((List.range (t.length - 1)).map fun i : Nat => dropS t (1 + i)).map V.str) (LcB J D2 fun n => (((List.range (t.length - 1)).map fun i : Nat => dropS t (1 + i)).take n).map fun e => hwB ts e) (LcB.start hD2 rfl) (fun i J2 hi pJ => SqL.of (pJ.1 _ _ eD)) ?_ ?_
    · intro i x J2 hx pJ
      obtain ⟨e, he, rfl⟩ := map_get hx
      have hi := (List.getElem?_eq_some_iff.mp he).1
      rw [List.length_map, List.length_range] at hi
      have hT := seqT_sm (S.trans pJ.1) hp
      refine ⟨rfl, _, rfl, _, rfl, p, _, rfl, .inr hT, rfl, strs_flat ts, ?_⟩
      refine ⟨_, rfl, ?_⟩
      rw [in_strs]
      cases hm : decide (e ∈ ts) with
      | true =>
        refine iteT (pJ.put (Same.refl _) (by rw [tk_snoc he, List.map_append]; show _ ++ [hwB ts e] = _; unfold hwB; rw [hm]; rfl) (by omega))
      | false =>
        refine iteF ⟨_, rfl, _, rfl, e, p, ts, rfl, hT, hl, fun J3 S3 => ⟨_, rfl, ?_⟩⟩
        exact pJ.put S3 (by rw [tk_snoc he, List.map_append]; show _ ++ [hwB ts e] = _; unfold hwB; rw [hm]; rfl) (by omega)
    · rintro J2 ⟨S2, _, eD2, _⟩
      rw [List.length_map] at eD2
      dsimp only at eD2
      rw [List.take_length] at eD2
      refine ⟨D2, _, rfl, SqL.of eD2, ?_⟩
      have z := q J2 (S.trans S2)
      exact z

abbrev s_hb : Stmt := top 24
theorem sc_hb : FnScope ["field", "texts", "late", "early"] ["field"] (defScope s_hb) := ⟨rfl, rfl, rfl, by decide +kernel, rfl, by decide +kernel, by decide +kernel⟩

theorem ok_hb (F : FunD K "has_beginnings_first" "has_beginnings_first" (defArgs s_hb) (defBody s_hb) (defScope s_hb) [] [] f fd) (G : GK P w K mg base) {n : Nat} (AM : FnAt P w K mg base CX0 n "has_beginnings_first" ["field"] (spHb K n)) : FnOk P w K mg base CX0 (n + 1) f fd ["field"] (spHb K (n + 1)) := by
  refine F.ok (CX := CX0) sc_hb (fun vs H Q E h => ?_) (fun cdv A outer s H vs Q E hr h => ?_)
  · obtain ⟨_, _, rfl, _⟩ := h
    rfl
  · refine ⟨_, PSs.nox (pss_cons (ps_if (pt_val (pe_callB (call_ieK (K := K) rfl) (by rfl) G.isinstance (by decide +kernel) (pa_cons (pv 0) (pa_cons (pe_gref (by rfl) G.cMarked.mgC) pa_nil))))
      (pss_one (ps_ret (pe_fn AM hr pass0 (by rfl) (pa_cons (pe_fld (pv 0) rfl) pa_nil))))
      pss_nil)
    (pss_cons (ps_if (pt_not (pt_val (pe_callB (call_ieK (K := K) rfl) (by rfl) G.isinstance (by decide +kernel) (pa_cons (pv 0) (pa_cons (pe_gref (by rfl) G.cListed.mgC) pa_nil)))))
      (pss_one (ps_ret pe_bl))
      pss_nil)
    (pss_cons (ps_set (i := 1) sc_hb.nd rfl (Or.inr rfl) (pe_fld (pv 0) rfl))
    (pss_one (ps_ret (pe_not (pe_callB (cr_any rfl) (by rfl) G.any (by decide +kernel) (pa_cons (pe_lc2 (own := [("late", 2), ("early", 3)]) (vs1 := [3]) (g := gName 2) (g1 := gName 3) (tt := tYes) (tt1 := tYes) rfl sc_hb.nd (pi_range1 (by rfl) G.range (pa_cons (pe_callB call_len_seq (by rfl) G.len (by decide +kernel) (pa_cons (pv 1) pa_nil)) pa_nil)) (blkOk_by (N := ["field", "texts", "late", "early"]) (sc := defScope s_hb) (by decide +kernel)) (by decide) (fun _ _ _ _ _ => pg_name (i := 2) sc_hb.nd rfl (Or.inl rfl)) (fun _ _ _ _ _ => pts_nil) (fun _ _ _ _ _ => pi_range1 (by rfl) G.range (pa_cons (pv 2) pa_nil)) (fun _ _ _ _ _ => pg_name (i := 3) sc_hb.nd rfl (Or.inl rfl)) (fun _ _ _ _ _ => pts_nil) (fun _ _ _ _ _ => pe_bmK (K := K) rfl PySem.F.plainAttrs_str PySem.F.slot_str_startswith PySem.F.type_str_startswith mt_startswith (pe_ix (ix_tupK (K := K) rfl) (pv 1) (pv 3) (fun _ _ => rfl)) (pa_cons (pe_ix (ix_tupK (K := K) rfl) (pv 1) (pv 2) (fun _ _ => rfl)) pa_nil))) pa_nil)))))))), ?_⟩
    obtain ⟨y, d, rfl, hF, hD, hdep, q⟩ := h
    cases hD with
    | @mk nn mm d hq hd =>
      obtain ⟨⟨dx, y2, ha, hF2⟩, h1, h2, _, _⟩ := hF
      refine ⟨_, rfl, _, _, _, _, _, rfl, .own _, G.ty (i := 5) (by decide) ha, G.kit 5 5 (by decide) (by decide), _, rfl, ?_⟩
      refine iteT ?_
      exact ⟨_, rfl, y, _, dx, _, _, rfl, ha, G.cMarked.cl, G.cMarked.no _ (by decide +kernel), lMarked_field, y2, .pl d, rfl, ⟨hF2, h1, h2⟩, .pl hd, Nat.lt_of_succ_lt_succ hdep, fun H' S => q H' S⟩
    | @pl d hd =>
      obtain ⟨hF, h1, h2⟩ := hF
      obtain ⟨dx0, fs0, ha0, _⟩ := hF.ins
      have hlt := d.ci_lt
      refine ⟨_, rfl, _, _, _, _, _, rfl, .own _, G.ty (by omega) ha0, G.kit d.ci 5 (by omega) (by decide), _, rfl, ?_⟩
      rw [decide_eq_false (show ¬ d.ci = 5 by omega)]
      refine iteF ?_
      refine ⟨_, rfl, _, _, _, _, _, rfl, .own _, G.ty (by omega) ha0, G.kit d.ci 3 (by omega) (by decide), _, rfl, ?_⟩
      cases hd with
      | word a b c => exact iteT (q H (Same.refl _))
      | number a b => exact iteT (q H (Same.refl _))
      | fixed a b => exact iteT (q H (Same.refl _))
      | ended a b c e g => exact iteT (q H (Same.refl _))
      | @listed ts a b c e =>
      refine iteF ?_
      obtain ⟨dx, t, ha, hT⟩ := hF
      have hT : TupZ H t (ts.map V.str) := hT
      refine ⟨_, rfl, y, _, dx, _, _, rfl, ha, G.cListed.cl, G.cListed.no _ (by decide +kernel), lListed_texts, ?_⟩
      refine ⟨_, rfl, t, _, rfl, .inr hT.sq, (ts.length : Nat), by rw [List.length_map], by omega, by omega, fun D hDn => ?_⟩
      let fm : Nat → List Bool := fun i => (List.range i).flatMap fun late => (List.range late).map fun early => Txt.startswith (ts.getD early "") (ts.getD late "")
      have fm1 : ∀ i, fm (i + 1) = fm i ++ (List.range i).map fun early => Txt.startswith (ts.getD early "") (ts.getD i "") := fun i => by
        show (List.range (i + 1)).flatMap _ = _
        rw [List.range_succ, List.flatMap_append]
        show _ ++ (_ ++ []) = _
        rw [List.append_nil]
      refine lc2_out walk_range (fun i J => Same H J ∧ J D = some (.lst ((fm i).map V.bl)) ∧ (fm i).length ≤ 12 * i) ⟨same_upd hDn, upd_same, Nat.zero_le _⟩ (fun _ _ _ _ => trivial) ?_ ?_
      · rintro i x J J' hi ⟨S, eD, hl⟩ ⟨rfl, rfl⟩
        have hi : i < ts.length := by omega
        refine ⟨rfl, _, rfl, _, rfl, by omega, by omega, ?_⟩
        rw [show ((0 : Int) + (i : Int)).toNat = i by omega]
        refine lc2_in walk_range (fun j J2 => Same H J2 ∧ J2 D = some (.lst ((fm i ++ (List.range j).map fun early => Txt.startswith (ts.getD early "") (ts.getD i "")).map V.bl))) ⟨S, by rw [eD, List.range_zero]; show _ = some (HO.lst ((fm i ++ []).map V.bl)); rw [List.append_nil]⟩ (fun _ _ _ _ => trivial) ?_ ?_
        · rintro j x J2 J3 hj ⟨S2, eD2⟩ ⟨rfl, rfl⟩
          have hT2 := (hT.same S2).sq (K := K)
          have g1 : (ts.map V.str)[j]? = some (.str (ts.getD j "")) := by
            rw [List.getElem?_map, List.getElem?_eq_getElem (by omega), List.getD_eq_getElem?_getD, List.getElem?_eq_getElem (by omega)]
            rfl
          have g2 : (ts.map V.str)[i]? = some (.str (ts.getD i "")) := by
            rw [List.getElem?_map, List.getElem?_eq_getElem (by omega), List.getD_eq_getElem?_getD, List.getElem?_eq_getElem (by omega)]
            rfl
          refine ⟨rfl, _, rfl, _, rfl, t, _, _, .str (ts.getD j ""), rfl, rfl, hT2, by rw [Int.zero_add]; exact atI_nat (j := j) g1, rfl, _, rfl, _, rfl, t, _, _, .str (ts.getD i ""), rfl, rfl, hT2, by rw [Int.zero_add]; exact atI_nat (j := i) g2, _, _, rfl, rfl, ?_⟩
          refine ⟨_, eD2, ?_, same_put S2 hDn, ?_⟩
          · rw [List.length_map, List.length_append, List.length_map, List.length_range, sizeLine_eq]
            omega
          · rw [upd_same, List.range_succ, List.map_append (f := fun early => Txt.startswith (ts.getD early "") (ts.getD i "")), ← List.append_assoc, List.map_append (l₁ := fm i ++ _)]
            rfl
        · rintro J2 ⟨S2, eD2⟩
          refine ⟨S2, by rw [eD2, fm1], ?_⟩
          rw [fm1, List.length_append, List.length_map, List.length_range]
          omega
      · rintro J ⟨S, eD, _⟩
        exact ⟨D, fm ts.length, rfl, SqL.of eD, _, rfl, by
          have z := q J S
          have e : hbF (.pl (.listed (.lst (ts.map V.str)))) = !(fm ts.length).any id := by
            show hbB ((ts.map V.str).map strV) = _
            rw [map_strV]
            rfl
          rw [e] at z
          exact z⟩

end
structure GK2 (P : Program) (w : World) (K : Frag) (mg : Str → Option Value) (base : Heap) : Prop extends GK P w K mg base where
  has_beginnings_first : FnAt P w K mg base CX0 2 "has_beginnings_first" ["field"] (spHb K 2)
  has_whole_ends : FnAt P w K mg base CX0 2 "has_whole_ends" ["texts", "text"] (spWe K)
section
variable {P : Program} {w : World} {K : Frag} {mg : Str → Option Value} {base : Heap} {f : Addr} {fd : FuncData}

abbrev s_iw : Stmt := top 25
theorem sc_iw : FnScope ["field", "text"] ["field"] (defScope s_iw) := ⟨rfl, rfl, rfl, by decide +kernel, rfl, by decide +kernel, by decide +kernel⟩

theorem ok_iw (F : FunD K "is_whole" "is_whole" (defArgs s_iw) (defBody s_iw) (defScope s_iw) [] [] f fd) (G : GK2 P w K mg base) : FnOk P w K mg base CX0 3 f fd ["field"] (spIw K) := by
  refine F.ok (CX := CX0) sc_iw (fun vs H Q E h => ?_) (fun cdv A outer s H vs Q E hr h => ?_)
  · obtain ⟨_, _, rfl, _⟩ := h
    rfl
  · refine ⟨_, PSs.nox (pss_cons (ps_if (pt_val (pe_callB (call_ieK (K := K) rfl) (by rfl) G.isinstance (by decide +kernel) (pa_cons (pv 0) (pa_cons (pe_gref (by rfl) G.cNumber.mgC) pa_nil))))
      (pss_one (ps_ret (pe_or (pe_cmpR op_gt (pe_fld (pv 0) rfl) pe_int (nomark _)) (pe_one (pe_and (pe_cmpR op_notN (pe_fld (pv 0) rfl) pe_non (nomark _)) (pe_one (pe_cmpR op_lt (pe_fld (pv 0) rfl) pe_int (nomark _))))))))
      pss_nil)
    (pss_cons (ps_if (pt_val (pe_callB (call_ieK (K := K) rfl) (by rfl) G.isinstance (by decide +kernel) (pa_cons (pv 0) (pa_cons (pe_gref (by rfl) G.cListed.mgC) pa_nil))))
      (pss_one (ps_ret (pe_and (pe_fn G.has_beginnings_first hr pass0 (by rfl) (pa_cons (pv 0) pa_nil)) (pe_one (pe_callB (cr_all rfl) (by rfl) G.all (by decide +kernel) (pa_cons (pe_lc (own := [("text", 1)]) (g := gName 1) (tt := tYes) rfl sc_iw.nd (pi_tup (pe_fld (pv 0) rfl)) (blkOk_by (N := ["field", "text"]) (sc := defScope s_iw) (by decide +kernel)) (fun _ _ _ _ _ => pg_name (i := 1) sc_iw.nd rfl (Or.inl rfl)) (fun _ _ _ _ _ => pts_nil) (fun _ _ _ _ _ => (pe_fn G.has_whole_ends hr pass0 (by rfl) (pa_cons (pe_fldK (K := K) rfl (pv 0) rfl) (pa_cons (pv 1) pa_nil))))) pa_nil))))))
      pss_nil)
    (pss_one (ps_ret (pe_fn G.has_beginnings_first hr pass0 (by rfl) (pa_cons (pv 0) pa_nil)))))), ?_⟩
    obtain ⟨y, d, rfl, hF, hD, q⟩ := h
    cases hD with
    | @mk nn mm d hq hd =>
      obtain ⟨⟨dx, y2, ha, hF2⟩, h1, h2, h3, h4⟩ := id hF
      refine ⟨_, rfl, _, _, _, _, _, rfl, .own _, G.ty (i := 5) (by decide) ha, G.kit 5 1 (by decide) (by decide), _, rfl, iteF ?_⟩
      refine ⟨_, rfl, _, _, _, _, _, rfl, .own _, G.ty (i := 5) (by decide) ha, G.kit 5 3 (by decide) (by decide), _, rfl, iteF ?_⟩
      exact ⟨_, rfl, y, _, rfl, hF, .mk hq hd, by show 1 < 2; decide, fun H' S => q H' S⟩
    | @pl d hd =>
      obtain ⟨hF0, h1, h2⟩ := id hF
      obtain ⟨dx0, fs0, ha0, _⟩ := hF0.ins
      have hlt := d.ci_lt
      refine ⟨_, rfl, _, _, _, _, _, rfl, .own _, G.ty (by omega) ha0, G.kit d.ci 1 (by omega) (by decide), _, rfl, ?_⟩
      cases hd with
      | word a b c =>
        refine iteF ⟨_, rfl, _, _, _, _, _, rfl, .own _, G.ty (i := 0) (by decide) ha0, G.kit 0 3 (by decide) (by decide), _, rfl, iteF ?_⟩
        exact ⟨_, rfl, y, _, rfl, hF, .pl (.word a b c), by show 0 < 2; decide, fun H' S => q H' S⟩
      | fixed a b =>
        refine iteF ⟨_, rfl, _, _, _, _, _, rfl, .own _, G.ty (i := 2) (by decide) ha0, G.kit 2 3 (by decide) (by decide), _, rfl, iteF ?_⟩
        exact ⟨_, rfl, y, _, rfl, hF, .pl (.fixed a b), by show 0 < 2; decide, fun H' S => q H' S⟩
      | ended a b c e g =>
        refine iteF ⟨_, rfl, _, _, _, _, _, rfl, .own _, G.ty (i := 4) (by decide) ha0, G.kit 4 3 (by decide) (by decide), _, rfl, iteF ?_⟩
        exact ⟨_, rfl, y, _, rfl, hF, .pl (.ended a b c e g), by show 0 < 2; decide, fun H' S => q H' S⟩
      | @number l m a b =>
        refine iteT ?_
        obtain ⟨dx, ha⟩ := hF0
        refine ⟨_, rfl, y, _, dx, _, _, rfl, ha, G.cNumber.cl, G.cNumber.no _ (by decide +kernel), lNumber_least, _, _, rfl, rfl, _, rfl, ?_⟩
        have z := q H (Same.refl _)
        have e : iwF (.pl (.number (.int (l : Nat)) m)) = (decide ((l : Int) > 0) || (!decide (m = .non) && decide (intV m < 100))) := rfl
        rw [e] at z
        cases h0 : decide ((l : Int) > 0) with
        | true =>
          rw [h0] at z
          exact iteT z
        | false =>
          rw [h0] at z
          refine iteF ⟨_, rfl, y, _, dx, _, _, rfl, ha, G.cNumber.cl, G.cNumber.no _ (by decide +kernel), lNumber_most, rfl, _, rfl, ?_⟩
          rcases b with rfl | ⟨j, rfl, b1, b2⟩
          · exact iteF z
          · exact iteT ⟨_, rfl, y, _, dx, _, _, rfl, ha, G.cNumber.cl, G.cNumber.no _ (by decide +kernel), lNumber_most, _, _, rfl, rfl, z⟩
      | @listed ts a b c e =>
        obtain ⟨dx, t, ha, hT⟩ := hF0
        have hT : TupZ H t (ts.map V.str) := hT
        refine iteF ⟨_, rfl, _, _, _, _, _, rfl, .own _, G.ty (i := 3) (by decide) ha0, G.kit 3 3 (by decide) (by decide), _, rfl, iteT ?_⟩
        refine ⟨_, rfl, y, _, rfl, hF, .pl (.listed a b c e), by show 0 < 2; decide, fun H1 S1 => ⟨_, rfl, ?_⟩⟩
        have ee : iwF (.pl (.listed (.lst (ts.map V.str)))) = (hbB ts && (ts.map fun t => weB ts t).all id) := by
          show (hbB ((ts.map V.str).map strV) && (((ts.map V.str).map strV).map fun t => weB ((ts.map V.str).map strV) t).all id) = _
          rw [map_strV]
        have e2 : hbF (.pl (.listed (.lst (ts.map V.str)))) = hbB ts := by
          show hbB ((ts.map V.str).map strV) = _
          rw [map_strV]
        rw [e2]
        cases hh : hbB ts with
        | false =>
          have z := q H1 S1
          rw [ee, hh] at z
          exact iteF z
        | true =>
          refine iteT ?_
          have hT1 := hT.same S1
          refine ⟨_, rfl, y, _, dx, _, _, rfl, S1 _ _ ha, G.cListed.cl, G.cListed.no _ (by decide +kernel), lListed_texts, t, rfl, ⟨_, hT1.sq⟩, fun D hDn => ?_⟩
          refine lc_tup (K := K) (a := t) (xs := ts.map V.str) (LcB H1 D fun n => (ts.take n).map fun t => weB ts t) (LcB.start hDn rfl) (fun i J hi pJ => (hT1.same pJ.1).sq) ?_ ?_
          · intro i x J hx pJ
            obtain ⟨u, hu, rfl⟩ := map_get hx
            have hi := (List.getElem?_eq_some_iff.mp hu).1
            have tl := (tens_are u (b u (List.mem_of_getElem? hu))).2
            refine ⟨rfl, _, rfl, y, _, dx, _, _, rfl, pJ.1 _ _ (S1 _ _ ha), G.cListed.cl, G.cListed.no _ (by decide +kernel), lListed_texts, _, rfl, t, ts, u, rfl, (hT1.same pJ.1).sq, by omega, by omega, fun J2 S2 => ?_⟩
            exact pJ.put S2 (by rw [tk_snoc hu, List.map_append]; rfl) (by omega)
          · rintro J ⟨S2, _, eD, _⟩
            rw [List.length_map] at eD
            dsimp only at eD
            rw [List.take_length] at eD
            refine ⟨D, _, rfl, SqL.of eD, ?_⟩
            have z := q J (S1.trans S2)
            rw [ee, hh] at z
            exact z

end
end L2.K06

set_option Elab.async false
set_option linter.all false
set_option maxRecDepth 100000
set_option maxHeartbeats 4000000
/-! A field in which texts often stand in one another. -/
namespace L2.K06
open PySem PySem.W PySem.Spec PySem.Calls PyProof.Rows L2.Jk
def nearB : List Str := ["", "a", "b", "aa", "ab", "ba", "bb", "aba", "bab", "abb", "aab", "c"]
def nearD : List Str := ["abcde", "abcdef", "de", "d", "bcde", "e", "abab", "ab", "bab", "aaaaaaa", "aaaaa", "xabcdefabcde"]
def nearE : List Str := ["cax", "zca", "zcab", "ab", "cjj"]
def cAll (n : Nat) : List Str := (("abdefghij" : Str).cps.toList.take n).map fun c => ("c" : Str) ++ (⟨#[c]⟩ : Str)
def nearC : List Str := cAll 9 ++ nearE
theorem near_sub : (∀ t ∈ nearB, t ∈ texN) ∧ (∀ t ∈ nearC, t ∈ texN) ∧ (∀ t ∈ nearD, t ∈ texN) ∧ nearB.Nodup ∧ nearC.Nodup ∧ nearD.Nodup := by decide +kernel
theorem none_but {a D : Addr} {H H' : Hp} (n : D ≠ a) (B : But a H H') (h : H' D = none) : H D = none := by
  cases e : H D with
  | none => rfl
  | some o => rw [B _ _ n e] at h; cases h
theorem cAll_succ {i c : Nat} (h : ("abdefghij" : Str).cps[i]? = some c) : cAll (i + 1) = cAll i ++ [("c" : Str) ++ (⟨#[c]⟩ : Str)] := by
  have e : ("abdefghij" : Str).cps.toList[i]? = some c := by rw [← h]; simp
  unfold cAll
  rw [List.take_add_one, e, List.map_append]
  rfl
theorem cAll_len : ∀ i ≤ 9, ∀ t ∈ cAll i, t.length ≤ 2 := by decide +kernel
structure GN (P : Program) (w : World) (K : Frag) (mg : Str → Option Value) (base : Heap) : Prop extends GR0 P w K mg base where
  law_field : FnAt P w K mg base CX0 4 "_law_field" ["_law_s"] spField
section
variable {P : Program} {w : World} {K : Frag} {mg : Str → Option Value} {base : Heap} {f : Addr} {fd : FuncData}

abbrev s_law_near : Stmt := top 39
theorem sc_law_near : FnScope ["_law_s", "_law_way", "_law_low", "_law_some", "_law_sign", "_law_turn"] ["_law_s"] (defScope s_law_near) := ⟨rfl, rfl, rfl, by decide +kernel, rfl, by decide +kernel, by decide +kernel⟩

theorem ok_law_near (F : FunD K "_law_near" "_law_near" (defArgs s_law_near) (defBody s_law_near) (defScope s_law_near) [] [] f fd) (G : GN P w K mg base) : FnOk P w K mg base CX0 5 f fd ["_law_s"] spField := by
  refine F.ok (CX := CX0) sc_law_near (fun vs H Q E h => ?_) (fun cdv A outer s H vs Q E hr h => ?_)
  · obtain ⟨a, rfl, _⟩ := h
    rfl
  · refine ⟨_, PSs.nox (pss_cons (ps_set (i := 1) sc_law_near.nd rfl (Or.inl rfl) (pe_fn G.law_digit (hr.mono (by decide)) pass0 (by rfl) (pa_cons (pv 0) (pa_cons pe_int pa_nil))))
    (pss_cons (ps_if (pt_cmpR op_eq (pv 1) pe_int (nomark _))
      (pss_cons (ps_set (i := 2) sc_law_near.nd rfl (Or.inl rfl) (pe_ix ix_list (pe_lstS (pa_cons pe_int (pa_cons pe_int (pa_cons pe_int (pa_cons pe_int (pa_cons pe_int (pa_cons pe_int pa_nil))))))) (pe_fn G.law_digit (hr.mono (by decide)) pass0 (by rfl) (pa_cons (pv 0) (pa_cons pe_int pa_nil))) (fun _ _ => rfl)))
      (pss_one (ps_ret (pe_tupS (pa_cons pe_str (pa_cons (pv 2) (pa_cons (pe_ix ix_list (pe_lstS (pa_cons (pv 2) (pa_cons (pe_op op_add pe_int (pv 2)) (pa_cons (pe_op op_add pe_int (pv 2)) (pa_cons pe_int (pa_cons pe_int (pa_cons pe_int (pa_cons pe_non pa_nil)))))))) (pe_fn G.law_digit (hr.mono (by decide)) pass0 (by rfl) (pa_cons (pv 0) (pa_cons pe_int pa_nil))) (fun _ _ => rfl)) pa_nil)))))))
      pss_nil)
    (pss_cons (ps_if (pt_cmpR op_eq (pv 1) pe_int (nomark _))
      (pss_cons (ps_set (i := 3) sc_law_near.nd rfl (Or.inr rfl) (pe_lstS (pa_cons pe_str (pa_cons pe_str (pa_cons pe_str (pa_cons pe_str (pa_cons pe_str (pa_cons pe_str (pa_cons pe_str (pa_cons pe_str (pa_cons pe_str (pa_cons pe_str (pa_cons pe_str (pa_cons pe_str pa_nil))))))))))))))
      (pss_cons (ps_if (pt_cmpR op_eq (pe_fn G.law_digit (hr.mono (by decide)) pass0 (by rfl) (pa_cons (pv 0) (pa_cons pe_int pa_nil))) pe_int (nomark _))
        (pss_cons (ps_set (i := 3) sc_law_near.nd rfl (Or.inr rfl) (pe_op op_catS (pe_lc (own := [("_law_sign", 4)]) (g := gName 4) (tt := tYes) rfl sc_law_near.nd (pi_str pe_str) (blkOk_by (N := ["_law_s", "_law_way", "_law_low", "_law_some", "_law_sign", "_law_turn"]) (sc := defScope s_law_near) (by decide +kernel)) (fun _ _ _ _ _ => pg_name (i := 4) sc_law_near.nd rfl (Or.inl rfl)) (fun _ _ _ _ _ => pts_nil) (fun _ _ _ _ _ => (pe_op op_add_str pe_str (pv 4)))) (pe_lstS (pa_cons pe_str (pa_cons pe_str (pa_cons pe_str (pa_cons pe_str (pa_cons pe_str pa_nil))))))))
        (pss_one (ps_ret (pe_tupS (pa_cons pe_str (pa_cons (pe_lc (own := [("_law_turn", 5)]) (g := gName 5) (tt := tYes) rfl sc_law_near.nd (pi_range1 (by rfl) G.range (pa_cons pe_int pa_nil)) (blkOk_by (N := ["_law_s", "_law_way", "_law_low", "_law_some", "_law_sign", "_law_turn"]) (sc := defScope s_law_near) (by decide +kernel)) (fun _ _ _ _ _ => pg_name (i := 5) sc_law_near.nd rfl (Or.inl rfl)) (fun _ _ _ _ _ => pts_nil) (fun _ _ _ _ _ => (by exact (pe_bmK (K := K) rfl PySem.F.plainAttrs_list PySem.F.slot_list_pop PySem.F.type_list_pop mt_popAt (pv 3) (pa_cons (pe_fn G.law_digit (hr.mono (by decide)) pass0 (by rfl) (pa_cons (pv 0) (pa_cons (pe_callB (call_lenK (K := K) rfl) (by rfl) G.len (by decide +kernel) (pa_cons (pv 3) pa_nil)) pa_nil))) pa_nil))))) pa_nil))))))
        pss_nil)
      (C8.pss_cut (ps_if (pt_cmpR op_eq (pe_fn G.law_digit (hr.mono (by decide)) pass0 (by rfl) (pa_cons (pv 0) (pa_cons pe_int pa_nil))) pe_int (nomark _))
        (pss_one (ps_set (i := 3) sc_law_near.nd rfl (Or.inr rfl) (pe_lstS (pa_cons pe_str (pa_cons pe_str (pa_cons pe_str (pa_cons pe_str (pa_cons pe_str (pa_cons pe_str (pa_cons pe_str (pa_cons pe_str (pa_cons pe_str (pa_cons pe_str (pa_cons pe_str (pa_cons pe_str pa_nil)))))))))))))))
        pss_nil)
      (pss_one (ps_ret (pe_tupS (pa_cons pe_str (pa_cons (pe_lc (own := [("_law_turn", 5)]) (g := gName 5) (tt := tYes) rfl sc_law_near.nd (pi_range1 (by rfl) G.range (pa_cons (pe_op op_add pe_int (pe_fn G.law_digit (hr.mono (by decide)) pass0 (by rfl) (pa_cons (pv 0) (pa_cons pe_int pa_nil)))) pa_nil)) (blkOk_by (N := ["_law_s", "_law_way", "_law_low", "_law_some", "_law_sign", "_law_turn"]) (sc := defScope s_law_near) (by decide +kernel)) (fun _ _ _ _ _ => pg_name (i := 5) sc_law_near.nd rfl (Or.inl rfl)) (fun _ _ _ _ _ => pts_nil) (fun _ _ _ _ _ => (by exact (pe_bmK (K := K) rfl PySem.F.plainAttrs_list PySem.F.slot_list_pop PySem.F.type_list_pop mt_popAt (pv 3) (pa_cons (pe_fn G.law_digit (hr.mono (by decide)) pass0 (by rfl) (pa_cons (pv 0) (pa_cons (pe_callB (call_lenK (K := K) rfl) (by rfl) G.len (by decide +kernel) (pa_cons (pv 3) pa_nil)) pa_nil))) pa_nil))))) pa_nil))))))))
      pss_nil)
    (pss_one (ps_ret (pe_fn G.law_field hr pass0 (by rfl) (pa_cons (pv 0) pa_nil))))))), ?_⟩
    obtain ⟨a, rfl, st, q⟩ := h
    refine ⟨_, rfl, a, 4, rfl, st, by decide, by decide, fun d0 H1 h00 h01 B1 st1 => ?_⟩
    refine ⟨_, rfl, rfl, _, rfl, ?_⟩
    refine ite2 (fun c0 => ?_) (fun c0 => ?_)
    · refine ⟨by show 6 ≤ 1000; decide, fun p H2 hp S2 e2 => ⟨_, rfl, a, 6, rfl, st1.same S2, by decide, by decide, fun d1 H3 g0 g1 B3 st3 => ?_⟩⟩
      have np := st1.ne hp
      obtain ⟨i, rfl⟩ : ∃ i : Nat, d1 = (i : Int) := ⟨d1.toNat, by omega⟩
      obtain ⟨l, hl, hg⟩ : ∃ l : Nat, l ≤ 10 ∧ ([V.int 0, V.int 0, V.int 0, V.int 1, V.int 9, V.int 10] : List V)[i]? = some (.int (l : Nat)) := by
        have hi : i = 0 ∨ i = 1 ∨ i = 2 ∨ i = 3 ∨ i = 4 ∨ i = 5 := by omega
        rcases hi with rfl | rfl | rfl | rfl | rfl | rfl
        · exact ⟨0, by decide, rfl⟩
        · exact ⟨0, by decide, rfl⟩
        · exact ⟨0, by decide, rfl⟩
        · exact ⟨1, by decide, rfl⟩
        · exact ⟨9, by decide, rfl⟩
        · exact ⟨10, by decide, rfl⟩
      refine ⟨p, _, _, .int (l : Nat), rfl, rfl, SqL.of (B3 _ _ np e2), atI_nat (j := i) hg, ?_⟩
      refine ⟨_, rfl, _, rfl, _, rfl, _, _, rfl, rfl, _, rfl, _, _, rfl, rfl, by show 7 ≤ 1000; decide, fun p4 H4 hp4 S4 e4 => ⟨_, rfl, a, 7, rfl, st3.same S4, by decide, by decide, fun d5 H5 k0 k1 B5 st5 => ?_⟩⟩
      obtain ⟨i5, rfl⟩ : ∃ i : Nat, d5 = (i : Int) := ⟨d5.toNat, by omega⟩
      have np4 := st3.ne hp4
      obtain ⟨m, hm, hg5⟩ : ∃ m : V, BdOk l m 120 ∧ ([V.int (l : Nat), V.int (9 + (l : Int)), V.int (10 + (l : Int)), V.int 99, V.int 100, V.int 101, V.non] : List V)[i5]? = some m := by
        have hi : i5 = 0 ∨ i5 = 1 ∨ i5 = 2 ∨ i5 = 3 ∨ i5 = 4 ∨ i5 = 5 ∨ i5 = 6 := by omega
        rcases hi with rfl | rfl | rfl | rfl | rfl | rfl | rfl
        · exact ⟨_, .inr ⟨l, rfl, by omega, by omega⟩, rfl⟩
        · exact ⟨_, .inr ⟨9 + l, by rw [show ((9 + l : Nat) : Int) = 9 + (l : Int) by omega], by omega, by omega⟩, rfl⟩
        · exact ⟨_, .inr ⟨10 + l, by rw [show ((10 + l : Nat) : Int) = 10 + (l : Int) by omega], by omega, by omega⟩, rfl⟩
        · exact ⟨_, .inr ⟨99, rfl, by omega, by omega⟩, rfl⟩
        · exact ⟨_, .inr ⟨100, rfl, by omega, by omega⟩, rfl⟩
        · exact ⟨_, .inr ⟨101, rfl, by omega, by omega⟩, rfl⟩
        · exact ⟨_, .inl rfl, rfl⟩
      refine ⟨p4, _, _, m, rfl, rfl, SqL.of (B5 _ _ np4 e4), atI_nat (j := i5) hg5, by show 3 ≤ 1000; decide, fun pt Ht hpt St et => ?_⟩
      exact q _ (.pl (.number (.int (l : Nat)) m)) Ht (.pl (.number (by omega) hm)) ⟨pt, rfl, st5.ne hpt, et⟩ (((((B1.trans (But.of_same S2)).trans B3).trans (But.of_same S4)).trans B5).trans (But.of_same St)) (st5.same St)
    refine ⟨_, rfl, rfl, _, rfl, ?_⟩
    refine ite2 (fun c1 => ?_) (fun c1 => ?_)
    · refine ⟨by show 12 ≤ 1000; decide, fun p0 H2 hp0 S2 e2 => ?_⟩
      have np0 := st1.ne hp0
      refine ⟨_, rfl, a, 4, rfl, st1.same S2, by decide, by decide, fun d3 H3 g0 g1 B3 st3 => ⟨rfl, _, rfl, ?_⟩⟩
      have e3 := B3 _ _ np0 e2
      have B03 := (B1.trans (But.of_same S2)).trans B3
      refine ite2 (fun c2 => ?_) (fun c2 => ?_)
      · refine ⟨_, rfl, fun D0 hD0 => ?_⟩
        refine lc_str (x := "abdefghij") (LcP H3 D0 fun n => (cAll n).map V.str) (LcP.start hD0 rfl) ?_ ?_
        · intro i c J hc pJ
          have hi : i < 9 := (Array.getElem?_eq_some_iff.mp hc).1
          refine ⟨rfl, _, rfl, _, _, rfl, rfl, by rw [sizeLine_eq]; show 1 + 1 ≤ 16777216; decide, ?_⟩
          exact pJ.put (Same.refl _) (by rw [cAll_succ hc, List.map_append]; rfl) (by omega)
        · rintro J ⟨SJ, _, eD0, _⟩
          refine ⟨by show 5 ≤ 1000; decide, fun p2 H5 hp2 S5 e5 => ?_⟩
          have eD5 : H5 D0 = some (.lst ((cAll 9).map V.str)) := S5 _ _ eD0
          refine ⟨D0, p2, _, _, rfl, rfl, SqL.of eD5, SqL.of e5, by rw [sizeLine_eq]; show 9 + 5 ≤ 16777216; decide, fun p HM hp SM eM => ?_⟩
          have stM := ((st3.same SJ).same S5).same SM
          have npa := ((st3.same SJ).same S5).ne hp
          have BM := ((B03.trans (But.of_same SJ)).trans (But.of_same S5)).trans (But.of_same SM)
          have hpH := none_but npa ((B03.trans (But.of_same SJ)).trans (But.of_same S5)) hp
          have eM : HM p = some (.lst (nearC.map V.str)) := by
            rw [eM]
            unfold nearC
            rw [List.map_append]
            rfl
          refine ⟨12, rfl, by decide, by decide, fun D hD => ?_⟩
          have nDp : D ≠ p := fun z => by rw [z, eM] at hD; cases hD
          have nDa : D ≠ a := stM.ne hD
          have hDH : H D = none := none_but nDa BM hD
          refine lc_range (lo := 0) (n := 12) (fun i H' => ∃ pk L : List Str, (pk ++ L).Perm nearC ∧ pk.length = i ∧ H' p = some (.lst (L.map V.str)) ∧ H' D = some (.lst (pk.map V.str)) ∧ StAt H' a ∧ But a H H') ?_ ?_ ?_
          · refine ⟨[], nearC, List.Perm.refl _, rfl, by rw [upd_ne (Ne.symm nDp)]; exact eM, upd_same, ?_, ?_⟩
            · obtain ⟨a1, a2, a3, a4, a5⟩ := stM
              exact ⟨a1, a2, a3, by rw [upd_ne (Ne.symm nDa)]; exact a4, a5⟩
            · intro c o hc ho
              rw [upd_ne (ne_of_none ho hDH)]
              exact BM _ _ hc ho
          · rintro i H3 hi ⟨pk, L, perm, hpk, eL, eD, st3, B3⟩
            have ln := perm.length_eq
            rw [List.length_append, hpk, show nearC.length = 14 from rfl] at ln
            refine ⟨rfl, _, rfl, .inl ⟨rfl, _, SqL.of eL⟩, _, rfl, _, rfl, p, _, rfl, .inl (SqL.of eL), a, _, rfl, st3, by rw [List.length_map]; omega, by rw [List.length_map]; omega, fun d2 H4 h02 h12 B4 st4 => ?_⟩
            obtain ⟨k2, rfl⟩ : ∃ k : Nat, d2 = (k : Int) := ⟨d2.toNat, by omega⟩
            rw [List.length_map] at h12
            have hk2 : k2 < L.length := by omega
            refine ⟨p, _, _, k2, .str L[k2], rfl, rfl, B4 _ _ npa eL, by omega, by omega, ?_, by rw [List.getElem?_map, List.getElem?_eq_getElem hk2]; rfl, pk.map V.str, ?_, ?_, ?_⟩
            · refine (ixN_seq ?_).1
              unfold ixN
              rw [List.length_map, if_pos (by omega), if_pos (by omega)]
              simp
            · rw [upd_ne nDp]
              exact B4 _ _ nDa eD
            · rw [List.length_map, sizeLine_eq]
              omega
            · refine ⟨pk ++ [L[k2]], L.eraseIdx k2, ?_, ?_, ?_, ?_, ?_, ?_⟩
              · refine List.Perm.trans ?_ perm
                rw [List.append_assoc]
                exact List.Perm.append_left _ (erase_perm L k2 hk2)
              · rw [List.length_append, hpk]
                rfl
              · rw [upd_ne (Ne.symm nDp), upd_same, map_eraseIdx']
              · rw [upd_same, List.map_append]
                rfl
              · obtain ⟨a1, a2, a3, a4, a5⟩ := st4
                exact ⟨a1, a2, a3, by rw [upd_ne (Ne.symm nDa), upd_ne (Ne.symm npa)]; exact a4, a5⟩
              · intro c o hc ho
                rw [upd_ne (ne_of_none ho hDH), upd_ne (ne_of_none ho hpH)]
                exact B4 _ _ hc (B3 _ _ hc ho)
          · rintro H3 ⟨pk, L, perm, hpk, eL, eD, st3, B3⟩
            refine ⟨by show 2 ≤ 1000; decide, fun pt Ht hpt St et => ?_⟩
            have nd : (pk ++ L).Nodup := perm.nodup_iff.mpr near_sub.2.2.2.2.1
            exact q _ (.pl (.listed (.lst (pk.map V.str)))) Ht (.pl (.listed (List.nodup_append.mp nd).1 (fun t ht => near_sub.2.1 t (perm.mem_iff.mp (List.mem_append_left _ ht))) (fun z => by rw [z] at hpk; cases hpk) (by omega))) ⟨pt, .ref D, rfl, st3.ne hpt, et, ⟨D, rfl, St _ _ eD⟩, fun c e => by injection e with e; exact e ▸ nDa⟩ (B3.trans (But.of_same St)) (st3.same St)
      · refine ⟨fun σ J => ∃ (v2 v4 v5 : Option V) (p : Addr) (MM : List Str), σ = [some (.ref a), some (.int d0), v2, some (.ref p), v4, v5] ∧ J p = some (.lst (MM.map V.str)) ∧ MM.length = 12 ∧ MM.Nodup ∧ (∀ t ∈ MM, t ∈ texN) ∧ p ≠ a ∧ H p = none ∧ StAt J a ∧ But a H J, ?_, ?_⟩
        · refine ⟨_, rfl, a, 3, rfl, st3, by decide, by decide, fun d4 H4 k0 k1 B4 st4 => ⟨rfl, _, rfl, ?_⟩⟩
          refine ite2 (fun c3 => ?_) (fun c3 => ?_)
          · refine ⟨by show 12 ≤ 1000; decide, fun p HM hp SM eM => ?_⟩
            exact ⟨_, _, _, p, nearD, rfl, eM, rfl, near_sub.2.2.2.2.2, near_sub.2.2.1, st4.ne hp, none_but (st4.ne hp) (B03.trans B4) hp, st4.same SM, (B03.trans B4).trans (But.of_same SM)⟩
          · exact ⟨_, _, _, p0, nearB, rfl, B4 _ _ np0 e3, rfl, near_sub.2.2.2.1, near_sub.1, np0, none_but np0 B1 hp0, st4, B03.trans B4⟩
        rintro σ J ⟨v2, v4, v5, p, MM, rfl, eJ, hlM, hnd, hsub, npa, hpH, stJ, BJ⟩
        refine ⟨_, rfl, a, 5, rfl, stJ, by decide, by decide, fun dd HM h0 h1 BM0 stM => ⟨1, dd, rfl, rfl, ?_⟩⟩
        obtain ⟨j, rfl⟩ : ∃ j : Nat, dd = (j : Int) := ⟨dd.toNat, by omega⟩
        have BM := BJ.trans BM0
        have eM := BM0 _ _ npa eJ
        refine ⟨1 + (j : Int), rfl, by omega, by omega, fun D hD => ?_⟩
        rw [show (1 + (j : Int)).toNat = j + 1 by omega]
        have nDp : D ≠ p := fun z => by rw [z, eM] at hD; cases hD
        have nDa : D ≠ a := stM.ne hD
        have hDH : H D = none := none_but nDa BM hD
        refine lc_range (lo := 0) (n := j + 1) (fun i H' => ∃ pk L : List Str, (pk ++ L).Perm MM ∧ pk.length = i ∧ H' p = some (.lst (L.map V.str)) ∧ H' D = some (.lst (pk.map V.str)) ∧ StAt H' a ∧ But a H H') ?_ ?_ ?_
        · refine ⟨[], MM, List.Perm.refl _, rfl, by rw [upd_ne (Ne.symm nDp)]; exact eM, upd_same, ?_, ?_⟩
          · obtain ⟨a1, a2, a3, a4, a5⟩ := stM
            exact ⟨a1, a2, a3, by rw [upd_ne (Ne.symm nDa)]; exact a4, a5⟩
          · intro c o hc ho
            rw [upd_ne (ne_of_none ho hDH)]
            exact BM _ _ hc ho
        · rintro i H3 hi ⟨pk, L, perm, hpk, eL, eD, st3, B3⟩
          have ln := perm.length_eq
          rw [List.length_append, hpk, hlM] at ln
          refine ⟨rfl, _, rfl, .inl ⟨rfl, _, SqL.of eL⟩, _, rfl, _, rfl, p, _, rfl, .inl (SqL.of eL), a, _, rfl, st3, by rw [List.length_map]; omega, by rw [List.length_map]; omega, fun d2 H4 h02 h12 B4 st4 => ?_⟩
          obtain ⟨k2, rfl⟩ : ∃ k : Nat, d2 = (k : Int) := ⟨d2.toNat, by omega⟩
          rw [List.length_map] at h12
          have hk2 : k2 < L.length := by omega
          refine ⟨p, _, _, k2, .str L[k2], rfl, rfl, B4 _ _ npa eL, by omega, by omega, ?_, by rw [List.getElem?_map, List.getElem?_eq_getElem hk2]; rfl, pk.map V.str, ?_, ?_, ?_⟩
          · refine (ixN_seq ?_).1
            unfold ixN
            rw [List.length_map, if_pos (by omega), if_pos (by omega)]
            simp
          · rw [upd_ne nDp]
            exact B4 _ _ nDa eD
          · rw [List.length_map, sizeLine_eq]
            omega
          · refine ⟨pk ++ [L[k2]], L.eraseIdx k2, ?_, ?_, ?_, ?_, ?_, ?_⟩
            · refine List.Perm.trans ?_ perm
              rw [List.append_assoc]
              exact List.Perm.append_left _ (erase_perm L k2 hk2)
            · rw [List.length_append, hpk]
              rfl
            · rw [upd_ne (Ne.symm nDp), upd_same, map_eraseIdx']
            · rw [upd_same, List.map_append]
              rfl
            · obtain ⟨a1, a2, a3, a4, a5⟩ := st4
              exact ⟨a1, a2, a3, by rw [upd_ne (Ne.symm nDa), upd_ne (Ne.symm npa)]; exact a4, a5⟩
            · intro c o hc ho
              rw [upd_ne (ne_of_none ho hDH), upd_ne (ne_of_none ho hpH)]
              exact B4 _ _ hc (B3 _ _ hc ho)
        · rintro H3 ⟨pk, L, perm, hpk, eL, eD, st3, B3⟩
          refine ⟨by show 2 ≤ 1000; decide, fun pt Ht hpt St et => ?_⟩
          have nd : (pk ++ L).Nodup := perm.nodup_iff.mpr hnd
          exact q _ (.pl (.listed (.lst (pk.map V.str)))) Ht (.pl (.listed (List.nodup_append.mp nd).1 (fun t ht => hsub t (perm.mem_iff.mp (List.mem_append_left _ ht))) (fun z => by rw [z] at hpk; cases hpk) (by omega))) ⟨pt, .ref D, rfl, st3.ne hpt, et, ⟨D, rfl, St _ _ eD⟩, fun c e => by injection e with e; exact e ▸ nDa⟩ (B3.trans (But.of_same St)) (st3.same St)
    · exact ⟨_, rfl, a, rfl, st1, fun v d H' hd hF B st' => q v d H' hd hF (B1.trans B) st'⟩


end
end L2.K06

set_option Elab.async false
set_option linter.all false
set_option maxRecDepth 100000
set_option maxHeartbeats 4000000
/-! Texts that begin others, and texts that stand at the end of others: as the law says it. -/
namespace L2.K06
open PySem PySem.W PySem.Spec PySem.Calls PyProof.Rows L2.Jk
def tx (us : List Str) (j : Nat) : Str := us.getD j ""
/-- the first i texts and what f gives of their places -/
def kvG (us : List Str) (f : Nat → V) (i : Nat) : List (Key × V) := (List.range i).map fun j => (.inr (tx us j), f j)
theorem kvG_succ (us : List Str) (f : Nat → V) (i : Nat) : kvG us f (i + 1) = kvG us f i ++ [(.inr (tx us i), f i)] := by
  unfold kvG
  rw [List.range_succ, List.map_append]
  rfl
theorem merge_succ (us : List Str) (f : Nat → V) (i : Nat) : mergeK [] (kvG us f (i + 1)) = putK (mergeK [] (kvG us f i)) (.inr (tx us i)) (f i) := by
  rw [kvG_succ]
  unfold mergeK
  rw [List.foldl_append]
  rfl
theorem val_some (us : List Str) (f : Nat → V) (t : Str) : ∀ (n : Nat) (v : V), valV (mergeK [] (kvG us f n)) (.inr t) = some v → ∃ j, j < n ∧ tx us j = t ∧ v = f j ∧ ∀ k, k < n → tx us k = t → k ≤ j
  | 0, v, h => by cases h
  | n + 1, v, h => by
    rw [merge_succ, valV_put] at h
    split at h
    · rename_i e
      injection e with e
      injection h with h
      exact ⟨n, Nat.lt_succ_self n, e.symm, h.symm, fun k hk _ => Nat.le_of_lt_succ hk⟩
    · rename_i e
      obtain ⟨j, h1, h2, h3, h4⟩ := val_some us f t n v h
      refine ⟨j, Nat.lt_succ_of_lt h1, h2, h3, fun k hk hkt => ?_⟩
      rcases Nat.lt_succ_iff_lt_or_eq.mp hk with hk | rfl
      · exact h4 k hk hkt
      · exact absurd (by rw [hkt]) e
theorem val_none (us : List Str) (f : Nat → V) (t : Str) : ∀ n : Nat, valV (mergeK [] (kvG us f n)) (.inr t) = none → ∀ k, k < n → tx us k ≠ t
  | 0, _, k, hk => absurd hk (Nat.not_lt_zero _)
  | n + 1, h, k, hk => by
    rw [merge_succ, valV_put] at h
    split at h
    · cases h
    · rename_i e
      rcases Nat.lt_succ_iff_lt_or_eq.mp hk with hk | rfl
      · exact val_none us f t n h k hk
      · exact fun z => e (by rw [z])
def DsAt (H : Hp) : List Addr → List (Key × V) → Prop := Paired fun p kv => H p = some (.tup [kV kv.1, kv.2])
theorem DsAt.same {H H' : Hp} (S : Same H H') : ∀ {rs : List Addr} {ks : List (Key × V)}, DsAt H rs ks → DsAt H' rs ks
  | _, _, .nil => .nil
  | _, _, .cons h t => .cons (S _ _ h) (DsAt.same S t)
theorem DsAt.put {H : Hp} {D : Addr} {xs ys : List V} (hD : H D = some (.lst xs)) : ∀ {rs : List Addr} {ks : List (Key × V)}, DsAt H rs ks → DsAt (upd H D (.lst ys)) rs ks
  | _, _, .nil => .nil
  | _, _, .cons h t => .cons (by rw [upd_ne (ne_of h hD (fun z => by cases z))]; exact h) (DsAt.put hD t)
theorem DsAt.snoc {H : Hp} {a : Addr} {kv : Key × V} (ha : H a = some (.tup [kV kv.1, kv.2])) : ∀ {rs : List Addr} {ks : List (Key × V)}, DsAt H rs ks → DsAt H (rs ++ [a]) (ks ++ [kv])
  | _, _, .nil => .cons ha .nil
  | _, _, .cons h t => .cons h (DsAt.snoc ha t)
def LcD (H1 : Hp) (D : Addr) (us : List Str) (f : Nat → V) (i : Nat) (H : Hp) : Prop := Same H1 H ∧ H1 D = none ∧ ∃ rs : List Addr, H D = some (.lst (rs.map V.ref)) ∧ DsAt H rs (kvG us f i) ∧ rs.length = i
theorem LcD.start {H1 : Hp} {D : Addr} {us : List Str} {f : Nat → V} (h : H1 D = none) : LcD H1 D us f 0 (upd H1 D (.lst [])) := ⟨same_upd h, h, [], upd_same, .nil, rfl⟩
theorem LcD.put {H1 H H4 : Hp} {D a : Addr} {us : List Str} {f : Nat → V} {i : Nat} {t : Str} (p : LcD H1 D us f i H) (s : Same H H4) (ht : tx us i = t) (ha : H4 a = some (.tup [.str t, f i])) (hi : i < 10000) :
    ∃ acc, H4 D = some (.lst acc) ∧ acc.length < sizeLine ∧ LcD H1 D us f (i + 1) (upd H4 D (.lst (acc ++ [V.ref a]))) := by
  obtain ⟨S, hD, rs, eD, dd, hl⟩ := p
  have e4 := s _ _ eD
  refine ⟨_, e4, by rw [List.length_map, sizeLine_eq]; omega, same_put (S.trans s) hD, hD, rs ++ [a], by rw [upd_same, List.map_append]; rfl, ?_, by rw [List.length_append, hl]; rfl⟩
  rw [kvG_succ]
  refine DsAt.snoc ?_ ((dd.same s).put e4)
  rw [upd_ne (ne_of ha e4 (fun z => by cases z)), ha, ht]
  rfl
/-- a text that begins an earlier one stands nowhere later -/
def okF (us : List Str) (k : Nat) : Prop := ∀ z : Nat, z < (tx us k).length → ∀ j, j < us.length → tx us j = cutS (tx us k) none (some (z : Int)) → j ≤ k
def FirstP (us : List Str) : Prop := ∀ k, k < us.length → okF us k
def hasT (us : List Str) (t : Str) : Prop := ∃ j, j < us.length ∧ tx us j = t
def okI (us : List Str) (l : Str) : Prop := (∃ z : Nat, z ≤ l.length ∧ hasT us (cutS l none (some (z : Int)))) → hasT us l
def InsP (us : List Str) : Prop := ∀ k, k < us.length → ∀ b : Nat, 1 ≤ b → b ≤ (tx us k).length → okI us (cutS (tx us k) (some (b : Int)) none)
def spFirst : Sp := fun vs H Q _ => ∃ (p : Addr) (qs : List (V × Str)), vs = [.ref p] ∧ PrsAt H p qs ∧ qs.length ≤ 1001 ∧ (∀ q ∈ qs, q.2.length ≤ 21) ∧ ∀ b H', (b = true ↔ FirstP (qs.map (·.2))) → Same H H' → Q (.bl b) H'
def spInside : Sp := fun vs H Q _ => ∃ (p : Addr) (qs : List (V × Str)), vs = [.ref p] ∧ PrsAt H p qs ∧ qs.length ≤ 1001 ∧ (∀ q ∈ qs, q.2.length ≤ 21 ∧ (PyData.str q.2).canLay0 = true) ∧ ∀ b H', (b = true ↔ InsP (qs.map (·.2))) → Same H H' → Q (.bl b) H'
theorem tx_at {us : List Str} {i : Nat} {x : V} (h : (us.map V.str)[i]? = some x) : i < us.length ∧ x = .str (tx us i) ∧ tx us i ∈ us := by
  rw [List.getElem?_map] at h
  obtain ⟨t, h1, h2⟩ := Option.map_eq_some_iff.mp h
  obtain ⟨h3, h4⟩ := List.getElem?_eq_some_iff.mp h1
  have e : tx us i = t := by
    show us.getD i "" = t
    rw [List.getD_eq_getElem?_getD, h1]
    rfl
  exact ⟨h3, by rw [e]; exact h2.symm, by rw [e, ← h4]; exact List.getElem_mem _⟩
theorem tx_mem {us : List Str} {j : Nat} (h : j < us.length) : tx us j ∈ us := by
  show us.getD j "" ∈ us
  rw [List.getD_eq_getElem?_getD, List.getElem?_eq_getElem h]
  exact List.getElem_mem h
theorem dp_strs {K : Frag} {H : Hp} {p : Addr} {ts : List Str} (h : H p = some (.lst (ts.map V.str))) : Dp K H (.ref p) (.list ((ts.map V.str).map dV)) := .lst (SqL.of h) (dpAll_flat (by rw [List.all_map]; exact List.all_eq_true.mpr fun _ _ => rfl))
theorem sh_strs {ts : List Str} (h : ∀ t ∈ ts, (PyData.str t).canLay0 = true) : SeqAt.shaped (.list ((ts.map V.str).map dV)) = true := by
  obtain ⟨l1, l2⟩ := lay_strs ts h
  refine Bool.and_eq_true_iff.mpr ⟨l1, decide_eq_true ?_⟩
  show PyData.depthAll ((ts.map V.str).map dV) + 1 ≤ 64
  omega
theorem eqv_nil : ∀ ts : List Str, PyData.eqv (.list ((ts.map V.str).map dV)) (.list []) = decide (ts = [])
  | [] => rfl
  | _ :: _ => rfl
structure GFi (P : Program) (w : World) (K : Frag) (mg : Str → Option Value) (base : Heap) : Prop extends GN P w K mg base where
  enumerate : mg "enumerate" = none
  dict : mg "dict" = none
section
variable {P : Program} {w : World} {K : Frag} {mg : Str → Option Value} {base : Heap} {f : Addr} {fd : FuncData}

abbrev s_law_first : Stmt := top 40
theorem sc_law_first : FnScope ["_law_pairs_here", "_law_texts", "_law_value", "_law_text", "_law_places", "_law_at", "_law_size"] ["_law_pairs_here"] (defScope s_law_first) := ⟨rfl, rfl, rfl, by decide +kernel, rfl, by decide +kernel, by decide +kernel⟩

theorem ok_law_first (F : FunD K "_law_first" "_law_first" (defArgs s_law_first) (defBody s_law_first) (defScope s_law_first) [] [] f fd) (G : GFi P w K mg base) : FnOk P w K mg base CX0 1 f fd ["_law_pairs_here"] spFirst := by
  refine F.ok (CX := CX0) sc_law_first (fun vs H Q E h => ?_) (fun cdv A outer s H vs Q E hr h => ?_)
  · obtain ⟨p, qs, rfl, _⟩ := h
    rfl
  · refine ⟨_, PSs.nox (C8.pss_cut (ps_setLc (i := 1) (own := [("_law_value", 2), ("_law_text", 3)]) (g := (gTup K 2 (gCons (gName 2) (gCons (gName 3) gNil)))) (tt := tYes) (by rfl) sc_law_first.nd rfl rfl (sw_true rfl rfl rfl (by decide +kernel)) (pi_list (pv 0)) (blkOk_by (N := ["_law_pairs_here", "_law_texts", "_law_value", "_law_text", "_law_places", "_law_at", "_law_size"]) (sc := defScope s_law_first) (by decide +kernel)) (fun _ _ _ _ _ => pg_tupK (n := 2) (K := K) rfl rfl (pgs_cons (pg_name (i := 2) sc_law_first.nd rfl (Or.inl rfl)) (pgs_cons (pg_name (i := 3) sc_law_first.nd rfl (Or.inl rfl)) pgs_nil))) (fun _ _ _ _ _ => pts_nil) (fun _ _ _ _ _ => (pv 3)))
    (C8.pss_cut (ps_set (i := 4) sc_law_first.nd rfl (Or.inl rfl) (pe_callTy (call_dictP rfl) (by rfl) G.dict (by decide +kernel) (pa_cons (pe_lc (own := [("_law_at", 5), ("_law_text", 3)]) (g := (gTup K 2 (gCons (gName 5) (gCons (gName 3) gNil)))) (tt := tYes) rfl sc_law_first.nd (pi_enum (by rfl) G.enumerate (pa_cons (pv 1) pa_nil)) (blkOk_by (N := ["_law_pairs_here", "_law_texts", "_law_value", "_law_text", "_law_places", "_law_at", "_law_size"]) (sc := defScope s_law_first) (by decide +kernel)) (fun _ _ _ _ _ => pg_tupK (n := 2) (K := K) rfl rfl (pgs_cons (pg_name (i := 5) sc_law_first.nd rfl (Or.inl rfl)) (pgs_cons (pg_name (i := 3) sc_law_first.nd rfl (Or.inl rfl)) pgs_nil))) (fun _ _ _ _ _ => pts_nil) (fun _ _ _ _ _ => (pe_tupS (pa_cons (pv 3) (pa_cons (pv 5) pa_nil))))) pa_nil)))
    (C8.pss_cut (ps_for PassesOwn.never rfl (pi_enum (by rfl) G.enumerate (pa_cons (pv 1) pa_nil)) (pg_tup rfl (pgs_cons (pg_name (i := 5) sc_law_first.nd rfl (Or.inl rfl)) (pgs_cons (pg_name (i := 3) sc_law_first.nd rfl (Or.inl rfl)) pgs_nil)))
      (pss_one (ps_for PassesOwn.never rfl (pi_range1 (by rfl) G.range (pa_cons (pe_callB call_len_str (by rfl) G.len (by decide +kernel) (pa_cons (pv 3) pa_nil)) pa_nil)) (pg_name (i := 6) sc_law_first.nd rfl (Or.inl rfl))
        (pss_one (ps_if (pt_cmpR op_gt (pe_dget2 (hu_of hr) (pv 4) (pe_slice sl_str (pv 3) po_none (po_some (pv 6))) (pe_un un_neg pe_int) ⟨rfl, rfl, rfl, rfl⟩) (pv 5) (nomark _))
          (pss_one (ps_ret pe_bl))
          pss_nil)))))
    (pss_one (ps_ret pe_bl))))), ?_⟩
    obtain ⟨p, qs, rfl, ⟨rs, ep, T⟩, hl, hq, q⟩ := h
    have hlr : rs.length = qs.length := T.len
    refine ⟨fun σ J => ∃ v2 v3 v4 v5 v6 D, σ = [some (.ref p), some (.ref D), v2, v3, v4, v5, v6] ∧ Same H J ∧ J D = some (.lst ((qs.map (·.2)).map V.str)), ?_, ?_⟩
    · refine ⟨_, rfl, p, rfl, ⟨_, SqL.of ep⟩, fun D hD => ?_⟩
      refine lc_list (K := K) (a := p) (xs := rs) (LcP H D fun n => ((qs.map (·.2)).take n).map V.str) (LcP.start hD rfl) (fun i J hi pJ => SqL.of (pJ.1 _ _ ep)) ?_ ?_
      · intro i x J hx pJ
        obtain ⟨a, r, rfl, hr', ha⟩ := T.get hx
        have hi := (List.getElem?_eq_some_iff.mp hr').1
        refine ⟨a, _, rfl, SqT.of (pJ.1 _ _ ha), rfl, _, _, rfl, _, _, rfl, rfl, rfl, _, rfl, ?_⟩
        exact pJ.put (Same.refl _) (by rw [tk_snoc (x := r.2) (by rw [List.getElem?_map, hr']; rfl), List.map_append]; rfl) (by omega)
      · rintro J ⟨S, _, eD, _⟩
        dsimp only at eD
        rw [hlr, show (qs.map (·.2)).take qs.length = qs.map (·.2) by rw [List.take_of_length_le]; rw [List.length_map]; exact Nat.le_refl _] at eD
        exact ⟨_, _, _, _, _, D, rfl, S, eD⟩
    rintro σ J ⟨v2, v3, v4, v5, v6, D, rfl, S, eD⟩
    have hus : ∀ u ∈ qs.map (·.2), u.length ≤ 21 := fun u hu => by
      obtain ⟨r, h1, rfl⟩ := List.mem_map.mp hu
      exact hq r h1
    have hul : (qs.map (·.2)).length ≤ 1001 := by rw [List.length_map]; exact hl
    generalize qs.map (·.2) = us at q eD hus hul
    refine ⟨fun σ J2 => ∃ v2 v3 v5 v6 d, σ = [some (.ref p), some (.ref D), v2, v3, some (.ref d), v5, v6] ∧ Same J J2 ∧ J2 d = some (.dK (mergeK [] (kvG us (fun j => V.int (j : Nat)) us.length))), ?_, ?_⟩
    · refine ⟨_, rfl, D, _, rfl, SqL.of eD, fun D2 hD2 => ?_⟩
      refine lc_it (walk_enum (xs := us.map V.str)) (LcD J D2 us fun j => V.int (j : Nat)) (LcD.start hD2) (fun i J2 hi pJ => SqL.of (pJ.1 _ _ eD)) ?_ ?_
      · rintro i z J1 J2 hi pJ ⟨tt, zi, x, rfl, ht, rfl, ei, ev⟩
        cases ei
        obtain ⟨hi2, rfl, _⟩ := tx_at ev
        have R2 : Same J1 (upd J1 tt (.tup [V.int (i : Nat), .str (tx us i)])) := same_upd ht
        have r2 : upd J1 tt (.tup [V.int (i : Nat), .str (tx us i)]) tt = some (.tup [V.int (i : Nat), .str (tx us i)]) := upd_same
        generalize upd J1 tt (.tup [V.int (i : Nat), .str (tx us i)]) = J2 at R2 r2 ⊢
        refine ⟨tt, _, rfl, SqT.of r2, rfl, _, _, rfl, _, _, rfl, rfl, rfl, _, rfl, _, rfl, by show 2 ≤ 1000; decide, fun c Jc hc Sc ec => ?_⟩
        exact pJ.put (R2.trans Sc) rfl ec (by omega)
      · rintro J2 ⟨S2, _, rs2, eD2, dd, hl2⟩
        refine ⟨D2, rs2, _, rfl, SqL.of eD2, L2.Paired.mapP dd (fun a b h => SqT.of h), fun d hd => ?_⟩
        rw [List.length_map]
        exact ⟨_, _, _, _, d, rfl, S2.trans (same_upd hd), upd_same⟩
    rintro σ J2 ⟨v2, v3, v5, v6, d, rfl, S2, ed⟩
    have S02 := S.trans S2
    have eD2 := S2 _ _ eD
    refine ⟨fun σ J3 => Same H J3 ∧ FirstP us, ?_, ?_⟩
    · refine ⟨_, rfl, D, _, rfl, SqL.of eD2, for_it (walk_enum (xs := us.map V.str)) (fun i σ J3 => (∃ v2 v3 v5 v6, σ = [some (.ref p), some (.ref D), v2, v3, some (.ref d), v5, v6]) ∧ Same J2 J3 ∧ ∀ k, k < i → okF us k) ⟨⟨_, _, _, _, rfl⟩, Same.refl _, fun k hk => absurd hk (Nat.not_lt_zero _)⟩ (fun i σ J3 _ ⟨_, S3, _⟩ => SqL.of (S3 _ _ eD2)) ?_ ?_⟩
      · rintro i z σ J3 J4 hi ⟨⟨v2, v3, v5, v6, rfl⟩, S3, hok⟩ ⟨tt, zi, x, rfl, ht, rfl, ei, ev⟩
        cases ei
        obtain ⟨hi2, rfl, hmem⟩ := tx_at ev
        have R2 : Same J3 (upd J3 tt (.tup [V.int (i : Nat), .str (tx us i)])) := same_upd ht
        have r2 : upd J3 tt (.tup [V.int (i : Nat), .str (tx us i)]) tt = some (.tup [V.int (i : Nat), .str (tx us i)]) := upd_same
        generalize upd J3 tt (.tup [V.int (i : Nat), .str (tx us i)]) = J4 at R2 r2 ⊢
        have S4 := S3.trans R2
        have hsz := hus _ hmem
        refine ⟨tt, _, rfl, SqT.of r2, rfl, _, _, rfl, _, _, rfl, rfl, ?_⟩
        refine ⟨_, rfl, _, rfl, by rw [sizeLine_eq]; omega, ((tx us i).length : Nat), rfl, by omega, by omega, ?_⟩
        rw [Int.toNat_natCast]
        refine for_range (lo := 0) (n := (tx us i).length) (fun z σ J5 => (∃ v2 v6, σ = [some (.ref p), some (.ref D), v2, some (.str (tx us i)), some (.ref d), some (.int (i : Nat)), v6]) ∧ Same J2 J5 ∧ ∀ y : Nat, y < z → ∀ j, j < us.length → tx us j = cutS (tx us i) none (some (y : Int)) → j ≤ i) ⟨⟨_, _, rfl⟩, S4, fun y hy => absurd hy (Nat.not_lt_zero _)⟩ ?_ ?_
        · rintro z σ J5 hz ⟨⟨v2, v6, rfl⟩, S5, hy⟩
          have ed5 := S5 _ _ ed
          refine ⟨_, rfl, d, rfl, .inl ⟨_, Rd.of ed5⟩, ?_⟩
          rw [Int.zero_add]
          refine ⟨_, rfl, _, rfl, _, rfl, tx us i, rfl, by rw [sizeLine_eq]; omega, _, rfl, _, DGet.k (k := .inr (cutS (tx us i) none (some (z : Int)))) ed5, _, rfl, ?_⟩
          cases hv : valV (mergeK [] (kvG us (fun j => V.int (j : Nat)) us.length)) (.inr (cutS (tx us i) none (some (z : Int)))) with
          | none =>
            have hn := val_none us _ _ _ hv
            refine ⟨-1, (i : Nat), rfl, rfl, _, rfl, ?_⟩
            rw [decide_eq_false (by omega)]
            refine iteF ⟨⟨_, _, rfl⟩, S5, fun y hy1 j hj e => ?_⟩
            rcases Nat.lt_succ_iff_lt_or_eq.mp hy1 with hy1 | rfl
            · exact hy y hy1 j hj e
            · exact absurd e (hn j hj)
          | some v =>
            obtain ⟨jj, h1, h2, rfl, h4⟩ := val_some us _ _ _ _ hv
            refine ⟨(jj : Nat), (i : Nat), rfl, rfl, _, rfl, ?_⟩
            refine ite2 (fun c => ?_) (fun c => ?_)
            · have c' : i < jj := by have := of_decide_eq_true c; omega
              exact q false J5 ⟨fun z => (by cases z), fun hF => absurd (hF i hi2 z hz jj h1 h2) (by omega)⟩ (S02.trans S5)
            · have c' : ¬ i < jj := fun h => c (decide_eq_true (by omega))
              refine ⟨⟨_, _, rfl⟩, S5, fun y hy1 j hj e => ?_⟩
              rcases Nat.lt_succ_iff_lt_or_eq.mp hy1 with hy1 | rfl
              · exact hy y hy1 j hj e
              · have := h4 j hj e
                omega
        · rintro σ J5 ⟨⟨v2, v6, rfl⟩, S5, hy⟩
          refine ⟨⟨_, _, _, _, rfl⟩, S5, fun k hk => ?_⟩
          rcases Nat.lt_succ_iff_lt_or_eq.mp hk with hk | rfl
          · exact hok k hk
          · exact fun y hy1 j hj e => hy y hy1 j hj e
      · rintro σ J3 ⟨_, S3, hok⟩
        rw [List.length_map] at hok
        exact ⟨S02.trans S3, hok⟩
    rintro σ J3 ⟨S3, hok⟩
    exact q true J3 ⟨fun _ => hok, fun _ => rfl⟩ S3


abbrev s_law_inside : Stmt := top 41
theorem sc_law_inside : FnScope ["_law_pairs_here", "_law_texts", "_law_value", "_law_text", "_law_known", "_law_whole", "_law_begin", "_law_left", "_law_starts", "_law_size"] ["_law_pairs_here"] (defScope s_law_inside) := ⟨rfl, rfl, rfl, by decide +kernel, rfl, by decide +kernel, by decide +kernel⟩

theorem ok_law_inside (F : FunD K "_law_inside" "_law_inside" (defArgs s_law_inside) (defBody s_law_inside) (defScope s_law_inside) [] [] f fd) (G : GFi P w K mg base) : FnOk P w K mg base CX0 1 f fd ["_law_pairs_here"] spInside := by
  refine F.ok (CX := CX0) sc_law_inside (fun vs H Q E h => ?_) (fun cdv A outer s H vs Q E hr h => ?_)
  · obtain ⟨p, qs, rfl, _⟩ := h
    rfl
  · refine ⟨_, PSs.nox (C8.pss_cut (ps_setLc (i := 1) (own := [("_law_value", 2), ("_law_text", 3)]) (g := (gTup K 2 (gCons (gName 2) (gCons (gName 3) gNil)))) (tt := tYes) (by rfl) sc_law_inside.nd rfl rfl (sw_true rfl rfl rfl (by decide +kernel)) (pi_list (pv 0)) (blkOk_by (N := ["_law_pairs_here", "_law_texts", "_law_value", "_law_text", "_law_known", "_law_whole", "_law_begin", "_law_left", "_law_starts", "_law_size"]) (sc := defScope s_law_inside) (by decide +kernel)) (fun _ _ _ _ _ => pg_tupK (n := 2) (K := K) rfl rfl (pgs_cons (pg_name (i := 2) sc_law_inside.nd rfl (Or.inl rfl)) (pgs_cons (pg_name (i := 3) sc_law_inside.nd rfl (Or.inl rfl)) pgs_nil))) (fun _ _ _ _ _ => pts_nil) (fun _ _ _ _ _ => (pv 3)))
    (C8.pss_cut (ps_set (i := 4) sc_law_inside.nd rfl (Or.inr rfl) (pe_callTy (call_dictP rfl) (by rfl) G.dict (by decide +kernel) (pa_cons (pe_lc (own := [("_law_text", 3)]) (g := gName 3) (tt := tYes) rfl sc_law_inside.nd (pi_list (pv 1)) (blkOk_by (N := ["_law_pairs_here", "_law_texts", "_law_value", "_law_text", "_law_known", "_law_whole", "_law_begin", "_law_left", "_law_starts", "_law_size"]) (sc := defScope s_law_inside) (by decide +kernel)) (fun _ _ _ _ _ => pg_name (i := 3) sc_law_inside.nd rfl (Or.inl rfl)) (fun _ _ _ _ _ => pts_nil) (fun _ _ _ _ _ => (pe_tupS (pa_cons (pv 3) (pa_cons pe_bl pa_nil))))) pa_nil)))
    (C8.pss_cut (ps_for PassesOwn.never rfl (pi_list (pv 1)) (pg_name (i := 5) sc_law_inside.nd rfl (Or.inl rfl))
      (pss_one (ps_for PassesOwn.never rfl (pi_range2 (by rfl) G.range (pa_cons pe_int (pa_cons (pe_op op_add (pe_callB call_len_str (by rfl) G.len (by decide +kernel) (pa_cons (pv 5) pa_nil)) pe_int) pa_nil))) (pg_name (i := 6) sc_law_inside.nd rfl (Or.inl rfl))
        (C8.pss_cut (ps_set (i := 7) sc_law_inside.nd rfl (Or.inr rfl) (pe_slice sl_str (pv 5) (po_some (pv 6)) po_none))
        (C8.pss_cut (ps_setLc (i := 8) (own := [("_law_size", 9)]) (g := gName 9) (tt := _) (by rfl) sc_law_inside.nd rfl rfl (sw_true rfl rfl rfl (by decide +kernel)) (pi_range1 (by rfl) G.range (pa_cons (pe_op op_add (pe_callB call_len_str (by rfl) G.len (by decide +kernel) (pa_cons (pv 7) pa_nil)) pe_int) pa_nil)) (blkOk_by (N := ["_law_pairs_here", "_law_texts", "_law_value", "_law_text", "_law_known", "_law_whole", "_law_begin", "_law_left", "_law_starts", "_law_size"]) (sc := defScope s_law_inside) (by decide +kernel)) (fun _ _ _ _ _ => pg_name (i := 9) sc_law_inside.nd rfl (Or.inl rfl)) (fun _ _ _ _ _ => pts_one (pt_cmp (pc_din (hu_of hr) (pe_slice sl_str (pv 7) po_none (po_some (pv 9))) (pv 4)))) (fun _ _ _ _ _ => (pe_slice sl_str (pv 7) po_none (po_some (pv 9)))))
        (pss_one (ps_if (PW.pt (pw_and (pt_cmpR (op_neD hr.units) (pv 8) (pe_lstS pa_nil) (nomark _)) (pw_and1 (pt_cmp (pc_dnotin (hu_of hr) (pv 7) (pv 4))))))
          (pss_one (ps_ret pe_bl))
          pss_nil)))))))
    (pss_one (ps_ret pe_bl))))), ?_⟩
    obtain ⟨p, qs, rfl, ⟨rs, ep, T⟩, hl, hq, q⟩ := h
    have hlr : rs.length = qs.length := T.len
    refine ⟨fun σ J => ∃ v2 v3 v4 v5 v6 v7 v8 v9 D, σ = [some (.ref p), some (.ref D), v2, v3, v4, v5, v6, v7, v8, v9] ∧ Same H J ∧ J D = some (.lst ((qs.map (·.2)).map V.str)), ?_, ?_⟩
    · refine ⟨_, rfl, p, rfl, ⟨_, SqL.of ep⟩, fun D hD => ?_⟩
      refine lc_list (K := K) (a := p) (xs := rs) (LcP H D fun n => ((qs.map (·.2)).take n).map V.str) (LcP.start hD rfl) (fun i J hi pJ => SqL.of (pJ.1 _ _ ep)) ?_ ?_
      · intro i x J hx pJ
        obtain ⟨a, r, rfl, hr', ha⟩ := T.get hx
        have hi := (List.getElem?_eq_some_iff.mp hr').1
        refine ⟨a, _, rfl, SqT.of (pJ.1 _ _ ha), rfl, _, _, rfl, _, _, rfl, rfl, rfl, _, rfl, ?_⟩
        exact pJ.put (Same.refl _) (by rw [tk_snoc (x := r.2) (by rw [List.getElem?_map, hr']; rfl), List.map_append]; rfl) (by omega)
      · rintro J ⟨S, _, eD, _⟩
        dsimp only at eD
        rw [hlr, show (qs.map (·.2)).take qs.length = qs.map (·.2) by rw [List.take_of_length_le]; rw [List.length_map]; exact Nat.le_refl _] at eD
        exact ⟨_, _, _, _, _, _, _, _, D, rfl, S, eD⟩
    rintro σ J ⟨v2, v3, v4, v5, v6, v7, v8, v9, D, rfl, S, eD⟩
    have hus : ∀ u ∈ qs.map (·.2), u.length ≤ 21 ∧ (PyData.str u).canLay0 = true := fun u hu => by
      obtain ⟨r, h1, rfl⟩ := List.mem_map.mp hu
      exact hq r h1
    have hul : (qs.map (·.2)).length ≤ 1001 := by rw [List.length_map]; exact hl
    generalize qs.map (·.2) = us at q eD hus hul
    refine ⟨fun σ J2 => ∃ v2 v3 v5 v6 v7 v8 v9 d, σ = [some (.ref p), some (.ref D), v2, v3, some (.ref d), v5, v6, v7, v8, v9] ∧ Same J J2 ∧ J2 d = some (.dK (mergeK [] (kvG us (fun _ => V.bl true) us.length))), ?_, ?_⟩
    · refine ⟨_, rfl, D, rfl, ⟨_, SqL.of eD⟩, fun D2 hD2 => ?_⟩
      refine lc_list (K := K) (a := D) (xs := us.map V.str) (LcD J D2 us fun _ => V.bl true) (LcD.start hD2) (fun i J2 hi pJ => SqL.of (pJ.1 _ _ eD)) ?_ ?_
      · rintro i x J2 ev pJ
        obtain ⟨hi2, rfl, _⟩ := tx_at ev
        refine ⟨rfl, _, rfl, by show 2 ≤ 1000; decide, fun c Jc hc Sc ec => ?_⟩
        exact pJ.put Sc rfl ec (by omega)
      · rintro J2 ⟨S2, _, rs2, eD2, dd, hl2⟩
        refine ⟨D2, rs2, _, rfl, SqL.of eD2, L2.Paired.mapP dd (fun a b h => SqT.of h), fun d hd => ?_⟩
        rw [List.length_map]
        exact ⟨_, _, _, _, _, _, _, d, rfl, S2.trans (same_upd hd), upd_same⟩
    rintro σ J2 ⟨v2, v3, v5, v6, v7, v8, v9, d, rfl, S2, ed⟩
    have S02 := S.trans S2
    have eD2 := S2 _ _ eD
    have known : ∀ t : Str, (valV (mergeK [] (kvG us (fun _ => V.bl true) us.length)) (.inr t)).isSome = true ↔ hasT us t := fun t => by
      cases hv : valV (mergeK [] (kvG us (fun _ => V.bl true) us.length)) (.inr t) with
      | none =>
        have hn := val_none us _ _ _ hv
        exact ⟨fun z => (by cases z), fun ⟨j, h1, h2⟩ => absurd h2 (hn j h1)⟩
      | some v =>
        obtain ⟨jj, h1, h2, _, _⟩ := val_some us _ _ _ _ hv
        exact ⟨fun _ => ⟨jj, h1, h2⟩, fun _ => rfl⟩
    refine ⟨fun σ J3 => Same H J3 ∧ InsP us, ?_, ?_⟩
    · refine ⟨_, rfl, D, rfl, ⟨_, SqL.of eD2⟩, for_list (K := K) (a := D) (xs := us.map V.str) (fun i σ J3 => (∃ v2 v3 v5 v6 v7 v8 v9, σ = [some (.ref p), some (.ref D), v2, v3, some (.ref d), v5, v6, v7, v8, v9]) ∧ Same J2 J3 ∧ ∀ k, k < i → ∀ b : Nat, 1 ≤ b → b ≤ (tx us k).length → okI us (cutS (tx us k) (some (b : Int)) none)) ⟨⟨_, _, _, _, _, _, _, rfl⟩, Same.refl _, fun k hk => absurd hk (Nat.not_lt_zero _)⟩ (fun i σ J3 _ ⟨_, S3, _⟩ => SqL.of (S3 _ _ eD2)) ?_ ?_⟩
      · rintro i x σ J3 ev ⟨⟨v2, v3, v5, v6, v7, v8, v9, rfl⟩, S3, hok⟩
        obtain ⟨hi2, rfl, hmem⟩ := tx_at ev
        have hsz := (hus _ hmem).1
        refine ⟨_, rfl, tx us i, rfl, by rw [sizeLine_eq]; omega, _, _, rfl, rfl, 1, ((tx us i).length : Int) + 1, rfl, ⟨by decide, by decide, by omega, by omega⟩, ?_⟩
        rw [show (((tx us i).length : Int) + 1 - 1).toNat = (tx us i).length by omega]
        refine for_range (lo := 1) (n := (tx us i).length) (fun z σ J5 => (∃ v2 v3 v6 v7 v8 v9, σ = [some (.ref p), some (.ref D), v2, v3, some (.ref d), some (.str (tx us i)), v6, v7, v8, v9]) ∧ Same J2 J5 ∧ ∀ b : Nat, 1 ≤ b → b ≤ z → okI us (cutS (tx us i) (some (b : Int)) none)) ⟨⟨_, _, _, _, _, _, rfl⟩, S3, fun b h1 h2 => absurd h1 (by omega)⟩ ?_ ?_
        · rintro z σ J5 hz ⟨⟨v2, v3, v6, v7, v8, v9, rfl⟩, S5, hy⟩
          have ez : (1 : Int) + (z : Int) = ((z + 1 : Nat) : Int) := by omega
          rw [ez]
          have hcl : (cutS (tx us i) (some ((z + 1 : Nat) : Int)) none).length ≤ 21 := Nat.le_trans (cutS_length _ _ _) hsz
          have step : okI us (cutS (tx us i) (some ((z + 1 : Nat) : Int)) none) → ∀ b : Nat, 1 ≤ b → b ≤ z + 1 → okI us (cutS (tx us i) (some (b : Int)) none) := fun hk b h1 h2 => by
            rcases Nat.lt_or_ge b (z + 1) with h | h
            · exact hy b h1 (by omega)
            · obtain rfl : b = z + 1 := by omega
              exact hk
          have bad : ¬ okI us (cutS (tx us i) (some ((z + 1 : Nat) : Int)) none) → ¬ InsP us := fun h1 h2 => h1 (h2 i hi2 (z + 1) (by omega) (by omega))
          refine ⟨fun σ J6 => ∃ v2 v3 v8 v9 l, l = cutS (tx us i) (some ((z + 1 : Nat) : Int)) none ∧ σ = [some (.ref p), some (.ref D), v2, v3, some (.ref d), some (.str (tx us i)), some (.int ((z + 1 : Nat) : Int)), some (.str l), v8, v9] ∧ J5 = J6, ?_, ?_⟩
          · exact ⟨_, rfl, _, rfl, _, rfl, tx us i, rfl, by rw [sizeLine_eq]; omega, _, _, _, _, _, rfl, rfl, rfl⟩
          rintro σ J6 ⟨v2, v3, v8, v9, l, el, rfl, rfl⟩
          rw [← el] at hcl step bad
          clear el
          refine ⟨fun σ J7 => ∃ v2 v3 v9 st ss, σ = [some (.ref p), some (.ref D), v2, v3, some (.ref d), some (.str (tx us i)), some (.int ((z + 1 : Nat) : Int)), some (.str l), some (.ref st), v9] ∧ Same J5 J7 ∧ J7 st = some (.lst (ss.map V.str)) ∧ (ss = [] ↔ ∀ y : Nat, y ≤ l.length → ¬ hasT us (cutS l none (some (y : Int)))) ∧ ∀ x ∈ ss, x ∈ us, ?_, ?_⟩
          · refine ⟨_, rfl, l, rfl, by rw [sizeLine_eq]; omega, _, _, rfl, rfl, ((l.length : Nat) : Int) + 1, rfl, by omega, by omega, fun D2 hD2 => ?_⟩
            rw [show (((l.length : Nat) : Int) + 1).toNat = l.length + 1 by omega]
            refine lc_range (lo := 0) (n := l.length + 1) (fun n J7 => ∃ ss : List Str, Same J5 J7 ∧ J7 D2 = some (.lst (ss.map V.str)) ∧ ss.length ≤ n ∧ (ss = [] ↔ ∀ y : Nat, y < n → ¬ hasT us (cutS l none (some (y : Int)))) ∧ ∀ x ∈ ss, x ∈ us) ⟨[], same_upd hD2, upd_same, Nat.le_refl _, ⟨fun _ y hy => absurd hy (Nat.not_lt_zero _), fun _ => rfl⟩, fun x hx => (by cases hx)⟩ ?_ ?_
            · rintro y J7 hy ⟨ss, S7, es, hl, hss, hsu⟩
              rw [Int.zero_add]
              refine ⟨rfl, _, rfl, _, rfl, _, rfl, l, rfl, by rw [sizeLine_eq]; omega, ?_⟩
              refine ⟨_, rfl, d, _, rfl, DGet.k (k := .inr (cutS l none (some (y : Int)))) (S7 _ _ (S5 _ _ ed)), _, rfl, ?_⟩
              refine ite2 (fun c => ?_) (fun c => ?_)
              · obtain ⟨j, hj1, hj2⟩ := (known _).mp c
                refine ⟨_, rfl, _, rfl, _, rfl, l, rfl, by rw [sizeLine_eq]; omega, _, es, by rw [List.length_map, sizeLine_eq]; omega, ss ++ [cutS l none (some (y : Int))], same_put S7 hD2, by rw [upd_same, List.map_append]; rfl, by rw [List.length_append]; exact Nat.succ_le_succ hl, ⟨fun h => absurd h (by simp), fun h => absurd ⟨j, hj1, hj2⟩ (h y (by omega))⟩, fun x hx => ?_⟩
                rcases List.mem_append.mp hx with hx | hx
                · exact hsu x hx
                · obtain rfl := List.mem_singleton.mp hx
                  exact hj2 ▸ tx_mem hj1
              · refine ⟨ss, S7, es, by omega, ⟨fun h w hw => ?_, fun h => hss.mpr fun w hw => h w (by omega)⟩, hsu⟩
                rcases Nat.lt_succ_iff_lt_or_eq.mp hw with hw | rfl
                · exact hss.mp h w hw
                · exact fun z => c ((known _).mpr z)
            · rintro J7 ⟨ss, S7, es, hl, hss, hsu⟩
              exact ⟨_, _, _, D2, ss, rfl, S7, es, ⟨fun h y hy => hss.mp h y (by omega), fun h => hss.mpr fun y hy => h y (by omega)⟩, hsu⟩
          rintro σ J7 ⟨v2, v3, v9, st, ss, rfl, S7, es, hss, hsu⟩
          have S57 := S5.trans S7
          have ed7 := S57 _ _ ed
          refine ⟨_, rfl, by show 0 ≤ 1000; decide, fun p0 J8 h8 S8 e8 => ?_⟩
          refine ⟨_, _, dp_strs (S8 _ _ es), .lst (SqL.of e8) .nil, sh_strs fun x hx => (hus x (hsu x hx)).2, rfl, _, rfl, ?_⟩
          rw [eqv_nil]
          have S58 := S57.trans S8
          refine ite2 (fun c => ?_) (fun c => ?_)
          · have hne : ss ≠ [] := fun z => by rw [z] at c; cases c
            refine ⟨_, rfl, _, rfl, d, _, rfl, DGet.k (k := .inr l) (S58 _ _ ed), _, rfl, ?_⟩
            refine ite2 (fun c2 => ?_) (fun c2 => ?_)
            · refine q false J8 ⟨fun z => (by cases z), fun hI => absurd hI (bad fun ho => ?_)⟩ (S02.trans S58)
              have hex : ∃ y : Nat, y ≤ l.length ∧ hasT us (cutS l none (some (y : Int))) := Classical.byContradiction fun h => hne (hss.mpr fun y hy hT => h ⟨y, hy, hT⟩)
              have hk := (known l).mpr (ho hex)
              rw [hk] at c2
              cases c2
            · refine ⟨⟨_, _, _, _, _, _, rfl⟩, S58, step fun _ => (known l).mp ?_⟩
              cases hv : (valV (mergeK [] (kvG us (fun _ => V.bl true) us.length)) (.inr l)).isSome with
              | true => rfl
              | false =>
                rw [hv] at c2
                exact absurd rfl c2
          · have hne : ss = [] := by
              cases ss with
              | nil => rfl
              | cons a b => exact absurd rfl c
            exact ⟨⟨_, _, _, _, _, _, rfl⟩, S58, step fun ⟨y, h1, h2⟩ => absurd h2 (hss.mp hne y h1)⟩
        · rintro σ J5 ⟨⟨v2, v3, v6, v7, v8, v9, rfl⟩, S5, hy⟩
          refine ⟨⟨_, _, _, _, _, _, _, rfl⟩, S5, fun k hk => ?_⟩
          rcases Nat.lt_succ_iff_lt_or_eq.mp hk with hk | rfl
          · exact hok k hk
          · exact hy
      · rintro σ J3 ⟨_, S3, hok⟩
        rw [List.length_map] at hok
        exact ⟨S02.trans S3, hok⟩
    rintro σ J3 ⟨S3, hok⟩
    exact q true J3 ⟨fun _ => hok, fun _ => rfl⟩ S3


end
end L2.K06

set_option Elab.async false
set_option linter.all false
set_option maxRecDepth 100000
set_option maxHeartbeats 4000000
/-! What the kinds say and what the law says of the texts is the same. -/
namespace L2.K06
open PySem PySem.W PySem.Spec PySem.Calls PyProof.Rows L2.Jk
theorem str_ext {a b : Str} (h : a.cps.toList = b.cps.toList) : a = b := by
  obtain ⟨x⟩ := a
  obtain ⟨y⟩ := b
  have h : x.toList = y.toList := h
  rw [Array.toList_inj.mp h]
theorem cut_pre (t : Str) (z : Nat) : (cutS t none (some (z : Int))).cps.toList = t.cps.toList.take z := by
  show ((t.cps.toList.drop (HT.sIx t.length 0 none)).take (HT.sIx t.length t.length (some (z : Int)) - HT.sIx t.length 0 none)) = _
  rw [HT.sIx_none, HT.sIx_nat, List.drop_zero, Nat.sub_zero]
  have hl : t.length = t.cps.toList.length := (Array.length_toList ..).symm
  rcases Nat.le_total z t.length with h | h
  · rw [Nat.min_eq_left h]
  · rw [Nat.min_eq_right h, List.take_of_length_le (by omega), List.take_of_length_le (by omega)]
theorem cut_suf (t : Str) (b : Nat) : (cutS t (some (b : Int)) none).cps.toList = t.cps.toList.drop b := by
  show ((t.cps.toList.drop (HT.sIx t.length 0 (some (b : Int)))).take (HT.sIx t.length t.length none - HT.sIx t.length 0 (some (b : Int)))) = _
  rw [HT.sIx_none, HT.sIx_nat]
  have hl : t.length = t.cps.toList.length := (Array.length_toList ..).symm
  rcases Nat.le_total b t.length with h | h
  · rw [Nat.min_eq_left h, List.take_of_length_le (by rw [List.length_drop]; omega)]
  · rw [Nat.min_eq_right h, List.drop_eq_nil_of_le (by omega), List.drop_eq_nil_of_le (by omega), List.take_nil]
theorem len_eq (t : Str) : t.length = t.cps.toList.length := (Array.length_toList ..).symm
theorem hasT_iff {us : List Str} {t : Str} : hasT us t ↔ t ∈ us := by
  constructor
  · rintro ⟨j, h, rfl⟩
    exact tx_mem h
  · intro h
    obtain ⟨j, hj, e⟩ := List.getElem_of_mem h
    refine ⟨j, hj, ?_⟩
    show us.getD j "" = t
    rw [List.getD_eq_getElem?_getD, List.getElem?_eq_getElem hj]
    exact e
/-- the same, by what the texts are -/
theorem insP_iff {us : List Str} : InsP us ↔ ∀ u ∈ us, ∀ b : Nat, 1 ≤ b → b ≤ u.length → ∀ z : Nat, z ≤ u.length - b → (∃ v ∈ us, v.cps.toList = (u.cps.toList.drop b).take z) → ∃ v ∈ us, v.cps.toList = u.cps.toList.drop b := by
  constructor
  · rintro h u hu b h1 h2 z hz ⟨v, hv, ev⟩
    obtain ⟨k, hk, rfl⟩ := hasT_iff.mpr hu
    have ho := h k hk b h1 h2
    have hl : (cutS (tx us k) (some (b : Int)) none).length = (tx us k).length - b := by rw [len_eq, cut_suf, List.length_drop, ← len_eq]
    refine ⟨_, hasT_iff.mp (ho ⟨z, by omega, hasT_iff.mpr ?_⟩), cut_suf _ _⟩
    rw [show cutS (cutS (tx us k) (some (b : Int)) none) none (some (z : Int)) = v from str_ext (by rw [cut_pre, cut_suf, ev])]
    exact hv
  · rintro h k hk b h1 h2 ⟨z, hz, hT⟩
    have hl : (cutS (tx us k) (some (b : Int)) none).length = (tx us k).length - b := by rw [len_eq, cut_suf, List.length_drop, ← len_eq]
    obtain ⟨v, hv, ev⟩ := h _ (tx_mem hk) b h1 h2 z (by omega) ⟨_, hasT_iff.mp hT, by rw [cut_pre, cut_suf]⟩
    rw [show cutS (tx us k) (some (b : Int)) none = v from str_ext (by rw [cut_suf, ev])]
    exact hasT_iff.mpr hv
theorem first_iff {us : List Str} : FirstP us ↔ ∀ k, k < us.length → ∀ z : Nat, z < (tx us k).length → ∀ j, j < us.length → (tx us j).cps.toList = (tx us k).cps.toList.take z → j ≤ k := by
  constructor
  · intro h k hk z hz j hj e
    exact h k hk z hz j hj (str_ext (by rw [cut_pre, e]))
  · intro h k hk z hz j hj e
    exact h k hk z hz j hj (by rw [e, cut_pre])
/-! ### words -/
theorem lay_all {z : Str} : ∀ (n : Nat) (t : Str), t.length = n → (∀ c ∈ t.cps.toList, c ∈ z.cps.toList) → t ∈ lay z n
  | 0, t, h, _ => by
    have : t = "" := str_ext (by
      rw [len_eq] at h
      exact List.length_eq_zero_iff.mp h)
    rw [this]
    exact List.mem_singleton_self _
  | n + 1, t, h, hc => by
    rw [len_eq] at h
    have hne : t.cps.toList ≠ [] := fun z => by rw [z] at h; cases h
    have e := List.dropLast_concat_getLast hne
    have hl : (⟨t.cps.toList.dropLast.toArray⟩ : Str).length = n := by
      rw [len_eq]
      show (t.cps.toList.dropLast.toArray).toList.length = n
      rw [List.length_dropLast]
      omega
    have hin := lay_all n ⟨t.cps.toList.dropLast.toArray⟩ hl (fun c h2 => hc c (List.dropLast_subset _ h2))
    refine List.mem_flatMap.mpr ⟨_, hin, List.mem_map.mpr ⟨⟨#[t.cps.toList.getLast hne]⟩, List.mem_map.mpr ⟨_, hc _ (List.getLast_mem hne), rfl⟩, str_ext ?_⟩⟩
    show (t.cps.toList.dropLast.toArray ++ #[t.cps.toList.getLast hne]).toList = _
    rw [Array.toList_append]
    exact e
theorem allS_iff {z t : Str} {l n : Nat} : t ∈ allS z l n ↔ l ≤ t.length ∧ t.length < n ∧ ∀ c ∈ t.cps.toList, c ∈ z.cps.toList := by
  constructor
  · intro h
    obtain ⟨i, h1, h2, h3⟩ := mem_allS h
    have := lay_len h3
    exact ⟨by omega, by omega, lay_chars h3⟩
  · rintro ⟨h1, h2, h3⟩
    refine List.mem_flatMap.mpr ⟨t.length, List.mem_range.mpr h2, ?_⟩
    rw [if_pos h1]
    exact lay_all _ _ rfl h3
theorem lt_pre : ∀ (xs : List Nat) (z : Nat), z < xs.length → ltCps (xs.take z) xs = true
  | [], z, h => absurd h (Nat.not_lt_zero _)
  | x :: xs, 0, h => rfl
  | x :: xs, z + 1, h => by
    have ih := lt_pre xs z (by simpa using h)
    show ltCps (x :: xs.take z) (x :: xs) = true
    simp only [ltCps]
    first | simpa using ih | (simp; exact ih)
theorem first_sorted {ys : List Str} (h : ys.Pairwise fun a b => ltS a b = true) : FirstP ys := first_iff.mpr fun k hk z hz j hj e => by
  rcases Nat.lt_or_ge k j with hlt | hge
  · have h1 : ltS (tx ys k) (tx ys j) = true := by
      have := List.pairwise_iff_getElem.mp h k j hk hj hlt
      rw [show tx ys k = ys[k] by show ys.getD k "" = _; rw [List.getD_eq_getElem?_getD, List.getElem?_eq_getElem hk]; rfl, show tx ys j = ys[j] by show ys.getD j "" = _; rw [List.getD_eq_getElem?_getD, List.getElem?_eq_getElem hj]; rfl]
      exact this
    have h2 : ltS (tx ys j) (tx ys k) = true := by
      show ltCps _ _ = true
      rw [e]
      exact lt_pre _ _ (by rw [← len_eq]; exact hz)
    have h3 := lt_asym _ _ h1
    rw [show ltCps (tx ys j).cps.toList (tx ys k).cps.toList = true from h2] at h3
    cases h3
  · exact hge
theorem word_math {z : Str} {l n : Nat} {ys : List Str} (hz : z ∈ letM 3) (hn : n ≤ 4) (p : ys.Perm (allS z l n)) (s : sortedS ys = true) : FirstP ys ∧ InsP ys := by
  refine ⟨first_sorted (sorted_pw (p.nodup_iff.mpr (allS_nodup hz l hn)) s), insP_iff.mpr ?_⟩
  rintro u hu b h1 h2 w hw ⟨v, hv, ev⟩
  obtain ⟨a1, a2, a3⟩ := allS_iff.mp (p.mem_iff.mp hu)
  obtain ⟨b1, b2, b3⟩ := allS_iff.mp (p.mem_iff.mp hv)
  have hv2 := congrArg List.length ev
  rw [List.length_take, List.length_drop, ← len_eq, ← len_eq] at hv2
  have hsl : (⟨(u.cps.toList.drop b).toArray⟩ : Str).length = u.length - b := by
    rw [len_eq]
    show (u.cps.toList.drop b).length = _
    rw [List.length_drop, ← len_eq]
  refine ⟨⟨(u.cps.toList.drop b).toArray⟩, p.mem_iff.mpr (allS_iff.mpr ⟨by omega, by omega, fun c hc => a3 c (List.mem_of_mem_drop hc)⟩), rfl⟩
/-! ### words with an end -/
theorem ended_math {us : List Str} {c : Nat} (h : ∀ u ∈ us, ∃ y, u.cps.toList = y ++ [c] ∧ c ∉ y) : FirstP us ∧ InsP us := by
  constructor
  · refine first_iff.mpr fun k hk z hz j hj e => ?_
    obtain ⟨y, e1, n1⟩ := h _ (tx_mem hk)
    obtain ⟨x, e2, _⟩ := h _ (tx_mem hj)
    rw [e1, e2] at e
    rw [len_eq, e1, List.length_append] at hz
    have hz : z ≤ y.length := by simp at hz; omega
    rw [List.take_append_of_le_length hz] at e
    have : c ∈ y.take z := by rw [← e]; exact List.mem_append_right _ (List.mem_singleton_self c)
    exact absurd (List.mem_of_mem_take this) n1
  · refine insP_iff.mpr ?_
    rintro u hu b h1 h2 w hw ⟨v, hv, ev⟩
    obtain ⟨y, e1, n1⟩ := h u hu
    obtain ⟨x, e2, _⟩ := h v hv
    have hlen : u.length = y.length + 1 := by rw [len_eq, e1, List.length_append]; rfl
    rcases Nat.lt_or_ge w (u.length - b) with hlt | hge
    · have hm : c ∈ (u.cps.toList.drop b).take w := by rw [← ev, e2]; exact List.mem_append_right _ (List.mem_singleton_self c)
      rw [List.take_drop, e1, List.take_append_of_le_length (by omega)] at hm
      exact absurd (List.mem_of_mem_take (List.mem_of_mem_drop hm)) n1
    · rw [List.take_of_length_le (by rw [List.length_drop, ← len_eq]; omega)] at ev
      exact ⟨v, hv, ev⟩
/-! ### texts of one length -/
theorem fixed_math {us : List Str} {w : Nat} (h : ∀ u ∈ us, u.length = w) : FirstP us ∧ InsP us := by
  constructor
  · refine first_iff.mpr fun k hk z hz j hj e => ?_
    have h1 := h _ (tx_mem hk)
    have h2 := h _ (tx_mem hj)
    have e := congrArg List.length e
    rw [List.length_take, ← len_eq, ← len_eq] at e
    omega
  · refine insP_iff.mpr ?_
    rintro u hu b h1 h2 z hz ⟨v, hv, ev⟩
    have h3 := h u hu
    have h4 := h v hv
    have e := congrArg List.length ev
    rw [List.length_take, List.length_drop, ← len_eq, ← len_eq] at e
    omega
/-! ### listed texts -/
theorem pre_tab : (texN.all fun a => texN.all fun b => Txt.startswith a b == (decide (a = b) || (List.range a.length).any fun z => decide (b = cutS a none (some (z : Int))))) = true := by decide +kernel
theorem hb_iff {ts : List Str} (nd : ts.Nodup) (hs : ∀ t ∈ ts, t ∈ texN) : hbB ts = true ↔ FirstP ts := by
  have tab : ∀ {a b : Str}, a ∈ texN → b ∈ texN → (Txt.startswith a b = true ↔ a = b ∨ ∃ z : Nat, z < a.length ∧ b = cutS a none (some (z : Int))) := fun {a b} ha hb => by
    have h := eq_of_beq (List.all_eq_true.mp (List.all_eq_true.mp pre_tab a ha) b hb)
    rw [h, Bool.or_eq_true, decide_eq_true_iff, List.any_eq_true]
    constructor
    · rintro (h | ⟨z, h1, h2⟩)
      · exact .inl h
      · exact .inr ⟨z, List.mem_range.mp h1, of_decide_eq_true h2⟩
    · rintro (h | ⟨z, h1, h2⟩)
      · exact .inl h
      · exact .inr ⟨z, List.mem_range.mpr h1, decide_eq_true h2⟩
  have hb : hbB ts = true ↔ ∀ late early : Nat, late < ts.length → early < late → Txt.startswith (tx ts early) (tx ts late) = false := by
    unfold hbB
    rw [Bool.not_eq_true', List.any_eq_false]
    constructor
    · intro h late early h1 h2
      have := h (Txt.startswith (ts.getD early "") (ts.getD late "")) (List.mem_flatMap.mpr ⟨late, List.mem_range.mpr h1, List.mem_map.mpr ⟨early, List.mem_range.mpr h2, rfl⟩⟩)
      exact eq_false_of_ne_true this
    · intro h x hx
      obtain ⟨late, h1, h2⟩ := List.mem_flatMap.mp hx
      obtain ⟨early, h3, rfl⟩ := List.mem_map.mp h2
      have := h late early (List.mem_range.mp h1) (List.mem_range.mp h3)
      show ¬ (Txt.startswith (tx ts early) (tx ts late)) = true
      rw [this]
      exact Bool.false_ne_true
  rw [hb]
  constructor
  · intro h k hk z hz j hj e
    rcases Nat.lt_or_ge k j with hlt | hge
    · have h1 := h j k hj hlt
      rw [(tab (hs _ (tx_mem hk)) (hs _ (tx_mem hj))).mpr (.inr ⟨z, hz, e⟩)] at h1
      cases h1
    · exact hge
  · intro h late early h1 h2
    refine eq_false_of_ne_true fun hst => ?_
    rcases (tab (hs _ (tx_mem (by omega))) (hs _ (tx_mem h1))).mp hst with e | ⟨z, hz, e⟩
    · have he : early < ts.length := by omega
      have g : ∀ j (hj : j < ts.length), tx ts j = ts[j] := fun j hj => by show ts.getD j "" = _; rw [List.getD_eq_getElem?_getD, List.getElem?_eq_getElem hj]; rfl
      rw [g early he, g late h1] at e
      exact List.pairwise_iff_getElem.mp nd early late he h1 h2 e
    · have := h early (by omega) z hz late h1 e
      omega
/-- the texts of a text's end, and the texts that begin it -/
theorem suf_tab : (texN.all fun a => (List.range (a.length - 1)).all fun i => texN.all fun b => Txt.startswith (dropS a (1 + i)) b == (List.range ((dropS a (1 + i)).length + 1)).any fun z => decide (b = cutS (dropS a (1 + i)) none (some (z : Int)))) = true := by decide +kernel
theorem we_iff {ts : List Str} (hs : ∀ t ∈ ts, t ∈ texN) : ((ts.map fun t => weB ts t).all id) = true ↔ InsP ts := by
  have tab : ∀ {a b : Str} {i : Nat}, a ∈ texN → i < a.length - 1 → b ∈ texN → (Txt.startswith (dropS a (1 + i)) b = true ↔ ∃ z : Nat, z ≤ (dropS a (1 + i)).length ∧ b = cutS (dropS a (1 + i)) none (some (z : Int))) := fun {a b i} ha hi hb => by
    have h := eq_of_beq (List.all_eq_true.mp (List.all_eq_true.mp (List.all_eq_true.mp suf_tab a ha) i (List.mem_range.mpr hi)) b hb)
    rw [h, List.any_eq_true]
    constructor
    · rintro ⟨z, h1, h2⟩
      exact ⟨z, Nat.le_of_lt_succ (List.mem_range.mp h1), of_decide_eq_true h2⟩
    · rintro ⟨z, h1, h2⟩
      exact ⟨z, List.mem_range.mpr (Nat.lt_succ_of_le h1), decide_eq_true h2⟩
  have bw : ∀ {a : Str} {i : Nat}, a ∈ texN → i < a.length - 1 → (bwB (dropS a (1 + i)) ts = true ↔ ∃ z : Nat, z ≤ (dropS a (1 + i)).length ∧ hasT ts (cutS (dropS a (1 + i)) none (some (z : Int)))) := fun {a i} ha hi => by
    unfold bwB
    rw [List.any_map, List.any_eq_true]
    constructor
    · rintro ⟨b, hb, h⟩
      obtain ⟨z, hz, e⟩ := (tab ha hi (hs b hb)).mp h
      exact ⟨z, hz, hasT_iff.mpr (e ▸ hb)⟩
    · rintro ⟨z, hz, h⟩
      exact ⟨_, hasT_iff.mp h, (tab ha hi (hs _ (hasT_iff.mp h))).mpr ⟨z, hz, rfl⟩⟩
  have hw : ((ts.map fun t => weB ts t).all id) = true ↔ ∀ a ∈ ts, ∀ i, i < a.length - 1 → okI ts (dropS a (1 + i)) := by
    rw [List.all_map, List.all_eq_true]
    refine forall_congr' fun a => forall_congr' fun ha => ?_
    show weB ts a = true ↔ _
    unfold weB
    rw [List.all_map, List.all_map, List.all_eq_true]
    constructor
    · intro h i hi hex
      have := h i (List.mem_range.mpr hi)
      have : hwB ts (dropS a (1 + i)) = true := this
      unfold hwB at this
      rw [(bw (hs a ha) hi).mpr hex] at this
      rcases Bool.or_eq_true_iff.mp this with h1 | h1
      · exact hasT_iff.mpr (of_decide_eq_true h1)
      · cases h1
    · intro h i hi
      have hi := List.mem_range.mp hi
      show hwB ts (dropS a (1 + i)) = true
      unfold hwB
      cases hb : bwB (dropS a (1 + i)) ts with
      | false => rw [Bool.not_false, Bool.or_true]
      | true => rw [decide_eq_true (hasT_iff.mp (h i hi ((bw (hs a ha) hi).mp hb)))]; rfl
  rw [hw]
  constructor
  · intro h k hk b h1 h2
    rcases Nat.lt_or_ge b (tx ts k).length with hlt | hge
    · have := h _ (tx_mem hk) (b - 1) (by omega)
      rw [show 1 + (b - 1) = b by omega] at this
      have e : dropS (tx ts k) b = cutS (tx ts k) (some (b : Int)) none := rfl
      rw [← e]
      exact this
    · have e : cutS (tx ts k) (some (b : Int)) none = "" := str_ext (by
        rw [cut_suf, List.drop_eq_nil_of_le (by rw [← len_eq]; omega)]
        rfl)
      rw [e]
      rintro ⟨z, hz, hT⟩
      have hz : z ≤ 0 := hz
      obtain rfl : z = 0 := by omega
      exact hT
  · intro h a ha i hi
    obtain ⟨k, hk, rfl⟩ := hasT_iff.mpr ha
    exact h k hk (1 + i) (by omega) (by omega)
/-! ### numbers -/
def T (n : Nat) : Str := (toString ((n : Nat) : Int) : Str)
def numOf (s : Str) : Nat := s.cps.toList.foldl (fun a c => 10 * a + (c - 48)) 0
theorem num_0 : ∀ n ∈ List.range 1000, numOf (T n) = n := by decide +kernel
theorem num_1 : ∀ n ∈ List.range 1000, ∀ z ∈ List.range (T n).length, numOf (cutS (T n) none (some ((z : Nat) : Int))) ≤ n := by decide +kernel
def numIn (n : Nat) (s p : Str) : Bool := decide (T (numOf p) ≠ p) || ((decide (numOf p = 0) && decide (100 ≤ n)) || (decide (T (numOf s) = s) && (decide (numOf p ≤ numOf s) && decide (numOf s ≤ n))))
theorem num_2 : ∀ n ∈ List.range 1000, ∀ b ∈ List.range (T n).length, ∀ z ∈ List.range ((T n).length - b), numIn n (cutS (T n) (some ((b + 1 : Nat) : Int)) none) (cutS (cutS (T n) (some ((b + 1 : Nat) : Int)) none) none (some ((z : Nat) : Int))) = true := by decide +kernel
theorem num_3 : ∀ n ∈ List.range 1000, T n ≠ "00" := by decide +kernel
def nums (l n : Nat) : List Str := (List.range n).map fun i => T (l + i)
theorem nums_at {l n i : Nat} (h : i < n) : tx (nums l n) i = T (l + i) := by
  show (nums l n).getD i "" = _
  unfold nums
  rw [List.getD_eq_getElem?_getD, List.getElem?_map, List.getElem?_range h]
  rfl
theorem nums_len (l n : Nat) : (nums l n).length = n := by
  unfold nums
  rw [List.length_map, List.length_range]
theorem nums_first {l n : Nat} (h : l + n ≤ 1000) : FirstP (nums l n) := fun k hk z hz j hj e => by
  rw [nums_len] at hk hj
  rw [nums_at hk] at hz e
  rw [nums_at hj] at e
  have h1 := num_1 (l + k) (List.mem_range.mpr (by omega)) z (List.mem_range.mpr hz)
  rw [← e, num_0 (l + j) (List.mem_range.mpr (by omega))] at h1
  omega
theorem nums_ins {l n : Nat} (h : l + n ≤ 1000) (hn : 0 < l ∨ l + n ≤ 100) : InsP (nums l n) := fun k hk b h1 h2 ⟨z, hz, j, hj, e⟩ => by
  rw [nums_len] at hk hj
  rw [nums_at hk] at h2 hz e ⊢
  rw [nums_at hj] at e
  have hl : (cutS (T (l + k)) (some (b : Int)) none).length = (T (l + k)).length - b := by rw [len_eq, cut_suf, List.length_drop, ← len_eq]
  have h3 := num_2 (l + k) (List.mem_range.mpr (by omega)) (b - 1) (List.mem_range.mpr (by omega)) z (List.mem_range.mpr (by omega))
  rw [show b - 1 + 1 = b by omega, ← e] at h3
  unfold numIn at h3
  rw [num_0 (l + j) (List.mem_range.mpr (by omega)), decide_eq_false (fun z => z rfl), Bool.false_or] at h3
  rcases Bool.or_eq_true_iff.mp h3 with h4 | h4
  · obtain ⟨a1, a2⟩ := Bool.and_eq_true_iff.mp h4
    have a1 := of_decide_eq_true a1
    have a2 := of_decide_eq_true a2
    omega
  · obtain ⟨a1, a2⟩ := Bool.and_eq_true_iff.mp h4
    obtain ⟨a2, a3⟩ := Bool.and_eq_true_iff.mp a2
    have a1 := of_decide_eq_true a1
    have a2 := of_decide_eq_true a2
    have a3 := of_decide_eq_true a3
    refine ⟨numOf (cutS (T (l + k)) (some (b : Int)) none) - l, by rw [nums_len]; omega, ?_⟩
    rw [nums_at (by omega), show l + (numOf (cutS (T (l + k)) (some (b : Int)) none) - l) = numOf (cutS (T (l + k)) (some (b : Int)) none) by omega, a1]
theorem nums_not {n : Nat} (h : n ≤ 1000) (hn : 100 < n) : ¬ InsP (nums 0 n) := fun hI => by
  have h1 := hI 100 (by rw [nums_len]; exact hn) 1 (by decide) (by rw [nums_at hn]; decide +kernel) ⟨1, by rw [nums_at hn]; decide +kernel, 0, by rw [nums_len]; omega, by rw [nums_at hn, nums_at (by omega)]; decide +kernel⟩
  obtain ⟨j, hj, e⟩ := h1
  rw [nums_len] at hj
  rw [nums_at hn, nums_at hj, show cutS (T (0 + 100)) (some ((1 : Nat) : Int)) none = "00" by decide +kernel] at e
  exact num_3 (0 + j) (List.mem_range.mpr (by omega)) e
end L2.K06

set_option Elab.async false
set_option linter.all false
set_option maxRecDepth 100000
set_option maxHeartbeats 4000000
/-! What the kinds say and what the law says of the texts is the same: marked ones, and all kinds put together. -/
namespace L2.K06
open PySem PySem.W PySem.Spec PySem.Calls PyProof.Rows L2.Jk
theorem app_l (a b : Str) : (a ++ b).cps.toList = a.cps.toList ++ b.cps.toList := by
  show (a.cps ++ b.cps).toList = _
  rw [Array.toList_append]
def mkT (n m : Str) (us : List Str) : List Str := n :: us.map fun t => m ++ t
theorem mkT_0 (n m : Str) (us : List Str) : tx (mkT n m us) 0 = n := rfl
theorem mkT_s {n m : Str} {us : List Str} {k : Nat} (h : k < us.length) : tx (mkT n m us) (k + 1) = m ++ tx us k := by
  show (n :: us.map fun t => m ++ t).getD (k + 1) "" = m ++ us.getD k ""
  rw [List.getD_eq_getElem?_getD, List.getD_eq_getElem?_getD, List.getElem?_cons_succ, List.getElem?_map, List.getElem?_eq_getElem h]
  rfl
theorem mkT_len (n m : Str) (us : List Str) : (mkT n m us).length = us.length + 1 := by
  show (n :: us.map fun t => m ++ t).length = _
  rw [List.length_cons, List.length_map]
theorem mark_first {n m : Str} {cn cm : Nat} (hn : n.cps.toList = [cn]) (hm : m.cps.toList = [cm]) {us : List Str} : FirstP (mkT n m us) ↔ FirstP us := by
  rw [first_iff, first_iff]
  constructor
  · intro h k hk z hz j hj e
    have := h (k + 1) (by rw [mkT_len]; omega) (z + 1) (by rw [mkT_s hk, append_len, len_eq m, hm]; show z + 1 < 1 + _; omega) (j + 1) (by rw [mkT_len]; omega) (by
      rw [mkT_s hk, mkT_s hj, app_l, app_l, hm, e]
      rfl)
    omega
  · intro h k hk z hz j hj e
    rw [mkT_len] at hk hj
    cases j with
    | zero => exact Nat.zero_le _
    | succ j =>
      have hj : j < us.length := by omega
      rw [mkT_s hj, app_l, hm] at e
      cases k with
      | zero =>
        rw [mkT_0, len_eq, hn] at hz
        have hz : z < 1 := hz
        obtain rfl : z = 0 := by omega
        cases e
      | succ k =>
        have hk : k < us.length := by omega
        rw [mkT_s hk, app_l, hm] at e
        cases z with
        | zero => cases e
        | succ z =>
          rw [mkT_s hk, append_len, len_eq m, hm] at hz
          have hz : z + 1 < 1 + (tx us k).length := hz
          have e : cm :: (tx us j).cps.toList = cm :: (tx us k).cps.toList.take z := e
          injection e with _ e
          have := h k hk z (by omega) j hj e
          omega
theorem mark_ins {n m : Str} {cn cm : Nat} (hn : n.cps.toList = [cn]) (hm : m.cps.toList = [cm]) {us : List Str} (hu : ∀ u ∈ us, cn ∉ u.cps.toList ∧ cm ∉ u.cps.toList) : InsP (mkT n m us) := by
  refine insP_iff.mpr ?_
  have start : ∀ v ∈ mkT n m us, ∃ c xs, v.cps.toList = c :: xs ∧ (c = cn ∨ c = cm) := fun v hv => by
    rcases List.mem_cons.mp hv with rfl | hv
    · exact ⟨_, _, hn, .inl rfl⟩
    · obtain ⟨t, _, rfl⟩ := List.mem_map.mp hv
      exact ⟨cm, t.cps.toList, by rw [app_l, hm]; rfl, .inr rfl⟩
  rintro u hu' b h1 h2 w hw ⟨v, hv, ev⟩
  exfalso
  obtain ⟨c, xs, ec, hc⟩ := start v hv
  have hm2 : c ∈ u.cps.toList.drop b := List.mem_of_mem_take (by rw [← ev, ec]; exact List.mem_cons_self ..)
  obtain ⟨b, rfl⟩ : ∃ k, b = k + 1 := ⟨b - 1, by omega⟩
  rcases List.mem_cons.mp hu' with rfl | hu'
  · rw [hn, List.drop_succ_cons, List.drop_nil] at hm2
    cases hm2
  · obtain ⟨t, ht, rfl⟩ := List.mem_map.mp hu'
    rw [app_l, hm] at hm2
    have hm2 : c ∈ t.cps.toList.drop b := hm2
    have := List.mem_of_mem_drop hm2
    rcases hc with rfl | rfl
    · exact (hu t ht).1 this
    · exact (hu t ht).2 this
/-! ### all kinds -/
theorem fix_w : ∀ w ∈ [1, 2, 3], ∀ i ∈ List.range (10 ^ w), (fixS w i).length = w := by decide +kernel
theorem fives_ch : ∀ e ∈ fives, e.cps.toList = [e.cps.getD 0 0] := by decide +kernel
theorem PrP.math {d : PD} {qs : List (V × Str)} (hd : Dr d) (h : PrP d qs) : (hbP d = true ↔ FirstP (qs.map (·.2))) ∧ (iwP d = true ↔ FirstP (qs.map (·.2)) ∧ InsP (qs.map (·.2))) := by
  have both : ∀ {us : List Str} {b : Bool}, b = true → FirstP us ∧ InsP us → (true = true ↔ FirstP us) ∧ (b = true ↔ FirstP us ∧ InsP us) := fun hb h => ⟨⟨fun _ => h.1, fun _ => rfl⟩, ⟨fun _ => h, fun _ => hb⟩⟩
  cases h with
  | @word z l m ys hz hm p s =>
    rw [List.map_map, show (Prod.snd ∘ fun t : Str => (V.str t, t)) = id from rfl, List.map_id]
    exact both rfl (word_math hz (by have := high_le 3 m; omega) p s)
  | @ended z e l m ys hz he hin hm p s =>
    refine both rfl (ended_math (c := e.cps.getD 0 0) fun u hu => ?_)
    rw [List.map_map] at hu
    obtain ⟨t, ht, rfl⟩ := List.mem_map.mp hu
    refine ⟨t.cps.toList, by show (t ++ e).cps.toList = _; rw [app_l, fives_ch e he], fun hc => ?_⟩
    have := (allS_iff.mp (p.mem_iff.mp ht)).2.2 _ hc
    unfold inB at hin
    rw [decide_eq_true this] at hin
    cases hin
  | @number l h m hl hm h1 h2 =>
    have e : ((List.range (h - l)).map fun i : Nat => (V.int ((l : Int) + (i : Int)), (toString ((l : Int) + (i : Int)) : Str))).map (·.2) = nums l (h - l) := by
      rw [List.map_map]
      exact List.map_congr_left fun i _ => by
        show (toString ((l : Int) + (i : Int)) : Str) = (toString (((l + i : Nat)) : Int) : Str)
        rw [show (l : Int) + (i : Int) = ((l + i : Nat) : Int) by omega]
    rw [e]
    have hh : h ≤ 1000 ∧ (m = .non → h = 1000) ∧ ∀ j : Nat, m = .int (j : Nat) → h = j + 1 := by
      rcases hm with rfl | ⟨j, rfl, a1, a2⟩
      · rw [h1 rfl]
        exact ⟨Nat.le_refl _, fun _ => rfl, fun j z => by cases z⟩
      · have := h2 j rfl
        refine ⟨by omega, fun z => (by cases z), fun k z => ?_⟩
        injection z with z
        omega
    obtain ⟨b1, b2, b3⟩ := hh
    have hF := nums_first (l := l) (n := h - l) (by omega)
    refine ⟨⟨fun _ => hF, fun _ => rfl⟩, ?_⟩
    have hiw : iwP (.number (.int (l : Nat)) m) = (decide (0 < l) || (!decide (m = .non) && decide (intV m < 100))) := by
      show (decide (((l : Nat) : Int) > 0) || _) = _
      congr 1
      exact decide_eq_decide.mpr (by omega)
    rw [hiw]
    by_cases hl0 : 0 < l
    · rw [decide_eq_true hl0]
      exact ⟨fun _ => ⟨hF, nums_ins (by omega) (.inl hl0)⟩, fun _ => rfl⟩
    · obtain rfl : l = 0 := by omega
      rw [decide_eq_false hl0, Bool.false_or]
      rcases hm with rfl | ⟨j, rfl, a1, a2⟩
      · have := b2 rfl
        exact ⟨fun z => (by cases z), fun z => absurd z.2 (nums_not (by omega) (by omega))⟩
      · have := b3 j rfl
        by_cases hj : j < 100
        · rw [decide_eq_true (show intV (.int ((j : Nat) : Int)) < 100 by show (j : Int) < 100; omega)]
          exact ⟨fun _ => ⟨hF, nums_ins (by omega) (.inr (by omega))⟩, fun _ => rfl⟩
        · rw [decide_eq_false (show ¬ intV (.int ((j : Nat) : Int)) < 100 by show ¬ (j : Int) < 100; omega)]
          exact ⟨fun z => (by cases z), fun z => absurd z.2 (nums_not (by omega) (by omega))⟩
  | @fixed w h1 h2 =>
    refine both rfl (fixed_math (w := w) fun u hu => ?_)
    rw [List.map_map] at hu
    obtain ⟨i, hi, rfl⟩ := List.mem_map.mp hu
    exact fix_w w (by simp only [List.mem_cons, List.not_mem_nil, or_false]; omega) i hi
  | @listed ts nd hs =>
    have e : ((ts.filter fun t => decide ((t.length : Int) ≤ ((12 : Nat) : Int))).map fun t => (V.str t, t)).map (·.2) = ts := by
      rw [List.map_map, show (Prod.snd ∘ fun t : Str => (V.str t, t)) = id from rfl, List.map_id, List.filter_eq_self.mpr]
      intro t ht
      have := (tens_are t (hs t ht)).2
      exact decide_eq_true (by omega)
    rw [e]
    have els : (LX.lst (ts.map V.str)).els.map strV = ts := by
      show (ts.map V.str).map strV = ts
      rw [List.map_map]
      exact (List.map_congr_left fun _ _ => rfl).trans (List.map_id _)
    have hb := hb_iff nd hs
    have hw := we_iff hs
    show (hbB ((LX.lst (ts.map V.str)).els.map strV) = true ↔ _) ∧ ((hbB ((LX.lst (ts.map V.str)).els.map strV) && (((LX.lst (ts.map V.str)).els.map strV).map fun t => weB ((LX.lst (ts.map V.str)).els.map strV) t).all id) = true ↔ _)
    rw [els]
    refine ⟨hb, ?_⟩
    rw [Bool.and_eq_true, hb, hw]
/-- signs below 200 that are no marks -/
def okc (c : Nat) : Bool := decide (c < 200) && (!(c == 78) && (!(c == 109) && !(c == 47)))
def okt (t : Str) : Bool := t.cps.toList.all okc
theorem okt_let : (∀ z ∈ letM 3, okt z = true) ∧ (∀ e ∈ fives, okt e = true) ∧ (∀ t ∈ texN, okt t = true) := by decide +kernel
theorem okt_num : (∀ n ∈ List.range 1001, okt (T n) = true) ∧ ∀ w ∈ [1, 2, 3], ∀ i ∈ List.range (10 ^ w), okt (fixS w i) = true := by decide +kernel
theorem okt_app {a b : Str} (ha : okt a = true) (hb : okt b = true) : okt (a ++ b) = true := by
  unfold okt
  rw [app_l, List.all_append]
  exact Bool.and_eq_true_iff.mpr ⟨ha, hb⟩
theorem PrP.okt {d : PD} {qs : List (V × Str)} (hd : Dr d) (h : PrP d qs) : ∀ u ∈ qs.map (·.2), okt u = true := by
  obtain ⟨o1, o2, o3⟩ := okt_let
  have sub : ∀ {z t : Str}, K06.okt z = true → (∀ c ∈ t.cps.toList, c ∈ z.cps.toList) → K06.okt t = true := fun hz h => List.all_eq_true.mpr fun c hc => List.all_eq_true.mp hz c (h c hc)
  intro u hu
  cases h with
  | @word z l m ys hz hm p s =>
    rw [List.map_map] at hu
    obtain ⟨t, ht, rfl⟩ := List.mem_map.mp hu
    exact sub (o1 z hz) (allS_iff.mp (p.mem_iff.mp ht)).2.2
  | @ended z e l m ys hz he hin hm p s =>
    rw [List.map_map] at hu
    obtain ⟨t, ht, rfl⟩ := List.mem_map.mp hu
    exact okt_app (sub (o1 z (let_23 z hz)) (allS_iff.mp (p.mem_iff.mp ht)).2.2) (o2 e he)
  | @number l h m hl hm h1 h2 =>
    rw [List.map_map] at hu
    obtain ⟨i, hi, rfl⟩ := List.mem_map.mp hu
    have hi := List.mem_range.mp hi
    have hh : h ≤ 1000 := by
      rcases hm with rfl | ⟨j, rfl, _, _⟩
      · rw [h1 rfl]; exact Nat.le_refl _
      · have := h2 j rfl; omega
    show K06.okt (toString ((l : Int) + (i : Int)) : Str) = true
    rw [show (l : Int) + (i : Int) = ((l + i : Nat) : Int) by omega]
    exact okt_num.1 (l + i) (List.mem_range.mpr (by omega))
  | @fixed w h1 h2 =>
    rw [List.map_map] at hu
    obtain ⟨i, hi, rfl⟩ := List.mem_map.mp hu
    exact okt_num.2 w (by simp only [List.mem_cons, List.not_mem_nil, or_false]; omega) i hi
  | @listed ts nd hs =>
    rw [List.map_map] at hu
    obtain ⟨t, ht, rfl⟩ := List.mem_map.mp hu
    exact o3 t (hs t (List.mem_filter.mp ht).1)
theorem okt_lay {t : Str} (h : okt t = true ∨ ∃ m u : Str, t = m ++ u ∧ m.cps.toList.all (fun c => decide (c < 200)) = true ∧ (u.cps.toList.all fun c => decide (c < 200)) = true) : (PyData.str t).canLay0 = true := by
  have hc : ∀ c ∈ t.cps.toList, c < 200 := fun c hc => by
    rcases h with h | ⟨m, u, rfl, h1, h2⟩
    · exact of_decide_eq_true (Bool.and_eq_true_iff.mp (List.all_eq_true.mp h c hc)).1
    · rw [app_l] at hc
      rcases List.mem_append.mp hc with hc | hc
      · exact of_decide_eq_true (List.all_eq_true.mp h1 c hc)
      · exact of_decide_eq_true (List.all_eq_true.mp h2 c hc)
  show PySem.PyData.canLay0 (.str t) = true
  unfold PyData.canLay0
  show (t.cps.all (· < 0x110000)) = true
  rw [Array.all_eq_true]
  intro i hi
  have z := hc t.cps[i] (by simp)
  exact decide_eq_true (by omega)
theorem mks_ch : ∀ q ∈ mks, ∃ c e, q.1.cps.toList = [c] ∧ q.2.cps.toList = [e] ∧ okc c = false ∧ okc e = false ∧ c < 200 ∧ e < 200 := by
  intro q hq
  simp only [mks, List.mem_cons, List.not_mem_nil, or_false] at hq
  rcases hq with rfl | rfl | rfl
  · exact ⟨78, 109, rfl, rfl, rfl, rfl, by decide, by decide⟩
  · exact ⟨109, 78, rfl, rfl, rfl, rfl, by decide, by decide⟩
  · exact ⟨78, 47, rfl, rfl, rfl, rfl, by decide, by decide⟩
theorem mk_texts {n m : Str} {qs : List (V × Str)} : ((V.non, n) :: qs.map fun q => (q.1, m ++ q.2)).map (·.2) = mkT n m (qs.map (·.2)) := by
  show n :: (qs.map fun q => (q.1, m ++ q.2)).map (·.2) = n :: (qs.map (·.2)).map fun t => m ++ t
  rw [List.map_map, List.map_map]
  rfl
theorem PrIs.math {d : FD} {qs : List (V × Str)} (hd : DrF d) (h : PrIs d qs) : (hbF d = true ↔ FirstP (qs.map (·.2))) ∧ (iwF d = true ↔ FirstP (qs.map (·.2)) ∧ InsP (qs.map (·.2))) := by
  cases h with
  | pl h =>
    cases hd with
    | pl hd => exact h.math hd
  | @mk n m d qs hn h =>
    cases hd with
    | mk _ hd =>
      obtain ⟨c, e, e1, e2, n1, n2, _, _⟩ := mks_ch _ hn
      rw [mk_texts]
      have hF := mark_first (us := qs.map (·.2)) e1 e2
      have hI : InsP (mkT n m (qs.map (·.2))) := mark_ins e1 e2 fun u hu => by
        have ho := h.okt hd u hu
        exact ⟨fun hc => (by rw [List.all_eq_true.mp ho _ hc] at n1; cases n1), fun hc => (by rw [List.all_eq_true.mp ho _ hc] at n2; cases n2)⟩
      obtain ⟨k1, _⟩ := h.math hd
      exact ⟨k1.trans hF.symm, ⟨fun z => ⟨(k1.trans hF.symm).mp z, hI⟩, fun z => (k1.trans hF.symm).mpr z.1⟩⟩
theorem PrIs.ok {d : FD} {qs : List (V × Str)} (hd : DrF d) (h : PrIs d qs) : qs.length ≤ 1001 ∧ ∀ q ∈ qs, q.2.length ≤ 21 ∧ (PyData.str q.2).canLay0 = true := by
  cases h with
  | pl h =>
    cases hd with
    | pl hd =>
      obtain ⟨a1, a2⟩ := h.small hd
      exact ⟨by omega, fun q hq => ⟨by have := a2 q hq; omega, okt_lay (.inl (h.okt hd _ (List.mem_map.mpr ⟨q, hq, rfl⟩)))⟩⟩
  | @mk n m d qs hn h =>
    cases hd with
    | mk _ hd =>
      obtain ⟨a1, a2⟩ := h.small hd
      obtain ⟨c, e, e1, e2, n1, n2, l1, l2⟩ := mks_ch _ hn
      have e1 : n.cps.toList = [c] := e1
      have e2 : m.cps.toList = [e] := e2
      refine ⟨by rw [List.length_cons, List.length_map]; omega, fun q hq => ?_⟩
      rcases List.mem_cons.mp hq with rfl | hq
      · refine ⟨by show n.length ≤ 21; rw [len_eq, e1]; show 1 ≤ 21; decide, okt_lay (.inr ⟨n, "", str_ext (by rw [app_l]; exact (List.append_nil _).symm), by rw [e1]; show (decide (c < 200) && true) = true; rw [decide_eq_true l1]; rfl, rfl⟩)⟩
      · obtain ⟨q0, hq0, rfl⟩ := List.mem_map.mp hq
        have := a2 q0 hq0
        refine ⟨by show (m ++ q0.2).length ≤ 21; rw [append_len, len_eq m, e2]; show 1 + _ ≤ 21; omega, okt_lay (.inr ⟨m, q0.2, rfl, by rw [e2]; show (decide (e < 200) && true) = true; rw [decide_eq_true l2]; rfl, ?_⟩)⟩
        have ho := h.okt hd _ (List.mem_map.mpr ⟨q0, hq0, rfl⟩)
        exact List.all_eq_true.mpr fun x hx => (Bool.and_eq_true_iff.mp (List.all_eq_true.mp ho x hx)).1
/-- three kinds are always whole -/
theorem iw_three {d : FD} (h : d.ci = 0 ∨ d.ci = 2 ∨ d.ci = 4) : iwF d = true := by
  cases d with
  | mk => rcases h with h | h | h <;> cases h
  | pl d =>
    cases d with
    | word => rfl
    | number => rcases h with h | h | h <;> cases h
    | fixed => rfl
    | listed => rcases h with h | h | h <;> cases h
    | ended => rfl
end L2.K06

set_option Elab.async false
set_option linter.all false
set_option maxRecDepth 100000
set_option maxHeartbeats 4000000
/-! The law. -/
namespace L2.K06
open PySem PySem.W PySem.Spec PySem.Calls PyProof.Rows L2.Jk
theorem cut_int {ns : List Int} {i : Nat} {x : V} (h : (cutV (ns.map V.int ++ [V.int 0]) none (some 3))[i]? = some x) : ∃ n, x = V.int n := by
  have m := List.mem_of_getElem? h
  unfold cutV at m
  have m2 := List.mem_of_mem_drop (List.mem_of_mem_take m)
  rcases List.mem_append.mp m2 with m3 | m3
  · obtain ⟨n, _, e⟩ := List.mem_map.mp m3
    exact ⟨n, e.symm⟩
  · exact ⟨0, List.mem_singleton.mp m3⟩
theorem same_but {sa : Addr} {H H1 H2 : Hp} (S : Same H H1) (n : H sa = none) (B : But sa H1 H2) : Same H H2 := fun b o e => B b o (ne_of_none e n) (S b o e)
theorem none_back {H H' : Hp} {a : Addr} (S : Same H H') (n : H' a = none) : H a = none := by
  cases e : H a with
  | none => rfl
  | some o => rw [S _ _ e] at n; cases n
theorem dep_2 : ∀ d : FD, d.dep < 2
  | .pl _ => by show 0 < 2; decide
  | .mk .. => by show 1 < 2; decide
theorem itC {b : Bool} {A B : Prop} (h : b = false) (k : B) : if b = true then A else B := by
  rw [h]
  exact iteF k
def PD.kd : PD → Str
  | .word .. => "word"
  | .number .. => "number"
  | .fixed _ => "fixed"
  | .listed _ => "listed"
  | .ended .. => "ended"
def FD.kd : FD → Str
  | .pl d => d.kd
  | .mk .. => "marked"
def FD.inn : FD → PD
  | .pl d => d
  | .mk _ _ d => d
def FD.plus : FD → Nat
  | .pl _ => 0
  | .mk .. => 1
theorem FD.mo_eq (d : FD) : d.mo = d.inn.mo + d.plus := by cases d <;> rfl
theorem PDAt.kd {s : Addr} {H : Hp} {v : V} : ∀ {d : PD}, PDAt s H v d → ∃ t ys, v = .ref t ∧ H t = some (.tup (.str d.kd :: ys))
  | .word .., ⟨b, e, _, h⟩ => ⟨b, _, e, h⟩
  | .number .., ⟨b, e, _, h⟩ => ⟨b, _, e, h⟩
  | .fixed _, ⟨b, e, _, h⟩ => ⟨b, _, e, h⟩
  | .listed _, ⟨b, u, e, _, h, _⟩ => ⟨b, _, e, h⟩
  | .ended .., ⟨b, e, _, h⟩ => ⟨b, _, e, h⟩
theorem FIn.kd {s : Addr} {H : Hp} {v : V} : ∀ {d : FD}, FIn s H v d → ∃ t ys, v = .ref t ∧ H t = some (.tup (.str d.kd :: ys))
  | .pl _, h => PDAt.kd h
  | .mk .., ⟨b, u, e, _, h, _⟩ => ⟨b, _, e, h⟩
theorem kd_names : decide (("word" : Str) = "marked") = false ∧ decide (("number" : Str) = "marked") = false ∧ decide (("fixed" : Str) = "marked") = false ∧ decide (("listed" : Str) = "marked") = false ∧ decide (("ended" : Str) = "marked") = false ∧ decide (("marked" : Str) = "marked") = true ∧
    decide (("word" : Str) = "listed") = false ∧ decide (("number" : Str) = "listed") = false ∧ decide (("fixed" : Str) = "listed") = false ∧ decide (("listed" : Str) = "listed") = true ∧ decide (("ended" : Str) = "listed") = false ∧ decide (("marked" : Str) = "listed") = false := by decide +kernel
theorem kd_marked : ∀ d : FD, decide (d.kd = "marked") = decide (d.plus = 1)
  | .pl (.word ..) => kd_names.1
  | .pl (.number ..) => kd_names.2.1
  | .pl (.fixed _) => kd_names.2.2.1
  | .pl (.listed _) => kd_names.2.2.2.1
  | .pl (.ended ..) => kd_names.2.2.2.2.1
  | .mk .. => kd_names.2.2.2.2.2.1
theorem kd_listed : ∀ d : PD, decide (d.kd = "listed") = decide (d.mo = 12)
  | .word .. => kd_names.2.2.2.2.2.2.1
  | .number .. => kd_names.2.2.2.2.2.2.2.1
  | .fixed _ => kd_names.2.2.2.2.2.2.2.2.1
  | .listed _ => kd_names.2.2.2.2.2.2.2.2.2.1
  | .ended .. => kd_names.2.2.2.2.2.2.2.2.2.2.1
theorem mo_or : ∀ d : PD, d.mo = 12 ∨ d.mo = 3
  | .word .. => .inr rfl
  | .number .. => .inr rfl
  | .fixed _ => .inr rfl
  | .listed _ => .inl rfl
  | .ended .. => .inr rfl
theorem three_names : (∀ x ∈ (["number", "listed", "marked"] : List Str), x ∉ (["word", "fixed", "ended"] : List Str)) := by decide +kernel
theorem three : ∀ d : FD, d.kd ∈ (["word", "fixed", "ended"] : List Str) → d.ci = 0 ∨ d.ci = 2 ∨ d.ci = 4
  | .pl (.word ..), _ => .inl rfl
  | .pl (.number ..), h => absurd h (three_names _ (by show ("number" : Str) ∈ _; decide +kernel))
  | .pl (.fixed _), _ => .inr (.inl rfl)
  | .pl (.listed _), h => absurd h (three_names _ (by show ("listed" : Str) ∈ _; decide +kernel))
  | .pl (.ended ..), _ => .inr (.inr rfl)
  | .mk .., h => absurd h (three_names _ (by show ("marked" : Str) ∈ _; decide +kernel))
structure GLw (P : Program) (w : World) (K : Frag) (mg : Str → Option Value) (base : Heap) : Prop extends GFi P w K mg base, G6 P w K mg base, GQ P w K mg base where
  law_state : FnAt P w K mg base CX0 1 "_law_state" ["_law_source"] spState
  law_near : FnAt P w K mg base CX0 5 "_law_near" ["_law_s"] spField
  law_made : FnAt P w K mg base CX0 (2 + 5) "_law_made" ["_law_one"] (spMd K 2)
  law_pairs : FnAt P w K mg base CX0 (2 + 1) "_law_pairs" ["_law_one", "_law_most"] (spPairs 2)
  law_first : FnAt P w K mg base CX0 1 "_law_first" ["_law_pairs_here"] spFirst
  law_inside : FnAt P w K mg base CX0 1 "_law_inside" ["_law_pairs_here"] spInside
  has_beginnings_first : FnAt P w K mg base CX0 2 "has_beginnings_first" ["field"] (spHb K 2)
  is_whole : FnAt P w K mg base CX0 3 "is_whole" ["field"] (spIw K)
def spLaw (K : Frag) : Sp := fun vs H Q _ => ∃ (a : Addr) (ns : List Int), vs = [.ref a] ∧ SqL K H a (ns.map V.int) ∧ ns.length ≤ 63 ∧ ∀ H', Q (.bl true) H'
section
variable {P : Program} {w : World} {K : Frag} {mg : Str → Option Value} {base : Heap} {f : Addr} {fd : FuncData}

abbrev s_law : Stmt := top 42
theorem sc_law : FnScope ["_law_script", "_law_cell", "_law_s", "_law_turn", "_law_one", "_law_most", "_law_field_here", "_law_pairs_here", "_law_first_here", "_law_whole"] ["_law_script"] (defScope s_law) := ⟨rfl, rfl, rfl, by decide +kernel, rfl, by decide +kernel, by decide +kernel⟩

theorem ok_law (F : FunD K "law" "law" (defArgs s_law) (defBody s_law) (defScope s_law) [] [] f fd) (G : GLw P w K mg base) : FnOk P w K mg base CX0 8 f fd ["_law_script"] (spLaw K) := by
  refine F.ok (CX := CX0) sc_law (fun vs H Q E h => ?_) (fun cdv A outer s H vs Q E hr h => ?_)
  · obtain ⟨a, ns, rfl, _⟩ := h
    rfl
  · refine ⟨_, PSs.nox (pss_cons (ps_for PassesOwn.never rfl (pi_list (pe_slice sl_listS (pe_op op_catS (pv 0) (pe_lstS (pa_cons pe_int pa_nil))) po_none (po_some pe_int))) (pg_name (i := 1) sc_law.nd rfl (Or.inl rfl))
      (C8.pss_cut (ps_set (i := 2) sc_law.nd rfl (Or.inl rfl) (pe_fn G.law_state (hr.mono (by decide)) pass0 (by rfl) (pa_cons (pv 1) pa_nil)))
      (pss_one (ps_for PassesOwn.never rfl (pi_range1 (by rfl) G.range (pa_cons pe_int pa_nil)) (pg_name (i := 3) sc_law.nd rfl (Or.inl rfl))
        (C8.pss_cut (ps_set (i := 4) sc_law.nd rfl (Or.inl rfl) (pe_fn G.law_near (hr.mono (by decide)) pass0 (by rfl) (pa_cons (pv 2) pa_nil)))
        (C8.pss_cut (ps_if (PW.pt (pw_and (pt_cmpR op_eq (pe_fn G.law_digit (hr.mono (by decide)) pass0 (by rfl) (pa_cons (pv 2) (pa_cons pe_int pa_nil))) pe_int (nomark _)) (pw_and1 (pt_cmpR op_ne (pe_ix (ix_tupK (K := K) rfl) (pv 4) pe_int (fun _ _ => rfl)) pe_str (nomark _)))))
          (pss_one (ps_set (i := 4) sc_law.nd rfl (Or.inl rfl) (pe_tupS (pa_cons pe_str (pa_cons pe_str (pa_cons pe_str (pa_cons (pv 4) pa_nil)))))))
          pss_nil)
        (C8.pss_cut (ps_set (i := 5) sc_law.nd rfl (Or.inl rfl) (pe_ifExp (pt_cmpR (op_inK (K := K) rfl) pe_str (pe_tupS (pa_cons (pe_ix (ix_tupK (K := K) rfl) (pv 4) pe_int (fun _ _ => rfl)) (pa_cons (pe_ifExp (pt_cmpR op_eq (pe_ix (ix_tupK (K := K) rfl) (pv 4) pe_int (fun _ _ => rfl)) pe_str (nomark _)) (pe_ix (ix_tupK (K := K) rfl) (pe_ix (ix_tupK (K := K) rfl) (pv 4) (pe_un un_neg pe_int) (fun _ _ => rfl)) pe_int (fun _ _ => rfl)) pe_str) pa_nil))) (by rfl)) pe_int pe_int))
        (C8.pss_cut (ps_par (i := 6) (j := 7) (by rfl) sc_law.nd rfl rfl (by decide) rfl rfl (pa_cons (pe_fn G.law_made (hr.mono (by decide)) pass0 (by rfl) (pa_cons (pv 4) pa_nil)) (pa_cons (pe_fn G.law_pairs (hr.mono (by decide)) pass0 (by rfl) (pa_cons (pv 4) (pa_cons (pe_op op_add (pv 5) (pe_callTy call_int1 (by rfl) G.int (by decide +kernel) (pa_cons (pe_cmpR op_eq (pe_ix (ix_tupK (K := K) rfl) (pv 4) pe_int (fun _ _ => rfl)) pe_str (nomark _)) pa_nil))) pa_nil))) pa_nil)) (by rfl))
        (C8.pss_cut (ps_set (i := 8) sc_law.nd rfl (Or.inl rfl) (pe_fn G.law_first (hr.mono (by decide)) pass0 (by rfl) (pa_cons (pv 7) pa_nil)))
        (C8.pss_cut (ps_set (i := 9) sc_law.nd rfl (Or.inl rfl) (pe_and (pv 8) (pe_one (pe_fn G.law_inside (hr.mono (by decide)) pass0 (by rfl) (pa_cons (pv 7) pa_nil)))))
        (C8.pss_cut (ps_if (PW.pt (pw_or (pt_cmpR op_ne (pe_fn G.has_beginnings_first (hr.mono (by decide)) pass0 (by rfl) (pa_cons (pv 6) pa_nil)) (pv 8) (nomark _)) (pw_or1 (pt_cmpR op_ne (pe_fn G.is_whole (hr.mono (by decide)) pass0 (by rfl) (pa_cons (pv 6) pa_nil)) (pv 9) (nomark _)))))
          (pss_one (ps_ret pe_bl))
          pss_nil)
        (pss_one (ps_if (PW.pt (pw_and (pt_cmpR (op_inK (K := K) rfl) (pe_ix (ix_tupK (K := K) rfl) (pv 4) pe_int (fun _ _ => rfl)) (pe_tupS (pa_cons pe_str (pa_cons pe_str (pa_cons pe_str pa_nil)))) (by rfl)) (pw_and1 (pt_not (pt_val (pe_fn G.is_whole (hr.mono (by decide)) pass0 (by rfl) (pa_cons (pv 6) pa_nil)))))))
          (pss_one (ps_ret pe_bl))
          pss_nil)))))))))))))
    (pss_one (ps_ret pe_bl))), ?_⟩
    obtain ⟨a, ns, rfl, hS, hl, k⟩ := h
    refine ⟨_, rfl, by show 1 ≤ 1000; decide, fun p0 H0 hp0 S0 e0 => ⟨a, _, _, _, rfl, rfl, S0.seq hS, SqL.of e0, by rw [List.length_map, sizeLine_eq]; show ns.length + 1 ≤ 16777216; omega, fun p1 H1 hp1 S1 e1 => ⟨_, rfl, _, _, rfl, SqL.of e1, fun p2 H2 hp2 S2 e2 => ?_⟩⟩⟩
    refine ⟨p2, rfl, ⟨_, SqL.of e2⟩, for_list (K := K) (a := p2) (xs := cutV (ns.map V.int ++ [V.int 0]) none (some 3)) (fun i σ H' => ∃ v1 v2 v3 v4 v5 v6 v7 v8 v9, σ = [some (.ref a), v1, v2, v3, v4, v5, v6, v7, v8, v9] ∧ Same H2 H')
      ⟨_, _, _, _, _, _, _, _, _, rfl, Same.refl _⟩ (fun i σ H' _ ⟨_, _, _, _, _, _, _, _, _, _, S⟩ => SqL.of (S _ _ e2)) ?_ ?_⟩
    · rintro i x0 σ H3 hx0 ⟨v1, v2, v3, v4, v5, v6, v7, v8, v9, rfl, S3⟩
      obtain ⟨c, rfl⟩ := cut_int hx0
      refine ⟨fun σ H4 => ∃ sa v3 v4 v5 v6 v7 v8 v9, σ = [some (.ref a), some (.int c), some (.ref sa), v3, v4, v5, v6, v7, v8, v9] ∧ H3 sa = none ∧ Same H3 H4 ∧ StAt H4 sa, ⟨_, rfl, c, rfl, fun sa H4 hsa S4 st4 => ⟨sa, _, _, _, _, _, _, _, rfl, hsa, S4, st4⟩⟩, ?_⟩
      rintro σ H4 ⟨sa, v3, v4, v5, v6, v7, v8, v9, rfl, hsa, S4, st4⟩
      refine ⟨8, rfl, by decide, by decide, for_range (n := 8) (fun _ σ H' => ∃ v3 v4 v5 v6 v7 v8 v9, σ = [some (.ref a), some (.int c), some (.ref sa), v3, v4, v5, v6, v7, v8, v9] ∧ But sa H4 H' ∧ StAt H' sa) ⟨_, _, _, _, _, _, _, rfl, But.refl _ _, st4⟩ ?_ ?_⟩
      · rintro k0 σ H' hk0 ⟨v3, v4, v5, v6, v7, v8, v9, rfl, B', st'⟩
        refine ⟨fun σ J => ∃ one d v5 v6 v7 v8 v9, σ = [some (.ref a), some (.int c), some (.ref sa), some (.int (0 + (k0 : Int))), some one, v5, v6, v7, v8, v9] ∧ DrF d ∧ FIn sa J one d ∧ But sa H' J ∧ StAt J sa, ⟨_, rfl, sa, rfl, st', fun one d H5 hDr hI B5 st5 => ⟨one, d, _, _, _, _, _, rfl, hDr, hI, B5, st5⟩⟩, ?_⟩
        rintro σ H5 ⟨one, d, v5, v6, v7, v8, v9, rfl, hDr, hI, B5, st5⟩
        refine ⟨fun σ J => ∃ one d v5 v6 v7 v8 v9, σ = [some (.ref a), some (.int c), some (.ref sa), some (.int (0 + (k0 : Int))), some one, v5, v6, v7, v8, v9] ∧ DrF d ∧ FIn sa J one d ∧ But sa H' J ∧ StAt J sa, ?_, ?_⟩
        · refine ⟨_, rfl, sa, 4, rfl, st5, by decide, by decide, fun dg H6 g0 g1 B6 st6 => ⟨rfl, _, rfl, ?_⟩⟩
          have hI6 := hI.but B6
          refine ite2 (fun c1 => ?_) (fun c1 => ?_)
          · obtain ⟨t, ys, et, ht⟩ := hI6.kd
            refine ⟨_, rfl, t, _, 0, .str d.kd, et, rfl, SqT.of ht, atI_nat (j := 0) rfl, rfl, _, rfl, ?_⟩
            refine ite2 (fun c2 => ?_) (fun c2 => ?_)
            · refine ⟨_, rfl, by show 4 ≤ 1000; decide, fun pt H7 hpt S7 e7 => ?_⟩
              have hpl : d.kd ≠ "marked" := by simpa using c2
              cases d with
              | mk => exact absurd rfl hpl
              | pl d =>
                cases hDr with
                | pl hDr => exact ⟨_, .mk (.str "N") (.str "m") d, _, _, _, _, _, rfl, .mk (by decide) hDr, ⟨pt, one, rfl, st6.ne hpt, e7, PDAt.same S7 hI6⟩, (B5.trans B6).trans (But.of_same S7), st6.same S7⟩
            · exact ⟨one, d, _, _, _, _, _, rfl, hDr, hI6, B5.trans B6, st6⟩
          · exact ⟨one, d, _, _, _, _, _, rfl, hDr, hI6, B5.trans B6, st6⟩
        clear hI hDr st5 B5
        rintro σ H5 ⟨one, d, v5, v6, v7, v8, v9, rfl, hDr, hI, B5, st5⟩
        refine ⟨fun σ J => ∃ v6 v7 v8 v9, σ = [some (.ref a), some (.int c), some (.ref sa), some (.int (0 + (k0 : Int))), some one, some (.int (d.inn.mo : Nat)), v6, v7, v8, v9] ∧ Same H5 J, ?_, ?_⟩
        · obtain ⟨t, ys, et, ht⟩ := hI.kd
          refine ⟨_, rfl, t, _, 0, .str d.kd, et, rfl, SqT.of ht, atI_nat (j := 0) rfl, ?_⟩
          refine ⟨_, rfl, t, _, 0, .str d.kd, et, rfl, SqT.of ht, atI_nat (j := 0) rfl, rfl, _, rfl, ?_⟩
          cases d with
          | pl d0 =>
            have km := kd_marked (.pl d0)
            refine ite2 (fun c3 => ?_) (fun c3 => ?_)
            · exfalso
              have c3 : (FD.pl d0).kd = "marked" := V.str.inj (of_decide_eq_true c3)
              rw [decide_eq_true c3] at km
              cases km
            refine ⟨by show 2 ≤ 1000; decide, fun pt H6 hpt S6 e6 => ⟨pt, [V.str d0.kd, V.str ""], rfl, .inr (SqT.of e6), rfl, rfl, ?_⟩⟩
            refine ⟨_, rfl, ?_⟩
            rw [show ([V.str d0.kd, V.str ""] : List V) = ([d0.kd, ""] : List Str).map V.str from rfl, in_strs]
            have hk : decide (("listed" : Str) ∈ ([d0.kd, ""] : List Str)) = decide (d0.mo = 12) := by
              rw [← kd_listed]
              exact decide_eq_decide.mpr ⟨fun h => by
                rcases List.mem_cons.mp h with h | h
                · exact h.symm
                · exact absurd (List.mem_singleton.mp h) (by decide +kernel), fun h => by rw [h]; exact List.mem_cons_self ..⟩
            rw [hk]
            refine ite2 (fun c4 => ?_) (fun c4 => ?_)
            · have e12 : d0.mo = 12 := of_decide_eq_true c4
              exact ⟨_, _, _, _, by show _ = [_, _, _, _, _, some (V.int (d0.mo : Nat)), _, _, _, _]; rw [e12]; rfl, S6⟩
            · have e3 : d0.mo = 3 := (mo_or d0).resolve_left fun h => c4 (decide_eq_true h)
              exact ⟨_, _, _, _, by show _ = [_, _, _, _, _, some (V.int (d0.mo : Nat)), _, _, _, _]; rw [e3]; rfl, S6⟩
          | mk n m d0 =>
            obtain ⟨b, u, eb, _, hb, hu⟩ := id hI
            rw [et] at eb
            injection eb with eb
            subst eb
            obtain ⟨t2, ys2, eu, ht2⟩ := hu.kd
            subst eu
            refine ite2 (fun c3 => ?_) (fun c3 => ?_)
            rotate_left
            · exfalso
              exact c3 (decide_eq_true rfl)
            refine ⟨_, rfl, _, rfl, t, [V.str "marked", n, m, .ref t2], -1, .ref t2, et, rfl, SqT.of hb, atI_last [V.str "marked", n, m] (.ref t2), t2, _, 0, .str d0.kd, rfl, rfl, SqT.of ht2, atI_nat (j := 0) rfl, ?_⟩
            refine ⟨by show 2 ≤ 1000; decide, fun pt H6 hpt S6 e6 => ⟨pt, [V.str "marked", V.str d0.kd], rfl, .inr (SqT.of e6), rfl, rfl, ?_⟩⟩
            refine ⟨_, rfl, ?_⟩
            rw [show ([V.str "marked", V.str d0.kd] : List V) = (["marked", d0.kd] : List Str).map V.str from rfl, in_strs]
            have hk : decide (("listed" : Str) ∈ (["marked", d0.kd] : List Str)) = decide (d0.mo = 12) := by
              rw [← kd_listed]
              exact decide_eq_decide.mpr ⟨fun h => by
                rcases List.mem_cons.mp h with h | h
                · exact absurd h (by decide +kernel)
                · exact (List.mem_singleton.mp h).symm, fun h => by rw [h]; exact List.mem_cons_of_mem _ (List.mem_singleton_self _)⟩
            rw [hk]
            refine ite2 (fun c4 => ?_) (fun c4 => ?_)
            · have e12 : d0.mo = 12 := of_decide_eq_true c4
              exact ⟨_, _, _, _, by show _ = [_, _, _, _, _, some (V.int (d0.mo : Nat)), _, _, _, _]; rw [e12]; rfl, S6⟩
            · have e3 : d0.mo = 3 := (mo_or d0).resolve_left fun h => c4 (decide_eq_true h)
              exact ⟨_, _, _, _, by show _ = [_, _, _, _, _, some (V.int (d0.mo : Nat)), _, _, _, _]; rw [e3]; rfl, S6⟩
        rintro σ H6 ⟨v6, v7, v8, v9, rfl, S6⟩
        refine ⟨fun σ J => ∃ y p qs v8 v9, σ = [some (.ref a), some (.int c), some (.ref sa), some (.int (0 + (k0 : Int))), some one, some (.int (d.inn.mo : Nat)), some (.ref y), some (.ref p), v8, v9] ∧ Same H6 J ∧ FdAt K J y d ∧ PrIs d qs ∧ PrsAt J p qs, ?_, ?_⟩
        · refine ⟨_, rfl, sa, one, d, rfl, hI.same S6, hDr.good, dep_2 d, fun y H7 S7 hF => ?_⟩
          have hI7 := (hI.same S6).same S7
          obtain ⟨t, ys, et, ht⟩ := hI7.kd
          refine ⟨_, rfl, _, rfl, _, rfl, t, _, 0, .str d.kd, et, rfl, SqT.of ht, atI_nat (j := 0) rfl, rfl, .inr ⟨_, rfl, ?_⟩⟩
          have hmo : ((d.inn.mo : Nat) : Int) + (if decide (V.str d.kd = V.str "marked") = true then 1 else 0) = (d.mo : Nat) := by
            rw [FD.mo_eq d]
            cases d with
            | pl d0 =>
              rw [if_neg fun z => ?_]
              · show (d0.mo : Int) + 0 = ((d0.mo + 0 : Nat) : Int)
                omega
              · have km := kd_marked (.pl d0)
                rw [decide_eq_true (V.str.inj (of_decide_eq_true z))] at km
                cases km
            | mk n m d0 =>
              show (d0.mo : Int) + (if decide (V.str "marked" = V.str "marked") = true then 1 else 0) = _
              rw [if_pos (decide_eq_true rfl)]
              rfl
          exact ⟨_, _, rfl, rfl, sa, one, d, by show [one, V.int (_ + _)] = _; rw [hmo], hI7, hDr, dep_2 d, fun p qs H8 hP hp S8 => ⟨_, _, rfl, y, p, qs, _, _, rfl, S7.trans S8, hF.same S8, hP, hp⟩⟩
        rintro σ H7 ⟨y, p, qs, v8, v9, rfl, S7, hF, hP, hp⟩
        obtain ⟨ok1, ok2⟩ := hP.ok hDr
        obtain ⟨m1, m2⟩ := hP.math hDr
        refine ⟨fun σ J => ∃ b1 v9, σ = [some (.ref a), some (.int c), some (.ref sa), some (.int (0 + (k0 : Int))), some one, some (.int (d.inn.mo : Nat)), some (.ref y), some (.ref p), some (.bl b1), v9] ∧ Same H7 J ∧ (b1 = true ↔ FirstP (qs.map (·.2))), ⟨_, rfl, p, qs, rfl, hp, ok1, fun q hq => (ok2 q hq).1, fun b1 H8 hb S8 => ⟨b1, _, rfl, S8, hb⟩⟩, ?_⟩
        rintro σ H8 ⟨b1, v9, rfl, S8, hb1⟩
        have e1 : hbF d = b1 := Bool.eq_iff_iff.mpr (m1.trans hb1.symm)
        refine ⟨fun σ J => ∃ b2, σ = [some (.ref a), some (.int c), some (.ref sa), some (.int (0 + (k0 : Int))), some one, some (.int (d.inn.mo : Nat)), some (.ref y), some (.ref p), some (.bl b1), some (.bl b2)] ∧ Same H8 J ∧ b2 = iwF d, ?_, ?_⟩
        · refine ⟨_, rfl, b1, rfl, ?_⟩
          refine ite2 (fun c => ?_) (fun c => ?_)
          · obtain ⟨rs, er, T⟩ := hp
            refine ⟨_, rfl, p, qs, rfl, ⟨rs, S8 _ _ er, T.same S8⟩, ok1, ok2, fun b2 H9 hb S9 => ⟨b2, rfl, S9, Bool.eq_iff_iff.mpr ?_⟩⟩
            rw [hb, m2]
            exact ⟨fun z => ⟨hb1.mp c, z⟩, fun z => z.2⟩
          · obtain rfl : b1 = false := eq_false_of_ne_true c
            refine ⟨false, rfl, Same.refl _, Bool.eq_iff_iff.mpr ?_⟩
            rw [m2]
            exact ⟨fun z => absurd z c, fun z => absurd (hb1.mpr z.1) c⟩
        rintro σ H9 ⟨b2, rfl, S9, hb2⟩
        have hF9 := (hF.same S8).same S9
        refine ⟨fun σ J => ∃ b2, σ = [some (.ref a), some (.int c), some (.ref sa), some (.int (0 + (k0 : Int))), some one, some (.int (d.inn.mo : Nat)), some (.ref y), some (.ref p), some (.bl b1), some (.bl b2)] ∧ Same H9 J, ?_, ?_⟩
        · subst hb2
          subst e1
          refine ⟨_, rfl, y, d, rfl, hF9, hDr, dep_2 d, fun H10 S10 => ?_⟩
          refine ⟨_, rfl, rfl, _, rfl, ?_⟩
          refine itC (by simp) ?_
          refine ⟨_, rfl, y, d, rfl, hF9.same S10, hDr, fun H11 S11 => ⟨_, rfl, rfl, _, rfl, itC (by simp) ?_⟩⟩
          exact ⟨iwF d, rfl, S10.trans S11⟩
        clear b2 hb2
        rintro σ H10 ⟨b2, rfl, S10⟩
        have S5a := ((((S6.trans S7).trans S8).trans S9).trans S10)
        have hI10 := hI.same S5a
        have hF10 := ((hF.same S8).same S9).same S10
        obtain ⟨t, ys, et, ht⟩ := hI10.kd
        refine ⟨_, rfl, t, _, 0, .str d.kd, et, rfl, SqT.of ht, atI_nat (j := 0) rfl, ?_⟩
        have stE := st5.same S5a
        have BE : But sa H4 H10 := (B'.trans B5).trans (But.of_same S5a)
        refine ⟨by show 3 ≤ 1000; decide, fun pt H11 hpt S11 e11 => ⟨pt, [V.str "word", V.str "fixed", V.str "ended"], rfl, .inr (SqT.of e11), rfl, rfl, ?_⟩⟩
        refine ⟨_, rfl, ?_⟩
        rw [show ([V.str "word", V.str "fixed", V.str "ended"] : List V) = (["word", "fixed", "ended"] : List Str).map V.str from rfl, in_strs]
        refine ite2 (fun c5 => ?_) (fun c5 => ?_)
        · have hk := three d (of_decide_eq_true c5)
          refine ⟨_, rfl, y, d, rfl, hF10.same S11, hDr, fun H12 S12 => ⟨_, rfl, itC (by rw [iw_three hk]; rfl) ?_⟩⟩
          exact ⟨_, _, _, _, _, _, _, rfl, BE.trans (But.of_same (S11.trans S12)), stE.same (S11.trans S12)⟩
        · exact ⟨_, _, _, _, _, _, _, rfl, BE.trans (But.of_same S11), stE.same S11⟩
      · rintro σ H' ⟨v3, v4, v5, v6, v7, v8, v9, rfl, B', st'⟩
        exact ⟨_, _, _, _, _, _, _, _, _, rfl, same_but (S3.trans S4) (none_back S3 hsa) B'⟩
    · rintro σ H3 ⟨v1, v2, v3, v4, v5, v6, v7, v8, v9, rfl, S3⟩
      exact k _

end
end L2.K06

set_option Elab.async false
set_option linter.all false
set_option maxRecDepth 100000
set_option maxHeartbeats 4000000
namespace L2.K06
open PySem PySem.W PySem.Spec PySem.Calls PyProof.Rows L2.Jk

theorem facts {P : Program} {w : World} {K : Frag} {h : Heap} {mg : Str → Option Value} {base : Heap} (X : K.In h) (G : h.Ns mainGlobals mg) (c : He.SaysD fa fn K) (m : ex K = true) :
    GLw P w K mg base := by
  obtain ⟨m0, m1⟩ := Bool.and_eq_true_iff.mp m
  obtain ⟨z1, m0⟩ := Bool.and_eq_true_iff.mp m0
  obtain ⟨z2, m0⟩ := Bool.and_eq_true_iff.mp m0
  obtain ⟨z3, m0⟩ := Bool.and_eq_true_iff.mp m0
  obtain ⟨z4, m0⟩ := Bool.and_eq_true_iff.mp m0
  obtain ⟨z5, z6⟩ := Bool.and_eq_true_iff.mp m0
  have more : ∀ i, i < 6 → KC K (ca K i) ∧ kitOne K (.type "NoneType") (.ref (ca K i)) = some false ∧ kitOne K (.type "str") (.ref (ca K i)) = some false ∧ kitOne K (.ref (ca K i)) (.type "str") = some false ∧ ∀ j, j < 6 → kitOne K (.ref (ca K i)) (.ref (ca K j)) = some (decide (i = j)) := fun i hi => by
    have y := List.all_eq_true.mp m1 i (List.mem_range.mpr hi)
    obtain ⟨y1, y⟩ := Bool.and_eq_true_iff.mp y
    obtain ⟨y2, y⟩ := Bool.and_eq_true_iff.mp y
    obtain ⟨y3, y⟩ := Bool.and_eq_true_iff.mp y
    obtain ⟨y4, y5⟩ := Bool.and_eq_true_iff.mp y
    obtain ⟨x1, y1⟩ := Bool.and_eq_true_iff.mp y1
    obtain ⟨x2, y1⟩ := Bool.and_eq_true_iff.mp y1
    obtain ⟨x3, y1⟩ := Bool.and_eq_true_iff.mp y1
    obtain ⟨x4, x5⟩ := Bool.and_eq_true_iff.mp y1
    exact ⟨⟨He.eqO_ok x1, of_decide_eq_true x2, x3, eqcB_ok x4, x5⟩, of_decide_eq_true y2, of_decide_eq_true y3, of_decide_eq_true y4, fun j hj => of_decide_eq_true (List.all_eq_true.mp y5 j (List.mem_range.mpr hj))⟩
  have X0 := errB_ok z1
  obtain ⟨fdbi, Fbi⟩ := c.def_ 0 (d := ⟨("BadField", some "__init__"), "__init__", "BadField.__init__", defArgs (inClass (top 3) 0), defBody (inClass (top 3) 0), defScope (inClass (top 3) 0), [], []⟩) rfl
  obtain ⟨fdbt, Fbt⟩ := c.def_ 1 (d := ⟨("BadField", some "told"), "told", "BadField.told", defArgs (inClass (top 3) 1), defBody (inClass (top 3) 1), defScope (inClass (top 3) 1), [], []⟩) rfl
  have eb : ErrAt P w K mg base "BadField" (BF K) ["what"] "refused badfield" := ⟨He.glo_ok X G (c.fact 0 (f := .glo "BadField") rfl), X0, ⟨He.eqO_ok z2, of_decide_eq_true z3⟩, ⟨fdbi, FunD.bindsN (ps := ["self", "what"]) Fbi (fun _ _ _ _ _ _ us hl => match us, hl with | [_, _], _ => rfl), ok_init1 Fbi (⟨rfl, rfl, rfl, by decide +kernel, rfl, by decide +kernel, by decide +kernel⟩ : FnScope ["self", "what"] ["self", "what"] (defScope (inClass (top 3) 0))) X0 rfl rfl (by decide +kernel) (by decide +kernel)⟩,
    ⟨fdbt, FunD.bindsN (ps := ["self"]) Fbt (fun _ _ _ _ _ _ us hl => match us, hl with | [_], _ => rfl), Fbt.kp, ok_told Fbt (⟨rfl, rfl, rfl, by decide +kernel, rfl, by decide +kernel, by decide +kernel⟩ : FnScope ["self"] ["self"] (defScope (inClass (top 3) 1)))⟩⟩
  have g0 : G0 P w K mg base := ⟨⟨He.free_ok X G (c.fact 33 (f := .free "abs") rfl), He.free_ok X G (c.fact 34 (f := .free "int") rfl), He.free_ok X G (c.fact 35 (f := .free "bool") rfl), He.free_ok X G (c.fact 36 (f := .free "isinstance") rfl), He.free_ok X G (c.fact 37 (f := .free "range") rfl), He.free_ok X G (c.fact 38 (f := .free "len") rfl), He.free_ok X G (c.fact 39 (f := .free "set") rfl), He.free_ok X G (c.fact 40 (f := .free "type") rfl), He.free_ok X G (c.fact 41 (f := .free "str") rfl), He.free_ok X G (c.fact 42 (f := .free "reversed") rfl), He.free_ok X G (c.fact 43 (f := .free "tuple") rfl), He.free_ok X G (c.fact 44 (f := .free "list") rfl), He.free_ok X G (c.fact 45 (f := .free "any") rfl), He.free_ok X G (c.fact 46 (f := .free "all") rfl)⟩, He.str_ok X G (c.fact 51 (f := .str "SIGNS" SG) rfl), He.str_ok X G (c.fact 52 (f := .str "DIGITS" DG) rfl), eb⟩
  obtain ⟨fdf1, Ff1⟩ := c.def_ 19 (d := ⟨("is_made_of", none), "is_made_of", "is_made_of", defArgs (top 7), defBody (top 7), defScope (top 7), [], []⟩) rfl
  have Af1 : FnAt P w K mg base CX0 1 "is_made_of" ["text", "signs"] _ := ⟨_, fdf1, He.glo_ok X G (c.fact 7 (f := .glo "is_made_of") rfl), Ff1.kp, ok_made_of Ff1 g0, FunD.bindsN (ps := ["text", "signs"]) Ff1 (fun _ _ _ _ _ _ us hl => match us, hl with | [_, _], _ => rfl)⟩
  obtain ⟨fdf2, Ff2⟩ := c.def_ 20 (d := ⟨("is_sign", none), "is_sign", "is_sign", defArgs (top 8), defBody (top 8), defScope (top 8), [], []⟩) rfl
  have Af2 : FnAt P w K mg base CX0 1 "is_sign" ["thing"] _ := ⟨_, fdf2, He.glo_ok X G (c.fact 8 (f := .glo "is_sign") rfl), Ff2.kp, ok_is_sign Ff2 g0, FunD.bindsN (ps := ["thing"]) Ff2 (fun _ _ _ _ _ _ us hl => match us, hl with | [_], _ => rfl)⟩
  obtain ⟨fdf3, Ff3⟩ := c.def_ 22 (d := ⟨("is_number", none), "is_number", "is_number", defArgs (top 11), defBody (top 11), defScope (top 11), [], []⟩) rfl
  have Af3 : FnAt P w K mg base CX0 1 "is_number" ["thing"] _ := ⟨_, fdf3, He.glo_ok X G (c.fact 10 (f := .glo "is_number") rfl), Ff3.kp, ok_is_number Ff3 g0, FunD.bindsN (ps := ["thing"]) Ff3 (fun _ _ _ _ _ _ us hl => match us, hl with | [_], _ => rfl)⟩
  obtain ⟨fdf4, Ff4⟩ := c.def_ 23 (d := ⟨("digits_of", none), "digits_of", "digits_of", defArgs (top 12), defBody (top 12), defScope (top 12), [], []⟩) rfl
  have Af4 : FnAt P w K mg base CX0 1 "digits_of" ["number"] _ := ⟨_, fdf4, He.glo_ok X G (c.fact 11 (f := .glo "digits_of") rfl), Ff4.kp, ok_digits_of Ff4 g0, FunD.bindsN (ps := ["number"]) Ff4 (fun _ _ _ _ _ _ us hl => match us, hl with | [_], _ => rfl)⟩
  have g1 : G1 P w K mg base := ⟨g0, Af1, Af2, Af3, Af4⟩
  obtain ⟨fdf5, Ff5⟩ := c.def_ 21 (d := ⟨("are_signs", none), "are_signs", "are_signs", defArgs (top 9), defBody (top 9), defScope (top 9), [], []⟩) rfl
  have Af5 : FnAt P w K mg base CX0 2 "are_signs" ["thing"] _ := ⟨_, fdf5, He.glo_ok X G (c.fact 9 (f := .glo "are_signs") rfl), Ff5.kp, ok_are_signs Ff5 g1, FunD.bindsN (ps := ["thing"]) Ff5 (fun _ _ _ _ _ _ us hl => match us, hl with | [_], _ => rfl)⟩
  have g2 : G2 P w K mg base := ⟨g1, Af5⟩
  obtain ⟨fdf6, Ff6⟩ := c.def_ 24 (d := ⟨("check_signs", none), "check_signs", "check_signs", defArgs (top 14), defBody (top 14), defScope (top 14), [], []⟩) rfl
  have Af6 : FnAt P w K mg base (L2.CX P w) 3 "check_signs" ["signs"] _ := ⟨_, fdf6, He.glo_ok X G (c.fact 12 (f := .glo "check_signs") rfl), Ff6.kp, ok_check_signs Ff6 g2, FunD.bindsN (ps := ["signs"]) Ff6 (fun _ _ _ _ _ _ us hl => match us, hl with | [_], _ => rfl)⟩
  obtain ⟨fdf7, Ff7⟩ := c.def_ 25 (d := ⟨("check_span", none), "check_span", "check_span", defArgs (top 15), defBody (top 15), defScope (top 15), [], []⟩) rfl
  have Af7 : FnAt P w K mg base (L2.CX P w) 3 "check_span" ["least", "most"] _ := ⟨_, fdf7, He.glo_ok X G (c.fact 13 (f := .glo "check_span") rfl), Ff7.kp, ok_check_span Ff7 g2, FunD.bindsN (ps := ["least", "most"]) Ff7 (fun _ _ _ _ _ _ us hl => match us, hl with | [_, _], _ => rfl)⟩
  obtain ⟨fdf8, Ff8⟩ := c.def_ 26 (d := ⟨("has_words_with", none), "has_words_with", "has_words_with", defArgs (top 16), defBody (top 16), defScope (top 16), [], []⟩) rfl
  have Af8 : FnAt P w K mg base CX0 1 "has_words_with" ["field", "sign"] _ := ⟨_, fdf8, He.glo_ok X G (c.fact 14 (f := .glo "has_words_with") rfl), Ff8.kp, ok_has_words Ff8 g0, FunD.bindsN (ps := ["field", "sign"]) Ff8 (fun _ _ _ _ _ _ us hl => match us, hl with | [_, _], _ => rfl)⟩
  have cWord : C0 K mg "Word" ["signs", "least", "most"] := ⟨He.glo_ok X G (c.fact 1 (f := .glo "Word") rfl), He.cls_ok (c.fact 53 (f := .cls "Word") rfl), (fun f hf => by
    rcases List.mem_cons.mp hf with rfl | hf
    · exact He.noat_ok (c.fact 55 (f := .noat "Word" "signs") rfl)
    rcases List.mem_cons.mp hf with rfl | hf
    · exact He.noat_ok (c.fact 56 (f := .noat "Word" "least") rfl)
    rcases List.mem_cons.mp hf with rfl | hf
    · exact He.noat_ok (c.fact 57 (f := .noat "Word" "most") rfl)
    cases hf)⟩
  have cNumber : C0 K mg "Number" ["least", "most"] := ⟨He.glo_ok X G (c.fact 2 (f := .glo "Number") rfl), He.cls_ok (c.fact 59 (f := .cls "Number") rfl), (fun f hf => by
    rcases List.mem_cons.mp hf with rfl | hf
    · exact He.noat_ok (c.fact 61 (f := .noat "Number" "least") rfl)
    rcases List.mem_cons.mp hf with rfl | hf
    · exact He.noat_ok (c.fact 62 (f := .noat "Number" "most") rfl)
    cases hf)⟩
  have cFixed : C0 K mg "Fixed" ["width"] := ⟨He.glo_ok X G (c.fact 3 (f := .glo "Fixed") rfl), He.cls_ok (c.fact 64 (f := .cls "Fixed") rfl), (fun f hf => by
    rcases List.mem_cons.mp hf with rfl | hf
    · exact He.noat_ok (c.fact 66 (f := .noat "Fixed" "width") rfl)
    cases hf)⟩
  have cListed : C0 K mg "Listed" ["texts"] := ⟨He.glo_ok X G (c.fact 4 (f := .glo "Listed") rfl), He.cls_ok (c.fact 68 (f := .cls "Listed") rfl), (fun f hf => by
    rcases List.mem_cons.mp hf with rfl | hf
    · exact He.noat_ok (c.fact 70 (f := .noat "Listed" "texts") rfl)
    cases hf)⟩
  have cEnded : C0 K mg "Ended" ["signs", "sign", "least", "most"] := ⟨He.glo_ok X G (c.fact 5 (f := .glo "Ended") rfl), He.cls_ok (c.fact 72 (f := .cls "Ended") rfl), (fun f hf => by
    rcases List.mem_cons.mp hf with rfl | hf
    · exact He.noat_ok (c.fact 74 (f := .noat "Ended" "signs") rfl)
    rcases List.mem_cons.mp hf with rfl | hf
    · exact He.noat_ok (c.fact 75 (f := .noat "Ended" "sign") rfl)
    rcases List.mem_cons.mp hf with rfl | hf
    · exact He.noat_ok (c.fact 76 (f := .noat "Ended" "least") rfl)
    rcases List.mem_cons.mp hf with rfl | hf
    · exact He.noat_ok (c.fact 77 (f := .noat "Ended" "most") rfl)
    cases hf)⟩
  have cMarked : C0 K mg "Marked" ["none", "mark", "field"] := ⟨He.glo_ok X G (c.fact 6 (f := .glo "Marked") rfl), He.cls_ok (c.fact 79 (f := .cls "Marked") rfl), (fun f hf => by
    rcases List.mem_cons.mp hf with rfl | hf
    · exact He.noat_ok (c.fact 81 (f := .noat "Marked" "none") rfl)
    rcases List.mem_cons.mp hf with rfl | hf
    · exact He.noat_ok (c.fact 82 (f := .noat "Marked" "mark") rfl)
    rcases List.mem_cons.mp hf with rfl | hf
    · exact He.noat_ok (c.fact 83 (f := .noat "Marked" "field") rfl)
    cases hf)⟩
  have g3 : G3 P w K mg base := ⟨g2, Af6, Af7, Af8, cWord, cNumber, cFixed, cListed, cEnded, cMarked⟩
  have g4 : G4 P w K mg base := ⟨g3, fun i hi => (more i hi).1, He.eqO_ok z5, of_decide_eq_true z6, fun i j hi hj => (more i hi).2.2.2.2 j hj, fun j hj => (more j hj).2.1, fun j hj => (more j hj).2.2.1⟩
  obtain ⟨fdhWord, FhWord⟩ := c.def_ 4 (d := ⟨("Word", some "has_sign"), "has_sign", "Word.has_sign", defArgs (inClass (top 17) 7), defBody (inClass (top 17) 7), defScope (inClass (top 17) 7), [], []⟩) rfl
  obtain ⟨fdeWord, FeWord⟩ := c.def_ 3 (d := ⟨("Word", some "__eq__"), "__eq__", "Word.__eq__", defArgs (inClass (top 17) 1), defBody (inClass (top 17) 1), defScope (inClass (top 17) 1), [], []⟩) rfl
  have hWord : HM P w K mg base 2 (ca K 0) "has_sign" ["self", "sign"] (spHasWord K) := ⟨He.meth_ok (c.fact 58 (f := .meth "Word" "has_sign") rfl), fdhWord, ok_Word_has FhWord g3, FunD.bindsN (ps := ["self", "sign"]) FhWord (fun _ _ _ _ _ _ us hl => match us, hl with | [_, _], _ => rfl)⟩
  have eWord : EQ P w K mg base (ca K 0) (spEqWord K) := ⟨fdeWord, ok_Word_eq FeWord g4, FunD.bindsN (ps := ["self", "other"]) FeWord (fun _ _ _ _ _ _ us hl => match us, hl with | [_, _], _ => rfl)⟩
  obtain ⟨fdhNumber, FhNumber⟩ := c.def_ 7 (d := ⟨("Number", some "has_sign"), "has_sign", "Number.has_sign", defArgs (inClass (top 18) 7), defBody (inClass (top 18) 7), defScope (inClass (top 18) 7), [], []⟩) rfl
  obtain ⟨fdeNumber, FeNumber⟩ := c.def_ 6 (d := ⟨("Number", some "__eq__"), "__eq__", "Number.__eq__", defArgs (inClass (top 18) 1), defBody (inClass (top 18) 1), defScope (inClass (top 18) 1), [], []⟩) rfl
  have hNumber : HM P w K mg base 2 (ca K 1) "has_sign" ["self", "sign"] (spHasNumber K) := ⟨He.meth_ok (c.fact 63 (f := .meth "Number" "has_sign") rfl), fdhNumber, ok_Number_has FhNumber g3, FunD.bindsN (ps := ["self", "sign"]) FhNumber (fun _ _ _ _ _ _ us hl => match us, hl with | [_, _], _ => rfl)⟩
  have eNumber : EQ P w K mg base (ca K 1) (spEqNumber K) := ⟨fdeNumber, ok_Number_eq FeNumber g4, FunD.bindsN (ps := ["self", "other"]) FeNumber (fun _ _ _ _ _ _ us hl => match us, hl with | [_, _], _ => rfl)⟩
  obtain ⟨fdhFixed, FhFixed⟩ := c.def_ 10 (d := ⟨("Fixed", some "has_sign"), "has_sign", "Fixed.has_sign", defArgs (inClass (top 19) 7), defBody (inClass (top 19) 7), defScope (inClass (top 19) 7), [], []⟩) rfl
  obtain ⟨fdeFixed, FeFixed⟩ := c.def_ 9 (d := ⟨("Fixed", some "__eq__"), "__eq__", "Fixed.__eq__", defArgs (inClass (top 19) 1), defBody (inClass (top 19) 1), defScope (inClass (top 19) 1), [], []⟩) rfl
  have hFixed : HM P w K mg base 2 (ca K 2) "has_sign" ["self", "sign"] (spHasFixed K) := ⟨He.meth_ok (c.fact 67 (f := .meth "Fixed" "has_sign") rfl), fdhFixed, ok_Fixed_has FhFixed g3, FunD.bindsN (ps := ["self", "sign"]) FhFixed (fun _ _ _ _ _ _ us hl => match us, hl with | [_, _], _ => rfl)⟩
  have eFixed : EQ P w K mg base (ca K 2) (spEqFixed K) := ⟨fdeFixed, ok_Fixed_eq FeFixed g4, FunD.bindsN (ps := ["self", "other"]) FeFixed (fun _ _ _ _ _ _ us hl => match us, hl with | [_, _], _ => rfl)⟩
  obtain ⟨fdhListed, FhListed⟩ := c.def_ 13 (d := ⟨("Listed", some "has_sign"), "has_sign", "Listed.has_sign", defArgs (inClass (top 20) 7), defBody (inClass (top 20) 7), defScope (inClass (top 20) 7), [], []⟩) rfl
  obtain ⟨fdeListed, FeListed⟩ := c.def_ 12 (d := ⟨("Listed", some "__eq__"), "__eq__", "Listed.__eq__", defArgs (inClass (top 20) 1), defBody (inClass (top 20) 1), defScope (inClass (top 20) 1), [], []⟩) rfl
  have hListed : HM P w K mg base 2 (ca K 3) "has_sign" ["self", "sign"] (spHasListed K) := ⟨He.meth_ok (c.fact 71 (f := .meth "Listed" "has_sign") rfl), fdhListed, ok_Listed_has FhListed g3, FunD.bindsN (ps := ["self", "sign"]) FhListed (fun _ _ _ _ _ _ us hl => match us, hl with | [_, _], _ => rfl)⟩
  have eListed : EQ P w K mg base (ca K 3) (spEqListed K) := ⟨fdeListed, ok_Listed_eq FeListed g4, FunD.bindsN (ps := ["self", "other"]) FeListed (fun _ _ _ _ _ _ us hl => match us, hl with | [_, _], _ => rfl)⟩
  obtain ⟨fdhEnded, FhEnded⟩ := c.def_ 16 (d := ⟨("Ended", some "has_sign"), "has_sign", "Ended.has_sign", defArgs (inClass (top 21) 7), defBody (inClass (top 21) 7), defScope (inClass (top 21) 7), [], []⟩) rfl
  obtain ⟨fdeEnded, FeEnded⟩ := c.def_ 15 (d := ⟨("Ended", some "__eq__"), "__eq__", "Ended.__eq__", defArgs (inClass (top 21) 1), defBody (inClass (top 21) 1), defScope (inClass (top 21) 1), [], []⟩) rfl
  have hEnded : HM P w K mg base 2 (ca K 4) "has_sign" ["self", "sign"] (spHasEnded K) := ⟨He.meth_ok (c.fact 78 (f := .meth "Ended" "has_sign") rfl), fdhEnded, ok_Ended_has FhEnded g3, FunD.bindsN (ps := ["self", "sign"]) FhEnded (fun _ _ _ _ _ _ us hl => match us, hl with | [_, _], _ => rfl)⟩
  have eEnded : EQ P w K mg base (ca K 4) (spEqEnded K) := ⟨fdeEnded, ok_Ended_eq FeEnded g4, FunD.bindsN (ps := ["self", "other"]) FeEnded (fun _ _ _ _ _ _ us hl => match us, hl with | [_, _], _ => rfl)⟩
  have g5 : G5 P w K mg base := ⟨g4, hWord, eWord, hNumber, eNumber, hFixed, eFixed, hListed, eListed, hEnded, eEnded⟩
  obtain ⟨fdp1, Fp1⟩ := c.def_ 30 (d := ⟨("begins_with_one", none), "begins_with_one", "begins_with_one", defArgs (top 27), defBody (top 27), defScope (top 27), [], []⟩) rfl
  have Ap1 : FnAt P w K mg base CX0 1 "begins_with_one" ["text", "beginnings"] _ := ⟨_, fdp1, He.glo_ok X G (c.fact 18 (f := .glo "begins_with_one") rfl), Fp1.kp, ok_bw Fp1 g4, FunD.bindsN (ps := ["text", "beginnings"]) Fp1 (fun _ _ _ _ _ _ us hl => match us, hl with | [_, _], _ => rfl)⟩
  have gk : GK P w K mg base := ⟨g4, Ap1⟩
  obtain ⟨fdp2, Fp2⟩ := c.def_ 29 (d := ⟨("has_whole_ends", none), "has_whole_ends", "has_whole_ends", defArgs (top 26), defBody (top 26), defScope (top 26), [], []⟩) rfl
  have Ap2 : FnAt P w K mg base CX0 2 "has_whole_ends" ["texts", "text"] _ := ⟨_, fdp2, He.glo_ok X G (c.fact 17 (f := .glo "has_whole_ends") rfl), Fp2.kp, ok_we Fp2 gk, FunD.bindsN (ps := ["texts", "text"]) Fp2 (fun _ _ _ _ _ _ us hl => match us, hl with | [_, _], _ => rfl)⟩
  obtain ⟨fdhb, Fhb⟩ := c.def_ 27 (d := ⟨("has_beginnings_first", none), "has_beginnings_first", "has_beginnings_first", defArgs (top 24), defBody (top 24), defScope (top 24), [], []⟩) rfl
  have ghb := He.glo_ok X G (c.fact 15 (f := .glo "has_beginnings_first") rfl)
  have bhb := FunD.bindsN (ps := ["field"]) Fhb (fun _ _ _ _ _ _ us hl => match us, hl with | [_], _ => rfl)
  have HB0 : FnAt P w K mg base CX0 0 "has_beginnings_first" ["field"] (spHb K 0) := ⟨_, fdhb, ghb, Fhb.kp, fn_never.imp fun vs H Q E h => (by obtain ⟨_, d, _, _, _, hd, _⟩ := h; exact absurd hd (Nat.not_lt_zero _)), bhb⟩
  have stepH : ∀ n, FnAt P w K mg base CX0 n "has_beginnings_first" ["field"] (spHb K n) → FnAt P w K mg base CX0 (n + 1) "has_beginnings_first" ["field"] (spHb K (n + 1)) := fun n A => ⟨_, fdhb, ghb, Fhb.kp, ok_hb Fhb gk A, bhb⟩
  have HB2 := stepH 1 (stepH 0 HB0)
  have gk2 : GK2 P w K mg base := ⟨gk, HB2, Ap2⟩
  obtain ⟨fdp3, Fp3⟩ := c.def_ 28 (d := ⟨("is_whole", none), "is_whole", "is_whole", defArgs (top 25), defBody (top 25), defScope (top 25), [], []⟩) rfl
  have Ap3 : FnAt P w K mg base CX0 3 "is_whole" ["field"] _ := ⟨_, fdp3, He.glo_ok X G (c.fact 16 (f := .glo "is_whole") rfl), Fp3.kp, ok_iw Fp3 gk2, FunD.bindsN (ps := ["field"]) Fp3 (fun _ _ _ _ _ _ us hl => match us, hl with | [_], _ => rfl)⟩
  obtain ⟨fdr1, Fr1⟩ := c.def_ 32 (d := ⟨("_law_state", none), "_law_state", "_law_state", defArgs (top 30), defBody (top 30), defScope (top 30), [], []⟩) rfl
  have Ar1 : FnAt P w K mg base CX0 1 "_law_state" ["_law_source"] _ := ⟨_, fdr1, He.glo_ok X G (c.fact 20 (f := .glo "_law_state") rfl), Fr1.kp, ok_state Fr1 g0.toBl, FunD.bindsN (ps := ["_law_source"]) Fr1 (fun _ _ _ _ _ _ us hl => match us, hl with | [_], _ => rfl)⟩
  obtain ⟨fdr2, Fr2⟩ := c.def_ 33 (d := ⟨("_law_digit", none), "_law_digit", "_law_digit", defArgs (top 31), defBody (top 31), defScope (top 31), [], []⟩) rfl
  have Ar2 : FnAt P w K mg base CX0 1 "_law_digit" ["_law_state_here", "_law_base"] _ := ⟨_, fdr2, He.glo_ok X G (c.fact 21 (f := .glo "_law_digit") rfl), Fr2.kp, ok_digit Fr2 g0.toBl, FunD.bindsN (ps := ["_law_state_here", "_law_base"]) Fr2 (fun _ _ _ _ _ _ us hl => match us, hl with | [_, _], _ => rfl)⟩
  have gr0 : GR0 P w K mg base := ⟨g5, Ar2⟩
  obtain ⟨fdr3, Fr3⟩ := c.def_ 34 (d := ⟨("_law_letters", none), "_law_letters", "_law_letters", defArgs (top 32), defBody (top 32), defScope (top 32), [], []⟩) rfl
  have Ar3 : FnAt P w K mg base CX0 2 "_law_letters" ["_law_s", "_law_most"] _ := ⟨_, fdr3, He.glo_ok X G (c.fact 22 (f := .glo "_law_letters") rfl), Fr3.kp, ok_law_letters Fr3 gr0, FunD.bindsN (ps := ["_law_s", "_law_most"]) Fr3 (fun _ _ _ _ _ _ us hl => match us, hl with | [_, _], _ => rfl)⟩
  obtain ⟨fdr4, Fr4⟩ := c.def_ 35 (d := ⟨("_law_bounds", none), "_law_bounds", "_law_bounds", defArgs (top 33), defBody (top 33), defScope (top 33), [], []⟩) rfl
  have Ar4 : FnAt P w K mg base CX0 2 "_law_bounds" ["_law_s", "_law_least", "_law_more"] _ := ⟨_, fdr4, He.glo_ok X G (c.fact 23 (f := .glo "_law_bounds") rfl), Fr4.kp, ok_law_bounds Fr4 gr0, FunD.bindsN (ps := ["_law_s", "_law_least", "_law_more"]) Fr4 (fun _ _ _ _ _ _ us hl => match us, hl with | [_, _, _], _ => rfl)⟩
  have gr1 : GR1 P w K mg base := ⟨gr0, Ar3⟩
  have gp : GP P w K mg base := ⟨gr1, Ar4⟩
  obtain ⟨fdr5, Fr5⟩ := c.def_ 36 (d := ⟨("_law_plain", none), "_law_plain", "_law_plain", defArgs (top 34), defBody (top 34), defScope (top 34), [], []⟩) rfl
  have Ar5 : FnAt P w K mg base CX0 3 "_law_plain" ["_law_s", "_law_way"] _ := ⟨_, fdr5, He.glo_ok X G (c.fact 24 (f := .glo "_law_plain") rfl), Fr5.kp, ok_law_plain Fr5 gp, FunD.bindsN (ps := ["_law_s", "_law_way"]) Fr5 (fun _ _ _ _ _ _ us hl => match us, hl with | [_, _], _ => rfl)⟩
  have gf : GF P w K mg base := ⟨gr0, Ar5⟩
  obtain ⟨fdr6, Fr6⟩ := c.def_ 37 (d := ⟨("_law_field", none), "_law_field", "_law_field", defArgs (top 35), defBody (top 35), defScope (top 35), [], []⟩) rfl
  have Ar6 : FnAt P w K mg base CX0 4 "_law_field" ["_law_s"] _ := ⟨_, fdr6, He.glo_ok X G (c.fact 25 (f := .glo "_law_field") rfl), Fr6.kp, ok_law_field Fr6 gf, FunD.bindsN (ps := ["_law_s"]) Fr6 (fun _ _ _ _ _ _ us hl => match us, hl with | [_], _ => rfl)⟩
  have gs : GS P w K mg base := ⟨g0, He.free_ok X G (c.fact 47 (f := .free "sorted") rfl)⟩
  obtain ⟨fdr7, Fr7⟩ := c.def_ 39 (d := ⟨("_law_strings", none), "_law_strings", "_law_strings", defArgs (top 37), defBody (top 37), defScope (top 37), [], []⟩) rfl
  have Ar7 : FnAt P w K mg base CX0 1 "_law_strings" ["_law_signs", "_law_least", "_law_most"] _ := ⟨_, fdr7, He.glo_ok X G (c.fact 27 (f := .glo "_law_strings") rfl), Fr7.kp, ok_law_strings Fr7 gs, FunD.bindsN (ps := ["_law_signs", "_law_least", "_law_most"]) Fr7 (fun _ _ _ _ _ _ us hl => match us, hl with | [_, _, _], _ => rfl)⟩
  have gq : GQ P w K mg base := ⟨gs, Ar7, He.free_ok X G (c.fact 48 (f := .free "min") rfl)⟩
  obtain ⟨fdiWord, FiWord⟩ := c.def_ 2 (d := ⟨("Word", some "__init__"), "__init__", "Word.__init__", defArgs (inClass (top 17) 0), defBody (inClass (top 17) 0), defScope (inClass (top 17) 0), [], []⟩) rfl
  have kWord : ClsAt P w K mg base (L2.CX P w) 4 "Word" (ca K 0) ["self", "signs", "least", "most"] (spWord K) := ⟨cWord.mgC, cWord.cl, He.mkr_ok (c.fact 54 (f := .mkr "Word") rfl), fdiWord, ok_Word_init FiWord g3, FunD.bindsN (ps := ["self", "signs", "least", "most"]) FiWord (fun _ _ _ _ _ _ us hl => match us, hl with | [_, _, _, _], _ => rfl)⟩
  obtain ⟨fdiNumber, FiNumber⟩ := c.def_ 5 (d := ⟨("Number", some "__init__"), "__init__", "Number.__init__", defArgs (inClass (top 18) 0), defBody (inClass (top 18) 0), defScope (inClass (top 18) 0), [], []⟩) rfl
  have kNumber : ClsAt P w K mg base (L2.CX P w) 4 "Number" (ca K 1) ["self", "least", "most"] (spNumber K) := ⟨cNumber.mgC, cNumber.cl, He.mkr_ok (c.fact 60 (f := .mkr "Number") rfl), fdiNumber, ok_Number_init FiNumber g3, FunD.bindsN (ps := ["self", "least", "most"]) FiNumber (fun _ _ _ _ _ _ us hl => match us, hl with | [_, _, _], _ => rfl)⟩
  obtain ⟨fdiFixed, FiFixed⟩ := c.def_ 8 (d := ⟨("Fixed", some "__init__"), "__init__", "Fixed.__init__", defArgs (inClass (top 19) 0), defBody (inClass (top 19) 0), defScope (inClass (top 19) 0), [], []⟩) rfl
  have kFixed : ClsAt P w K mg base (L2.CX P w) 4 "Fixed" (ca K 2) ["self", "width"] (spFixed K) := ⟨cFixed.mgC, cFixed.cl, He.mkr_ok (c.fact 65 (f := .mkr "Fixed") rfl), fdiFixed, ok_Fixed_init FiFixed g3, FunD.bindsN (ps := ["self", "width"]) FiFixed (fun _ _ _ _ _ _ us hl => match us, hl with | [_, _], _ => rfl)⟩
  obtain ⟨fdiListed, FiListed⟩ := c.def_ 11 (d := ⟨("Listed", some "__init__"), "__init__", "Listed.__init__", defArgs (inClass (top 20) 0), defBody (inClass (top 20) 0), defScope (inClass (top 20) 0), [], []⟩) rfl
  have kListed : ClsAt P w K mg base (L2.CX P w) 4 "Listed" (ca K 3) ["self", "texts"] (spListed K) := ⟨cListed.mgC, cListed.cl, He.mkr_ok (c.fact 69 (f := .mkr "Listed") rfl), fdiListed, ok_Listed_init FiListed g3, FunD.bindsN (ps := ["self", "texts"]) FiListed (fun _ _ _ _ _ _ us hl => match us, hl with | [_, _], _ => rfl)⟩
  obtain ⟨fdiEnded, FiEnded⟩ := c.def_ 14 (d := ⟨("Ended", some "__init__"), "__init__", "Ended.__init__", defArgs (inClass (top 21) 0), defBody (inClass (top 21) 0), defScope (inClass (top 21) 0), [], []⟩) rfl
  have kEnded : ClsAt P w K mg base (L2.CX P w) 4 "Ended" (ca K 4) ["self", "signs", "sign", "least", "most"] (spEnded K) := ⟨cEnded.mgC, cEnded.cl, He.mkr_ok (c.fact 73 (f := .mkr "Ended") rfl), fdiEnded, ok_Ended_init FiEnded g3, FunD.bindsN (ps := ["self", "signs", "sign", "least", "most"]) FiEnded (fun _ _ _ _ _ _ us hl => match us, hl with | [_, _, _, _, _], _ => rfl)⟩
  obtain ⟨fdiMarked, FiMarked⟩ := c.def_ 17 (d := ⟨("Marked", some "__init__"), "__init__", "Marked.__init__", defArgs (inClass (top 22) 0), defBody (inClass (top 22) 0), defScope (inClass (top 22) 0), [], []⟩) rfl
  have kMarked : ClsAt P w K mg base (L2.CX P w) 4 "Marked" (ca K 5) ["self", "none", "mark", "field"] (spMarked K) := ⟨cMarked.mgC, cMarked.cl, He.mkr_ok (c.fact 80 (f := .mkr "Marked") rfl), fdiMarked, ok_Marked_init FiMarked g5, FunD.bindsN (ps := ["self", "none", "mark", "field"]) FiMarked (fun _ _ _ _ _ _ us hl => match us, hl with | [_, _, _, _], _ => rfl)⟩
  have g6 : G6 P w K mg base := ⟨gr1, kWord, kNumber, kFixed, kListed, kEnded, kMarked⟩
  obtain ⟨fdmd, Fmd⟩ := c.def_ 38 (d := ⟨("_law_made", none), "_law_made", "_law_made", defArgs (top 36), defBody (top 36), defScope (top 36), [], []⟩) rfl
  have gmd := He.glo_ok X G (c.fact 26 (f := .glo "_law_made") rfl)
  have bmd := FunD.bindsN (ps := ["_law_one"]) Fmd (fun _ _ _ _ _ _ us hl => match us, hl with | [_], _ => rfl)
  have M0 : FnAt P w K mg base CX0 (0 + 5) "_law_made" ["_law_one"] (spMd K 0) := ⟨_, fdmd, gmd, Fmd.kp, fn_never.imp fun vs H Q E h => (by obtain ⟨_, _, d, _, _, _, hd, _⟩ := h; exact absurd hd (Nat.not_lt_zero _)), bmd⟩
  have step : ∀ n, FnAt P w K mg base CX0 (n + 5) "_law_made" ["_law_one"] (spMd K n) → FnAt P w K mg base CX0 (n + 1 + 5) "_law_made" ["_law_one"] (spMd K (n + 1)) := fun n A => ⟨_, fdmd, gmd, Fmd.kp, by have k := ok_law_made Fmd g6 A; rwa [show n + 5 + 1 = n + 1 + 5 by omega] at k, bmd⟩
  have M2 := step 1 (step 0 M0)
  obtain ⟨fdmp, Fmp⟩ := c.def_ 40 (d := ⟨("_law_pairs", none), "_law_pairs", "_law_pairs", defArgs (top 38), defBody (top 38), defScope (top 38), [], []⟩) rfl
  have gmp := He.glo_ok X G (c.fact 28 (f := .glo "_law_pairs") rfl)
  have bmp := FunD.bindsN (ps := ["_law_one", "_law_most"]) Fmp (fun _ _ _ _ _ _ us hl => match us, hl with | [_, _], _ => rfl)
  have N0 : FnAt P w K mg base CX0 (0 + 1) "_law_pairs" ["_law_one", "_law_most"] (spPairs 0) := ⟨_, fdmp, gmp, Fmp.kp, fn_never.imp fun vs H Q E h => (by obtain ⟨_, _, d, _, _, _, hd, _⟩ := h; exact absurd hd (Nat.not_lt_zero _)), bmp⟩
  have stepP : ∀ n, FnAt P w K mg base CX0 (n + 1) "_law_pairs" ["_law_one", "_law_most"] (spPairs n) → FnAt P w K mg base CX0 (n + 1 + 1) "_law_pairs" ["_law_one", "_law_most"] (spPairs (n + 1)) := fun n A => ⟨_, fdmp, gmp, Fmp.kp, ok_law_pairs Fmp gq A, bmp⟩
  have N2 := stepP 1 (stepP 0 N0)
  have gn : GN P w K mg base := ⟨gr0, Ar6⟩
  obtain ⟨fdl1, Fl1⟩ := c.def_ 41 (d := ⟨("_law_near", none), "_law_near", "_law_near", defArgs (top 39), defBody (top 39), defScope (top 39), [], []⟩) rfl
  have Al1 : FnAt P w K mg base CX0 5 "_law_near" ["_law_s"] _ := ⟨_, fdl1, He.glo_ok X G (c.fact 29 (f := .glo "_law_near") rfl), Fl1.kp, ok_law_near Fl1 gn, FunD.bindsN (ps := ["_law_s"]) Fl1 (fun _ _ _ _ _ _ us hl => match us, hl with | [_], _ => rfl)⟩
  have gfi : GFi P w K mg base := ⟨gn, He.free_ok X G (c.fact 50 (f := .free "enumerate") rfl), He.free_ok X G (c.fact 49 (f := .free "dict") rfl)⟩
  obtain ⟨fdl2, Fl2⟩ := c.def_ 42 (d := ⟨("_law_first", none), "_law_first", "_law_first", defArgs (top 40), defBody (top 40), defScope (top 40), [], []⟩) rfl
  have Al2 : FnAt P w K mg base CX0 1 "_law_first" ["_law_pairs_here"] _ := ⟨_, fdl2, He.glo_ok X G (c.fact 30 (f := .glo "_law_first") rfl), Fl2.kp, ok_law_first Fl2 gfi, FunD.bindsN (ps := ["_law_pairs_here"]) Fl2 (fun _ _ _ _ _ _ us hl => match us, hl with | [_], _ => rfl)⟩
  obtain ⟨fdl3, Fl3⟩ := c.def_ 43 (d := ⟨("_law_inside", none), "_law_inside", "_law_inside", defArgs (top 41), defBody (top 41), defScope (top 41), [], []⟩) rfl
  have Al3 : FnAt P w K mg base CX0 1 "_law_inside" ["_law_pairs_here"] _ := ⟨_, fdl3, He.glo_ok X G (c.fact 31 (f := .glo "_law_inside") rfl), Fl3.kp, ok_law_inside Fl3 gfi, FunD.bindsN (ps := ["_law_pairs_here"]) Fl3 (fun _ _ _ _ _ _ us hl => match us, hl with | [_], _ => rfl)⟩
  exact { gfi with law_letters := Ar3, kWord := kWord, kNumber := kNumber, kFixed := kFixed, kListed := kListed, kEnded := kEnded, kMarked := kMarked, sorted := gs.sorted, law_strings := Ar7, min := gq.min, law_state := Ar1, law_near := Al1, law_made := M2, law_pairs := N2, law_first := Al2, law_inside := Al3, has_beginnings_first := HB2, is_whole := Ap3 }

end L2.K06
open PySem PySem.W PySem.Calls PyProof.Rows
set_option maxRecDepth 100000 in
set_option maxHeartbeats 0 in
theorem PySem.Challenge.cw_jointkeys_k06_whole_fields_by_their_text_holds : PySem.Challenge.rw_jointkeys_k06_whole_fields_by_their_text.Holds := by
  w_on; o_law
  refine HandSHeadRun.head_any (r := OpenLaw.row PySem.Challenge.rw_jointkeys_k06_whole_fields_by_their_text) (q := view (OpenLaw.row PySem.Challenge.rw_jointkeys_k06_whole_fields_by_their_text).prog [42]) (H := L2.K06.hk) (ob := L2.K06.ob) (M := 8000) (loose := L2.K06.names) (d := HandSHeadRun.topDef (OpenLaw.row PySem.Challenge.rw_jointkeys_k06_whole_fields_by_their_text).prog 42) (kwd := []) L2.K06.ob_eq
    (by kernel_rfl) (fun s => by kernel_rfl) L2.K06.run (by kernel_rfl) (by kernel_rfl) (by kernel_rfl) (by rfl) (by first | assumption | decide +kernel) (by decide +kernel) ⟨rfl, rfl, rfl, rfl, rfl, by decide +kernel⟩ ?hw ?hc
  case hw => w_witness2
  case hc =>
    refine L2.walk_ofE (l := PySem.Challenge.rw_jointkeys_k06_whole_fields_by_their_text) (n := 63) (k := 8) (x := "_law_script") (CX := L2.CX0) rfl (by decide) (by kernel_rfl) ⟨rfl, by decide, by decide⟩ ?F (fun _ _ _ _ z => z)
    intro w mg fa h Y G hmg0
    obtain ⟨K, KX, c⟩ := Y
    have hmg : mg ("law" : PySem.Str) = some (.ref fa) := by
      have e : (HandSHeadRun.topDef (OpenLaw.row PySem.Challenge.rw_jointkeys_k06_whole_fields_by_their_text).prog 42).name = ("law" : PySem.Str) := by kernel_rfl
      rw [← e]
      exact hmg0
    obtain ⟨fd, F⟩ := c.1.d.def_ 44 (d := ⟨("law", none), "law", "law", L2.defArgs L2.K06.s_law, L2.defBody L2.K06.s_law, L2.defScope L2.K06.s_law, [], []⟩) rfl
    have e := hmg.symm.trans (He.glo_ok KX G (c.1.d.fact 32 (f := .glo "law") rfl))
    cases e
    have b := L2.FunD.bindsA (ps := ["_law_script"]) F fun _ _ _ _ _ _ us hl => match us, hl with | [_], _ => rfl
    exact ⟨K, fd, L2.K06.spLaw K, KX, fun s v => b s [v] rfl, fun H a ns hl _ hS => ⟨a, ns, rfl, hS, hl, fun _ => rfl⟩, fun base XB _ => L2.K06.ok_law F (L2.K06.facts KX G c.1.d c.2)⟩
#print axioms PySem.Challenge.cw_jointkeys_k06_whole_fields_by_their_text_holds
