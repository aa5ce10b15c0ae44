import PyProof.Rows.All
import Wide.All
import OpenK.AllK
import Wide.FinOn
import HandS.ForMost
import HandS.ForExc
import HandS.ExcInit
import HandS.ExcIs
import HandS.ExcField
import HandS.IsInst
import KE.KStateDown
import HandS.Defaults
import HandS.Head0
import HandS.Head1
import HandS.Head2
import HandS.Head3
import HandS.Head4
import HandS.HeadEnd
import HandS.HeadHook1
import HandS.HeadHook2
import HandS.HeadHook3
import HandS.HeadHook4
import HandS.Walk
import HandS.OwnEq
import PyProof.InstNe
import HandS.Text
import KE.KIntText
import PyProof.Rows.Digits
import KE.IntTextLaws
import PyProof.WalksS
import PyProof.StrWalks
import PyProof.EnumMake
import PyProof.Rows.SetFrom
import PyProof.SetKind
import HandS.Strs
import HandS.Rev
import HandS.Zip
import PyProof.JoinWalk
import PyProof.ListStr
import HandS.ExcOwn
import HandS.WordsExc
import HandS.StrMore
import PyProof.StrOps2
import HandS.TupAny
import HandS.WordsDict
import KE.GoesEnum
import HandS.Codes
import HandS.More
import HandS.Flow
import HandS.RaiseMore
import HandS.Sort
import PyProof.ListRange
import PyProof.Rows.FinIter
import KE.DatumOrd
import PyProof.CallFns
import HandS.TryMany
import PySem.Challenge.RW_jointkeys_k77_stores_moved
set_option Elab.async false
set_option linter.all false
set_option maxRecDepth 100000
set_option maxHeartbeats 4000000
/-! Own exceptions as plain values: made, their fields read, their methods called, isinstance asked of them. -/
namespace L2.Jk
open PySem PySem.W PySem.Spec PySem.Calls PyProof.Rows

/-- what an own error class says of itself, for its instances as values -/
structure ErrC (K : Frag) (C : Addr) : Prop where
  ox : OexC K C
  xf : XfC K C
  kk : findIn K (.ref C) "__class__" = some (some (.builtin "object.__class__"))
  kn : specialIn K (.builtin "object.__class__") "__get__" = some (some (.builtin "getset_descriptor.__get__"))
  kt : takesIn K (.builtin "object.__class__") = some true
  km : mroIn K C (.type "object") = some true

section
variable {prog : Program} {w : World} {A : Around} {E : Value → Shared → Prop} {s : Shared} {K : Frag} {e C f : Addr} {oe od : Obj}

/-- e.__class__ of an error with a dict of its own -/
theorem err_class {Q : Option Value → Shared → Prop} (T : ErrC K C) (X : K.In s.heap) (I : InstAt s.heap e oe C (some od)) (h : Q (some (.ref C)) { s with toks := s.toks + 1 }) :
    wpAny (model prog w) A (getAttr? (.ref e) "__class__") Q E s := by
  obtain ⟨cd, hcd, _⟩ := any_some T.xf.hdC
  have look := findObj_data (od := od) (show (clsIn K C).isSome = true by rw [hcd]; rfl) T.kk T.kn T.kt
  obtain ⟨hp, gn, dr, tk, os⟩ := s
  have lt := I.type (M := model prog w)
  have lg := looks_findIn (M := model prog w) X T.xf.ga
  have lh := looks_findIn (M := model prog w) X T.xf.gg
  have lf := looks_find (M := model prog w) X I look
  have inB : Looks (model prog w) hp (isInstance (.ref e) (.type "BaseException")) true := lt.andThen (looks_subIn X T.xf.exC)
  have n2 : (Value.builtin "BaseException.__getattribute__" == Value.builtin "object.__getattribute__") = false := by decide +kernel
  have n1 : (onTheHeap (Value.ref C) && Value.builtin "BaseException.__getattribute__" == Value.builtin "object.__getattribute__") = false := by rw [n2] <;> rfl
  unfold getAttr? getAttrBy? getAttrBy
  refine wpAny_bind (wpAny_mkText (wpAny_bind (wpAny_attempt (wpAny_holding (wpAny_bind (lt.at (wpAny_bind (lg.at ?_))))))))
  show wpAny _ _ (if (onTheHeap (Value.ref C) && Value.builtin "BaseException.__getattribute__" == Value.builtin "object.__getattribute__") = true then _ else _) _ _ _
  rw [n1, if_neg Bool.false_ne_true]
  unfold getAttrByItsOwn hookBefore
  refine wpAny_bind ?_
  rw [if_pos (show onTheHeap (Value.ref C) = true from rfl)]
  refine lh.at (wpAny_bind (wpAny_attempt (wpAny_holding ?_)))
  unfold callGetattribute
  rw [show (false && onTheHeap (Value.builtin "BaseException.__getattribute__")) = false from rfl, if_neg Bool.false_ne_true]
  unfold boundAndCalled
  rw [PySem.F.excAttr_ValueError.ga.bind (.ref e)]
  refine wpAny_bind (wpAny_pure ?_)
  show wpAny _ _ (call (.builtin "BaseException.__getattribute__") [.ref e, .str "__class__" tk]) _ _ _
  refine wpAny_call (codeAny_call_builtin PySem.F.excAttr_ValueError.ga.plain PySem.F.entry_bexc_ga ?_)
  refine @check_slot (model prog w) _ _ ⟨hp, gn, dr, tk + 1, os⟩ "BaseException.__getattribute__" "BaseException" "__getattribute__" (.ref e) [.str "__class__" tk] [] _
    (by decide +kernel) (by decide +kernel) inB (PySem.F.args_bexc_ga (.ref e) (.str "__class__" tk)) ?_
  unfold Builtin.«object.__getattribute__»
  refine wpAny_bind (wpAny_of_eq (a := ((Value.ref e : Value), [Value.str "__class__" tk])) (by first | rfl | (simp only [slotArgs]; rfl)) ?_)
  refine wpAny_bind (wpAny_pure (wpAny_bind (lt.at (wpAny_bind (lf.at ?_)))))
  show wpAny _ _ (holding [Value.builtin "object.__class__"] (call (.builtin "getset_descriptor.__get__") [.builtin "object.__class__", .ref e, .ref C]) >>= ret) _ _ _
  refine wpAny_bind (wpAny_holding (wpAny_call (class_get (s := ⟨hp, gn, dr, tk + 1, os⟩) (ox := oe) (od := some od) X I T.km ?_)))
  refine wpAny_pure ?_
  show wpAny _ _ (handedOut (.ref C)) _ _ _
  rw [handedOut_of (v := .ref C) rfl]
  first
    | exact wpAny_pure (wpAny_pure h)
    | exact wpAny_pure h
    | exact wpAny_pure (wpAny_bind (wpAny_pure (wpAny_pure h)))
/-- isinstance may be asked of it -/
theorem err_kit (T : ErrC K C) : KitX K (.ref e) (.ref C) (fun h => ∃ o d, InstAt h e o C (some d)) where
  ty := fun _ _ _ ⟨_, _, I⟩ => I.type
  it := fun _ _ X _ => by
    obtain ⟨cd, hc, _⟩ := any_some T.xf.hdC
    unfold clsIn at hc
    split at hc
    · rename_i ho
      intro _ _ _ _ k q
      unfold isType loadHead
      exact wpAny_bind (wpAny_loadPart (k _ _ (X _ _ ho)) (wpAny_pure q))
    · cases hc
  ne := fun h tp dd its n sl X htp => by
    obtain ⟨cd, hc, _⟩ := any_some T.xf.hdC
    refine Bool.eq_false_iff.mpr fun q => ?_
    have z : C = tp := Value.ref.inj (beq_iff_eq.mp q)
    subst z
    unfold clsIn at hc
    split at hc
    · rename_i ho
      have y := (X _ _ ho).symm.trans htp
      cases y
    · cases hc
  ca := fun X ⟨_, _, I⟩ k => err_class T X I k

/-- the method of an error, found in its class -/
theorem err_meth {name : Str} {pl : Sem Bool} {Q : Value × List Value → Shared → Prop} (T : ErrC K C) (X : K.In s.heap) (I : InstAt s.heap e oe C (some od))
    (hf : findIn K (.ref C) name = some (some (.ref f))) (ht : isFn K (.ref f) = true) (hs : shadowIn (some od) name = some false) (h : Q (.ref f, [.ref e]) s) :
    wpAny (model prog w) A (getMethod (.ref e) name pl) Q E s := by
  have cn : Manifest.canonical "BaseException.__getattribute__" = "object.__getattribute__" := by first | kernel_rfl | decide +kernel
  obtain ⟨r, ra, rb⟩ := Option.map_eq_some_iff.mp hs
  have dd := I.dict
  unfold getMethod specialOf
  refine wpAny_bind (wpAny_bind (I.type.here ((looks_findIn X T.xf.ga).here ?_)))
  dsimp only
  rw [cn, if_neg (by decide)]
  refine wpAny_bind (wpAny_bind (I.type.here ((looks_findIn X T.xf.gg).here ?_)))
  refine wpAny_bind (wpAny_bind (I.type.here ((looks_findIn X hf).here (wpAny_bind ((looks_typeIn X (beq_iff_eq.mp ht)).here ?_)))))
  rw [if_neg (by decide +kernel)]
  refine wpAny_bind (wpAny_loadPart I.at_ ?_)
  cases q : oe.dict with
  | none => exact wpAny_bind (wpAny_rule (wpAny_pure h))
  | some dx =>
    rw [q] at dd
    refine wpAny_bind (wpAny_bind (wpAny_loadPart dd ?_))
    rw [nsLook_of ra]
    refine wpAny_pure ?_
    rw [rb]
    exact wpAny_bind (wpAny_rule (wpAny_pure h))
end

section
variable {X : Cx} {pins : List (Addr × Obj)} {σ : St} {H : Hp} {s : Shared} {C a d : Addr} {fs : List (Str × V)}
/-- an error as the heap holds it -/
theorem err_at (I : Inv X pins σ H s) (ha : H a = some (exo a C (some d))) (hd : H d = some (exd d fs)) :
    ∃ o od mA, InstAt s.heap a o C (some od) ∧ s.heap.Ns1 d mA ∧ (∀ f, RelO (fs.lookup f) (mA f)) ∧ s.heap.get? d = some od ∧ ∀ f, lookIn f od = some (mA f) := by
  obtain ⟨t1, ho⟩ := exo_at I.hok ha
  obtain ⟨mA, hn, r⟩ := exd_at I.hok hd
  obtain ⟨od, hod, hl⟩ := lookIn_ns hn
  exact ⟨_, od, mA, ⟨ho, rfl, rfl, hod⟩, hn, r, hod, hl⟩
/-- e.f of an error -/
def tEf (K : Frag) (f : Str) (te : TE) : TE := fun σ H Q => te σ H fun x H1 => ∃ (a C d : Addr) (fs : List (Str × V)) (v : V), x = .ref a ∧ ErrC K C ∧ findIn K (.ref C) f = some none ∧
  H1 a = some (exo a C (some d)) ∧ H1 d = some (exd d fs) ∧ fs.lookup f = some v ∧ Q v H1
theorem pe_ef {e : Expr} {te : TE} {pos : Pos} {n : Str} (he : PE X e te) (hb : attributeBase e n X.env (eval e X.env) = eval e X.env := by rfl) :
    PE X (.Attribute e n pos) (tEf X.K n te) := by
  refine ⟨fun pins s σ H Q I h => ?_⟩
  refine attr_of hb (thn (he.run pins s σ H _ I h) fun u s1 hh => ?_)
  obtain ⟨x, H1, I1, rx, a, C, d, fs, v, ex, T, hno, ha, hd, l, q⟩ := hh
  subst ex
  obtain rfl : u = Value.ref a := rx
  obtain ⟨o, od, mA, J, hn, r, hod, hl⟩ := err_at I1 ha hd
  obtain ⟨u, hu, ru⟩ := RelO.some_of (v := v) (o := mA n) (by rw [← l]; exact r n)
  exact HandSPX.exc_get I1.kIn J T.xf.ga T.xf.gg T.xf.exC (findObj_own T.xf.hdC hno rfl (by rw [hl, hu])) (handed_of ru) ⟨v, H1, I1.tok _, ru, q⟩
/-- what a def promises, met when it is called: which def it is shows in the heap -/
def Does (X : Cx) (CX : CXT) (f : Addr) (vs : List V) (H : Hp) (Q : VK) (E : XK) : Prop :=
  ∃ (k : Nat) (fd : FuncData) (ps : List Str) (sp : Sp), keepIn X.K (.ref f) = true ∧ FnOk X.prog X.w X.K X.mg X.base CX k f fd ps sp ∧ Room k X.A ∧ Binds X.K fd ps [] ∧ sp vs H Q E
/-- e.m() of an error -/
def tEm0 (X : Cx) (CX : CXT) (m : Str) (E : XK) (te : TE) : TE := fun σ H Q => te σ H fun x H1 => ∃ (a C d f : Addr) (fs : List (Str × V)), x = .ref a ∧ ErrC X.K C ∧
  H1 a = some (exo a C (some d)) ∧ H1 d = some (exd d fs) ∧ fs.lookup m = none ∧ findIn X.K (.ref C) m = some (some (.ref f)) ∧ isFn X.K (.ref f) = true ∧ Does X CX f [.ref a] H1 Q E
theorem pe_em0 {CX : CXT} {E : XK} {o : Expr} {m : Str} {ta : TE} {apos pos : Pos} {pl : Sem Bool} (he : PE X o ta) (hx : Passes CX X E)
    (ht : eval (.Call (.Attribute o m apos) [] [] pos) X.env = (do
      let ov ← eval o X.env
      standAt apos.atName
      let (f, first) ← holding [ov] (getMethod ov m pl)
      callWith pos f first (backTo pos (starEach [] X.env)) (backToKw pos (keywordEach [] X.env))) := by rfl) :
    PE X (.Call (.Attribute o m apos) [] [] pos) (tEm0 X CX m E ta) := by
  refine ⟨fun pins s σ H Q I h => ?_⟩
  refine methodCall_KW (pl := pl) (thn (he.run pins s σ H _ I h) fun u s1 hh => ?_) ht
  obtain ⟨x, H1, I1, rx, a, C, d, f, fs, ex, T, ha, hd, l, hf, hfn, k, fd, ps, sp, kp, F, hr, hb, q⟩ := hh
  subst ex
  obtain rfl : u = Value.ref a := rx
  obtain ⟨o, od, mA, J, hn, r, hod, hl⟩ := err_at I1 ha hd
  have hno : mA m = none := RelO.none_of (by rw [← l]; exact r m)
  refine err_meth T I1.kIn J hf hfn (by show (lookIn m od).map _ = _; rw [hl, hno]; rfl) ?_
  exact callWith_K0 (first := [.ref a]) I1.kIn kp (run_fn (us := [.ref a]) (vs := [.ref a]) F hr hb .nil hx I1 (.cons rfl .nil) q)
/-- C(e, ..), an own error made and kept -/
def tMkE (C : Addr) (sp : Sp) (ta : TA) : TE := fun σ H Q => ta σ H fun vs H1 => vs.length ≤ 1000 ∧ ∀ a, H1 a = none → sp (.ref a :: vs) (upd H1 a (exo a C none)) (fun v H2 => v = .non ∧ Q (.ref a) H2) (fun _ _ _ => False)
theorem run_mkE {CX : CXT} {fI : Addr} {k : Nat} {fd : FuncData} {ps : List Str} {sp : Sp} {us : List Value} {vs : List V} {Q : VK} (T : OexC X.K C) (iC : findIn X.K (.ref C) "__init__" = some (some (.ref fI))) (tI : typeIn X.K (.ref fI) = some (.type "function"))
    (F1 : FnOk X.prog X.w X.K X.mg X.base CX k fI fd ps sp) (hr : Room (k + 1) X.A) (hb : Binds X.K fd ps []) (hx : Passes CX X (fun _ _ _ => False)) (I1 : Inv X pins σ H s) (r1 : Vals vs us) (hz : vs.length ≤ 1000)
    (q1 : ∀ a, H a = none → sp (.ref a :: vs) (upd H a (exo a C none)) (fun v H2 => v = .non ∧ Q (.ref a) H2) (fun _ _ _ => False)) :
    wpAny (model X.prog X.w) X.A (call (.ref C) us) (EP X pins σ Q) X.xe s := by
  obtain ⟨nm, q, N, bs, bm, sn, sub, ab, col, dd, k0, k1, k2, k3, k5, hC, hbm⟩ := T.cls
  obtain ⟨hp, g, dr, tk, os⟩ := s
  have sz : hp.objs.size ≤ hp.objs.size + 1 := Nat.le_succ _
  have fresh : H (hp.objs.size + 1) = none := I1.hok.fresh sz
  have pr := q1 (hp.objs.size + 1) fresh
  have keep : ∀ b o, hp.get? b = some o → ((hp.push (kdv_tup us)).push (HandSPX.excO C hp.objs.size)).get? b = some o := fun b o e => Heap.get?_push_of_some _ (Heap.get?_push_of_some _ e)
  have there : ((hp.push (kdv_tup us)).push (HandSPX.excO C hp.objs.size)).get? (hp.objs.size + 1) = some (HandSPX.excO C hp.objs.size) := by heap_get
  have I2 : Inv X pins σ (upd H (hp.objs.size + 1) (exo (hp.objs.size + 1) C none)) ⟨(hp.push (kdv_tup us)).push (HandSPX.excO C hp.objs.size), g, dr, tk, os⟩ :=
    I1.laid (t' := tk) (a := hp.objs.size + 1) (o := exo (hp.objs.size + 1) C none) (h' := (hp.push (kdv_tup us)).push (HandSPX.excO C hp.objs.size)) keep sz (exo_ok there)
  have r2 : Vals (V.ref (hp.objs.size + 1) :: vs) (Value.ref (hp.objs.size + 1) :: us) := .cons rfl r1
  have hl : (Value.ref (hp.objs.size + 1) :: us ++ []).length = ps.length := by
    rw [List.append_nil, ← r2.length]
    exact F1.len _ _ _ _ pr
  have hus : us.length ≤ sizeLine := by
    rw [← Paired.length r1, sizeLine_eq]
    omega
  have hb' := hb ⟨(hp.push (kdv_tup us)).push (HandSPX.excO C hp.objs.size), g, dr, tk, os⟩ (Value.ref (hp.objs.size + 1) :: us) I2.kIn hl
  rw [List.append_nil] at hb'
  refine wpAny_call (HandSPX.call_own F.excBase_ValueError (fun Y => HandSPX.refsVE_contains Y bm hbm) (I1.kIn _ _ hC) (looks_findIn I1.kIn iC) (fun self => bind_fn I1.kIn self tI) hus
    (codeAny_mono (F1.run _ X.stack _ _ ⟨Value.ref (hp.objs.size + 1) :: us, []⟩ (Value.ref (hp.objs.size + 1) :: us) _ _ (fun _ _ _ => False) (hr.make C us []) (I2.env0.make C us []) hb' r2 pr) fun r s' hq' => ?_))
  cases r with
  | error er => exact hx pins σ _ _ er s' I2 hq'
  | ok fl =>
    cases fl with
    | ret u =>
      obtain ⟨v, H2, I3, rv, ev, q3⟩ := I2.after hq'
      subst ev
      -- nothing was tracked at the new place
      exact ⟨rv, ⟨V.ref (hp.objs.size + 1), H2, I3, rfl, q3⟩⟩
    | next => exact False.elim hq'
    | brk => exact False.elim hq'
    | cont => exact False.elim hq'
theorem pe_mkE {CX : CXT} {x : Str} {fI : Addr} {k : Nat} {fd : FuncData} {ps : List Str} {sp : Sp} {e : Expr} {es : List Expr} {ta : TA} {p pos : Pos} (T : OexC X.K C) (iC : findIn X.K (.ref C) "__init__" = some (some (.ref fI))) (tI : typeIn X.K (.ref fI) = some (.type "function"))
    (F1 : FnOk X.prog X.w X.K X.mg X.base CX k fI fd ps sp) (hr : Room (k + 1) X.A) (hb : Binds X.K fd ps []) (hx : Passes CX X (fun _ _ _ => False)) (hg : Gl X x) (hm : X.mg x = some (.ref C)) (ha : PA X (e :: es) ta)
    (hdb : (x == ("__debug__" : Str)) = false := by decide) (he : starEach (e :: es) X.env = (false, eval e X.env) :: starEach es X.env := by rfl) (hpl : (backTo pos (starEach es X.env)).any (·.1) = false := by rfl) :
    PE X (.Call (.Name x p) (e :: es) [] pos) (tMkE C sp ta) := by
  refine ⟨fun pins s σ H Q I h => ?_⟩
  refine wpAny_Call_Name_kw (ld_glob I hg hm ?_ hdb)
  refine callWith_K (h₀ := X.base) I.ok.mod.kin T.kC (thn (ha.run pos pins s σ H _ I h) fun us s1 ⟨vs, H1, I1, r1, hz, q1⟩ => ⟨I1.kIn, ?_⟩) he hpl
  exact run_mkE T iC tI F1 hr hb hx I1 r1 hz q1
/-- a value's type, an error's too -/
inductive TyE (K : Frag) (H : Hp) : V → Value → Prop where
  | x {x : V} {t : Value} (h : TyX K H x t) : TyE K H x t
  | err {a C d : Addr} {fs : List (Str × V)} (T : ErrC K C) (ha : H a = some (exo a C (some d))) (hd : H d = some (exd d fs)) : TyE K H (.ref a) (.ref C)
theorem kit_ofE {x : V} {u t : Value} (I : Inv X pins σ H s) (rx : RelV x u) (ty : TyE X.K H x t) : ∃ P : Heap → Prop, KitX X.K u t P ∧ P s.heap ∧ u ≠ .builtin "__main__.__loader__#opaque" := by
  cases ty with
  | x h => exact kit_of I rx h
  | err T ha hd =>
    cases (show u = Value.ref _ from rx)
    obtain ⟨o, od, mA, J, _⟩ := err_at I ha hd
    exact ⟨_, err_kit T, ⟨o, od, J⟩, fun z => nomatch z⟩
def rIe (K : Frag) : List V → Hp → VK → Prop := fun xs H Q => ∃ (x c : V) (t u : Value) (b : Bool), xs = [x, c] ∧ ClsV c u ∧ TyE K H x t ∧ kitOne K t u = some b ∧ Q (.bl b) H
def rIeT (K : Frag) : List V → Hp → VK → Prop := fun xs H Q => ∃ (x : V) (tp : Addr) (cs : List V) (t : Value) (us : List Value) (b : Bool), xs = [x, .ref tp] ∧ H tp = some (.tup cs) ∧ Paired ClsV cs us ∧ TyE K H x t ∧ kitAny K t us = some b ∧ Q (.bl b) H
theorem call_ie : CallR X (.builtin "isinstance") (rIe X.K) := by
  intro pins s σ H xs us Q I r h
  obtain ⟨x, c, t, u, b, rfl, k, ty, e, q⟩ := h
  obtain ⟨u1, u2, rfl, r1, r2⟩ := vals2 r
  obtain rfl := k.eq r2
  obtain ⟨P, Z, p, hx⟩ := kit_ofE I r1 ty
  exact kia_one Z I.kIn p e hx fun tk => ⟨.bl b, H, I.tok tk, rfl, q⟩
theorem call_ieT : CallR X (.builtin "isinstance") (rIeT X.K) := by
  intro pins s σ H xs us Q I r h
  obtain ⟨x, tp, cs, t, ws, b, rfl, hT, k, ty, e, q⟩ := h
  obtain ⟨u1, u2, rfl, r1, r2⟩ := vals2 r
  cases (show u2 = Value.ref tp from r2)
  obtain ⟨P, Z, p, hx⟩ := kit_ofE I r1 ty
  obtain ⟨_, its, rv, o, h1, h2, n, h3⟩ := (show ObjOk X.prog X.w H s.heap tp (.tup cs) from I.hok tp _ hT)
  obtain rfl := ClsV.all k rv
  obtain ⟨oc, od, dt, sl⟩ := o
  dsimp only at h2 h3
  subst h2 h3
  exact kia_tup Z I.kIn p h1 e hx fun tk => ⟨.bl b, H, I.tok tk, rfl, q⟩
end
end L2.Jk

set_option Elab.async false
set_option linter.all false
set_option maxRecDepth 100000
set_option maxHeartbeats 4000000
/-! Defs and error classes as the head tells them; calls of them. -/
namespace L2.Jk
open PySem PySem.W PySem.Spec PySem.Calls PyProof.Rows

/-! ### what the head says of an error class, by one Bool -/
def oexB (K : Frag) (C : Addr) : Bool := (match K.lookup C with
  | some ⟨.type "type", _, .cls cd, sl⟩ => (match cd.mro, sl.toList with
    | .ref D :: bm, [_, _, _, _, some (.builtin n), _] => decide (D = C) && (decide (n = "ValueError.__new__") && (HandSPX.refsVE bm && (cd.hasDict && !cd.hasDel)))
    | _, _ => false)
  | _ => false) && (He.eqO (findIn K (.ref C) "__setattr__") (some (some (.builtin "object.__setattr__"))) && (decide (subIn K (.ref C) (.type "BaseException") = some true) &&
    (decide (typeIn K (.ref C) = some (.type "type")) && keepIn K (.ref C))))
theorem oexB_ok {K : Frag} {C : Addr} (h : oexB K C = true) : OexC K C := by
  obtain ⟨h1, h⟩ := Bool.and_eq_true_iff.mp h
  obtain ⟨h2, h⟩ := Bool.and_eq_true_iff.mp h
  obtain ⟨h3, h⟩ := Bool.and_eq_true_iff.mp h
  obtain ⟨h4, h5⟩ := Bool.and_eq_true_iff.mp h
  refine ⟨?_, He.eqO_ok h2, of_decide_eq_true h3, of_decide_eq_true h4, h5⟩
  split at h1
  · rename_i dd cd sl ho
    split at h1
    · rename_i D bm k0 k1 k2 k3 n k5 hm hs
      obtain ⟨a1, h1⟩ := Bool.and_eq_true_iff.mp h1
      obtain ⟨a2, h1⟩ := Bool.and_eq_true_iff.mp h1
      obtain ⟨a3, h1⟩ := Bool.and_eq_true_iff.mp h1
      obtain ⟨a4, a5⟩ := Bool.and_eq_true_iff.mp h1
      obtain rfl := of_decide_eq_true a1
      obtain rfl := of_decide_eq_true a2
      obtain ⟨nm, bs, mro, ns, qn, hd, sn, sub, ab, col, del⟩ := cd
      dsimp only at hm a4 a5
      subst hm
      subst a4
      obtain rfl : del = false := by cases del <;> first | rfl | cases a5
      have e : sl = #[k0, k1, k2, k3, some (.builtin "ValueError.__new__"), k5] := by
        obtain ⟨l⟩ := sl
        dsimp only at hs
        rw [hs]
      subst e
      exact ⟨nm, qn, ns, bs, bm, sn, sub, ab, col, dd, k0, k1, k2, k3, k5, ho, a3⟩
    · cases h1
  · cases h1
def errB (K : Frag) (C : Addr) (fs ms : List Str) : Bool := oexB K C && (xfB K C && (He.eqO (findIn K (.ref C) "__class__") (some (some (.builtin "object.__class__"))) &&
  (He.eqO (specialIn K (.builtin "object.__class__") "__get__") (some (some (.builtin "getset_descriptor.__get__"))) && (decide (takesIn K (.builtin "object.__class__") = some true) && (decide (mroIn K C (.type "object") = some true) &&
  ((fs.all fun f => He.eqO (findIn K (.ref C) f) (some none)) && ((ms.all fun m => He.eqO (findIn K (.ref C) m) (some (some (.ref (He.ma K C m)))) && isFn K (.ref (He.ma K C m))))))))))
structure ErrX (K : Frag) (C : Addr) (fs ms : List Str) : Prop where
  ec : ErrC K C
  no : ∀ f ∈ fs, findIn K (.ref C) f = some none
  me : ∀ m ∈ ms, findIn K (.ref C) m = some (some (.ref (He.ma K C m))) ∧ isFn K (.ref (He.ma K C m)) = true
theorem errB_ok {K : Frag} {C : Addr} {fs ms : List Str} (h : errB K C fs ms = true) : ErrX K C fs ms := by
  obtain ⟨h1, h⟩ := Bool.and_eq_true_iff.mp h
  obtain ⟨h2, h⟩ := Bool.and_eq_true_iff.mp h
  obtain ⟨h3, h⟩ := Bool.and_eq_true_iff.mp h
  obtain ⟨h4, h⟩ := Bool.and_eq_true_iff.mp h
  obtain ⟨h5, h⟩ := Bool.and_eq_true_iff.mp h
  obtain ⟨h6, h⟩ := Bool.and_eq_true_iff.mp h
  obtain ⟨h7, h8⟩ := Bool.and_eq_true_iff.mp h
  refine ⟨⟨oexB_ok h1, xfB_ok h2, He.eqO_ok h3, He.eqO_ok h4, of_decide_eq_true h5, of_decide_eq_true h6⟩, fun f hf => He.eqO_ok (List.all_eq_true.mp h7 f hf), fun m hm => ?_⟩
  obtain ⟨a, b⟩ := Bool.and_eq_true_iff.mp (List.all_eq_true.mp h8 m hm)
  exact ⟨He.eqO_ok a, b⟩

/-! ### a def of the module, called by its name -/
structure FnAt (P : Program) (w : World) (K : Frag) (mg : Str → Option Value) (base : Heap) (CX : CXT) (k : Nat) (x : Str) (ps : List Str) (sp : Sp) : Prop where
  ex : ∃ (f : Addr) (fd : FuncData), mg x = some (.ref f) ∧ keepIn K (.ref f) = true ∧ FnOk P w K mg base CX k f fd ps sp ∧ Binds K fd ps []
section
variable {X : Cx} {CX : CXT} {k : Nat} {x : Str} {ps : List Str} {sp : Sp} {E : XK} {e : Expr} {es : List Expr} {t : TA} {p pos : Pos}
theorem pe_fn (G : FnAt X.prog X.w X.K X.mg X.base CX k x ps sp) (hr : Room k X.A) (hx : Passes CX X E) (hg : Gl X x) (ha : PA X (e :: es) t)
    (hdb : (x == ("__debug__" : Str)) = false := by decide) (he : starEach (e :: es) X.env = (false, eval e X.env) :: starEach es X.env := by rfl) (hpl : (backTo pos (starEach es X.env)).any (·.1) = false := by rfl) :
    PE X (.Call (.Name x p) (e :: es) [] pos) (tCall sp [] E t) := by
  obtain ⟨f, fd, hm, kp, F, hb⟩ := G.ex
  exact pe_call F hr hg hm kp hb .nil hx ha hdb he hpl
end
/-! ### an error class, its instances as values -/
/-- at a: an error of the class at C, its dict at d holds fs -/
def mkE (H : Hp) (a C d : Addr) (fs : List (Str × V)) : Hp := upd (upd H d (exd d fs)) a (exo a C (some d))
/-- __init__(self, f): self.f = f -/
def spI1 (C : Addr) (f : Str) : Sp := fun vs H Q _ => ∃ (a : Addr) (v : V), vs = [.ref a, v] ∧ H a = some (exo a C none) ∧ ∀ d, H d = none → d ≠ a → Q .non (mkE H a C d [(f, v)])
def spI2 (C : Addr) (f g : Str) : Sp := fun vs H Q _ => ∃ (a : Addr) (v u : V), vs = [.ref a, v, u] ∧ H a = some (exo a C none) ∧ ∀ d, H d = none → d ≠ a → Q .non (mkE H a C d [(g, u), (f, v)])
def spS (z : Str) : Sp := fun vs H Q _ => ∃ v, vs = [v] ∧ Q (.str z) H
theorem mkE_new {H : Hp} {a C d : Addr} {fs : List (Str × V)} (ne : d ≠ a) : mkE (upd H a (exo a C none)) a C d fs = mkE H a C d fs := by
  funext b
  unfold mkE
  by_cases h : b = a
  · rw [h, upd_same, upd_same]
  · rw [upd_ne h, upd_ne h]
    by_cases h2 : b = d
    · rw [h2, upd_same, upd_same]
    · rw [upd_ne h2, upd_ne h2, upd_ne h]
/-- an error as a value -/
def ErrV (H : Hp) (v : V) (C : Addr) (fs : List (Str × V)) : Prop := ∃ a d, v = .ref a ∧ H a = some (exo a C (some d)) ∧ H d = some (exd d fs)
theorem ErrV.same {H H' : Hp} {v : V} {C : Addr} {fs : List (Str × V)} (h : ErrV H v C fs) (s : Same H H') : ErrV H' v C fs := by
  obtain ⟨a, d, e, h1, h2⟩ := h
  exact ⟨a, d, e, s _ _ h1, s _ _ h2⟩
theorem mkE_same {H : Hp} {a C d : Addr} {fs : List (Str × V)} (ha : H a = none) (hd : H d = none) : Same H (mkE H a C d fs) := fun b o e => by
  unfold mkE
  rw [upd_ne (ne_of_none e ha), upd_ne (ne_of_none e hd)]
  exact e
theorem mkE_err {H : Hp} {a C d : Addr} {fs : List (Str × V)} (ne : d ≠ a) : ErrV (mkE H a C d fs) (.ref a) C fs :=
  ⟨a, d, rfl, upd_same, by unfold mkE; rw [upd_ne ne, upd_same]⟩
def IniOk (P : Program) (w : World) (K : Frag) (mg : Str → Option Value) (base : Heap) (C : Addr) (fs : List Str) (fd : FuncData) : Prop := match fs with
  | [f] => FnOk P w K mg base CX0 1 (He.ma K C "__init__") fd ["self", f] (spI1 C f)
  | [f, g] => FnOk P w K mg base CX0 1 (He.ma K C "__init__") fd ["self", f, g] (spI2 C f g)
  | _ => False
/-- the class x, its __init__ (f or f, g), its told -/
structure ErrAt (P : Program) (w : World) (K : Frag) (mg : Str → Option Value) (base : Heap) (x : Str) (C : Addr) (fs : List Str) (z : Str) : Prop where
  mgC : mg x = some (.ref C)
  ex : ErrX K C fs ["told"]
  ini : findIn K (.ref C) "__init__" = some (some (.ref (He.ma K C "__init__"))) ∧ typeIn K (.ref (He.ma K C "__init__")) = some (.type "function")
  iok : ∃ fd, Binds K fd ("self" :: fs) [] ∧ IniOk P w K mg base C fs fd
  tok : ∃ fd, Binds K fd ["self"] [] ∧ keepIn K (.ref (He.ma K C "told")) = true ∧ FnOk P w K mg base CX0 1 (He.ma K C "told") fd ["self"] (spS z)
/-- the fields of an error that is made, as its dict holds them -/
def fldE : List Str → List V → List (Str × V)
  | [f], [v] => [(f, v)]
  | [f, g], [v, u] => [(g, u), (f, v)]
  | _, _ => []
def tErr (C : Addr) (fs : List Str) (ta : TA) : TE := fun σ H Q => ta σ H fun vs H1 => vs.length = fs.length ∧ ∀ v H2, Same H1 H2 → ErrV H2 v C (fldE fs vs) → Q v H2
section
variable {X : Cx} {x z : Str} {C : Addr} {fs : List Str} {e : Expr} {es : List Expr} {ta : TA} {p pos : Pos}
theorem pe_err (T : ErrAt X.prog X.w X.K X.mg X.base x C fs z) (hr : Room 2 X.A) (hx : Passes CX0 X (fun _ _ _ => False)) (hg : Gl X x) (ha : PA X (e :: es) ta)
    (hdb : (x == ("__debug__" : Str)) = false := by decide) (he : starEach (e :: es) X.env = (false, eval e X.env) :: starEach es X.env := by rfl) (hpl : (backTo pos (starEach es X.env)).any (·.1) = false := by rfl) :
    PE X (.Call (.Name x p) (e :: es) [] pos) (tErr C fs ta) := by
  obtain ⟨fd, hb, iok⟩ := T.iok
  refine ⟨fun pins s σ H Q I h => ?_⟩
  refine wpAny_Call_Name_kw (ld_glob I hg T.mgC ?_ hdb)
  refine callWith_K (h₀ := X.base) I.ok.mod.kin T.ex.ec.ox.kC (thn (ha.run pos pins s σ H _ I h) fun us s1 ⟨vs, H1, I1, r1, hz, q1⟩ => ⟨I1.kIn, ?_⟩) he hpl
  have ox := T.ex.ec.ox
  have i1 := T.ini.1
  have i2 := T.ini.2
  clear T
  match fs, vs, iok, hz, hb, q1 with
  | [f], [v], iok, _, hb, q1 =>
    exact run_mkE ox i1 i2 iok hr hb hx I1 r1 (by show 1 ≤ 1000; decide) fun a ha1 => ⟨a, v, rfl, upd_same, fun d hd ne => ⟨rfl, by
      rw [upd_ne ne] at hd
      rw [mkE_new ne]
      exact q1 _ _ (mkE_same ha1 hd) (mkE_err ne)⟩⟩
  | [f, g], [v, u], iok, _, hb, q1 =>
    exact run_mkE ox i1 i2 iok hr hb hx I1 r1 (by show 2 ≤ 1000; decide) fun a ha1 => ⟨a, v, u, rfl, upd_same, fun d hd ne => ⟨rfl, by
      rw [upd_ne ne] at hd
      rw [mkE_new ne]
      exact q1 _ _ (mkE_same ha1 hd) (mkE_err ne)⟩⟩
end

/-! ### the bodies of such a class's methods -/
section
variable {P : Program} {w : World} {K : Frag} {mg : Str → Option Value} {base : Heap} {x qual f g z : Str} {pa : Arguments} {sc : Scope} {dvs : List V} {kws : List (Str × V)} {fA : Addr} {fd : FuncData} {C : Addr} {p1 p2 p3 p4 q1 q2 q3 q4 : Pos} {j : Nat}
theorem ok_told {kk} (F : FunD K x qual pa [.Return (some (.Constant (.str z) kk p1)) p2] sc dvs kws fA fd) (S : FnScope ["self"] ["self"] sc) : FnOk P w K mg base CX0 1 fA fd ["self"] (spS z) := by
  refine F.ok S (fun vs H Q E h => ?_) (fun cdv A outer s H vs Q E hr h => ⟨_, PSs.nox (pss_one (ps_ret pe_str)), ?_⟩)
  · obtain ⟨v, rfl, _⟩ := h
    rfl
  · obtain ⟨v, rfl, q⟩ := h
    exact q
theorem ok_init1 (F : FunD K x qual pa [.Assign [.Attribute (.Name "self" p1) f p2] (.Name f p3) p4] sc dvs kws fA fd) (S : FnScope ["self", f] ["self", f] sc) (T : ErrX K C [f] ["told"])
    (ls : sc.names.lookup ("self" : Str) = some NameKind.local) (lf : sc.names.lookup f = some NameKind.local) (d1 : (f == ("__debug__" : Str)) = false) (d2 : (f == ("__classdict__" : Str)) = false) : FnOk P w K mg base CX0 1 fA fd ["self", f] (spI1 C f) := by
  refine F.ok S (fun vs H Q E h => ?_) (fun cdv A outer s H vs Q E hr h => ⟨_, PSs.nox (pss_one (ps_ost (pe_var (i := 0) rfl (.inl ls)) (pe_var (i := 1) rfl (.inl lf) d1 d2))), ?_⟩)
  · obtain ⟨a, v, rfl, _⟩ := h
    rfl
  · obtain ⟨a, v, rfl, ha, q⟩ := h
    exact ⟨_, rfl, _, rfl, a, C, rfl, T.ec.ox, T.no f (List.mem_singleton_self _), .inl ⟨ha, q⟩⟩
theorem ok_init2 (F : FunD K x qual pa [.Assign [.Attribute (.Name "self" p1) f p2] (.Name f p3) p4, .Assign [.Attribute (.Name "self" q1) g q2] (.Name g q3) q4] sc dvs kws fA fd) (S : FnScope ["self", f, g] ["self", f, g] sc) (T : ErrX K C [f, g] ["told"])
    (ls : sc.names.lookup ("self" : Str) = some NameKind.local) (lf : sc.names.lookup f = some NameKind.local) (d1 : (f == ("__debug__" : Str)) = false) (d2 : (f == ("__classdict__" : Str)) = false)
    (lg : sc.names.lookup g = some NameKind.local) (d3 : (g == ("__debug__" : Str)) = false) (d4 : (g == ("__classdict__" : Str)) = false) : FnOk P w K mg base CX0 1 fA fd ["self", f, g] (spI2 C f g) := by
  refine F.ok S (fun vs H Q E h => ?_) (fun cdv A outer s H vs Q E hr h => ⟨_, PSs.nox (pss_cons (ps_ost (pe_var (i := 0) rfl (.inl ls)) (pe_var (i := 1) rfl (.inl lf) d1 d2))
    (pss_one (ps_ost (pe_var (i := 0) rfl (.inl ls)) (pe_var (i := 2) rfl (.inl lg) d3 d4)))), ?_⟩)
  · obtain ⟨a, v, u, rfl, _⟩ := h
    rfl
  · obtain ⟨a, v, u, rfl, ha, q⟩ := h
    refine ⟨_, rfl, _, rfl, a, C, rfl, T.ec.ox, T.no f (List.mem_cons_self ..), .inl ⟨ha, fun d hd ne => ?_⟩⟩
    refine ⟨_, rfl, _, rfl, a, C, rfl, T.ec.ox, T.no g (List.mem_cons_of_mem _ (List.mem_singleton_self _)), .inr ⟨d, _, upd_same, by rw [upd_ne ne, upd_same], by show 1 ≤ 900; decide, ?_⟩⟩
    have z := q d hd ne
    have e : mkE H a C d [(g, u), (f, v)] = upd (upd (upd H d (exd d [(f, v)])) a (exo a C (some d))) d (exd d [(g, u), (f, v)]) := by
      funext b
      unfold mkE
      by_cases h1 : b = a
      · rw [h1, upd_same, upd_ne (Ne.symm ne), upd_same]
      · by_cases h2 : b = d
        · rw [h2, upd_ne ne, upd_same, upd_same]
        · rw [upd_ne h1, upd_ne h2, upd_ne h2, upd_ne h1, upd_ne h2]
    rw [e] at z
    exact z
end
end L2.Jk

set_option Elab.async false
set_option linter.all false
set_option maxRecDepth 100000
set_option maxHeartbeats 4000000
/-! A few operations over lists that may be read only; displays whose heap behind is not told but for what is new. -/
namespace L2.Jk
open PySem PySem.W PySem.Spec PySem.Calls PyProof.Rows

section
variable {X : Cx}
/-- xs + ys, whatever lists they are -/
def rCatS (K : Frag) : R2 := fun x y H Q => ∃ l b xs zs, x = .ref l ∧ y = .ref b ∧ SqL K H l xs ∧ SqL K H b zs ∧ xs.length + zs.length ≤ sizeLine ∧ ∀ p H', H p = none → Same H H' → H' p = some (.lst (xs ++ zs)) → Q (.ref p) H'
theorem op_catS : OpR X (binaryOp .Add) (rCatS X.K) := by
  intro pins s σ H x y v u Q I rx ry h
  obtain ⟨l, b, xs, zs, rfl, rfl, hl, hb, hz, q⟩ := h
  cases rx
  cases ry
  obtain ⟨i1, r1, ⟨o1, n1, g1, c1, d1, e1⟩, z1⟩ := I.list hl
  obtain ⟨i2, r2, ⟨o2, n2, g2, c2, d2, e2⟩, z2⟩ := I.list hb
  obtain ⟨k1, f1, t1, s1⟩ := o1
  obtain ⟨k2, f2, t2, s2⟩ := o2
  dsimp only at c1 d1 e1 c2 d2 e2
  subst c1 d1 e1 c2 d2 e2
  have hs : i1.length + i2.length ≤ sizeLine := by rw [← r1.length, ← r2.length]; exact hz
  refine concat_meets ⟨_, g1, rfl⟩ ⟨_, g2, rfl⟩ noFill_list_add seq_list_add PySem.F.slot_list_add PySem.F.entry_list_add (PySem.F.args_list_add_2 _ _)
    (list_addW l b i1.toArray i2.toArray n1 n2 none none s1 s2 (by simpa using hs)) ⟨g1, g2, ?_⟩
  rw [show i1.toArray ++ i2.toArray = (i1 ++ i2).toArray by simp]
  refine ⟨.ref _, _, I.lnew (t' := s.toks) (r1.append r2) (by rw [List.length_append]; exact hz), rfl, q _ _ I.fresh (fun c o z => ?_) upd_same⟩
  rw [upd_ne (ne_of_none z I.fresh)]
  exact z
/-- a display: where it stands is new, all else as before -/
def tLstS (t : TA) : TE := fun σ H Q => t σ H fun xs H1 => xs.length ≤ 1000 ∧ ∀ p H', H1 p = none → Same H1 H' → H' p = some (.lst xs) → Q (.ref p) H'
def tTupS (t : TA) : TE := fun σ H Q => t σ H fun xs H1 => xs.length ≤ 1000 ∧ ∀ p H', H1 p = none → Same H1 H' → H' p = some (.tup xs) → Q (.ref p) H'
theorem same_upd {H : Hp} {p : Addr} {o : HO} (h : H p = none) : Same H (upd H p o) := fun c u z => by
  rw [upd_ne (ne_of_none z h)]
  exact z
theorem pe_lstS {es : List Expr} {t : TA} {pos : Pos} (ha : PA X es t) : PE X (.List es pos) (tLstS t) := by
  constructor
  intro pins s σ H Q I h
  refine wpAny_List_spliced (thn (ha.run pos pins s σ H _ I h) fun us s1 ⟨xs, H1, I1, r, z, q⟩ => ?_)
  have z' := Nat.le_of_lt (small1000 z)
  have n : H1 s1.heap.objs.size = none := I1.fresh
  exact ⟨by rw [← r.length]; exact z', .ref s1.heap.objs.size, _, I1.lnew (t' := s1.toks) r z', rfl, q _ _ n (same_upd n) upd_same⟩
theorem pe_tupS {es : List Expr} {t : TA} {pos : Pos} {k} (ha : PA X es t) : PE X (.Tuple es k pos) (tTupS t) := by
  constructor
  intro pins s σ H Q I h
  refine wpAny_Tuple_spliced (thn (ha.run pos pins s σ H _ I h) fun us s1 ⟨xs, H1, I1, r, z, q⟩ => ?_)
  have z' := Nat.le_of_lt (small1000 z)
  have n : H1 s1.heap.objs.size = none := I1.fresh
  refine ⟨by rw [← r.length]; exact z', .ref s1.heap.objs.size, _, I1.laid (t' := s1.toks) (o := .tup xs) (fun b u e => Heap.get?_push_of_some _ e) (Nat.le_refl _) ?_, rfl, q _ _ n (same_upd n) upd_same⟩
  exact ⟨z', us, r, IsTup.new _ _⟩
/-- xs[lo:hi] of a list -/
def rSlS (K : Frag) : V → Option Int → Option Int → Hp → VK → Prop := fun x lo hi H Q => ∃ a xs, x = .ref a ∧ SqL K H a xs ∧ ∀ p H', H p = none → Same H H' → H' p = some (.lst (cutV xs lo hi)) → Q (.ref p) H'
theorem sl_listS : SlR X (rSlS X.K) := by
  intro pins s σ H x v vl vu lo hi sl Q I rx hs pl pu h
  obtain ⟨a, xs, e, hx, q⟩ := h
  exact sl_list pins s σ H x v vl vu lo hi sl Q I rx hs pl pu ⟨a, xs, e, hx, fun p hp => q p _ hp (same_upd hp) upd_same⟩
end
/-- what may change at one place alone -/
def But (a : Addr) (H H' : Hp) : Prop := ∀ c o, c ≠ a → H c = some o → H' c = some o
theorem But.of_same {a : Addr} {H H' : Hp} (s : Same H H') : But a H H' := fun c o _ h => s c o h
theorem But.refl (a : Addr) (H : Hp) : But a H H := fun _ _ _ h => h
theorem But.trans {a : Addr} {H H1 H2 : Hp} (x : But a H H1) (y : But a H1 H2) : But a H H2 := fun c o n h => y c o n (x c o n h)
theorem but_upd (H : Hp) (a : Addr) (o : HO) : But a H (upd H a o) := fun c u n h => by
  rw [upd_ne n]
  exact h
/-! ### data stays -/
theorem SqT.same {K : Frag} {H H' : Hp} {a : Addr} {xs : List V} (e : Same H H') (h : SqT K H a xs) : SqT K H' a xs := by
  rcases h with (h | ⟨o, h⟩) | h
  · exact .inl (.inl (e _ _ h))
  · exact .inl (.inr ⟨o, e _ _ h⟩)
  · exact .inr h
/-- a class or a def of the module, a built-in type, as a value -/
theorem pe_gref {X : Cx} {x : Str} {a : Addr} {pos : Pos} (hg : Gl X x) (hm : X.mg x = some (.ref a)) (hd : (x == ("__debug__" : Str)) = false := by decide) : PE X (.Name x pos) (tC (.ref a)) := pe_glob (v := .ref a) hg hm rfl hd
theorem pe_bty {X : Cx} {x : Str} {n : String} {pos : Pos} (hg : Gl X x) (hm : X.mg x = none) (hv : bootBuiltins x = some (.type n)) (hn : x ≠ "__name__" := by decide) (hd : (x == ("__debug__" : Str)) = false := by decide) : PE X (.Name x pos) (tC (.ty n)) :=
  pe_bltn (v := .ty n) hg hm hv rfl hn hd
/-! ### a new list that a comprehension fills: fm i is what it holds behind i turns -/
def LcP (H1 : Hp) (D : Addr) (fm : Nat → List V) (i : Nat) (H : Hp) : Prop := Same H1 H ∧ H1 D = none ∧ H D = some (.lst (fm i)) ∧ (fm i).length ≤ i
theorem LcP.start {H1 : Hp} {D : Addr} {fm : Nat → List V} (h : H1 D = none) (e : fm 0 = []) : LcP H1 D fm 0 (upd H1 D (.lst [])) :=
  ⟨same_upd h, h, by rw [upd_same, e], by rw [e]; exact Nat.le_refl _⟩
theorem LcP.put {H1 H H4 : Hp} {D : Addr} {fm : Nat → List V} {i : Nat} {y : V} (p : LcP H1 D fm i H) (s : Same H H4) (e : fm (i + 1) = fm i ++ [y]) (hi : i < 10000) :
    ∃ acc, H4 D = some (.lst acc) ∧ acc.length < sizeLine ∧ LcP H1 D fm (i + 1) (upd H4 D (.lst (acc ++ [y]))) := by
  obtain ⟨s0, n, d, l⟩ := p
  refine ⟨fm i, s _ _ d, ?_, fun c o z => ?_, n, by rw [upd_same, e], by rw [e, List.length_append, List.length_singleton]; omega⟩
  · rw [sizeLine_eq]
    omega
  · rw [upd_ne (ne_of_none z n)]
    exact s _ _ (s0 _ _ z)
theorem LcP.pass {H1 H H4 : Hp} {D : Addr} {fm : Nat → List V} {i : Nat} (p : LcP H1 D fm i H) (s : Same H H4) (e : fm (i + 1) = fm i) : LcP H1 D fm (i + 1) H4 := by
  obtain ⟨s0, n, d, l⟩ := p
  exact ⟨s0.trans s, n, by rw [e]; exact s _ _ d, by rw [e]; omega⟩
/-! ### data that stays where one place alone changes -/
def Per (a : Addr) (K : Frag) (H : Hp) (x : V) (d : PyData) : Prop := ∀ H', But a H H' → Dp K H' x d
theorem Per.but {a : Addr} {K : Frag} {H H1 : Hp} {x : V} {d : PyData} (p : Per a K H x d) (b : But a H H1) : Per a K H1 x d := fun H' b' => p H' (b.trans b')
theorem Per.same {a : Addr} {K : Frag} {H H1 : Hp} {x : V} {d : PyData} (p : Per a K H x d) (s : Same H H1) : Per a K H1 x d := p.but (But.of_same s)
theorem Per.dp {a : Addr} {K : Frag} {H : Hp} {x : V} {d : PyData} (p : Per a K H x d) : Dp K H x d := p H (But.refl a H)
theorem Per.lst {a p : Addr} {K : Frag} {H : Hp} {xs : List V} {ds : List PyData} (ne : p ≠ a) (h : H p = some (.lst xs)) (q : ∀ H', But a H H' → DpAll K H' xs ds) : Per a K H (.ref p) (.list ds) :=
  fun H' b => .lst (SqL.of (b _ _ ne h)) (q H' b)
theorem Per.tup {a p : Addr} {K : Frag} {H : Hp} {xs : List V} {ds : List PyData} (ne : p ≠ a) (h : H p = some (.tup xs)) (q : ∀ H', But a H H' → DpAll K H' xs ds) : Per a K H (.ref p) (.tuple ds) :=
  fun H' b => .tup (SqT.of (b _ _ ne h)) (q H' b)
theorem dp_one {K : Frag} {H : Hp} {p : Addr} {x : V} {d : PyData} (h : H p = some (.lst [x])) (q : Dp K H x d) : Dp K H (.ref p) (.list [d]) := .lst (SqL.of h) (.cons q .nil)
theorem dp_two {K : Frag} {H : Hp} {p : Addr} {x y : V} {d e : PyData} (h : H p = some (.lst [x, y])) (q : Dp K H x d) (r : Dp K H y e) : Dp K H (.ref p) (.list [d, e]) := .lst (SqL.of h) (.cons q (.cons r .nil))
theorem eqv_same {d : PyData} (h : SeqAt.shaped d = true) : PyData.eqv d d = true := SeqAt.eqv_refl d (SeqAt.canLay_of_shaped h)
theorem ne_new {H : Hp} {a b : Addr} {o : HO} (h : H a = some o) (n : H b = none) : b ≠ a := Ne.symm (ne_of_none h n)
end L2.Jk

set_option Elab.async false
set_option linter.all false
set_option maxRecDepth 100000
set_option maxHeartbeats 4000000
/-! == and != of instances by the text's own __eq__, whatever it answers. -/
namespace L2.Jk
open PySem PySem.W PySem.Spec PySem.Calls PyProof.Rows

/-! ### what the head says of a class with an own __eq__ and no __ne__, by one Bool -/
def eqcB (K : Frag) (C : Addr) : Bool := He.eqO (findIn K (.ref C) "__eq__") (some (some (.ref (He.ma K C "__eq__")))) && (isFn K (.ref (He.ma K C "__eq__")) && (match K.lookup C with
  | some ⟨.type "type", _, .cls cd, sl⟩ => (match cd.mro, sl.toList with
    | .ref D :: bm, [_, _, _, _, some (.builtin _), _] => decide (D = C) && (decide (bm = [.type "object"]) && (!cd.hasDel && (nsOkIn K cd.ns && (decide (nsIn K cd.ns "__eq__" = some (some (.ref (He.ma K C "__eq__")))) && decide (nsIn K cd.ns "__ne__" = some none)))))
    | _, _ => false)
  | _ => false))
structure EqcC (K : Frag) (C : Addr) : Prop where
  find : findIn K (.ref C) "__eq__" = some (some (.ref (He.ma K C "__eq__")))
  fn : isFn K (.ref (He.ma K C "__eq__")) = true
  cls : ∃ nm q N bs hdct sn sub ab col dd k0 k1 k2 k3 k5 nid, K.lookup C = some (excClassObj nm q C N bs [.type "object"] hdct sn sub ab col dd k0 k1 k2 k3 k5 nid) ∧ nsOkIn K N = true ∧
    nsIn K N "__eq__" = some (some (.ref (He.ma K C "__eq__"))) ∧ nsIn K N "__ne__" = some none
theorem eqcB_ok {K : Frag} {C : Addr} (h : eqcB K C = true) : EqcC K C := by
  obtain ⟨h1, h⟩ := Bool.and_eq_true_iff.mp h
  obtain ⟨h2, h3⟩ := Bool.and_eq_true_iff.mp h
  refine ⟨He.eqO_ok h1, h2, ?_⟩
  split at h3
  · rename_i dd cd sl ho
    split at h3
    · rename_i D bm k0 k1 k2 k3 n k5 hm hs
      obtain ⟨a1, h3⟩ := Bool.and_eq_true_iff.mp h3
      obtain ⟨a2, h3⟩ := Bool.and_eq_true_iff.mp h3
      obtain ⟨a3, h3⟩ := Bool.and_eq_true_iff.mp h3
      obtain ⟨a4, h3⟩ := Bool.and_eq_true_iff.mp h3
      obtain ⟨a5, a6⟩ := Bool.and_eq_true_iff.mp h3
      obtain rfl := of_decide_eq_true a1
      obtain rfl := of_decide_eq_true a2
      obtain ⟨nm, bs, mro, ns, qn, hd, sn, sub, ab, col, del⟩ := cd
      dsimp only at hm a3 a4 a5 a6
      subst hm
      obtain rfl : del = false := by cases del <;> first | rfl | cases a3
      have e : sl = #[k0, k1, k2, k3, some (.builtin n), k5] := by
        obtain ⟨l⟩ := sl
        dsimp only at hs
        rw [hs]
      subst e
      exact ⟨nm, qn, ns, bs, hd, sn, sub, ab, col, dd, k0, k1, k2, k3, k5, n, ho, a4, of_decide_eq_true a5, of_decide_eq_true a6⟩
    · cases h3
  · cases h3

section
variable {X : Cx} {CX : CXT} {E : XK}
/-- x == y, x an instance with an own __eq__: what that answers -/
def rEqO (X : Cx) (CX : CXT) (E : XK) : R2 := fun x y H Q => ∃ (a C dx : Addr) (fs : List (Str × V)) (t : Value), x = .ref a ∧ H a = some (.ins C dx fs) ∧ EqcC X.K C ∧ TyE X.K H y t ∧ notFirst X.K C t = true ∧
  Does X CX (He.ma X.K C "__eq__") [x, y] H (fun v H' => ∃ b, v = .bl b ∧ Q (.bl b) H') E
theorem op_eqO (hx : Passes CX X E) : OpR X (compareOp .Eq) (rEqO X CX E) := by
  intro pins s σ H x y v u Q I rx ry h
  obtain ⟨a, C, dx, fs, t, rfl, ha, T, ty, nf, k, fd, ps, sp, kp, F, hr, hb, q⟩ := h
  cases rx
  obtain ⟨mA, J, _⟩ := ins_get I.hok ha
  obtain ⟨od, J, _⟩ := J.look
  obtain ⟨m, hF⟩ := I.fr
  obtain ⟨P, Z, p, _⟩ := kit_ofE I ry ty
  have hty : Looks (model X.prog X.w) s.heap (typeOf u) t := Z.ty _ _ I.kIn p
  show wpAny (model X.prog X.w) X.A (richCompare .Eq (.ref a) u) (EP X pins σ Q) X.xe s
  refine cmp_K (op := .Eq) (tb := t) hr.units0 hF I.ok.mod.kin J hty nf T.find T.fn ?_
  refine wpAny_mono (run_fn (us := [.ref a, u]) (vs := [.ref a, y]) F hr hb .nil hx I (.cons rfl (.cons ry .nil)) q) (fun z s' hz => ?_) fun _ _ e => e
  obtain ⟨v', H', I', r', b, rfl, q'⟩ := hz
  obtain rfl : z = Value.bool b := r'
  exact ⟨.bl b, H', I', rfl, q'⟩
theorem ns_at_of {K : Frag} {h : Heap} {N : Addr} {mN : Str → Option Value} {n : Str} {v : Value} (X : K.In h) (G : h.Ns N mN) (e : nsIn K N n = some (some v)) : mN n = some v := by
  obtain ⟨o, es, ep, ho, hd, _, hf⟩ := G
  unfold nsIn at e
  split at e
  · rename_i q
    have z := X _ _ q
    rw [ho] at z
    cases z
    cases hd
    split at e
    · rename_i en he
      have ev : en.val = v := Option.some.inj (Option.some.inj e)
      rw [← hf]
      unfold nsFind findBy
      rw [← Array.find?_toList, he]
      exact congrArg some ev
    · split at e <;> cases e
  · cases e
/-- a call below a builtin -/
theorem run_in1 {k : Nat} {f : Addr} {fd : FuncData} {ps : List Str} {sp : Sp} {pins : List (Addr × Obj)} {σ : St} {H : Hp} {s : Shared} {Q : VK} {us : List Value} {vs : List V} (F : FnOk X.prog X.w X.K X.mg X.base CX k f fd ps sp) (hr : Room k X.A.in1)
    (hb : Binds X.K fd ps []) (hx : Passes CX X E) (I : Inv X pins σ H s) (r : Vals vs us) (h : sp vs H Q E) : wpAny (model X.prog X.w) X.A.in1 (call (.ref f) us) (EP X pins σ Q) X.xe s := by
  have hl : us.length = ps.length := by rw [← r.length]; exact F.len _ _ _ _ h
  have hb' := hb s us I.kIn (by rw [List.append_nil]; exact hl)
  rw [List.append_nil] at hb'
  refine wpAny_call (codeAny_mono (F.run X.A.in1 X.stack s H ⟨us, []⟩ us vs Q E hr I.env0.in1 hb' r h) fun r s' hq => ?_)
  cases r with
  | error e => exact hx pins σ H s e s' I hq
  | ok fl =>
    cases fl with
    | ret u => exact I.after hq
    | next => exact False.elim hq
    | brk => exact False.elim hq
    | cont => exact False.elim hq
/-- x != y, both instances of the class at C -/
def rNeO (X : Cx) (CX : CXT) (E : XK) : R2 := fun x y H Q => ∃ (a b C dx dy : Addr) (fs gs : List (Str × V)), x = .ref a ∧ y = .ref b ∧ H a = some (.ins C dx fs) ∧ H b = some (.ins C dy gs) ∧ EqcC X.K C ∧
  ∃ (k : Nat) (fd : FuncData) (ps : List Str) (sp : Sp), keepIn X.K (.ref (He.ma X.K C "__eq__")) = true ∧ FnOk X.prog X.w X.K X.mg X.base CX k (He.ma X.K C "__eq__") fd ps sp ∧ Room (k + 1) X.A ∧ Binds X.K fd ps [] ∧ sp [x, y] H (fun v H' => ∃ b, v = .bl b ∧ Q (.bl !b) H') E
theorem op_neO (hx : Passes CX X E) : OpR X (compareOp .NotEq) (rNeO X CX E) := by
  intro pins s σ H x y v u Q I rx ry h
  obtain ⟨a, b, C, dx, dy, fs, gs, rfl, rfl, ha, hb', T, k, fd, ps, sp, kp, G, hr, hb, q⟩ := h
  cases rx
  cases ry
  obtain ⟨mA, J, _⟩ := ins_get I.hok ha
  obtain ⟨mB, J', _⟩ := ins_get I.hok hb'
  obtain ⟨od, J, _⟩ := J.look
  obtain ⟨od', J', _⟩ := J'.look
  obtain ⟨nm, qn, N, bs, hdct, sn, sub, ab, col, dd, k0, k1, k2, k3, k5, nid, hC, ok, ne1, ne2⟩ := T.cls
  have hn : s.heap.Ns N (s.heap.nsMap N) := .of_isNs (isNs_of_in I.kIn ok)
  obtain ⟨of, hof, hcl⟩ := Option.map_eq_some_iff.mp (show (X.K.lookup (He.ma X.K C "__eq__")).map (·.cls) = some (.type "function") from beq_iff_eq.mp T.fn)
  have own : s.heap.OwnEqNoNe a C (He.ma X.K C "__eq__") "object" [.type "object"] := ⟨_, of, nm, qn, N, bs, hdct, sn, sub, ab, col, dd, k0, k1, k2, k3, k5, nid, _, _, J.at_, rfl, I.kIn _ _ hC, hn, ns_at_of I.kIn hn ne1,
    I.kIn _ _ hof, hcl, F.cmp_object.mro, F.cmp_object.eq.lookup, ns_none_of I.kIn hn ne2⟩
  obtain ⟨hp, g, d, tk, os⟩ := s
  refine compareOp_ne_ownEq F.cmp_object own J'.at_ rfl (by have := hr.units; omega) ?_
  refine wpAny_mono (run_in1 (us := [.ref a, .ref b]) (vs := [.ref a, .ref b]) G hr.in1 hb hx I (.cons rfl (.cons rfl .nil)) q) (fun z s' hz => ?_) fun _ _ e => e
  obtain ⟨v', H', I', r', b', rfl, q'⟩ := hz
  obtain rfl : z = Value.bool b' := r'
  exact ⟨b', rfl, .bl !b', H', I', rfl, q'⟩
end
end L2.Jk

set_option Elab.async false
set_option linter.all false
set_option maxRecDepth 100000
set_option maxHeartbeats 4000000
/-! int(text) of up to 4,300 digits, where the interpreter's limit on digits stands as it was. -/
namespace L2.Jk
open PySem PySem.W PySem.Spec PySem.Calls PySem.NumText PyProof.Rows PySem.W.KIN

theorem wp_textW {M : Model} {A : Around} {E : Value → Shared → Prop} {s : Shared} {Q : Value → Shared → Prop} {v : Value} {text : List Nat} {n : Int}
    (hd : s.heap.NoDigits) (hs : ¬ (text.takeWhile (· != 0)).length ≤ 640) (hr : (int_private% "readNumeral") 4300 10 (text.takeWhile (· != 0)) = (int_private% "Numeral.value") n)
    (ha : ((text.takeWhile (· != 0)).length == text.length) = true) (h : Q (.int n s.toks) { s with toks := s.toks + 1 }) :
    wpAny M A ((int_private% "intFromText") v text 10) Q E s := by
  obtain ⟨mc, hns, hnone⟩ := hd
  have key : wpAny M A (Builtin.intMaxStrDigits) (fun l s' => l = 4300 ∧ s' = s) E s := by
    unfold Builtin.intMaxStrDigits
    refine wpAny_bind (wpAny_nsGet hns ?_)
    rw [hnone]
    exact wpAny_pure ⟨rfl, rfl⟩
  obtain ⟨hp, g, d, tk, os⟩ := s
  show wpAny M A (do
    let limit ← if (text.takeWhile (· != 0)).length ≤ 640 then pure 0 else Builtin.intMaxStrDigits
    _) Q E _
  rw [if_neg hs]
  refine wpAny_bind (wpAny_mono key ?_ (fun _ _ x => x))
  rintro l s' ⟨rfl, rfl⟩
  dsimp only
  rw [hr]
  repeat (any_goals (first
    | assumption
    | (with_reducible refine wpAny_ite_true ha ?_)
    | wp_step))

set_option maxHeartbeats 4000000 in
theorem meets_textW {x : PySem.Str} {u : Tok} {n : Int} (hl : ¬ (numSeenOf x).length ≤ 640) (hl2 : x.length ≤ sizeLine) (hn : PySem.intText? x = some n) :
    Meets (Builtin.«int.__new__» ⟨[.type "int", .str x u], []⟩) (fun A R s => s.heap.NoDigits ∧ R (.ok (.ret (.int n s.toks))) { s with toks := s.toks + 1 }) :=
  .of_wp fun prog w A R s h => by
    have hr : (int_private% "readNumeral") 4300 10 (numSeenOf x) = (int_private% "Numeral.value") n ∧ ((numSeenOf x).length == (numTextOf x).length) = true := by
      rcases read4300 x hl2 with ⟨m, h1, h2, h3⟩ | ⟨h1, _⟩
      · rw [hn] at h1
        injection h1 with h1
        subst h1
        exact ⟨h3, h2⟩
      · rw [hn] at h1
        cases h1
    obtain ⟨hd, h⟩ := h
    have hd2 := Hid.mk hd
    obtain ⟨hp, g, d, tk, os⟩ := s
    have f1 := F.conv_sub_int
    have f2 := F.madeHere_int
    have f3 := str_int
    have f4 := str_idx
    have f5 := str_trunc
    have f6 : typeOf (.str x u) = pure (.type "str") := rfl
    have hk := Hid.mk (And.intro hl hr)
    clear hr hl hl2 hn hd
    repeat (any_goals (first
      | assumption
      | ((with_reducible show wpAny _ _ ((int_private% "intFromText") _ _ _) _ _ _); refine wp_textW hd2.out hk.out.1 hk.out.2.1 hk.out.2.2 ?_)
      | wp_step))
    all_goals first | exact ⟨_, rfl, h⟩ | skip
theorem call_textW {prog : Program} {w : World} {A : Around} {E : Value → Shared → Prop} {s : Shared} {Q : Value → Shared → Prop} {x : PySem.Str} {t : Tok} {n : Int} (hd : s.heap.NoDigits) (hn : PySem.intText? x = some n) (hl : x.length ≤ 640 ∨ (¬ (numSeenOf x).length ≤ 640 ∧ x.length ≤ 4300))
    (h : Q (.int n s.toks) { s with toks := s.toks + 1 }) : wpAny (model prog w) A (call (.type "int") [.str x t]) Q E s := by
  rcases hl with hl | ⟨hs, hl⟩
  · exact PySem.W.KIN.call_text hn hl h
  · exact call_int_1 (meets_textW hs (by rw [sizeLine_eq]; omega) hn) ⟨hd, rfl, h⟩
/-- a text that int() takes: short, or all of it digits -/
def IntOk (a : Str) : Prop := a.length ≤ 640 ∨ ((¬ (numSeenOf a).length ≤ 640) ∧ a.length ≤ 4300)
theorem intOk_digits {a : Str} (h : ∀ c ∈ a.cps.toList, c = 45 ∨ (48 ≤ c ∧ c ≤ 57)) (hl : a.length ≤ 4300) : IntOk a := by
  by_cases k : a.length ≤ 640
  · exact .inl k
  · refine .inr ⟨?_, hl⟩
    rw [(numText_signs h).2, Array.length_toList]
    exact k
theorem call_int_strW {X : Cx} (hd : X.base.NoDigits) : CallR X (.type "int") (fun xs H Q => ∃ a n, xs = [.str a] ∧ PySem.intText? a = some n ∧ IntOk a ∧ Q (.int n) H) := by
  intro pins s σ H xs us Q I rs h
  obtain ⟨a, n, rfl, hn, hl, h⟩ := h
  cases rs with
  | cons r1 rs =>
    cases rs
    obtain ⟨t, rfl⟩ := r1
    exact call_textW (hd.keeps I.bk) hn hl ⟨.int n, H, I.tok _, ⟨_, rfl⟩, h⟩
/-- what the head tells of the interpreter's own table -/
def digB (K : Frag) : Bool := match K.lookup cStatics with
  | some o => (match o.data with
    | .dict es _ => es.toList.all fun e => match e.key with
      | .str n _ => decide (n ≠ ("sys.int_max_str_digits" : Str))
      | _ => false
    | _ => false)
  | none => false
theorem noDigits_of {K : Frag} {base : Heap} (X : K.In base) (h : digB K = true) : base.NoDigits := by
  unfold digB at h
  split at h
  · rename_i o ho
    split at h
    · rename_i es ep hd
      have key : ∀ e ∈ es, ∃ n t, e.key = .str n t ∧ n ≠ ("sys.int_max_str_digits" : Str) := fun e he => by
        have k := List.all_eq_true.mp h e (by simpa using he)
        split at k
        · rename_i n t ek
          exact ⟨n, t, ek, of_decide_eq_true k⟩
        · cases k
      refine ⟨fun n => nsFind es n, ⟨o, es, ep, X _ _ ho, hd, fun e he => ?_, fun _ => rfl⟩, ?_⟩
      · obtain ⟨n, t, ek, _⟩ := key e he
        exact ⟨n, t, ek⟩
      · show nsFind es "sys.int_max_str_digits" = none
        unfold nsFind findBy
        have z : es.find? (fun e => e.key.isStr "sys.int_max_str_digits") = none := by
          rw [Array.find?_eq_none]
          intro e he
          obtain ⟨n, t, ek, ne⟩ := key e he
          rw [ek]
          simpa [Value.isStr] using ne
        rw [z]
        rfl
    · cases h
  · cases h
/-! ### a head whose facts see the interpreter's own table, too -/
def obsS (n : Nat) (fa : List He.Fa) (fn : List He.DefD) (ex : Frag → Bool) (g : Addr → Option Obj) : He.AlX := (He.obsT fa fn [] (He.frT g (He.asD g n ++ [cStatics])), ex (He.frT g (He.asD g n ++ [cStatics])))
def hookS (n : Nat) (fa : List He.Fa) (fn : List He.DefD) (ex : Frag → Bool) : PySem.W.Hook where
  α := He.AlX
  obs := fun s => obsS n fa fn ex s.heap.get?
  val := fun w => He.valX fn [] w
  says := fun w h => ∃ K : Frag, K.In h ∧ He.SaysT fa fn [] w K ∧ ex K = true
  of := fun _ _ e => ⟨_, He.frT_in, congrArg (fun z : He.AlX => z.1) e, congrArg (fun z : He.AlX => z.2) e⟩
  keeps := fun _ _ _ ⟨K, hK, c, m⟩ k => ⟨K, Frag.In.keeps hK k, c, m⟩
theorem obsS_eq {n : Nat} {fa : List He.Fa} {fn : List He.DefD} {ex : Frag → Bool} {g : Addr → Option Obj} {s : Shared} (h : ∀ a, g a = s.heap.get? a) : obsS n fa fn ex g = (hookS n fa fn ex).obs s := by
  have e : g = s.heap.get? := funext h
  rw [e] <;> rfl
end L2.Jk

set_option Elab.async false
set_option linter.all false
set_option maxRecDepth 100000
set_option maxHeartbeats 0
namespace L2.K77
open PySem PySem.W PySem.Spec PySem.Calls PyProof.Rows L2.Jk
def top (i : Nat) : Stmt := PySem.Challenge.pw_jointkeys_k77_stores_moved.main.body.getD i (.Pass ⟨0, 0, 0, 0⟩)
def SG : Str := "-./0123456789ABCDEFGHIJKLMNOPQRSTUVWXYZ_abcdefghijklmnopqrstuvwxyz"
def DG : Str := "0123456789"
abbrev BF (K : Frag) : Addr := He.ga K "BadField"
abbrev NR (K : Frag) : Addr := He.ga K "NoRow"
abbrev CLx (K : Frag) : Addr := He.ga K "Clash"
def cname : Nat → Str
  | 0 => "Word"
  | 1 => "Number"
  | 2 => "Fixed"
  | 3 => "Listed"
  | 4 => "Ended"
  | 5 => "Marked"
  | _ => ""
abbrev ca (K : Frag) (i : Nat) : Addr := He.ga K (cname i)

def fn : List He.DefD := [⟨("BadField", some "__init__"), "__init__", "BadField.__init__", defArgs (inClass (top 3) 0), defBody (inClass (top 3) 0), defScope (inClass (top 3) 0), [], []⟩,
  ⟨("BadField", some "told"), "told", "BadField.told", defArgs (inClass (top 3) 1), defBody (inClass (top 3) 1), defScope (inClass (top 3) 1), [], []⟩,
  ⟨("NoRow", some "__init__"), "__init__", "NoRow.__init__", defArgs (inClass (top 5) 0), defBody (inClass (top 5) 0), defScope (inClass (top 5) 0), [], []⟩,
  ⟨("NoRow", some "told"), "told", "NoRow.told", defArgs (inClass (top 5) 1), defBody (inClass (top 5) 1), defScope (inClass (top 5) 1), [], []⟩,
  ⟨("Clash", some "__init__"), "__init__", "Clash.__init__", defArgs (inClass (top 6) 0), defBody (inClass (top 6) 0), defScope (inClass (top 6) 0), [], []⟩,
  ⟨("Clash", some "told"), "told", "Clash.told", defArgs (inClass (top 6) 1), defBody (inClass (top 6) 1), defScope (inClass (top 6) 1), [], []⟩,
  ⟨("Word", some "__init__"), "__init__", "Word.__init__", defArgs (inClass (top 26) 0), defBody (inClass (top 26) 0), defScope (inClass (top 26) 0), [], []⟩,
  ⟨("Word", some "__eq__"), "__eq__", "Word.__eq__", defArgs (inClass (top 26) 1), defBody (inClass (top 26) 1), defScope (inClass (top 26) 1), [], []⟩,
  ⟨("Word", some "has_sign"), "has_sign", "Word.has_sign", defArgs (inClass (top 26) 7), defBody (inClass (top 26) 7), defScope (inClass (top 26) 7), [], []⟩,
  ⟨("Word", some "has_value"), "has_value", "Word.has_value", defArgs (inClass (top 26) 2), defBody (inClass (top 26) 2), defScope (inClass (top 26) 2), [], []⟩,
  ⟨("Word", some "text_for"), "text_for", "Word.text_for", defArgs (inClass (top 26) 3), defBody (inClass (top 26) 3), defScope (inClass (top 26) 3), [], []⟩,
  ⟨("Number", some "__init__"), "__init__", "Number.__init__", defArgs (inClass (top 27) 0), defBody (inClass (top 27) 0), defScope (inClass (top 27) 0), [], []⟩,
  ⟨("Number", some "__eq__"), "__eq__", "Number.__eq__", defArgs (inClass (top 27) 1), defBody (inClass (top 27) 1), defScope (inClass (top 27) 1), [], []⟩,
  ⟨("Number", some "has_sign"), "has_sign", "Number.has_sign", defArgs (inClass (top 27) 7), defBody (inClass (top 27) 7), defScope (inClass (top 27) 7), [], []⟩,
  ⟨("Number", some "has_value"), "has_value", "Number.has_value", defArgs (inClass (top 27) 2), defBody (inClass (top 27) 2), defScope (inClass (top 27) 2), [], []⟩,
  ⟨("Number", some "text_for"), "text_for", "Number.text_for", defArgs (inClass (top 27) 3), defBody (inClass (top 27) 3), defScope (inClass (top 27) 3), [], []⟩,
  ⟨("Fixed", some "__init__"), "__init__", "Fixed.__init__", defArgs (inClass (top 28) 0), defBody (inClass (top 28) 0), defScope (inClass (top 28) 0), [], []⟩,
  ⟨("Fixed", some "__eq__"), "__eq__", "Fixed.__eq__", defArgs (inClass (top 28) 1), defBody (inClass (top 28) 1), defScope (inClass (top 28) 1), [], []⟩,
  ⟨("Fixed", some "has_sign"), "has_sign", "Fixed.has_sign", defArgs (inClass (top 28) 7), defBody (inClass (top 28) 7), defScope (inClass (top 28) 7), [], []⟩,
  ⟨("Fixed", some "has_value"), "has_value", "Fixed.has_value", defArgs (inClass (top 28) 2), defBody (inClass (top 28) 2), defScope (inClass (top 28) 2), [], []⟩,
  ⟨("Fixed", some "text_for"), "text_for", "Fixed.text_for", defArgs (inClass (top 28) 3), defBody (inClass (top 28) 3), defScope (inClass (top 28) 3), [], []⟩,
  ⟨("Listed", some "__init__"), "__init__", "Listed.__init__", defArgs (inClass (top 29) 0), defBody (inClass (top 29) 0), defScope (inClass (top 29) 0), [], []⟩,
  ⟨("Listed", some "__eq__"), "__eq__", "Listed.__eq__", defArgs (inClass (top 29) 1), defBody (inClass (top 29) 1), defScope (inClass (top 29) 1), [], []⟩,
  ⟨("Listed", some "has_sign"), "has_sign", "Listed.has_sign", defArgs (inClass (top 29) 7), defBody (inClass (top 29) 7), defScope (inClass (top 29) 7), [], []⟩,
  ⟨("Listed", some "has_value"), "has_value", "Listed.has_value", defArgs (inClass (top 29) 2), defBody (inClass (top 29) 2), defScope (inClass (top 29) 2), [], []⟩,
  ⟨("Listed", some "text_for"), "text_for", "Listed.text_for", defArgs (inClass (top 29) 3), defBody (inClass (top 29) 3), defScope (inClass (top 29) 3), [], []⟩,
  ⟨("Ended", some "__init__"), "__init__", "Ended.__init__", defArgs (inClass (top 30) 0), defBody (inClass (top 30) 0), defScope (inClass (top 30) 0), [], []⟩,
  ⟨("Ended", some "__eq__"), "__eq__", "Ended.__eq__", defArgs (inClass (top 30) 1), defBody (inClass (top 30) 1), defScope (inClass (top 30) 1), [], []⟩,
  ⟨("Ended", some "has_sign"), "has_sign", "Ended.has_sign", defArgs (inClass (top 30) 7), defBody (inClass (top 30) 7), defScope (inClass (top 30) 7), [], []⟩,
  ⟨("Ended", some "has_value"), "has_value", "Ended.has_value", defArgs (inClass (top 30) 2), defBody (inClass (top 30) 2), defScope (inClass (top 30) 2), [], []⟩,
  ⟨("Ended", some "text_for"), "text_for", "Ended.text_for", defArgs (inClass (top 30) 3), defBody (inClass (top 30) 3), defScope (inClass (top 30) 3), [], []⟩,
  ⟨("Marked", some "__init__"), "__init__", "Marked.__init__", defArgs (inClass (top 31) 0), defBody (inClass (top 31) 0), defScope (inClass (top 31) 0), [], []⟩,
  ⟨("Marked", some "__eq__"), "__eq__", "Marked.__eq__", defArgs (inClass (top 31) 1), defBody (inClass (top 31) 1), defScope (inClass (top 31) 1), [], []⟩,
  ⟨("Marked", some "has_value"), "has_value", "Marked.has_value", defArgs (inClass (top 31) 2), defBody (inClass (top 31) 2), defScope (inClass (top 31) 2), [], []⟩,
  ⟨("Marked", some "text_for"), "text_for", "Marked.text_for", defArgs (inClass (top 31) 3), defBody (inClass (top 31) 3), defScope (inClass (top 31) 3), [], []⟩,
  ⟨("Layout", some "__init__"), "__init__", "Layout.__init__", defArgs (inClass (top 36) 0), defBody (inClass (top 36) 0), defScope (inClass (top 36) 0), [], []⟩,
  ⟨("Store", some "__init__"), "__init__", "Store.__init__", defArgs (inClass (top 44) 0), defBody (inClass (top 44) 0), defScope (inClass (top 44) 0), [], []⟩,
  ⟨("Store", some "put"), "put", "Store.put", defArgs (inClass (top 44) 1), defBody (inClass (top 44) 1), defScope (inClass (top 44) 1), [], []⟩,
  ⟨("Store", some "take"), "take", "Store.take", defArgs (inClass (top 44) 2), defBody (inClass (top 44) 2), defScope (inClass (top 44) 2), [], []⟩,
  ⟨("Store", some "scan"), "scan", "Store.scan", defArgs (inClass (top 44) 4), defBody (inClass (top 44) 4), defScope (inClass (top 44) 4), [], []⟩,
  ⟨("Store", some "size"), "size", "Store.size", defArgs (inClass (top 44) 5), defBody (inClass (top 44) 5), defScope (inClass (top 44) 5), [], []⟩,
  ⟨("Store", some "moved"), "moved", "Store.moved", defArgs (inClass (top 44) 6), defBody (inClass (top 44) 6), defScope (inClass (top 44) 6), [], []⟩,
  ⟨("is_made_of", none), "is_made_of", "is_made_of", defArgs (top 12), defBody (top 12), defScope (top 12), [], []⟩,
  ⟨("is_sign", none), "is_sign", "is_sign", defArgs (top 13), defBody (top 13), defScope (top 13), [], []⟩,
  ⟨("are_signs", none), "are_signs", "are_signs", defArgs (top 14), defBody (top 14), defScope (top 14), [], []⟩,
  ⟨("is_number", none), "is_number", "is_number", defArgs (top 16), defBody (top 16), defScope (top 16), [], []⟩,
  ⟨("digits_of", none), "digits_of", "digits_of", defArgs (top 17), defBody (top 17), defScope (top 17), [], []⟩,
  ⟨("number_of", none), "number_of", "number_of", defArgs (top 18), defBody (top 18), defScope (top 18), [], []⟩,
  ⟨("greatest_of", none), "greatest_of", "greatest_of", defArgs (top 19), defBody (top 19), defScope (top 19), [], []⟩,
  ⟨("check_signs", none), "check_signs", "check_signs", defArgs (top 21), defBody (top 21), defScope (top 21), [], []⟩,
  ⟨("check_span", none), "check_span", "check_span", defArgs (top 22), defBody (top 22), defScope (top 22), [], []⟩,
  ⟨("is_within", none), "is_within", "is_within", defArgs (top 23), defBody (top 23), defScope (top 23), [], []⟩,
  ⟨("is_word_of", none), "is_word_of", "is_word_of", defArgs (top 24), defBody (top 24), defScope (top 24), [], []⟩,
  ⟨("has_words_with", none), "has_words_with", "has_words_with", defArgs (top 25), defBody (top 25), defScope (top 25), [], []⟩,
  ⟨("is_sequence", none), "is_sequence", "is_sequence", defArgs (top 33), defBody (top 33), defScope (top 33), [], []⟩,
  ⟨("check_fields", none), "check_fields", "check_fields", defArgs (top 34), defBody (top 34), defScope (top 34), [], []⟩,
  ⟨("is_joint", none), "is_joint", "is_joint", defArgs (top 35), defBody (top 35), defScope (top 35), [], []⟩,
  ⟨("joints_behind", none), "joints_behind", "joints_behind", defArgs (top 37), defBody (top 37), defScope (top 37), [], []⟩,
  ⟨("check_row", none), "check_row", "check_row", defArgs (top 38), defBody (top 38), defScope (top 38), [], []⟩,
  ⟨("row_text", none), "row_text", "row_text", defArgs (top 39), defBody (top 39), defScope (top 39), [], []⟩,
  ⟨("first_from", none), "first_from", "first_from", defArgs (top 41), defBody (top 41), defScope (top 41), [], []⟩,
  ⟨("head_of", none), "head_of", "head_of", defArgs (top 43), defBody (top 43), defScope (top 43), [], []⟩,
  ⟨("_law_source", none), "_law_source", "_law_source", defArgs (top 46), defBody (top 46), defScope (top 46), [], []⟩,
  ⟨("_law_draw", none), "_law_draw", "_law_draw", defArgs (top 47), defBody (top 47), defScope (top 47), [], []⟩,
  ⟨("_law_pick", none), "_law_pick", "_law_pick", defArgs (top 48), defBody (top 48), defScope (top 48), [], []⟩,
  ⟨("_law_made", none), "_law_made", "_law_made", defArgs (top 49), defBody (top 49), defScope (top 49), [], []⟩,
  ⟨("_law_written", none), "_law_written", "_law_written", defArgs (top 50), defBody (top 50), defScope (top 50), [], []⟩,
  ⟨("_law_text", none), "_law_text", "_law_text", defArgs (top 51), defBody (top 51), defScope (top 51), [], []⟩,
  ⟨("_law_strings", none), "_law_strings", "_law_strings", defArgs (top 52), defBody (top 52), defScope (top 52), [], []⟩,
  ⟨("_law_values", none), "_law_values", "_law_values", defArgs (top 53), defBody (top 53), defScope (top 53), [], []⟩,
  ⟨("_law_rows", none), "_law_rows", "_law_rows", defArgs (top 54), defBody (top 54), defScope (top 54), [], []⟩,
  ⟨("_law_shuffled", none), "_law_shuffled", "_law_shuffled", defArgs (top 55), defBody (top 55), defScope (top 55), [], []⟩,
  ⟨("_law_small", none), "_law_small", "_law_small", defArgs (top 56), defBody (top 56), defScope (top 56), [], []⟩,
  ⟨("_law_layout", none), "_law_layout", "_law_layout", defArgs (top 57), defBody (top 57), defScope (top 57), [], []⟩,
  ⟨("_law_has", none), "_law_has", "_law_has", defArgs (top 58), defBody (top 58), defScope (top 58), [], []⟩,
  ⟨("_law_misfit", none), "_law_misfit", "_law_misfit", defArgs (top 59), defBody (top 59), defScope (top 59), [], []⟩,
  ⟨("_law_due", none), "_law_due", "_law_due", defArgs (top 60), defBody (top 60), defScope (top 60), [], []⟩,
  ⟨("_law_said", none), "_law_said", "_law_said", defArgs (top 61), defBody (top 61), defScope (top 61), [], []⟩,
  ⟨("_law_other", none), "_law_other", "_law_other", defArgs (top 62), defBody (top 62), defScope (top 62), [], []⟩,
  ⟨("_law_right", none), "_law_right", "_law_right", defArgs (top 63), defBody (top 63), defScope (top 63), [], []⟩,
  ⟨("law", none), "law", "law", defArgs (top 64), defBody (top 64), defScope (top 64), [], []⟩]

def fa : List He.Fa := [.glo "JointError", .glo "BadField", .glo "NoRow", .glo "Clash", .glo "Layout", .glo "Store", .glo "Word", .glo "Number", .glo "Fixed", .glo "Listed", .glo "Ended", .glo "Marked", .glo "is_made_of", .glo "is_sign", .glo "are_signs", .glo "is_number", .glo "digits_of", .glo "number_of", .glo "greatest_of", .glo "check_signs", .glo "check_span", .glo "is_within", .glo "is_word_of", .glo "has_words_with", .glo "is_sequence", .glo "check_fields", .glo "is_joint", .glo "joints_behind", .glo "check_row", .glo "row_text", .glo "first_from", .glo "head_of", .glo "_law_source", .glo "_law_draw", .glo "_law_pick", .glo "_law_made", .glo "_law_written", .glo "_law_text", .glo "_law_strings", .glo "_law_values", .glo "_law_rows", .glo "_law_shuffled", .glo "_law_small", .glo "_law_layout", .glo "_law_has", .glo "_law_misfit", .glo "_law_due", .glo "_law_said", .glo "_law_other", .glo "_law_right", .glo "law", .free "abs", .free "int", .free "bool", .free "isinstance", .free "range", .free "len", .free "set", .free "type", .free "str", .free "reversed", .free "tuple", .free "list", .free "any", .free "all", .free "sorted", .free "min", .free "max", .free "zip", .free "enumerate", .str "SIGNS" SG, .str "DIGITS" DG, .str "LOW" "!", .str "HIGH" "~", .cls "Word", .mkr "Word", .noat "Word" "signs", .noat "Word" "least", .noat "Word" "most", .meth "Word" "has_sign", .meth "Word" "has_value", .meth "Word" "text_for", .cls "Number", .mkr "Number", .noat "Number" "least", .noat "Number" "most", .meth "Number" "has_sign", .meth "Number" "has_value", .meth "Number" "text_for", .cls "Fixed", .mkr "Fixed", .noat "Fixed" "width", .meth "Fixed" "has_sign", .meth "Fixed" "has_value", .meth "Fixed" "text_for", .cls "Listed", .mkr "Listed", .noat "Listed" "texts", .meth "Listed" "has_sign", .meth "Listed" "has_value", .meth "Listed" "text_for", .cls "Ended", .mkr "Ended", .noat "Ended" "signs", .noat "Ended" "sign", .noat "Ended" "least", .noat "Ended" "most", .meth "Ended" "has_sign", .meth "Ended" "has_value", .meth "Ended" "text_for", .cls "Marked", .mkr "Marked", .noat "Marked" "none", .noat "Marked" "mark", .noat "Marked" "field", .meth "Marked" "has_value", .meth "Marked" "text_for", .cls "Layout", .mkr "Layout", .noat "Layout" "fields", .noat "Layout" "joints", .cls "Store", .mkr "Store", .noat "Store" "layout", .noat "Store" "texts", .noat "Store" "kept", .meth "Store" "put", .meth "Store" "take", .meth "Store" "scan", .meth "Store" "size", .meth "Store" "moved"]

def kcB (K : Frag) (C : Addr) : Bool := He.eqO (findIn K (.ref C) "__class__") (some (some (.builtin "object.__class__"))) && (decide (mroIn K C (.type "object") = some true) && (notFirst K C (.type "tuple") && (eqcB K C && keepIn K (.ref (He.ma K C "__eq__")))))
def exN (K : Frag) : Bool := errB K (NR K) ["place"] ["told"] && (He.eqO (findIn K (.ref (NR K)) "__init__") (some (some (.ref (He.ma K (NR K) "__init__")))) && (decide (typeIn K (.ref (He.ma K (NR K) "__init__")) = some (.type "function")) && decide (exmOne K (.ref (NR K)) (.ref (NR K)) = some true)))
def exC (K : Frag) : Bool := errB K (CLx K) ["one", "other"] ["told"] && (He.eqO (findIn K (.ref (CLx K)) "__init__") (some (some (.ref (He.ma K (CLx K) "__init__")))) && (decide (typeIn K (.ref (He.ma K (CLx K) "__init__")) = some (.type "function")) && (decide (exmOne K (.ref (CLx K)) (.ref (CLx K)) = some true) && decide (exmOne K (.ref (CLx K)) (.ref (NR K)) = some false))))
def ex (K : Frag) : Bool := exC K && (exN K && ((errB K (BF K) ["what"] ["told"] && (He.eqO (findIn K (.ref (BF K)) "__init__") (some (some (.ref (He.ma K (BF K) "__init__")))) && (decide (typeIn K (.ref (He.ma K (BF K) "__init__")) = some (.type "function")) &&
  (decide (exmOne K (.ref (BF K)) (.ref (BF K)) = some true) && (He.eqO (specialIn K (.builtin "object.__class__") "__get__") (some (some (.builtin "getset_descriptor.__get__"))) && decide (takesIn K (.builtin "object.__class__") = some true)))))) &&
  (List.range 6).all fun i => kcB K (ca K i) && (decide (kitOne K (.type "NoneType") (.ref (ca K i)) = some false) && (decide (kitOne K (.type "str") (.ref (ca K i)) = some false) && (decide (kitOne K (.ref (ca K i)) (.type "str") = some false) &&
  (List.range 6).all fun j => decide (kitOne K (.ref (ca K i)) (.ref (ca K j)) = some (decide (i = j))))))))
abbrev R : PySem.W.OpenRow := PySem.W.OpenLaw.row PySem.Challenge.rw_jointkeys_k77_stores_moved
abbrev hk : PySem.W.Hook := He.hookX 4 fa fn [] [] ex
def ob (s : PySem.W.SharedT) : He.AlX := He.obsX 4 fa fn [] [] ex (HandSHeadRun.getT s)
theorem ob_eq (s : PySem.W.SharedT) : ob s = hk.obs s.abs := He.obsX_eq (HandSHeadRun.getT_eq s)
def names : List PySem.Str := (["_wall", "__name__", "JointError", "BadField", "BadLayout", "NoRow", "Clash", "SIGNS", "DIGITS", "LOW", "HIGH", "is_made_of", "is_sign", "are_signs", "is_number", "digits_of", "number_of", "greatest_of", "check_signs", "check_span", "is_within", "is_word_of", "has_words_with", "Word", "Number", "Fixed", "Listed", "Ended", "Marked", "is_sequence"] : List PySem.Str) ++ (["check_fields", "is_joint", "Layout", "joints_behind", "check_row", "row_text", "first_from", "head_of", "Store", "_law_source", "_law_draw", "_law_pick", "_law_made", "_law_written", "_law_text", "_law_strings", "_law_values", "_law_rows", "_law_shuffled", "_law_small", "_law_layout", "_law_has", "_law_misfit", "_law_due", "_law_said", "_law_other", "_law_right"] : List PySem.Str)
theorem run (w : World) : HandSHeadRun.RunEq R (PySem.W.view R.prog [64]) hk ob 8000 names w := by
  intro os
  kernel_rfl
end L2.K77

set_option Elab.async false
set_option linter.all false
set_option maxRecDepth 100000
set_option maxHeartbeats 4000000
/-! set(..) of texts: how many members it has. -/
namespace L2.Jk
open PySem PySem.W PySem.Spec PySem.Calls PyProof.Rows

/-- how many of the first i are new -/
def newS (ks : Nat → Str) : Nat → Nat
  | 0 => 0
  | i + 1 => if (List.range i).any (fun j => ks j == ks i) then newS ks i else newS ks i + 1
theorem newS_le (ks : Nat → Str) : ∀ i, newS ks i ≤ i
  | 0 => Nat.le_refl _
  | i + 1 => by
    have := newS_le ks i
    unfold newS
    split <;> omega
section
variable {prog : Program} {w : World} {A : Around} {R : Result → Shared → Prop} {I : Addr} {fp wr : List Addr} {G : Array GenState → Array GenState → Prop} {n : Nat} {P : Nat → Value → Prop} {Z : Nat → Shared → Prop}
/-- what the set holds behind i items -/
def HeldS (prog : Program) (w : World) (h : Heap) (S : Addr) (ks : Nat → Str) (i : Nat) : Prop := h.SetOf (PySem.strKind prog w) S (fun k => (List.range i).any fun j => ks j == k) (newS ks i)
theorem HeldS.at {h h' : Heap} {S : Addr} {ks : Nat → Str} {i : Nat} (H : HeldS prog w h S ks i) (k : ∀ o, h.get? S = some o → h'.get? S = some o) : HeldS prog w h' S ks i := by
  obtain ⟨o, es, ep, t, ho, r⟩ := H
  exact ⟨o, es, ep, t, k o ho, r⟩
theorem set_loop (W : WalksS prog w A.in1 I fp wr G n P Z) (S : Addr) (hS : S ∉ fp) (ks : Nat → Str) (hn : n + 1 < scanBound) (hv : ∀ i v, P i v → ∃ t, v = .str (ks i) t) :
    ∀ (k i : Nat) (s : Shared), n - i = k → i ≤ n → Z i s → HeldS prog w s.heap S ks i →
      (∀ s', Moved (S :: wr) G s s' → HeldS prog w s'.heap S ks n → R (.ok (.ret .none)) s') → codeAny (model prog w) A (.builtin "set.update.loop" ⟨[.ref S, .ref I], []⟩) R s := by
  have sw : S ∉ wr := fun z => hS (W.sub _ z)
  have up : ∀ b ∈ wr, b ∈ S :: wr := fun b z => List.mem_cons_of_mem _ z
  intro k
  induction k with
  | zero =>
    intro i s hk hi hz H hR
    obtain rfl : i = n := by omega
    refine codeAny_builtin PyProof.Rows.F.entry_set_update_loop ?_
    rw [Around.under_plainId PyProof.Rows.F.plain_set_update_loop _]
    show wpAny _ A.in1 (pyNext (.ref I) >>= _) _ _ s
    refine wpAny_bind (W.done s _ _ hz fun s' m => ?_)
    show wpAny _ A.in1 (ret Value.none) _ _ s'
    exact wpAny_pure (hR s' (m.mono up) (H.at fun o e => m.heap S o sw e))
  | succ k ih =>
    intro i s hk hi hz H hR
    have lt : i < n := by omega
    refine codeAny_builtin PyProof.Rows.F.entry_set_update_loop ?_
    rw [Around.under_plainId PyProof.Rows.F.plain_set_update_loop _]
    show wpAny _ A.in1 (pyNext (.ref I) >>= _) _ _ s
    refine wpAny_bind (W.item i s _ _ lt hz fun v s' hp hz' m => ?_)
    obtain ⟨t, rfl⟩ := hv i v hp
    have H' : HeldS prog w s'.heap S ks i := H.at fun o e => m.heap S o sw e
    show wpAny _ A.in1 (holding [Value.str (ks i) t] (setAdd S (.str (ks i) t)) >>= _) _ _ s'
    refine wpAny_bind (wpAny_holding ?_)
    unfold setAdd
    refine wpAny_holding (wpAny_bind ((PySem.strKind prog w).pyHash (k := ks i) (strKind_is _ _ _ _) ?_))
    have few := newS_le ks i
    refine wpAny_setAddHashed_of (knd := PySem.strKind prog w) (s := { s' with toks := s'.toks + 1 }) (strKind_is _ _ _ _) rfl H' (by omega) fun h' sb H2 => ?_
    have H3 : HeldS prog w h' S ks (i + 1) := by
      refine PyProof.Rows.SetOf_congr H2 (fun q => ?_) ?_
      · show ((List.range i).any (fun j => ks j == q) || decide (q = ks i)) = (List.range (i + 1)).any fun j => ks j == q
        rw [List.range_succ, List.any_append]
        congr 1
        by_cases e : q = ks i
        · subst e
          simp
        · have e2 : (ks i == q) = false := beq_eq_false_iff_ne.mpr fun z => e z.symm
          simp [e, e2]
      · show (if (List.range i).any (fun j => ks j == ks i) = true then newS ks i else newS ks i + 1) = newS ks (i + 1)
        rfl
    refine wpAny_pure ⟨plainId_quiet PyProof.Rows.F.plain_set_update_loop _, ih (i + 1) _ (by omega) lt (W.frame _ s' _ _ hz' (Nat.le_succ _) fun b hb o e => ?_) H3 fun s2 m2 H4 => ?_⟩
    · rw [sb.2 b (fun z : b = S => hS (z ▸ hb))]
      exact e
    · refine hR s2 (Moved.trans W.gtrans ((m.mono up).then_heap (Nat.le_succ _) fun b o hb e => ?_) m2) H4
      rw [sb.2 b (fun z : b = S => hb (z ▸ List.mem_cons_self))]
      exact e
end
theorem sign_at {x : Str} {i : Nat} {v : Value} (z : SignAt x i v) : ∃ t, v = .str ⟨#[x.cps.getD i 0]⟩ t := by
  obtain ⟨c, t, h, e⟩ := z
  refine ⟨t, ?_⟩
  subst e
  rw [Array.getD_eq_getD_getElem?, h]
  rfl
end L2.Jk

set_option Elab.async false
set_option linter.all false
set_option maxRecDepth 100000
set_option maxHeartbeats 8000000
namespace L2.Jk
open PySem PySem.W PySem.Spec PySem.Calls PyProof.Rows
section
variable {prog : Program} {w : World} {A : Around} {E : Value → Shared → Prop} {s : Shared}
set_option maxHeartbeats 8000000 in
theorem set_callStr {x : Str} {tk0 : Tok} {Q : Value → Shared → Prop} (hh : A.handled = none)  (hn : x.cps.size + 1 < scanBound)
    (h : ∀ (h' : Heap) (tk : Nat), HeldS prog w h' s.heap.objs.size (fun i => ⟨#[x.cps.getD i 0]⟩) (x.cps.size) → (∀ b o, b < s.heap.objs.size → s.heap.get? b = some o → h'.get? b = some o) → Q (.ref s.heap.objs.size) { s with heap := h', toks := tk }) :
    wpAny (model prog w) A (call (.type "set") [(.str x tk0)]) Q E s := by
  obtain ⟨c, tl, hmro⟩ := PySem.F.called_set.mro
  have c1 := PySem.F.called_set.made
  have c2 := PySem.F.called_set.sub
  refine wpAny_call (codeAny_of_tree ?_)
  show wpAny _ _ (callAny (.type "set") _) _ _ _
  refine wpAny_pure ⟨Code.quiet_builtin _ (by decide +kernel), codeAny_builtin PySem.F.entry_type_call ?_⟩
  rw [Around.under_plain (weight_type_call_type "set" [(.str x tk0)] []) rfl]
  have c3 := PySem.F.called_set.notType
  have c4 := PySem.F.called_set.canCreate
  have c5 := PySem.F.typeCall_set_1 (.str x tk0)
  repeat (any_goals (first | assumption | wp_step))
  refine codeAny_mono (code_set_new_1 (.str x tk0) (E := E) (Q₁ := fun ob s₁ => ∃ led : Bool, ob = .ref s.heap.objs.size ∧ s₁ = { s with heap := s.heap.push { cls := .type "set", dict := none, data := .set #[] 0 (.fresh 0 0 led) } }) fun led => ⟨led, rfl, rfl⟩) fun r s₁ hr => ?_
  cases r with
  | error e => exact hr
  | ok fl =>
    cases fl with
    | ret ob =>
      obtain ⟨led, rfl, rfl⟩ := hr
      have hS : (s.heap.push { cls := .type "set", dict := none, data := .set #[] 0 (.fresh 0 0 led) }).get? s.heap.objs.size = some { cls := .type "set", dict := none, data := .set #[] 0 (.fresh 0 0 led) } := Heap.get?_push_size _ rfl
      have hT : Shared.TypeIs { s with heap := s.heap.push { cls := .type "set", dict := none, data := .set #[] 0 (.fresh 0 0 led) } } (.ref s.heap.objs.size) "set" := ⟨_, hS, rfl⟩
      have c6 := PySem.F.called_set.init.lookup
      have c7 := PySem.F.called_set.init.bind (.ref s.heap.objs.size)
      repeat (any_goals (first | assumption | wp_step))
      refine codeAny_mono (codeAny_call_builtin (R := wants (fun r s₂ => r = .none ∧ ∃ h' tk, s₂ = { s with heap := h', toks := tk } ∧ HeldS prog w h' s.heap.objs.size (fun i => ⟨#[x.cps.getD i 0]⟩) (x.cps.size) ∧
          (∀ b o, b < s.heap.objs.size → s.heap.get? b = some o → h'.get? b = some o)) E) PySem.F.called_set.init.plain PySem.F.entry_set_init (check_set_init_1 hT ?_)) fun r₂ s₂ hr₂ => ?_
      · have a1 := PySem.F.sub_str_set
        have a2 := PySem.F.sub_str_frozenset
        have a3 : (Value.type "str" == Value.type "dict") = false := by decide
        unfold Builtin.«set.__init__» noKeywords Builtin.Frozenset.updateFrom
        generalize hPI : pyIter = PI
        wp_walk
        subst hPI
        refine wpAny_pyIter_strU ?_
        refine wpAny_bind (wpAny_runValue ?_)
        have sf : s.heap.objs.size ∉ [(s.heap.push { cls := .type "set", dict := none, data := .set #[] 0 (.fresh 0 0 led) }).objs.size] := by
          rw [Heap.size_push]
          simp only [List.mem_cons, List.mem_singleton, List.not_mem_nil, or_false, not_or]
          exact Nat.ne_of_lt (Nat.lt_succ_self _)
        have h3 : A.in1.in1.in1.handled = none := by simp [hh]
        have sv : ∀ i v, SignAt x i v → ∃ t, v = .str ⟨#[x.cps.getD i 0]⟩ t := fun i v z => sign_at z
        have got : ∀ T, ((s.heap.push { cls := .type "set", dict := none, data := .set #[] 0 (.fresh 0 0 led) }).push { cls := .type T, data := .fields #[.str x tk0, .int 0 0] }).IsStrIter (s.heap.push { cls := .type "set", dict := none, data := .set #[] 0 (.fresh 0 0 led) }).objs.size T x tk0 0 := fun T => ⟨_, Heap.get?_push_size _ rfl, rfl, rfl⟩
        cases ha : x.cps.all (· < 128) with
        | false =>
          rw [show strIterType x = "str_iterator" by unfold strIterType; rw [ha]; rfl]
          refine set_loop ((Walks.strWide h3 _ x tk0).toS) s.heap.objs.size sf _ hn sv (x.cps.size - 0) 0 _ (by omega) (Nat.zero_le _) (got _) (PyProof.Rows.SetOf_congr ((PyProof.Rows.setObjOf_fresh (knd := PySem.strKind prog w) led).setOf (Heap.get?_push_of_some _ hS) (by unfold scanBound; omega)) (fun _ => rfl) rfl) ?hR
          case hR =>
            intro s' m H'
            obtain ⟨h', g', d', tk', os'⟩ := s'
            obtain rfl : g' = s.gens := m.gens
            obtain rfl : d' = s.drawn := m.drawn
            obtain rfl : os' = s.os := m.os
            show wpAny _ _ _ _ _ _
            refine wpAny_pure ?_
            show wpAny _ _ (ret Value.none) _ _ _
            refine wpAny_pure ⟨rfl, h', tk', rfl, H', fun b o hb e => ?_⟩
            have b1 : b ≠ s.heap.objs.size := Nat.ne_of_lt hb
            have b2 : b ≠ (s.heap.push { cls := .type "set", dict := none, data := .set #[] 0 (.fresh 0 0 led) }).objs.size := by
              rw [Heap.size_push]
              exact Nat.ne_of_lt (Nat.lt_succ_of_lt hb)
            exact m.heap b o (by simp only [List.mem_cons, List.mem_singleton, List.not_mem_nil, or_false, not_or]; exact ⟨b1, b2⟩) (Heap.get?_push_of_some _ (Heap.get?_push_of_some _ e))
        | true =>
          rw [show strIterType x = "str_ascii_iterator" by unfold strIterType; rw [ha]; rfl]
          refine set_loop ((Walks.strAscii h3 _ x tk0).toS) s.heap.objs.size sf _ hn sv (x.cps.size - 0) 0 _ (by omega) (Nat.zero_le _) (got _) (PyProof.Rows.SetOf_congr ((PyProof.Rows.setObjOf_fresh (knd := PySem.strKind prog w) led).setOf (Heap.get?_push_of_some _ hS) (by unfold scanBound; omega)) (fun _ => rfl) rfl) ?hR
          case hR =>
            intro s' m H'
            obtain ⟨h', g', d', tk', os'⟩ := s'
            obtain rfl : g' = s.gens := m.gens
            obtain rfl : d' = s.drawn := m.drawn
            obtain rfl : os' = s.os := m.os
            show wpAny _ _ _ _ _ _
            refine wpAny_pure ?_
            show wpAny _ _ (ret Value.none) _ _ _
            refine wpAny_pure ⟨rfl, h', tk', rfl, H', fun b o hb e => ?_⟩
            have b1 : b ≠ s.heap.objs.size := Nat.ne_of_lt hb
            have b2 : b ≠ (s.heap.push { cls := .type "set", dict := none, data := .set #[] 0 (.fresh 0 0 led) }).objs.size := by
              rw [Heap.size_push]
              exact Nat.ne_of_lt (Nat.lt_succ_of_lt hb)
            exact m.heap b o (by simp only [List.mem_cons, List.mem_singleton, List.not_mem_nil, or_false, not_or]; exact ⟨b1, b2⟩) (Heap.get?_push_of_some _ (Heap.get?_push_of_some _ e))

      · cases r₂ with
        | error e => exact hr₂
        | ok f2 =>
          cases f2 with
          | ret r =>
            obtain ⟨rfl, h', tk, rfl, H', k'⟩ := hr₂
            repeat (any_goals (first | assumption | wp_step))
            exact h _ _ H' k'
          | _ => exact hr₂.elim
    | _ => exact hr.elim
end
end L2.Jk

set_option Elab.async false
set_option linter.all false
set_option maxRecDepth 100000
set_option maxHeartbeats 8000000
namespace L2.Jk
open PySem PySem.W PySem.Spec PySem.Calls PyProof.Rows
section
variable {prog : Program} {w : World} {A : Around} {E : Value → Shared → Prop} {s : Shared}
set_option maxHeartbeats 8000000 in
theorem set_callList {l : Addr} {its : Array Value} {ks : Nat → Str} {Q : Value → Shared → Prop} (hh : A.handled = none) (hl : s.heap.IsList l its) (hk : ∀ i v, its[i]? = some v → ∃ t : Tok, v = Value.str (ks i) t) (hn : its.size + 1 < scanBound)
    (h : ∀ (h' : Heap) (tk : Nat), HeldS prog w h' s.heap.objs.size (ks) (its.size) → (∀ b o, b < s.heap.objs.size → s.heap.get? b = some o → h'.get? b = some o) → Q (.ref s.heap.objs.size) { s with heap := h', toks := tk }) :
    wpAny (model prog w) A (call (.type "set") [(.ref l)]) Q E s := by
  obtain ⟨c, tl, hmro⟩ := PySem.F.called_set.mro
  have c1 := PySem.F.called_set.made
  have c2 := PySem.F.called_set.sub
  refine wpAny_call (codeAny_of_tree ?_)
  show wpAny _ _ (callAny (.type "set") _) _ _ _
  refine wpAny_pure ⟨Code.quiet_builtin _ (by decide +kernel), codeAny_builtin PySem.F.entry_type_call ?_⟩
  rw [Around.under_plain (weight_type_call_type "set" [(.ref l)] []) rfl]
  have c3 := PySem.F.called_set.notType
  have c4 := PySem.F.called_set.canCreate
  have c5 := PySem.F.typeCall_set_1 (.ref l)
  repeat (any_goals (first | assumption | wp_step))
  refine codeAny_mono (code_set_new_1 (.ref l) (E := E) (Q₁ := fun ob s₁ => ∃ led : Bool, ob = .ref s.heap.objs.size ∧ s₁ = { s with heap := s.heap.push { cls := .type "set", dict := none, data := .set #[] 0 (.fresh 0 0 led) } }) fun led => ⟨led, rfl, rfl⟩) fun r s₁ hr => ?_
  cases r with
  | error e => exact hr
  | ok fl =>
    cases fl with
    | ret ob =>
      obtain ⟨led, rfl, rfl⟩ := hr
      have hS : (s.heap.push { cls := .type "set", dict := none, data := .set #[] 0 (.fresh 0 0 led) }).get? s.heap.objs.size = some { cls := .type "set", dict := none, data := .set #[] 0 (.fresh 0 0 led) } := Heap.get?_push_size _ rfl
      have hT : Shared.TypeIs { s with heap := s.heap.push { cls := .type "set", dict := none, data := .set #[] 0 (.fresh 0 0 led) } } (.ref s.heap.objs.size) "set" := ⟨_, hS, rfl⟩
      have c6 := PySem.F.called_set.init.lookup
      have c7 := PySem.F.called_set.init.bind (.ref s.heap.objs.size)
      repeat (any_goals (first | assumption | wp_step))
      refine codeAny_mono (codeAny_call_builtin (R := wants (fun r s₂ => r = .none ∧ ∃ h' tk, s₂ = { s with heap := h', toks := tk } ∧ HeldS prog w h' s.heap.objs.size (ks) (its.size) ∧
          (∀ b o, b < s.heap.objs.size → s.heap.get? b = some o → h'.get? b = some o)) E) PySem.F.called_set.init.plain PySem.F.entry_set_init (check_set_init_1 hT ?_)) fun r₂ s₂ hr₂ => ?_
      · obtain ⟨⟨oc, od, odt, osl⟩, hol, hcl, nl, hdl⟩ := id hl
        dsimp only at hcl hdl
        subst hcl; subst hdl
        have old := Heap.get?_push_of_some ({ cls := .type "set", dict := none, data := .set #[] 0 (.fresh 0 0 led) } : Obj) hol
        have a1 := PySem.F.sub_list_set
        have a2 := PySem.F.sub_list_frozenset
        have a3 : (Value.type "list" == Value.type "dict") = false := by decide
        have hl1 : (s.heap.push { cls := .type "set", dict := none, data := .set #[] 0 (.fresh 0 0 led) }).IsList l its := ⟨_, old, rfl, nl, rfl⟩
        unfold Builtin.«set.__init__» noKeywords Builtin.Frozenset.updateFrom
        generalize hPI : pyIter = PI
        wp_walk
        subst hPI
        refine wpAny_pyIter_list hl1 ?_
        refine wpAny_bind (wpAny_runValue ?_)
        have h3 : A.in1.in1.in1.handled = none := by simp [hh]
        have nI : l ≠ (s.heap.push { cls := .type "set", dict := none, data := .set #[] 0 (.fresh 0 0 led) }).objs.size := by
          rw [Heap.size_push]
          exact Nat.ne_of_lt (Nat.lt_succ_of_lt (Heap.lt_size hol))
        have sf : s.heap.objs.size ∉ [(s.heap.push { cls := .type "set", dict := none, data := .set #[] 0 (.fresh 0 0 led) }).objs.size, l] := by
          rw [Heap.size_push]
          simp only [List.mem_cons, List.mem_singleton, List.not_mem_nil, or_false, not_or]
          exact ⟨Nat.ne_of_lt (Nat.lt_succ_self _), Nat.ne_of_gt (Heap.lt_size hol)⟩
        refine set_loop ((Walks.list h3 _ l nI its).toS) s.heap.objs.size sf ks hn (fun i v z => hk i v z) (its.size - 0) 0 _ (by omega) (Nat.zero_le _) ⟨⟨_, Heap.get?_push_size _ rfl, rfl, rfl⟩, (hl1.push _)⟩ (PyProof.Rows.SetOf_congr ((PyProof.Rows.setObjOf_fresh (knd := PySem.strKind prog w) led).setOf (Heap.get?_push_of_some _ hS) (by unfold scanBound; omega)) (fun _ => rfl) rfl) ?hR
        case hR =>
          intro s' m H'
          obtain ⟨h', g', d', tk', os'⟩ := s'
          obtain rfl : g' = s.gens := m.gens
          obtain rfl : d' = s.drawn := m.drawn
          obtain rfl : os' = s.os := m.os
          show wpAny _ _ _ _ _ _
          refine wpAny_pure ?_
          show wpAny _ _ (ret Value.none) _ _ _
          refine wpAny_pure ⟨rfl, h', tk', rfl, H', fun b o hb e => ?_⟩
          have b1 : b ≠ s.heap.objs.size := Nat.ne_of_lt hb
          have b2 : b ≠ (s.heap.push { cls := .type "set", dict := none, data := .set #[] 0 (.fresh 0 0 led) }).objs.size := by
            rw [Heap.size_push]
            exact Nat.ne_of_lt (Nat.lt_succ_of_lt hb)
          exact m.heap b o (by simp only [List.mem_cons, List.mem_singleton, List.not_mem_nil, or_false, not_or]; exact ⟨b1, b2⟩) (Heap.get?_push_of_some _ (Heap.get?_push_of_some _ e))

      · cases r₂ with
        | error e => exact hr₂
        | ok f2 =>
          cases f2 with
          | ret r =>
            obtain ⟨rfl, h', tk, rfl, H', k'⟩ := hr₂
            repeat (any_goals (first | assumption | wp_step))
            exact h _ _ H' k'
          | _ => exact hr₂.elim
    | _ => exact hr.elim
end
end L2.Jk

set_option Elab.async false
set_option linter.all false
set_option maxRecDepth 100000
set_option maxHeartbeats 8000000
namespace L2.Jk
open PySem PySem.W PySem.Spec PySem.Calls PyProof.Rows
section
variable {prog : Program} {w : World} {A : Around} {E : Value → Shared → Prop} {s : Shared}
set_option maxHeartbeats 8000000 in
theorem set_callTup {l : Addr} {its : Array Value} {ks : Nat → Str} {Q : Value → Shared → Prop} (hh : A.handled = none) (hl : s.heap.IsTuple l its) (hk : ∀ i v, its[i]? = some v → ∃ t : Tok, v = Value.str (ks i) t) (hn : its.size + 1 < scanBound)
    (h : ∀ (h' : Heap) (tk : Nat), HeldS prog w h' s.heap.objs.size (ks) (its.size) → (∀ b o, b < s.heap.objs.size → s.heap.get? b = some o → h'.get? b = some o) → Q (.ref s.heap.objs.size) { s with heap := h', toks := tk }) :
    wpAny (model prog w) A (call (.type "set") [(.ref l)]) Q E s := by
  obtain ⟨c, tl, hmro⟩ := PySem.F.called_set.mro
  have c1 := PySem.F.called_set.made
  have c2 := PySem.F.called_set.sub
  refine wpAny_call (codeAny_of_tree ?_)
  show wpAny _ _ (callAny (.type "set") _) _ _ _
  refine wpAny_pure ⟨Code.quiet_builtin _ (by decide +kernel), codeAny_builtin PySem.F.entry_type_call ?_⟩
  rw [Around.under_plain (weight_type_call_type "set" [(.ref l)] []) rfl]
  have c3 := PySem.F.called_set.notType
  have c4 := PySem.F.called_set.canCreate
  have c5 := PySem.F.typeCall_set_1 (.ref l)
  repeat (any_goals (first | assumption | wp_step))
  refine codeAny_mono (code_set_new_1 (.ref l) (E := E) (Q₁ := fun ob s₁ => ∃ led : Bool, ob = .ref s.heap.objs.size ∧ s₁ = { s with heap := s.heap.push { cls := .type "set", dict := none, data := .set #[] 0 (.fresh 0 0 led) } }) fun led => ⟨led, rfl, rfl⟩) fun r s₁ hr => ?_
  cases r with
  | error e => exact hr
  | ok fl =>
    cases fl with
    | ret ob =>
      obtain ⟨led, rfl, rfl⟩ := hr
      have hS : (s.heap.push { cls := .type "set", dict := none, data := .set #[] 0 (.fresh 0 0 led) }).get? s.heap.objs.size = some { cls := .type "set", dict := none, data := .set #[] 0 (.fresh 0 0 led) } := Heap.get?_push_size _ rfl
      have hT : Shared.TypeIs { s with heap := s.heap.push { cls := .type "set", dict := none, data := .set #[] 0 (.fresh 0 0 led) } } (.ref s.heap.objs.size) "set" := ⟨_, hS, rfl⟩
      have c6 := PySem.F.called_set.init.lookup
      have c7 := PySem.F.called_set.init.bind (.ref s.heap.objs.size)
      repeat (any_goals (first | assumption | wp_step))
      refine codeAny_mono (codeAny_call_builtin (R := wants (fun r s₂ => r = .none ∧ ∃ h' tk, s₂ = { s with heap := h', toks := tk } ∧ HeldS prog w h' s.heap.objs.size (ks) (its.size) ∧
          (∀ b o, b < s.heap.objs.size → s.heap.get? b = some o → h'.get? b = some o)) E) PySem.F.called_set.init.plain PySem.F.entry_set_init (check_set_init_1 hT ?_)) fun r₂ s₂ hr₂ => ?_
      · obtain ⟨⟨oc, od, odt, osl⟩, hol, hcl, nl, hdl⟩ := id hl
        dsimp only at hcl hdl
        subst hcl; subst hdl
        have old := Heap.get?_push_of_some ({ cls := .type "set", dict := none, data := .set #[] 0 (.fresh 0 0 led) } : Obj) hol
        have a1 := PySem.F.sub_tuple_set
        have a2 := PySem.F.sub_tuple_frozenset
        have a3 : (Value.type "tuple" == Value.type "dict") = false := by decide
        have hl1 : (s.heap.push { cls := .type "set", dict := none, data := .set #[] 0 (.fresh 0 0 led) }).IsTuple l its := ⟨_, old, rfl, nl, rfl⟩
        unfold Builtin.«set.__init__» noKeywords Builtin.Frozenset.updateFrom
        generalize hPI : pyIter = PI
        wp_walk
        subst hPI
        refine wpAny_pyIter_tuple hl1 ?_
        refine wpAny_bind (wpAny_runValue ?_)
        have h3 : A.in1.in1.in1.handled = none := by simp [hh]
        have nI : l ≠ (s.heap.push { cls := .type "set", dict := none, data := .set #[] 0 (.fresh 0 0 led) }).objs.size := by
          rw [Heap.size_push]
          exact Nat.ne_of_lt (Nat.lt_succ_of_lt (Heap.lt_size hol))
        have sf : s.heap.objs.size ∉ [(s.heap.push { cls := .type "set", dict := none, data := .set #[] 0 (.fresh 0 0 led) }).objs.size, l] := by
          rw [Heap.size_push]
          simp only [List.mem_cons, List.mem_singleton, List.not_mem_nil, or_false, not_or]
          exact ⟨Nat.ne_of_lt (Nat.lt_succ_self _), Nat.ne_of_gt (Heap.lt_size hol)⟩
        refine set_loop ((Walks.tuple h3 _ l nI its).toS) s.heap.objs.size sf ks hn (fun i v z => hk i v z) (its.size - 0) 0 _ (by omega) (Nat.zero_le _) ⟨⟨_, Heap.get?_push_size _ rfl, rfl, rfl⟩, (hl1.push _)⟩ (PyProof.Rows.SetOf_congr ((PyProof.Rows.setObjOf_fresh (knd := PySem.strKind prog w) led).setOf (Heap.get?_push_of_some _ hS) (by unfold scanBound; omega)) (fun _ => rfl) rfl) ?hR
        case hR =>
          intro s' m H'
          obtain ⟨h', g', d', tk', os'⟩ := s'
          obtain rfl : g' = s.gens := m.gens
          obtain rfl : d' = s.drawn := m.drawn
          obtain rfl : os' = s.os := m.os
          show wpAny _ _ _ _ _ _
          refine wpAny_pure ?_
          show wpAny _ _ (ret Value.none) _ _ _
          refine wpAny_pure ⟨rfl, h', tk', rfl, H', fun b o hb e => ?_⟩
          have b1 : b ≠ s.heap.objs.size := Nat.ne_of_lt hb
          have b2 : b ≠ (s.heap.push { cls := .type "set", dict := none, data := .set #[] 0 (.fresh 0 0 led) }).objs.size := by
            rw [Heap.size_push]
            exact Nat.ne_of_lt (Nat.lt_succ_of_lt hb)
          exact m.heap b o (by simp only [List.mem_cons, List.mem_singleton, List.not_mem_nil, or_false, not_or]; exact ⟨b1, b2⟩) (Heap.get?_push_of_some _ (Heap.get?_push_of_some _ e))

      · cases r₂ with
        | error e => exact hr₂
        | ok f2 =>
          cases f2 with
          | ret r =>
            obtain ⟨rfl, h', tk, rfl, H', k'⟩ := hr₂
            repeat (any_goals (first | assumption | wp_step))
            exact h _ _ H' k'
          | _ => exact hr₂.elim
    | _ => exact hr.elim
end
end L2.Jk

set_option Elab.async false
set_option linter.all false
set_option maxRecDepth 100000
set_option maxHeartbeats 4000000
/-! != of two tuples that are equal item by item, instances with an own __eq__ among the items. -/
namespace L2.Jk
open PySem PySem.W PySem.Spec PySem.Calls PyProof.Rows PySem.SeqAt
open AutoSeq1 (wpAny_loadPart')

section
variable {prog : Program} {w : World} {A : Around} {R : Result → Shared → Prop} {E : Value → Shared → Prop} {s : Shared}
theorem tup_ne_same (l b : Addr) (its jts : Array Value) (n n2 : Nat) (dd dd2 : Option Addr) (sl sl2 : Array (Option Value)) (hsz : its.size = jts.size) (J : Nat → Shared → Prop)
    (turn : ∀ i (h1 : i < its.size) (h2 : i < jts.size) s, J i s → wpAny (model prog w) A.in1 (eqBool its[i] jts[i]) (fun r s' => r = true ∧ J (i + 1) s') (fun e s' => R (.error e) s') s)
    (fin : ∀ s, J its.size s → R (.ok (.ret (.bool false))) s) (hl : s.heap.get? l = some { cls := .type "tuple", dict := dd, data := .seq its n, slots := sl }) (hb : s.heap.get? b = some { cls := .type "tuple", dict := dd2, data := .seq jts n2, slots := sl2 })
    (h : J 0 s) : wpAny (model prog w) A.in1 (Builtin.«tuple.__ne__» ⟨[.ref l, .ref b], []⟩) (GQ.FinOf prog w A R) (fun e s' => R (.error e) s') s := by
  have f2 := AutoSeq1.sub_tuple_tuple
  have len : (its.toList.zip jts.toList).length = its.size := by simp [hsz]
  have h0 := h
  obtain ⟨hp, g, d, tk, os⟩ := s
  wp_walk using wpAny_loadPart' hl, wpAny_loadPart' hb, wpAny_forIn_list _ (fun rest b s' => b.1 = none ∧ ∃ i, rest = (its.toList.zip jts.toList).drop i ∧ i ≤ its.size ∧ J i s') _
  case turn =>
    rintro ⟨y, x⟩ rest b s' ⟨hb', i, hz, hi, hJ⟩
    have lt : i < (its.toList.zip jts.toList).length := by
      refine Nat.lt_of_not_le fun z => ?_
      rw [List.drop_of_length_le z] at hz
      cases hz
    have h1 : i < its.size := len ▸ lt
    have h2 : i < jts.size := hsz ▸ h1
    rw [List.drop_eq_getElem_cons lt] at hz
    obtain ⟨e1, e2⟩ := List.cons.inj hz
    obtain rfl : y = its[i] := by simpa using congrArg Prod.fst e1
    obtain rfl : x = jts[i] := by simpa using congrArg Prod.snd e1
    refine wpAny_bind (wpAny_mono (turn i h1 h2 s' hJ) (fun r s2 q2 => ?_) fun _ _ x => x)
    obtain ⟨rfl, q2⟩ := q2
    wp_walk
    exact ⟨rfl, i + 1, e2, h1, q2⟩
  case fin =>
    rintro ⟨b1, b2⟩ s' ⟨hb', i, hz, hi, hJ⟩
    dsimp only at hb'
    subst hb'
    have ge : its.size ≤ i := by
      refine Nat.le_of_not_lt fun z => ?_
      rw [List.drop_eq_getElem_cons (by rw [len]; exact z)] at hz
      cases hz
    obtain rfl : i = its.size := by omega
    have hR := fin s' hJ
    wp_walk
    simpa [Builtin.Tuple.tupleCompareSizes, hsz] using hR
  case h => exact ⟨rfl, 0, rfl, Nat.zero_le _, h0⟩
theorem tup_ne_rich {l b : Addr} {its jts : Array Value} {Q : Value → Shared → Prop} (hsz : its.size = jts.size) (hu : A.units < cLine) (J : Nat → Shared → Prop) (hl : s.heap.IsTuple l its) (hb : s.heap.IsTuple b jts)
    (turn : ∀ i (h1 : i < its.size) (h2 : i < jts.size) s, J i s → wpAny (model prog w) A.in1 (eqBool its[i] jts[i]) (fun r s' => r = true ∧ J (i + 1) s') E s)
    (fin : ∀ s, J its.size s → Q (.bool false) s) (h : J 0 s) : wpAny (model prog w) A (richCompare .NotEq (.ref l) (.ref b)) Q E s := by
  obtain ⟨⟨c1, d1, t1, s1⟩, g1, k1, n1, e1⟩ := id hl
  obtain ⟨⟨c2, d2, t2, s2⟩, g2, k2, n2, e2⟩ := id hb
  dsimp only at k1 e1 k2 e2
  subst k1 e1 k2 e2
  refine wpAny_richCompare_same_room (op := .NotEq) ⟨_, g1, rfl⟩ ⟨_, g2, rfl⟩ PySem.F.slot_tuple_ne (GQ.call_here PySem.F.slot_tuple_ne ⟨_, g1, rfl⟩ PySem.F.entry_tuple_ne (PySem.F.args_tuple_ne_2 _ _) ?_) hu
  exact tup_ne_same (R := wants (fun v s' => v ≠ .notImplemented ∧ Q v s') E) l b its jts n1 n2 d1 d2 s1 s2 hsz J turn (fun s' q => ⟨(fun x => nomatch x), fin s' q⟩) g1 g2 h
end
section
variable {X : Cx} {n : Nat} {D : Eqv}
/-- t != u of two tuples whose items D says to be equal -/
def rNeT (X : Cx) (D : Eqv) : R2 := fun x y H Q => DTup X.K D x y H ∧ ∀ H', Same H H' → Q (.bl false) H'
theorem op_neT (hD : Mon D) (h : EqG X n D) (hr : Room (n + 1) X.A) : OpR X (compareOp .NotEq) (rNeT X D) := by
  intro pins s σ H x y v u Q I rx ry hq
  obtain ⟨⟨a, b, xs, ys, rfl, rfl, ha, hb, p⟩, q⟩ := hq
  cases rx
  cases ry
  obtain ⟨its, r, e, z⟩ := I.tuple ha
  obtain ⟨jts, r2, e2, z2⟩ := I.tuple hb
  have hsz : its.toArray.size = jts.toArray.size := by rw [List.size_toArray, List.size_toArray, ← r.length, ← r2.length]; exact p.1
  show wpAny (model X.prog X.w) X.A (richCompare .NotEq (.ref a) (.ref b)) (EP X pins σ Q) X.xe s
  refine tup_ne_rich hsz hr.units0 (fun _ s' => LoopI X pins σ H s') e e2 (fun i h1 h2 s' k => turnG hD h ⟨hr, rfl⟩ p r r2 i h1 h2 s' k) (fun s' k => ?_) ⟨H, I, Ext.rfl'⟩
  obtain ⟨H', I', x⟩ := k
  exact ⟨.bl false, H', I', rfl, q H' x⟩
end
end L2.Jk

set_option Elab.async false
set_option linter.all false
set_option maxRecDepth 100000
set_option maxHeartbeats 4000000
/-! ''.join(reversed(xs)), list(text), len(set(..)), type(x) is type(y). -/
namespace L2.Jk
open PySem PySem.W PySem.Spec PySem.Calls PyProof.Rows

theorem paired_of {α β : Type} {F : α → β → Prop} : ∀ {xs : List α} {ys : List β}, xs.length = ys.length → (∀ (i : Nat) x y, xs[i]? = some x → ys[i]? = some y → F x y) → Paired F xs ys
  | [], [], _, _ => .nil
  | [], _ :: _, e, _ => by cases e
  | _ :: _, [], e, _ => by cases e
  | x :: xs, y :: ys, e, h => .cons (h 0 x y rfl rfl) (paired_of (Nat.succ.inj e) fun i a b h1 h2 => h (i + 1) a b h1 h2)
section
variable {X : Cx}
/-! ### list(text) -/
/-- its signs, one text each -/
def signsV (z : Str) : List V := (List.range z.cps.size).map fun i => V.str ⟨#[z.cps.getD i 0]⟩
theorem call_listStr (hc : X.calm = true) : CallR X (.type "list") (fun xs H Q => ∃ z : Str, xs = [.str z] ∧ z.cps.size ≤ 1000 ∧ ∀ p H', H p = none → Same H H' → H' p = some (.lst (signsV z)) → Q (.ref p) H') := by
  intro pins s σ H xs us Q I r h
  obtain ⟨z, rfl, hz, q⟩ := h
  obtain ⟨u, rfl, t, rfl⟩ := vals1 r
  have hz' : z.cps.size ≤ sizeLine := by rw [sizeLine_eq]; omega
  refine call_list_str (I.ok.hd hc) z t (fun h' tk acc c k hp ha => ?_) hz'
  obtain ⟨al, ai⟩ := ha
  have vs : Vals (signsV z) acc.toList := by
    refine paired_of (show (signsV z).length = acc.toList.length by
      have e : acc.toList.length = acc.size := Array.length_toList
      rw [e, al]
      simp [signsV]) fun i x v hx hv => ?_
    have hi : i < z.cps.size := by
      have := (List.getElem?_eq_some_iff.mp hx).1
      simpa [signsV] using this
    obtain ⟨t', e⟩ := sign_at (ai i v (by rw [← Array.getElem?_toList]; exact hv))
    subst e
    have e2 : x = V.str ⟨#[z.cps.getD i 0]⟩ := by
      unfold signsV at hx
      rw [List.getElem?_map, List.getElem?_range hi] at hx
      exact (Option.some.inj hx).symm
    subst e2
    exact ⟨t', rfl⟩
  have n := I.fresh
  refine ⟨.ref s.heap.objs.size, _, I.laid (t' := tk) (h' := h') (o := .lst (signsV z)) k (Nat.le_refl _) ⟨?_, acc.toList, c, vs, by simpa using hp⟩, rfl, q _ _ n (same_upd n) upd_same⟩
  simp only [signsV, List.length_map, List.length_range]
  exact hz'
/-! ### len(set(..)) -/
def tLenSetStr (te : TE) : TE := fun σ H Q => te σ H fun x H1 => ∃ z : Str, x = .str z ∧ z.cps.size ≤ 4000 ∧ Q (.int (newS (fun i => ⟨#[z.cps.getD i 0]⟩) z.cps.size : Nat)) H1
theorem held_len {h : Heap} {S : Addr} {ks : Nat → Str} {i : Nat} {A : Around} {E : Value → Shared → Prop} {Q : Value → Shared → Prop} {s : Shared} (H : HeldS X.prog X.w s.heap S ks i) (hi : i ≤ 4000)
    (q : ∀ tk, Q (.int (newS ks i : Nat) tk) { s with toks := tk + 1 }) : wpAny (model X.prog X.w) A (call (.builtin "len") [.ref S]) Q E s := by
  have few := newS_le ks i
  obtain ⟨o, es, ep, t, ho, hex, hd, _, _, _, hf, hn⟩ := H
  exact call_len_set ho hex hd hf (by rw [hn]; omega) (by rw [hn]; exact q _)
theorem pe_lenSetStr {a : Expr} {ta : TE} {p p2 q pos : Pos} (hc : X.calm = true) (hg : Gl X "len") (hm : X.mg "len" = none) (hg2 : Gl X "set") (hm2 : X.mg "set" = none) (ha : PE X a ta)
    (na : starEach [a] X.env = (false, eval a X.env) :: starEach [] X.env := by rfl) : PE X (.Call (.Name "len" p) [.Call (.Name "set" p2) [a] [] q] [] pos) (tLenSetStr ta) := by
  constructor
  intro pins s σ H Q I h
  refine Call_ (ld_blt I hg hm boot_len (PyProof.Rows.callWith_builtin1 (PyProof.Rows.args_cons ?_ rfl) rfl rfl))
  refine Call_ (ld_blt I hg2 hm2 boot_set (PyProof.Rows.callWith_type1 (PyProof.Rows.args_cons (thn (ha.run pins s σ H _ I h) fun v s1 ⟨x, H1, I1, r1, z, ex, hz, q1⟩ => PyProof.Rows.args_nil ?_) na) na rfl))
  subst ex
  obtain ⟨t, rfl⟩ := r1
  refine set_callStr (I1.ok.hd hc) (by unfold scanBound; omega) fun h' tk hS hk => PyProof.Rows.args_nil ?_
  have I2 : Inv X pins σ H1 { s1 with heap := h', toks := tk } := I1.kept fun b o e => hk b o (Heap.lt_size e) e
  exact held_len (h := h') (s := { s1 with heap := h', toks := tk }) hS hz fun tk' => ⟨.int _, H1, I2.tok _, ⟨_, rfl⟩, q1⟩
/-- .. of a list or a tuple of texts -/
def tLenSetSeq (K : Frag) (te : TE) : TE := fun σ H Q => te σ H fun x H1 => ∃ (l : Addr) (ys : List Str), x = .ref l ∧ (SqL K H1 l (ys.map V.str) ∨ SqT K H1 l (ys.map V.str)) ∧ ys.length ≤ 4000 ∧ Q (.int (newS (fun i => ys.getD i Str.empty) ys.length : Nat)) H1
theorem strs_get {ys : List Str} {us : List Value} (r : Vals (ys.map V.str) us) (i : Nat) (v : Value) (h : us.toArray[i]? = some v) : ∃ t : Tok, v = Value.str (ys.getD i Str.empty) t := by
  have h' : us[i]? = some v := by simpa using h
  have lt : i < ys.length := by
    have := (List.getElem?_eq_some_iff.mp h').1
    rw [← r.length, List.length_map] at this
    exact this
  obtain ⟨u, hu, ru⟩ := r.get (i := i) (x := V.str (ys.getD i Str.empty)) (by rw [List.getElem?_map, List.getElem?_eq_getElem lt, List.getD_eq_getElem?_getD, List.getElem?_eq_getElem lt]; rfl)
  rw [h'] at hu
  cases hu
  exact ru
theorem pe_lenSetSeq {a : Expr} {ta : TE} {p p2 q pos : Pos} (hc : X.calm = true) (hg : Gl X "len") (hm : X.mg "len" = none) (hg2 : Gl X "set") (hm2 : X.mg "set" = none) (ha : PE X a ta)
    (na : starEach [a] X.env = (false, eval a X.env) :: starEach [] X.env := by rfl) : PE X (.Call (.Name "len" p) [.Call (.Name "set" p2) [a] [] q] [] pos) (tLenSetSeq X.K ta) := by
  constructor
  intro pins s σ H Q I h
  refine Call_ (ld_blt I hg hm boot_len (PyProof.Rows.callWith_builtin1 (PyProof.Rows.args_cons ?_ rfl) rfl rfl))
  refine Call_ (ld_blt I hg2 hm2 boot_set (PyProof.Rows.callWith_type1 (PyProof.Rows.args_cons (thn (ha.run pins s σ H _ I h) fun v s1 ⟨x, H1, I1, r1, l, ys, ex, hq, hz, q1⟩ => PyProof.Rows.args_nil ?_) na) na rfl))
  subst ex
  cases r1
  have fin : ∀ (its : List Value), Vals (ys.map V.str) its → ∀ (h' : Heap) (tk : Nat), HeldS X.prog X.w h' s1.heap.objs.size (fun i => ys.getD i Str.empty) its.toArray.size → (∀ b o, b < s1.heap.objs.size → s1.heap.get? b = some o → h'.get? b = some o) →
      wpAny (model X.prog X.w) X.A (spliced (backTo pos (starEach [] X.env))) (fun vs s₂ => wpAny (model X.prog X.w) X.A (call (.builtin "len") (Value.ref s1.heap.objs.size :: vs)) (EP X pins σ Q) X.xe s₂) X.xe { s1 with heap := h', toks := tk } := fun its r h' tk hS hk => by
    have hl : its.toArray.size = ys.length := by rw [List.size_toArray, ← r.length, List.length_map]
    rw [hl] at hS
    have I2 : Inv X pins σ H1 { s1 with heap := h', toks := tk } := I1.kept fun b o e => hk b o (Heap.lt_size e) e
    exact PyProof.Rows.args_nil (held_len (h := h') (s := { s1 with heap := h', toks := tk }) hS hz fun tk' => ⟨.int _, H1, I2.tok _, ⟨_, rfl⟩, q1⟩)
  rcases hq with hq | hq
  · obtain ⟨its, r, pl, _⟩ := I1.list hq
    have hl : its.toArray.size = ys.length := by rw [List.size_toArray, ← r.length, List.length_map]
    exact set_callList (I1.ok.hd hc) pl.isList (strs_get r) (by unfold scanBound; omega) fun h' tk hS hk => fin its r h' tk hS hk
  · obtain ⟨its, r, pl, _⟩ := I1.tuple hq
    have hl : its.toArray.size = ys.length := by rw [List.size_toArray, ← r.length, List.length_map]
    exact set_callTup (I1.ok.hd hc) pl (strs_get r) (by unfold scanBound; omega) fun h' tk hS hk => fin its r h' tk hS hk
/-! ### type(x) is type(y) -/
def rTyA (X : Cx) : List V → Hp → VK → Prop := fun xs H Q => ∃ x, xs = [x] ∧ ((∃ a C dx fs, x = .ref a ∧ H a = some (.ins C dx fs) ∧ Q (.ref C) H) ∨ ∃ T, RZ.Ty4 H x T ∧ Q (.ty T) H)
theorem call_tyA : CallR X (.type "type") (rTyA X) := by
  intro pins s σ H xs us Q I r h
  obtain ⟨x, rfl, h | h⟩ := h
  · obtain ⟨a, C, dx, fs, rfl, ha, q⟩ := h
    exact cr_type pins s σ H _ us Q I r ⟨a, C, dx, fs, rfl, ha, q⟩
  · obtain ⟨T, t, q⟩ := h
    exact RZ.call_type4 pins s σ H _ us Q I r ⟨x, T, rfl, t, q⟩
def rIsA (X : Cx) : R2 := fun x y H Q => ∃ a, x = .ref a ∧ ((∃ b, y = .ref b ∧ (a = b ∨ (makesIn X.K a = true ∧ makesIn X.K b = true)) ∧ Q (.bl (decide (a = b))) H) ∨ ∃ T, y = .ty T ∧ Q (.bl false) H)
theorem op_isA : OpR X (compareOp .Is) (rIsA X) := by
  intro pins s σ H x y v u Q I rx ry h
  obtain ⟨a, rfl, h | h⟩ := h
  · obtain ⟨b, rfl, hab, q⟩ := h
    exact op_is_cls pins s σ H _ _ v u Q I rx ry ⟨a, b, rfl, rfl, hab, q⟩
  · obtain ⟨T, rfl, q⟩ := h
    cases rx
    cases ry
    show wpAny _ _ (do return Value.bool (← isSame (.ref a) (.type T))) _ _ _
    exact wpAny_bind (wpAny_of_eq (a := false) rfl (wpAny_pure ⟨.bl false, H, I, rfl, q⟩))
/-! ### ''.join(reversed(xs)) -/
def tJoinRev (K : Frag) (to te : TE) : TE := fun σ H Q => to σ H fun o H0 => ∃ z : Str, o = .str z ∧ te σ H0 fun v H1 => ∃ (a : Addr) (ys : List Str), v = .ref a ∧ SqL K H1 a (ys.map V.str) ∧ JoinOk z ys.reverse = true ∧ Q (.str (Txt.join z ys.reverse)) H1
theorem strs_pairs : ∀ {ys : List Str} {us : List Value}, Vals (ys.map V.str) us → ∃ l : List (Str × Tok), strValues l = us ∧ l.map (·.1) = ys
  | [], _, .nil => ⟨[], rfl, rfl⟩
  | y :: ys, _, .cons r t => by
    obtain ⟨k, rfl⟩ := r
    obtain ⟨l, e1, e2⟩ := strs_pairs t
    exact ⟨(y, k) :: l, by rw [← e1]; rfl, by rw [← e2]; rfl⟩
theorem joined_tail (z : Str) : ∀ l : List (Str × Tok), Builtin.Str.tooLong ((l.map (·.1)).toArray.foldl (· + ·.length + z.length) 0) = false → Gives (joinTail z (strValues l)) (joinMade z l)
  | [], h => gives_joinTail z [] h
  | [p], h => gives_joinTail z [p] h
  | p :: q :: r, h => gives_joinTail z (p :: q :: r) h
theorem pe_joinRev {o e : Expr} {to te : TE} {apos p2 pos2 cpos : Pos} (hc : X.calm = true) (hg2 : Gl X "reversed") (hm2 : X.mg "reversed" = none) (ho : PE X o to) (he : PE X e te)
    (hbase : attributeBase o "join" X.env (eval o X.env) = eval o X.env := by rfl)
    (hfew : ((backTo cpos (starEach [Expr.Call (.Name "reversed" p2) [e] [] pos2] X.env)).all (fun x => !x.1) && (backToKw cpos (keywordEach [] X.env)).all (fun x => x.1.isSome)
      && decide ([Expr.Call (.Name "reversed" p2) [e] [] pos2].length + ([] : List Keyword).length + (if ([] : List Keyword).isEmpty then 0 else 1) < 30)) = true := by rfl)
    (hline : (apos.endLine == cpos.line) = true := by rfl) (hs : starEach [e] X.env = (false, eval e X.env) :: starEach [] X.env := by rfl)
    (hs2 : starEach [Expr.Call (.Name "reversed" p2) [e] [] pos2] X.env = (false, eval (.Call (.Name "reversed" p2) [e] [] pos2) X.env) :: starEach [] X.env := by rfl) :
    PE X (.Call (.Attribute o "join" apos) [.Call (.Name "reversed" p2) [e] [] pos2] [] cpos) (tJoinRev X.K to te) := by
  constructor
  intro pins s σ H Q I h
  refine wpAny_Call_method_late hbase hfew hline rfl (thn (ho.run pins s σ H _ I h) fun v s1 ⟨x, H0, I0, r0, z, ex, q0⟩ => ?_)
  subst ex
  obtain ⟨t, rfl⟩ := r0
  refine ⟨"str", "str.join", PySem.F.plainAttrs_str, PySem.F.slot_str_join, PySem.F.type_str_join, typeIs_str _ _ _, (fun a e => nomatch e), ?_⟩
  refine Calls.callWith_builtin (by rw [hs2]; rfl) ?_
  rw [hs2]
  refine Calls.evalArgs_plain (Calls.spliced_cons ?_)
  refine Call_ (ld_blt I0 hg2 hm2 PyProof.Rows.boot_reversed (PyProof.Rows.callWith_type1 (PyProof.Rows.args_cons (thn (he.run pins s1 σ H0 _ I0 q0) fun u s2 ⟨y, H1, I1, r1, a, ys, ey, hq, ok, q1⟩ => PyProof.Rows.args_nil ?_) hs) hs rfl))
  subst ey
  obtain rfl : u = Value.ref a := r1
  obtain ⟨its, rv, pl, hz⟩ := I1.list hq
  refine call_reversed_list pl.isList (Calls.spliced_nil ?_)
  have k0 : ∀ b o, s2.heap.get? b = some o → (s2.heap.push (revObj a ((its.toArray.size : Int) - 1))).get? b = some o := fun b o e => Heap.get?_push_of_some _ e
  have I2 : Inv X pins σ H1 { s2 with heap := s2.heap.push (revObj a ((its.toArray.size : Int) - 1)) } := I1.kept (t' := s2.toks) k0
  obtain ⟨f0, f1, f2, f3, f4, f5⟩ := I1.fpOk (H' := H1) (b := s2.heap.objs.size) (Nat.le_refl _) (I1.hok.fresh (Nat.le_refl _))
  have hl := pl.isList
  obtain ⟨ol, hol, _⟩ := id hl
  have ne : a ≠ s2.heap.objs.size := Nat.ne_of_lt (Heap.lt_size hol)
  have sm : its.toArray.size ≤ sizeLine := by rw [List.size_toArray, ← rv.length]; exact hz
  have hit : (s2.heap.push (revObj a ((its.toArray.size : Int) - 1))).IsRevIter s2.heap.objs.size a ((its.toArray.size : Int) - 1) := ⟨_, Heap.get?_push_size _ rfl, rfl, rfl⟩
  refine wpAny_call (codeAny_call_builtin F.slot_str_join.plain F.entry_str_join (F.slot_str_join.check _ _ _ _ _ _ _ _ (typeIs_str _ _ _) (F.args_str_join_2 _ _) ?_))
  show wpAny _ _ (Builtin.«str.join» ⟨[.str z t, .ref s2.heap.objs.size], []⟩) _ _ _
  rw [join_tree_other]
  refine wpAny_bind (wpAny_typeOf hit.typeIs ?_)
  show wpAny _ X.A.in1 ((pyIter (.ref s2.heap.objs.size)).tryCatch _ >>= fun it => collect it >>= fun items => joinTail z items) _ _ _
  refine wpAny_bind (wpAny_tryCatch (wpAny_pyIter_revIter hit ?_))
  refine wpAny_bind (RT.collect_rev (I1.ok.hd hc) hit (hl.push _) ne sm fun h' tk acc hk hi => ?_)
  have I3 : Inv X pins σ H1 { s2 with heap := h', toks := tk } := I2.turned (t' := tk) (fun b o hb e => hk b o hb e) f0 f1 f3 f4 f5
  have rr := RT.vals_rev rv hi
  rw [← List.map_reverse] at rr
  obtain ⟨l, el, em⟩ := strs_pairs rr
  rw [← el]
  have fit : Builtin.Str.tooLong ((l.map (·.1)).toArray.foldl (· + ·.length + z.length) 0) = false := by
    rw [em]
    unfold JoinOk at ok
    rwa [Bool.not_eq_true'] at ok
  have g : Gives (joinTail z (strValues l)) (joinMade z l) := joined_tail z l fit
  refine g X.prog X.w X.A (wants (EP X pins σ Q) X.xe) _ (post_join l ⟨?_, fun t' k => ?_⟩)
  · exact joinFit_length fit
  · rw [em]
    exact ⟨.str _, H1, I3.tok k, ⟨t', rfl⟩, q1⟩
end
end L2.Jk

set_option Elab.async false
set_option linter.all false
set_option maxRecDepth 100000
set_option maxHeartbeats 4000000
/-! Errors raised, instances made where their __init__ may raise, isinstance of flat values. -/
namespace L2.Jk
open PySem PySem.W PySem.Spec PySem.Calls PyProof.Rows

section
variable {X : Cx} {CX : CXT} {k : Nat} {x : Str} {ps : List Str} {sp : Sp} {e : Expr} {es : List Expr} {t : TA} {p pos : Pos} {W : WX}
theorem pe_fnS (G : FnAt X.prog X.w X.K X.mg X.base CX k x ps sp) (hr : Room k X.A) {E : St → XK} (hx : ∀ σ, PassesAt CX X σ (E σ)) (hg : Gl X x) (ha : PA X (e :: es) t)
    (hdb : (x == ("__debug__" : Str)) = false := by decide) (he : starEach (e :: es) X.env = (false, eval e X.env) :: starEach es X.env := by rfl) (hpl : (backTo pos (starEach es X.env)).any (·.1) = false := by rfl) :
    PE X (.Call (.Name x p) (e :: es) [] pos) (tCallS sp E t) := by
  obtain ⟨f, fd, hm, kp, F, hb⟩ := G.ex
  exact pe_callS F hr hg hm kp hb hx ha hdb he hpl
/-! ### an error that is raised -/
def tMkErr (C : Addr) (fs : List Str) (ta : TA) : St → Hp → XK → Prop := fun σ H Q => ta σ H fun vs H1 => vs.length = fs.length ∧ ∀ d H2, H1 d = none → Same H1 H2 → H2 d = some (.xd (fldE fs vs)) → Q (.ref C) (some d) H2
theorem same_raise {H : Hp} {a C d : Addr} {fs : List (Str × V)} (ha : H a = none) (hd : H d = none) (ne : d ≠ a) : Same H (upd (del (mkE H a C d fs) a) d (.xd fs)) := fun b o e => by
  have n1 := ne_of_none e ha
  have n2 := ne_of_none e hd
  rw [upd_ne n2, del_ne n1]
  unfold mkE
  rw [upd_ne n1, upd_ne n2]
  exact e
end
/-- what is wished of an error C(v) that is raised at H -/
def RaiseE (C : Addr) (f : Str) (v : V) (H : Hp) (Q : XK) : Prop := ∀ d H2, H d = none → Same H H2 → H2 d = some (.xd [(f, v)]) → Q (.ref C) (some d) H2
theorem mkO_1 {C : Addr} {f : Str} {v : V} {H : Hp} {Q : XK} (q : RaiseE C f v H Q) : ([v] : List V).length ≤ 1000 ∧ ∀ a, H a = none → spI1 C f (.ref a :: ([v] ++ [])) (upd H a (exo a C none))
    (fun u H2 => u = .non ∧ ∃ (d : Addr) (fs : List (Str × V)), H2 a = some (exo a C (some d)) ∧ H2 d = some (exd d fs) ∧ H d = none ∧ Q (.ref C) (some d) (upd (del H2 a) d (.xd fs))) (fun _ _ _ => False) := by
  refine ⟨by show 1 ≤ 1000; decide, fun a ha => ⟨a, v, rfl, upd_same, fun d hd ne => ⟨rfl, d, [(f, v)], ?_, ?_, ?_, ?_⟩⟩⟩
  · rw [mkE_new ne]
    exact upd_same
  · rw [mkE_new ne]
    unfold mkE
    rw [upd_ne ne, upd_same]
  · rw [upd_ne ne] at hd
    exact hd
  · rw [mkE_new ne]
    rw [upd_ne ne] at hd
    exact q d _ hd (same_raise ha hd ne) upd_same
section
variable {X : Cx} {x : Str} {e : Expr} {es : List Expr} {ta : TA} {p pos : Pos}
/-- raise C(e), C an error of one field -/
theorem pmk_1 {C : Addr} {f z : Str} (T : ErrAt X.prog X.w X.K X.mg X.base x C [f] z) (hr : Room 2 X.A) (hg : Gl X x) (ha : PA X (e :: es) ta)
    (hdb : (x == ("__debug__" : Str)) = false := by decide) (he : starEach (e :: es) X.env = (false, eval e X.env) :: starEach es X.env := by rfl) (hpl : (backTo pos (starEach es X.env)).any (·.1) = false := by rfl) :
    PMk X (.Call (.Name x p) (e :: es) [] pos) (tMkO C (spI1 C f) [] ta) := by
  obtain ⟨fd, hb, iok⟩ := T.iok
  exact pmk_oex (X := X) (ta := ta) T.ex.ec.ox T.ini.1 T.ini.2 iok hr hb .nil pass0 hg T.mgC ha hdb he hpl
/-! ### an instance made by a class whose __init__ may raise -/
structure ClsAt (P : Program) (w : World) (K : Frag) (mg : Str → Option Value) (base : Heap) (CX : CXT) (k : Nat) (x : Str) (C : Addr) (ps : List Str) (sp : Sp) : Prop where
  mgC : mg x = some (.ref C)
  cl : Cls K C
  mkr : Mk K C (He.ma K C "__init__")
  ok : ∃ fd, FnOk P w K mg base CX k (He.ma K C "__init__") fd ps sp ∧ Binds K fd ps []
def tNewS (C : Addr) (sp : Sp) (E : St → XK) (t : TA) : TE := fun σ H Q => t σ H fun vs H1 => ∀ a dx, H1 a = none → H1 dx = none → dx ≠ a → sp (.ref a :: vs) (upd (upd H1 dx (.own a)) a (.ins C dx [])) (fun v H2 => v = .non ∧ Q (.ref a) H2) (E σ)
theorem pe_newS {CX : CXT} {k : Nat} {C : Addr} {ps : List Str} {sp : Sp} {E : St → XK} (G : ClsAt X.prog X.w X.K X.mg X.base CX k x C ps sp) (hr : Room (k + 1) X.A) (hx : ∀ σ, PassesAt CX X σ (E σ)) (hg : Gl X x) (ha : PA X (e :: es) ta)
    (hdb : (x == ("__debug__" : Str)) = false := by decide) (he : starEach (e :: es) X.env = (false, eval e X.env) :: starEach es X.env := by rfl) (hpl : (backTo pos (starEach es X.env)).any (·.1) = false := by rfl) :
    PE X (.Call (.Name x p) (e :: es) [] pos) (tNewS C sp E ta) := by
  obtain ⟨fd, F, hb⟩ := G.ok
  have M := G.mkr
  constructor
  intro pins s σ H Q I h
  refine wpAny_Call_Name_kw (ld_glob I hg G.mgC ?_ hdb)
  refine callWith_K (h₀ := X.base) I.ok.mod.kin M.kp (thn (ha.run pos pins s σ H _ I h) fun us s1 ⟨vs, H1, I1, r, q⟩ => ⟨I1.kIn, ?_⟩) he hpl
  show wpAny _ _ (call (.ref C) us) _ _ _
  have pr := q (s1.heap.objs.size + 1) s1.heap.objs.size (I1.hok.fresh (Nat.le_succ _)) I1.fresh (Nat.ne_of_lt (Nat.lt_succ_self _))
  have I2 := Inv.made (C := C) I1
  have r2 : Vals (V.ref (s1.heap.objs.size + 1) :: vs) (Value.ref (s1.heap.objs.size + 1) :: us) := .cons rfl r
  have hl : (Value.ref (s1.heap.objs.size + 1) :: us).length = ps.length := by
    rw [← r2.length]
    exact F.len _ _ _ _ pr
  have hb' := hb _ (Value.ref (s1.heap.objs.size + 1) :: us) I2.kIn (by rw [List.append_nil]; exact hl)
  rw [List.append_nil] at hb'
  refine wpAny_call (make_map (f := He.ma X.K C "__init__") I1.kIn M.makes M.init (beq_iff_eq.mp M.fn) (codeAny_mono (F.run _ X.stack _ _ ⟨Value.ref (s1.heap.objs.size + 1) :: us, []⟩ (Value.ref (s1.heap.objs.size + 1) :: us) _ _ (E σ) (hr.make C us [])
    (I2.env0.make C us []) hb' r2 pr) fun r s' hq' => ?_))
  cases r with
  | error er => exact hx σ pins _ _ er s' I2 hq'
  | ok fl =>
    cases fl with
    | ret u =>
      obtain ⟨v, H', I3, rv, ev, q3⟩ := I2.after hq'
      subst ev
      exact ⟨rv, ⟨V.ref (s1.heap.objs.size + 1), H', I3, rfl, q3⟩⟩
    | next => exact False.elim hq'
    | brk => exact False.elim hq'
    | cont => exact False.elim hq'
end
/-! ### isinstance of flat values against built-in types -/
def tyN : V → String
  | .non => "NoneType"
  | .bl _ => "bool"
  | .int _ => "int"
  | .str _ => "str"
  | _ => ""
theorem flat_ty {K : Frag} {H : Hp} {v : V} (h : flatV v = true) : TyE K H v (.type (tyN v)) := by
  cases v with
  | non => exact .x (.base .non)
  | bl b => exact .x (.base (.bl b))
  | int i => exact .x (.base (.int i))
  | str z => exact .x (.base (.str z))
  | _ => cases h
def isStr : V → Bool
  | .str _ => true
  | _ => false
/-- an int or a bool -/
def isInt : V → Bool
  | .int _ => true
  | .bl _ => true
  | _ => false
def isBl : V → Bool
  | .bl _ => true
  | _ => false
theorem kit_str {v : V} (h : flatV v = true) : kitB (tyN v) "str" = some (isStr v) := by
  cases v with
  | non => show kitB "NoneType" "str" = some false; decide +kernel
  | bl b => show kitB "bool" "str" = some false; decide +kernel
  | int i => show kitB "int" "str" = some false; decide +kernel
  | str z => show kitB "str" "str" = some true; decide +kernel
  | _ => cases h
theorem kit_int {v : V} (h : flatV v = true) : kitB (tyN v) "int" = some (isInt v) := by
  cases v with
  | non => show kitB "NoneType" "int" = some false; decide +kernel
  | bl b => show kitB "bool" "int" = some true; decide +kernel
  | int i => show kitB "int" "int" = some true; decide +kernel
  | str z => show kitB "str" "int" = some false; decide +kernel
  | _ => cases h
theorem kit_bool {v : V} (h : flatV v = true) : kitB (tyN v) "bool" = some (isBl v) := by
  cases v with
  | non => show kitB "NoneType" "bool" = some false; decide +kernel
  | bl b => show kitB "bool" "bool" = some true; decide +kernel
  | int i => show kitB "int" "bool" = some false; decide +kernel
  | str z => show kitB "str" "bool" = some false; decide +kernel
  | _ => cases h
theorem ie_of {K : Frag} {H : Hp} {v : V} {S T : String} {b : Bool} {Q : VK} (ty : TyE K H v (.type S)) (k : kitB S T = some b) (q : Q (.bl b) H) : rIe K [v, .ty T] H Q :=
  ⟨v, .ty T, .type S, .type T, b, rfl, .ty T, ty, kit_ty k, q⟩
end L2.Jk

set_option Elab.async false
set_option linter.all false
set_option maxRecDepth 100000
set_option maxHeartbeats 4000000
/-! A comprehension over a text; a method of an instance whose class shows in the heap; what happens to an error that is raised in a make. -/
namespace L2.Jk
open PySem PySem.W PySem.Spec PySem.Calls PyProof.Rows

theorem lc_str {x : Str} {g : TG} {tt : TT} {te : TE} {vs : List Nat} {σ : St} {H1 : Hp} {D : Addr} {Qd : Hp → Prop} (Pv : Nat → Hp → Prop) (h0 : Pv 0 (upd H1 D (.lst [])))
    (hs : ∀ (i c : Nat) H, x.cps[i]? = some c → Pv i H → g (.str ⟨#[c]⟩) (wipe σ vs) H fun σ2 H2 => wipe σ2 vs = wipe σ vs ∧ tt σ2 H2 fun b H3 =>
      if b = true then te σ2 H3 fun y H4 => ∃ acc, H4 D = some (.lst acc) ∧ acc.length < sizeLine ∧ Pv (i + 1) (upd H4 D (.lst (acc ++ [y]))) else Pv (i + 1) H3) (hd : ∀ H, Pv x.cps.size H → Qd H) :
    ∃ W : Nat → Nat → Hp → Prop, (∃ m, W 0 m (upd H1 D (.lst []))) ∧ ∀ i m H, W i m H →
      ((Its x).stop i H ∧ Qd H) ∨ ((Its x).go i H ∧ ∃ Nx : Hp → Prop, (∀ H', Nx H' → ∃ m', m' < m ∧ W (i + 1) m' H') ∧ ∀ y H', (Its x).yld i H y H' → g y (wipe σ vs) H' fun σ2 H2 => wipe σ2 vs = wipe σ vs ∧ tt σ2 H2 fun b H3 =>
        if b = true then te σ2 H3 fun y H4 => ∃ acc, H4 D = some (.lst acc) ∧ acc.length < sizeLine ∧ Nx (upd H4 D (.lst (acc ++ [y]))) else Nx H3) := by
  refine ⟨fun i m H => m = x.cps.size - i ∧ i ≤ x.cps.size ∧ Pv i H, ⟨x.cps.size, by simp, Nat.zero_le _, h0⟩, ?_⟩
  rintro i m H ⟨rfl, hi, p⟩
  by_cases hlt : i < x.cps.size
  · refine .inr ⟨hlt, Pv (i + 1), fun H' p' => ⟨x.cps.size - (i + 1), by omega, rfl, hlt, p'⟩, fun y H' z => ?_⟩
    obtain ⟨e, c, hc, ev⟩ := z
    subst e ev
    exact hs i c _ hc p
  · have e : i = x.cps.size := by omega
    subst e
    exact .inl ⟨Nat.le_refl _, hd H p⟩
/-- o.m(e, ..), the class of o as the heap has it -/
def tMethD (X : Cx) (CX : CXT) (m : Str) (E : XK) (ta : TE) (t : TA) : TE := fun σ H Q => ta σ H fun x H1 => ∃ (a C dx f : Addr) (fs : List (Str × V)) (k : Nat) (fd : FuncData) (ps : List Str) (sp : Sp), x = .ref a ∧ H1 a = some (.ins C dx fs) ∧ fs.lookup m = none ∧
  Cls X.K C ∧ Meth X.K C m f ∧ FnOk X.prog X.w X.K X.mg X.base CX k f fd ps sp ∧ Room k X.A ∧ Binds X.K fd ps [] ∧ t σ H1 fun vs H2 => sp (x :: vs) H2 Q E
section
variable {X : Cx} {CX : CXT} {E : XK} {o e : Expr} {es : List Expr} {m : Str} {ta : TE} {t : TA} {apos pos : Pos}
theorem pe_methD {pl : Sem Bool} (he : PE X o ta) (hx : Passes CX X E) (ha : PA X (e :: es) t)
    (hst : starEach (e :: es) X.env = (false, eval e X.env) :: starEach es X.env := by rfl) (hpl : (backTo pos (starEach es X.env)).any (·.1) = false := by rfl)
    (ht : eval (.Call (.Attribute o m apos) (e :: es) [] pos) X.env = (do
      let ov ← eval o X.env
      standAt apos.atName
      let (f, first) ← holding [ov] (getMethod ov m pl)
      callWith pos f first (backTo pos (starEach (e :: es) X.env)) (backToKw pos (keywordEach [] X.env))) := by rfl) :
    PE X (.Call (.Attribute o m apos) (e :: es) [] pos) (tMethD X CX m E ta t) := by
  refine ⟨fun pins s σ H Q I h => ?_⟩
  refine PySem.W.methodCall_KW (pl := pl) (thn (he.run pins s σ H _ I h) fun u s1 hh => ?_) ht
  obtain ⟨x, H1, I1, rx, a, C, dx, f, fs, k, fd, ps, sp, ex, ea, l, c, hm, F, hr, hb, q⟩ := hh
  subst ex
  obtain rfl : u = Value.ref a := rx
  refine getmeth_ok I1 ea c hm l ?_
  refine PySem.W.callWith_K (first := [.ref a]) (h₀ := X.base) I.ok.mod.kin hm.kp (thn (ha.run pos pins s1 σ H1 _ I1 q) fun us s2 ⟨vs, H2, I2, r, q2⟩ => ⟨I2.kIn, ?_⟩) hst hpl
  have q2' : sp (V.ref a :: (vs ++ [])) H2 Q E := by rw [List.append_nil]; exact q2
  exact run_fn (us := .ref a :: us) (vs := .ref a :: vs) (dvs := []) (ds := []) F hr hb .nil hx I2 (.cons rfl r) q2'
end
/-- a call that the reading never comes to -/
theorem fn_never {P : Program} {w : World} {K : Frag} {mg : Str → Option Value} {base : Heap} {CX : CXT} {k : Nat} {f : Addr} {fd : FuncData} {ps : List Str} : FnOk P w K mg base CX k f fd ps (fun _ _ _ _ => False) where
  len := fun _ _ _ _ h => False.elim h
  run := fun _ _ _ _ _ _ _ _ _ _ _ _ _ h => False.elim h
theorem same_new {H : Hp} {a dx C : Addr} {fs : List (Str × V)} (ha : H a = none) (hd : H dx = none) : Same H (upd (upd H dx (.own a)) a (.ins C dx fs)) := fun b o e => by
  rw [upd_ne (ne_of_none e ha), upd_ne (ne_of_none e hd)]
  exact e
theorem same_put {H H1 : Hp} {p : Addr} {o : HO} (S : Same H H1) (n : H p = none) : Same H (upd H1 p o) := fun b u e => by
  rw [upd_ne (ne_of_none e n)]
  exact S b u e
end L2.Jk

set_option Elab.async false
set_option linter.all false
set_option maxRecDepth 100000
set_option maxHeartbeats 4000000
/-! The things that are drawn, and what is told of them. -/
namespace L2.K77
open PySem PySem.W PySem.Spec PySem.Calls PyProof.Rows L2.Jk

/-- a kind of things, by what is true of them -/
structure Menu (α : Type) where
  p : α → Prop
instance {α : Type} : Membership α (Menu α) := ⟨fun m a => m.p a⟩
def lenOf : V → Nat
  | .str z => z.length
  | _ => 0
def vM : Menu V := ⟨fun v => flatV v = true ∧ lenOf v ≤ 20⟩
abbrev sM := vM
abbrev eM := vM
abbrev mQ := vM
def nM : Menu V := ⟨fun v => flatV v = true ∧ ∀ i, v = .int i → i ≤ 300⟩
abbrev hM := nM
/-- what the texts of a listed field are drawn from -/
inductive LX where
  | lst (xs : List V)
  | tup (xs : List V)
  | val (v : V)
  deriving DecidableEq
def LX.els : LX → List V
  | .lst xs => xs
  | .tup xs => xs
  | .val _ => []
def dV : V → PyData
  | .bl b => .bool b
  | .int i => .int i
  | .str z => .str z
  | _ => .none
def lM : Menu LX := ⟨fun x => (x = .lst x.els ∨ x = .tup x.els) ∧ x.els.length ≤ 20 ∧ (∀ v ∈ x.els, v ∈ vM) ∧ SeqAt.shaped (.tuple (x.els.map dV)) = true⟩
def wM : Menu V := ⟨fun v => ∃ i, v = .int i ∧ 1 ≤ i ∧ i < 60⟩

/-- text.strip(signs) == '' -/
def madeB (a b : Str) : Bool := decide (V.str (Txt.stripChars a b) = V.str "")
/-- c in z, c one sign -/
def inB (c z : Str) : Bool := decide (c.cps.getD 0 0 ∈ z.cps.toList)
def isSignB : V → Bool
  | .str z => (z.length == 1) && inB z SG
  | _ => false
def areB : V → Bool
  | .str z => madeB z SG
  | _ => false
def sgB : V → Bool
  | .str z => z.cps.toList.all fun c => decide (c ∈ SG.cps.toList)
  | _ => false
def numB : V → Bool
  | .int _ => true
  | _ => false
def lenV : V → Nat
  | .str z => z.length
  | _ => 0
/-- signs that stand twice -/
def twB : V → Bool
  | .str z => decide ((newS (fun i => ⟨#[z.cps.getD i 0]⟩) z.cps.size : Nat) < z.length)
  | _ => false
def sBad (v : V) : Bool := !areB v || (decide (v = .str "") || twB v)
def ltV : V → V → Bool
  | .int a, .int b => decide (a < b)
  | _, _ => false
def bDue (l m : V) : Option Str :=
  if (!numB l || ltV l (.int 0)) = true then some "least" else if (!decide (m = .non) && (!numB m || ltV m l)) = true then some "most" else none
def wDue (w : V) : Option Str := if (!numB w || ltV w (.int 1)) = true then some "width" else none
/-- the texts of a list, if all are texts of signs -/
def strV : V → Str
  | .str z => z
  | _ => ""
def xsBad (xs : List V) : Bool := !xs.all areB || decide ((newS (fun i => (xs.map strV).getD i Str.empty) (xs.map strV).length : Nat) < xs.length)
def lxDue : LX → Option Str
  | .val _ => some "texts"
  | .lst xs => if (decide (xs.length = 0) || xsBad xs) = true then some "texts" else none
  | .tup xs => if (decide (xs.length = 0) || xsBad xs) = true then some "texts" else none
def eDue (s e l m : V) : Option Str :=
  if sBad s = true then some "signs" else if (!isSignB e || inB (strV e) (strV s)) = true then some "sign" else bDue l m
def oDue (s l m : V) : Option Str := if sBad s = true then some "signs" else bDue l m
inductive PD where
  | word (s l m : V)
  | number (l m : V)
  | fixed (w : V)
  | listed (x : LX)
  | ended (s e l m : V)
def PD.due : PD → Option Str
  | .word s l m => oDue s l m
  | .number l m => bDue l m
  | .fixed w => wDue w
  | .listed x => lxDue x
  | .ended s e l m => eDue s e l m
def PD.In : PD → Prop
  | .word s l m => s ∈ sM ∧ l ∈ nM ∧ m ∈ nM
  | .number l m => l ∈ nM ∧ m ∈ hM
  | .fixed w => w ∈ wM
  | .listed x => x ∈ lM
  | .ended s e l m => s ∈ sM ∧ e ∈ eM ∧ l ∈ nM ∧ m ∈ nM
/-- has a sign: what the program asks -/
def dg (n : Int) : Str := Txt.join "" [(toString n : Str)]
def wwB (s m : V) (c : Str) : Bool := inB c (strV s) && !decide (m = .int 0)
def intV : V → Int
  | .int i => i
  | _ => 0
def PD.has (c : Str) : PD → Bool
  | .word s _ m => wwB s m c
  | .number l m => if (decide (m = .non) || decide (9 ≤ intV m - intV l)) = true then inB c DG else (List.range (intV m + 1 - intV l).toNat).any fun (i : Nat) => inB c (dg (intV l + i))
  | .fixed _ => inB c DG
  | .listed x => x.els.any fun v => inB c (strV v)
  | .ended s e _ m => decide (V.str c = e) || wwB s m c
inductive OD where
  | val (v : V)
  | pl (d : PD)
  | mk (n m : V) (i : OD)
def iDue (n m : V) : OD → Option Str
  | .pl d => if (d.has (strV n) || d.has (strV m)) = true then some "field" else none
  | _ => some "field"
def OD.due : OD → Option Str
  | .val _ => none
  | .pl d => d.due
  | .mk n m i => if (!isSignB n) = true then some "none" else if (!isSignB m || decide (m = n)) = true then some "mark" else iDue n m i
theorem one_of {z : Str} (h : z.length = 1) : z = ⟨#[z.cps.getD 0 0]⟩ := by
  obtain ⟨a⟩ := z
  have h : a.size = 1 := h
  cases e : a.toList with
  | nil =>
    have z : a.toList.length = 1 := by rw [Array.length_toList]; exact h
    rw [e] at z
    cases z
  | cons x xs =>
    have z : a.toList.length = 1 := by rw [Array.length_toList]; exact h
    rw [e] at z
    have e2 : xs = [] := List.length_eq_zero_iff.mp (Nat.succ.inj z)
    have e3 : a = #[x] := by rw [← Array.toArray_toList (xs := a), e, e2]
    rw [e3]
    rfl
theorem vM_facts (v : V) (h : v ∈ vM) : flatV v = true ∧ True ∧ True ∧ lenV v ≤ 20 := by
  obtain ⟨h1, h2⟩ := (show flatV v = true ∧ lenOf v ≤ 20 from h)
  refine ⟨h1, trivial, trivial, ?_⟩
  cases v <;> exact h2
theorem one_sign (v : V) (_ : v ∈ vM) (h : lenV v = 1) : v = .str ⟨#[(strV v).cps.getD 0 0]⟩ := by
  cases v with
  | str z => exact congrArg V.str (one_of h)
  | _ => cases h
theorem bDue_none {l m : V} (h : bDue l m = none) : (∃ i, l = .int i ∧ 0 ≤ i) ∧ (m = .non ∨ ∃ j, m = .int j ∧ 0 ≤ j) := by
  unfold bDue at h
  split at h
  · cases h
  · rename_i h1
    split at h
    · cases h
    · rename_i h2
      cases l with
      | int i =>
        have hi : 0 ≤ i := by
          have z : ¬ (decide (i < 0)) = true := fun e => h1 (by show (!true || decide (i < 0)) = true; rw [e]; rfl)
          have : ¬ i < 0 := fun e => z (decide_eq_true e)
          omega
        refine ⟨⟨i, rfl, hi⟩, ?_⟩
        cases m with
        | non => exact .inl rfl
        | int j =>
          refine .inr ⟨j, rfl, ?_⟩
          have z : ¬ (decide (j < i)) = true := fun e => h2 (by show (!decide (V.int j = .non) && (!true || decide (j < i))) = true; rw [e, decide_eq_false (fun z => nomatch z)]; rfl)
          have : ¬ j < i := fun e => z (decide_eq_true e)
          omega
        | _ => exact absurd (by rw [decide_eq_false (fun z => nomatch z)]; rfl) h2
      | _ => exact absurd rfl h1
theorem sBad_str {s : V} (h : sBad s = false) : ∃ z, s = .str z := by
  cases s with
  | str z => exact ⟨z, rfl⟩
  | _ => cases h
theorem scal_flat {v : V} (h : flatV v = true) : scal v v = true := by cases v <;> first | rfl | cases h
theorem oDue_none {s l m : V} (h : oDue s l m = none) : sBad s = false ∧ bDue l m = none := by
  unfold oDue at h
  split at h
  · cases h
  · rename_i k
    exact ⟨Bool.eq_false_iff.mpr k, h⟩
theorem eDue_none {s e l m : V} (h : eDue s e l m = none) : sBad s = false ∧ isSignB e = true ∧ bDue l m = none := by
  unfold eDue at h
  split at h
  · cases h
  · rename_i k
    split at h
    · cases h
    · rename_i k2
      refine ⟨Bool.eq_false_iff.mpr k, ?_, h⟩
      cases z : isSignB e with
      | true => rfl
      | false => exact absurd (by rw [z]; rfl) k2
theorem sign_one {v : V} (h : isSignB v = true) : v = .str ⟨#[(strV v).cps.getD 0 0]⟩ ∧ True := by
  cases v with
  | str z =>
    have k : (z.length == 1) = true := (Bool.and_eq_true_iff.mp h).1
    exact ⟨congrArg V.str (one_of (by simpa using k)), trivial⟩
  | _ => cases h
theorem sM_vM {v : V} (h : v ∈ sM) : v ∈ vM := h
theorem eM_vM {v : V} (h : v ∈ eM) : v ∈ vM := h
theorem mQ_vM {v : V} (h : v ∈ mQ) : v ∈ vM := h
theorem nh {v : V} (h : v ∈ nM) : v ∈ hM := h
theorem word_due (s : V) (_ : s ∈ sM) (l : V) (_ : l ∈ nM) (m : V) (_ : m ∈ nM) (h : oDue s l m = none) : s = .str (strV s) ∧ scal m (.int 0) = true ∧ (scal s s && (scal l l && scal m m)) = true := by
  obtain ⟨h1, h2⟩ := oDue_none h
  obtain ⟨z, rfl⟩ := sBad_str h1
  obtain ⟨⟨i, rfl, _⟩, rfl | ⟨j, rfl, _⟩⟩ := bDue_none h2 <;> exact ⟨rfl, rfl, rfl⟩
theorem num_due (l : V) (hl : l ∈ nM) (m : V) (hm : m ∈ hM) (h : bDue l m = none) : l = .int (intV l) ∧ (m = .non ∨ m = .int (intV m)) ∧ 0 ≤ intV l ∧ intV l ≤ 300 ∧ 0 ≤ intV m ∧ (intV m ≤ 300 ∨ 110 ≤ intV m ∧ intV m ≤ 999999999) ∧ (scal l l && scal m m) = true := by
  obtain ⟨⟨i, rfl, hi⟩, rfl | ⟨j, rfl, hj⟩⟩ := bDue_none h
  · exact ⟨rfl, .inl rfl, hi, hl.2 i rfl, Int.le_refl _, .inl (by decide), rfl⟩
  · exact ⟨rfl, .inr rfl, hi, hl.2 i rfl, hj, .inl (hm.2 j rfl), rfl⟩
theorem fix_due (w : V) (h : w ∈ wM) (_ : wDue w = none) : scal w w = true := by
  obtain ⟨i, rfl, _⟩ := h
  rfl
theorem lx_bad {x : LX} (hx : x ∈ lM) (h : lxDue x = none) : x.els.all areB = true ∧ x.els ≠ [] := by
  obtain ⟨k, _⟩ := hx
  have z : (if (decide (x.els.length = 0) || xsBad x.els) = true then (some "texts" : Option Str) else none) = none := by
    rcases k with k | k <;> (rw [k] at h ⊢; exact h)
  split at z
  · cases z
  · rename_i h1
    refine ⟨?_, fun e => h1 (by rw [e]; rfl)⟩
    cases q : x.els.all areB with
    | true => rfl
    | false => exact absurd (by unfold xsBad; rw [q]; show (_ || (true || _)) = true; rw [Bool.true_or, Bool.or_true]) h1
theorem are_str {v : V} (h : areB v = true) : v = .str (strV v) := by
  cases v with
  | str z => rfl
  | _ => cases h
theorem lst_due (x : LX) (hx : x ∈ lM) (h : lxDue x = none) : (∀ v ∈ x.els, v = .str (strV v)) ∧ x.els.length ≤ 20 ∧ x.els ≠ [] := by
  obtain ⟨h1, h2⟩ := lx_bad hx h
  exact ⟨fun v hv => are_str (List.all_eq_true.mp h1 v hv), hx.2.1, h2⟩
theorem lst_are (x : LX) (hx : x ∈ lM) (h : lxDue x = none) : x.els.all areB = true := (lx_bad hx h).1
theorem end_due (s : V) (_ : s ∈ sM) (e : V) (_ : e ∈ eM) (l : V) (_ : l ∈ nM) (m : V) (_ : m ∈ nM) (h : eDue s e l m = none) : s = .str (strV s) ∧ e = .str ⟨#[(strV e).cps.getD 0 0]⟩ ∧ scal m (.int 0) = true ∧ (scal s s && (scal e e && (scal l l && scal m m))) = true := by
  obtain ⟨h1, h2, h3⟩ := eDue_none h
  obtain ⟨z, rfl⟩ := sBad_str h1
  have ee := (sign_one h2).1
  refine ⟨rfl, ee, ?_⟩
  rw [ee]
  obtain ⟨⟨i, rfl, _⟩, rfl | ⟨j, rfl, _⟩⟩ := bDue_none h3 <;> exact ⟨rfl, rfl⟩
theorem nM_flat (v : V) (h : v ∈ hM) : flatV v = true := h.1
theorem wM_flat (v : V) (h : v ∈ wM) : flatV v = true := by
  obtain ⟨i, rfl, _⟩ := h
  rfl
theorem lM_vM (x : LX) (h : x ∈ lM) : (∀ v ∈ x.els, v ∈ vM) ∧ x.els.length ≤ 20 := ⟨h.2.2.1, h.2.1⟩
theorem lM_val (x : LX) (h : x ∈ lM) : x = .val (.str "ab") ∨ x = .val .non ∨ (x = .lst x.els ∨ x = .tup x.els) := .inr (.inr h.1)
theorem eM_one (e : V) (_ : e ∈ eM) (h : isSignB e = true) : e = .str ⟨#[(strV e).cps.getD 0 0]⟩ := (sign_one h).1
theorem sM_str (s : V) (_ : s ∈ sM) (h : sBad s = false) : s = .str (strV s) := by
  obtain ⟨z, rfl⟩ := sBad_str h
  rfl
theorem mQ_one (v : V) (_ : v ∈ mQ) (h : isSignB v = true) : v = .str ⟨#[(strV v).cps.getD 0 0]⟩ ∧ True := sign_one h
theorem lM_shaped (x : LX) (hx : x ∈ lM) (h : lxDue x = none) : x.els.all flatV = true ∧ SeqAt.shaped (.tuple (x.els.map dV)) = true :=
  ⟨List.all_eq_true.mpr fun v hv => (hx.2.2.1 v hv).1, hx.2.2.2⟩
theorem word_all (s : V) (_ : s ∈ sM) (l : V) (_ : l ∈ nM) (m : V) (_ : m ∈ nM) (h : oDue s l m = none) : s = .str (strV s) ∧ l = .int (intV l) ∧ (m = .non ∨ m = .int (intV m)) := by
  obtain ⟨h1, h2⟩ := oDue_none h
  obtain ⟨z, rfl⟩ := sBad_str h1
  obtain ⟨⟨i, rfl, _⟩, rfl | ⟨j, rfl, _⟩⟩ := bDue_none h2
  · exact ⟨rfl, rfl, .inl rfl⟩
  · exact ⟨rfl, rfl, .inr rfl⟩
theorem end_all (s : V) (_ : s ∈ sM) (e : V) (_ : e ∈ eM) (l : V) (_ : l ∈ nM) (m : V) (_ : m ∈ nM) (h : eDue s e l m = none) : s = .str (strV s) ∧ e = .str (strV e) ∧ l = .int (intV l) ∧ (m = .non ∨ m = .int (intV m)) ∧ (strV e).length ≤ 10 := by
  obtain ⟨h1, h2, h3⟩ := eDue_none h
  obtain ⟨z, rfl⟩ := sBad_str h1
  have ee := (sign_one h2).1
  have el : (strV e).length ≤ 10 := by rw [ee]; show 1 ≤ 10; decide
  have e2 : e = .str (strV e) := by
    cases e with
    | str y => rfl
    | _ => cases h2
  obtain ⟨⟨i, rfl, _⟩, rfl | ⟨j, rfl, _⟩⟩ := bDue_none h3
  · exact ⟨rfl, e2, rfl, .inl rfl, el⟩
  · exact ⟨rfl, e2, rfl, .inr rfl, el⟩
end L2.K77

set_option Elab.async false
set_option linter.all false
set_option maxRecDepth 100000
set_option maxHeartbeats 4000000
/-! Things that may be asked for their class: flat values, lists, tuples, dicts. -/
namespace L2.Jk
open PySem PySem.W PySem.Spec PySem.Calls PyProof.Rows
def Thg (H : Hp) (v : V) : Prop := flatV v = true ∨ ∃ p, v = .ref p ∧ ((∃ xs, H p = some (.lst xs)) ∨ (∃ xs, H p = some (.tup xs)) ∨ ∃ kvs, H p = some (.dK kvs))
theorem Thg.same {H H' : Hp} {v : V} (S : Same H H') : Thg H v → Thg H' v
  | .inl h => .inl h
  | .inr ⟨p, e, .inl ⟨xs, h⟩⟩ => .inr ⟨p, e, .inl ⟨xs, S _ _ h⟩⟩
  | .inr ⟨p, e, .inr (.inl ⟨xs, h⟩)⟩ => .inr ⟨p, e, .inr (.inl ⟨xs, S _ _ h⟩)⟩
  | .inr ⟨p, e, .inr (.inr ⟨xs, h⟩)⟩ => .inr ⟨p, e, .inr (.inr ⟨xs, S _ _ h⟩)⟩
theorem thg_ty {K : Frag} {H : Hp} {v : V} (h : Thg H v) : ∃ T : String, TyE K H v (.type T) ∧ kitB T "str" = some (isStr v) ∧ kitB T "int" = some (isInt v) ∧ kitB T "bool" = some (isBl v) := by
  rcases h with h | ⟨p, rfl, ⟨xs, h⟩ | ⟨xs, h⟩ | ⟨kvs, h⟩⟩
  · exact ⟨_, flat_ty h, kit_str h, kit_int h, kit_bool h⟩
  · exact ⟨"list", .x (.base (.lst h)), by show kitB "list" "str" = some false; decide +kernel, by show kitB "list" "int" = some false; decide +kernel, by show kitB "list" "bool" = some false; decide +kernel⟩
  · exact ⟨"tuple", .x (.base (.tup h)), by show kitB "tuple" "str" = some false; decide +kernel, by show kitB "tuple" "int" = some false; decide +kernel, by show kitB "tuple" "bool" = some false; decide +kernel⟩
  · exact ⟨"dict", .x (.base (.dK h)), by show kitB "dict" "str" = some false; decide +kernel, by show kitB "dict" "int" = some false; decide +kernel, by show kitB "dict" "bool" = some false; decide +kernel⟩
end L2.Jk

set_option Elab.async false
set_option linter.all false
set_option maxRecDepth 100000
set_option maxHeartbeats 4000000
namespace L2.K77
open PySem PySem.W PySem.Spec PySem.Calls PyProof.Rows L2.Jk



/-! ### the law's own numbers: a list of three -/
def StAt (H : Hp) (a : Addr) : Prop := ∃ p q r : Int, H a = some (.lst [.int p, .int q, .int r]) ∧ 0 ≤ p ∧ 0 ≤ q ∧ q < 2147483700 ∧ 0 ≤ r
def spSource : Sp := fun vs H Q _ => ∃ n : Int, vs = [.int n] ∧ ∀ a H', H a = none → Same H H' → StAt H' a → Q (.ref a) H'
def spDraw : Sp := fun vs H Q _ => ∃ (a : Addr) (b : Int), vs = [.ref a, .int b] ∧ StAt H a ∧ 0 < b ∧ b < 1073741824 ∧ ∀ d H', 0 ≤ d → d < b → But a H H' → StAt H' a → Q (.int d) H'
theorem abs_line (n : Int) : 0 ≤ (if n < 0 then -n else n) * (if decide (10 ^ (18 : Int).toNat ≤ (if n < 0 then -n else n)) = true then 1 else 0) := by
  by_cases h : n < 0
  · simp only [if_pos h]
    split <;> omega
  · simp only [if_neg h]
    split <;> omega

structure Bl (mg : Str → Option Value) : Prop where
  abs : mg "abs" = none
  int : mg "int" = none
  bool : mg "bool" = none
  isinstance : mg "isinstance" = none
  range : mg "range" = none
  len : mg "len" = none
  set : mg "set" = none
  type : mg "type" = none
  str : mg "str" = none
  reversed : mg "reversed" = none
  tuple : mg "tuple" = none
  list : mg "list" = none
  any : mg "any" = none
  all : mg "all" = none

theorem bit_line (c : Prop) [Decidable c] : -(2 ^ 64) < (if c then (1 : Int) else 0) ∧ (if c then (1 : Int) else 0) < 2 ^ 64 := by
  split <;> exact ⟨by decide, by decide⟩
/-- the module's own names, the error class -/
structure G0 (P : Program) (w : World) (K : Frag) (mg : Str → Option Value) (base : Heap) : Prop extends Bl mg where
  sg : ∃ t, mg "SIGNS" = some (.str SG t)
  dgs : ∃ t, mg "DIGITS" = some (.str DG t)
  bf : ErrAt P w K mg base "BadField" (He.ga K "BadField") ["what"] "refused badfield"
section
variable {P : Program} {w : World} {K : Frag} {mg : Str → Option Value} {base : Heap} {f : Addr} {fd : FuncData}

theorem pe_sg {X : Cx} {x : Str} {z : Str} {pos : Pos} (h : ∃ t, X.mg x = some (.str z t)) (hg : Gl X x := by rfl) (hd : (x == ("__debug__" : Str)) = false := by decide) : PE X (.Name x pos) (tC (.str z)) := by
  obtain ⟨t, h⟩ := h
  exact pe_glob (v := .str z) hg h ⟨t, rfl⟩ hd

def spMade : Sp := fun vs H Q _ => ∃ a b : Str, vs = [.str a, .str b] ∧ a.length ≤ 1000 ∧ Q (.bl (madeB a b)) H
def spV (p : V → Bool) : Sp := fun vs H Q _ => ∃ v : V, vs = [v] ∧ v ∈ vM ∧ Q (.bl (p v)) H
def spNumT : Sp := fun vs H Q _ => ∃ v : V, vs = [v] ∧ Thg H v ∧ Q (.bl (numB v)) H
def spNum : Sp := fun vs H Q _ => ∃ v : V, vs = [v] ∧ flatV v = true ∧ Q (.bl (numB v)) H
def spDig : Sp := fun vs H Q _ => ∃ n : Int, vs = [.int n] ∧ 0 ≤ n ∧ n < 400 ∧ ∀ H', Same H H' → Q (.str (dg n)) H'
theorem small_line (z : Str) (h : z.length ≤ 1000) : z.length ≤ sizeLine := by
  rw [sizeLine_eq]
  omega

abbrev s_source : Stmt := top 46
theorem sc_source : FnScope ["_law_cell"] ["_law_cell"] (defScope s_source) := ⟨rfl, rfl, rfl, by decide +kernel, rfl, by decide +kernel, by decide +kernel⟩

theorem ok_source (F : FunD K "_law_source" "_law_source" (defArgs s_source) (defBody s_source) (defScope s_source) [] [] f fd) (G : Bl mg) : FnOk P w K mg base CX0 1 f fd ["_law_cell"] spSource := by
  refine F.ok (CX := CX0) sc_source (fun vs H Q E h => ?_) (fun cdv A outer s H vs Q E hr h => ?_)
  · obtain ⟨n, rfl, _⟩ := h
    rfl
  · refine ⟨_, PSs.nox (pss_one (ps_ret (pe_lstS (pa_cons (pe_op op_mul (pe_callB call_abs (by rfl) G.abs (by decide +kernel) (pa_cons (pv 0) pa_nil)) (pe_callTy call_int1 (by rfl) G.int (by decide +kernel) (pa_cons (pe_cmpR op_ge (pe_callB call_abs (by rfl) G.abs (by decide +kernel) (pa_cons (pv 0) pa_nil)) (pe_op op_pow pe_int pe_int) (nomark _)) pa_nil))) (pa_cons (pe_op op_mod (pe_callTy call_int1 (by rfl) G.int (by decide +kernel) (pa_cons (pv 0) pa_nil)) pe_int) (pa_cons pe_int pa_nil)))))), ?_⟩
    obtain ⟨n, rfl, q⟩ := h
    refine ⟨_, rfl, n, rfl, ?_⟩
    refine ⟨_, rfl, n, rfl, _, _, rfl, rfl, ⟨by decide, by decide, by decide⟩, _, _, rfl, rfl, .inr ⟨_, rfl, ?_⟩⟩
    refine ⟨_, _, rfl, rfl, .inr (bit_line _), _, rfl, .inl ⟨_, rfl, _, _, rfl, rfl, (by show (0 : Int) < 2147483629; decide), ?_⟩⟩
    refine ⟨by show 3 ≤ 1000; decide, fun p H' hp S e => q p H' hp S ⟨_, _, _, e, abs_line n, ?_, ?_, by decide⟩⟩
    · exact Int.emod_nonneg _ (by decide)
    · have := Int.emod_lt_of_pos n (show (0 : Int) < 2147483629 by decide)
      omega

abbrev s_draw : Stmt := top 47
theorem sc_draw : FnScope ["_law_source_here", "_law_many", "_law_found", "_law_mixed"] ["_law_source_here", "_law_many"] (defScope s_draw) := ⟨rfl, rfl, rfl, by decide +kernel, rfl, by decide +kernel, by decide +kernel⟩

theorem ok_draw (F : FunD K "_law_draw" "_law_draw" (defArgs s_draw) (defBody s_draw) (defScope s_draw) [] [] f fd) (G : Bl mg) : FnOk P w K mg base CX0 1 f fd ["_law_source_here", "_law_many"] spDraw := by
  refine F.ok (CX := CX0) sc_draw (fun vs H Q E h => ?_) (fun cdv A outer s H vs Q E hr h => ?_)
  · obtain ⟨a, b, rfl, _⟩ := h
    rfl
  · refine ⟨_, PSs.nox (pss_cons (ps_if (pt_cmpR op_gt (pe_ix ix_list (pv 0) pe_int (fun _ _ => rfl)) pe_int (nomark _))
      (pss_cons (ps_set (i := 2) sc_draw.nd rfl (Or.inl rfl) (pe_op op_mod (pe_callTy call_int1 (by rfl) G.int (by decide +kernel) (pa_cons (pe_ix ix_list (pv 0) pe_int (fun _ _ => rfl)) pa_nil)) (pv 1)))
      (pss_cons (ps_asg (pe_op op_fdiv (pe_ix ix_list (pv 0) pe_int (fun _ _ => rfl)) (pv 1)) (pg_sub (pv 0) pe_int set_list))
      (pss_one (ps_ret (pv 2)))))
      pss_nil)
    (pss_cons (ps_asg (pe_op op_add (pe_ix ix_list (pv 0) pe_int (fun _ _ => rfl)) pe_int) (pg_sub (pv 0) pe_int set_list))
    (pss_cons (ps_set (i := 3) sc_draw.nd rfl (Or.inl rfl) (pe_op op_mod (pe_callTy call_int1 (by rfl) G.int (by decide +kernel) (pa_cons (pe_op op_mul (pe_op op_add (pe_op op_add (pe_ix ix_list (pv 0) pe_int (fun _ _ => rfl)) (pe_op op_mul pe_int (pe_ix ix_list (pv 0) pe_int (fun _ _ => rfl)))) pe_int) pe_int) pa_nil)) pe_int))
    (pss_cons (ps_set (i := 3) sc_draw.nd rfl (Or.inl rfl) (pe_op op_mod (pe_callTy call_int1 (by rfl) G.int (by decide +kernel) (pa_cons (pe_op op_mul (pv 3) (pe_op op_add (pe_op op_add (pe_op op_fdiv (pv 3) pe_int) pe_int) (pe_ix ix_list (pv 0) pe_int (fun _ _ => rfl)))) pa_nil)) pe_int))
    (pss_one (ps_ret (pe_op op_mod (pe_callTy call_int1 (by rfl) G.int (by decide +kernel) (pa_cons (pe_op op_fdiv (pe_op op_mod (pe_callTy call_int1 (by rfl) G.int (by decide +kernel) (pa_cons (pe_op op_mul (pv 3) (pe_op op_add (pe_op op_fdiv (pv 3) pe_int) pe_int)) pa_nil)) pe_int) pe_int) pa_nil)) (pv 1)))))))), ?_⟩
    obtain ⟨a, b, rfl, ⟨x, y, z, ha, hx, hy, hy2, hz⟩, hb, hb2, q⟩ := h
    refine ⟨_, rfl, _, _, _, _, rfl, rfl, SqL.of ha, atI_nat (j := 0) rfl, _, _, rfl, rfl, _, rfl, ?_⟩
    refine ite2 (fun h0 => ?_) (fun h0 => ?_)
    · refine ⟨_, rfl, _, _, _, _, rfl, rfl, SqL.of ha, atI_nat (j := 0) rfl, .inl ⟨_, rfl, _, rfl, _, _, rfl, rfl, hb, ?_⟩⟩
      refine ⟨_, rfl, _, _, _, _, rfl, rfl, SqL.of ha, atI_nat (j := 0) rfl, _, rfl, _, _, rfl, rfl, ⟨hb, hb2⟩, ?_⟩
      refine ⟨_, rfl, _, _, _, 0, rfl, rfl, ha, rfl, ?_⟩
      refine ⟨_, rfl, q _ _ (Int.emod_nonneg _ (by omega)) (Int.emod_lt_of_pos _ hb) (but_upd _ _ _) ⟨_, _, _, upd_same, Int.ediv_nonneg hx (by omega), hy, hy2, hz⟩⟩
    · refine ⟨_, rfl, _, _, _, _, rfl, rfl, SqL.of ha, atI_nat (j := 2) rfl, _, _, rfl, rfl, ?_⟩
      refine ⟨_, rfl, _, _, _, 2, rfl, rfl, ha, rfl, ?_⟩
      obtain ⟨H1, e1⟩ : ∃ H1, upd H a (.lst ([V.int x, V.int y, V.int z].set 2 (V.int (z + 1)))) = H1 := ⟨_, rfl⟩
      have ha1 : H1 a = some (.lst [.int x, .int y, .int (z + 1)]) := by rw [← e1, upd_same]; rfl
      rw [e1]
      refine ⟨_, rfl, _, _, _, _, rfl, rfl, SqL.of ha1, atI_nat (j := 1) rfl, _, rfl, _, _, _, _, rfl, rfl, SqL.of ha1, atI_nat (j := 2) rfl, _, _, rfl, rfl, .inl ⟨by decide, by decide⟩, _, _, rfl, rfl, _, _, rfl, rfl, _, _, rfl, rfl, .inr ⟨by decide, by decide⟩, .inl ⟨_, rfl, _, _, rfl, rfl, (by show (0 : Int) < 2147483647; decide), ?_⟩⟩
      have k1 := Int.emod_nonneg ((y + 104729 * (z + 1) + 11) * 48271) (show (2147483647 : Int) ≠ 0 by decide)
      have k2 := Int.emod_lt_of_pos ((y + 104729 * (z + 1) + 11) * 48271) (show (0 : Int) < 2147483647 by decide)
      refine ⟨_, rfl, _, rfl, _, _, rfl, rfl, ⟨by decide, by decide⟩, _, _, rfl, rfl, _, rfl, _, _, _, _, rfl, rfl, SqL.of ha1, atI_nat (j := 2) rfl, _, _, rfl, rfl, _, _, rfl, rfl, .inl ⟨by omega, by omega⟩, .inl ⟨_, rfl, _, _, rfl, rfl, (by show (0 : Int) < 2147483587; decide), ?_⟩⟩
      have k3 := Int.emod_nonneg ((((y + 104729 * (z + 1) + 11) * 48271) % 2147483647) * ((((y + 104729 * (z + 1) + 11) * 48271) % 2147483647) / 1009 + 69621 + (z + 1))) (show (2147483587 : Int) ≠ 0 by decide)
      have k4 := Int.emod_lt_of_pos ((((y + 104729 * (z + 1) + 11) * 48271) % 2147483647) * ((((y + 104729 * (z + 1) + 11) * 48271) % 2147483647) / 1009 + 69621 + (z + 1))) (show (0 : Int) < 2147483587 by decide)
      refine ⟨_, rfl, _, rfl, _, _, rfl, rfl, ⟨by decide, by decide⟩, _, _, rfl, rfl, _, _, rfl, rfl, .inl ⟨by omega, by omega⟩, .inl ⟨_, rfl, _, _, rfl, rfl, (by show (0 : Int) < 2147483563; decide), _, _, rfl, rfl, ⟨by decide, by decide⟩, .inl ⟨_, rfl, _, rfl, _, _, rfl, rfl, hb, ?_⟩⟩⟩
      refine q _ _ (Int.emod_nonneg _ (by omega)) (Int.emod_lt_of_pos _ hb) ?_ ⟨_, _, _, ha1, hx, hy, hy2, by omega⟩
      rw [← e1]
      exact but_upd _ _ _

abbrev s_made_of : Stmt := top 12
theorem sc_made_of : FnScope ["text", "signs"] ["text", "signs"] (defScope s_made_of) := ⟨rfl, rfl, rfl, by decide +kernel, rfl, by decide +kernel, by decide +kernel⟩

theorem ok_made_of (F : FunD K "is_made_of" "is_made_of" (defArgs s_made_of) (defBody s_made_of) (defScope s_made_of) [] [] f fd) (G : G0 P w K mg base) : FnOk P w K mg base CX0 1 f fd ["text", "signs"] spMade := by
  refine F.ok (CX := CX0) sc_made_of (fun vs H Q E h => ?_) (fun cdv A outer s H vs Q E hr h => ?_)
  · obtain ⟨a, b, rfl, _⟩ := h
    rfl
  · refine ⟨_, PSs.nox (pss_one (ps_ret (pe_cmpR op_eq (pe_bm PySem.F.plainAttrs_str PySem.F.slot_str_strip PySem.F.type_str_strip mt_stripChars (pv 0) (pa_cons (pv 1) pa_nil)) pe_str (nomark _)))), ?_⟩
    obtain ⟨a, b, rfl, hz, q⟩ := h
    exact ⟨_, rfl, rfl, _, rfl, a, b, rfl, rfl, small_line a hz, rfl, q⟩

abbrev s_is_sign : Stmt := top 13
theorem sc_is_sign : FnScope ["thing"] ["thing"] (defScope s_is_sign) := ⟨rfl, rfl, rfl, by decide +kernel, rfl, by decide +kernel, by decide +kernel⟩

theorem ok_is_sign (F : FunD K "is_sign" "is_sign" (defArgs s_is_sign) (defBody s_is_sign) (defScope s_is_sign) [] [] f fd) (G : G0 P w K mg base) : FnOk P w K mg base CX0 1 f fd ["thing"] (spV isSignB) := by
  refine F.ok (CX := CX0) sc_is_sign (fun vs H Q E h => ?_) (fun cdv A outer s H vs Q E hr h => ?_)
  · obtain ⟨v, rfl, _⟩ := h
    rfl
  · refine ⟨_, PSs.nox (pss_one (ps_ret (pe_and (pe_callB call_ie (by rfl) G.isinstance (by decide +kernel) (pa_cons (pv 0) (pa_cons (pe_bty (n := "str") (by rfl) G.str (by decide +kernel)) pa_nil))) (pe_and (pe_cmpR op_eq (pe_callB call_len_str (by rfl) G.len (by decide +kernel) (pa_cons (pv 0) pa_nil)) pe_int (nomark _)) (pe_one (pe_cmpR op_in_sign (pv 0) (pe_sg G.sg) (by rfl))))))), ?_⟩
    obtain ⟨v, rfl, hv, q⟩ := h
    obtain ⟨hf, _, _, hz⟩ := vM_facts v hv
    refine ⟨_, rfl, _, _, _, _, _, rfl, .ty _, flat_ty hf, kit_ty (kit_str hf), _, rfl, ?_⟩
    cases v with
    | str z =>
      refine iteT ⟨_, rfl, z, rfl, small_line z (Nat.le_trans hz (by decide)), rfl, _, rfl, ?_⟩
      refine ite2 (fun h1 => ?_) (fun h1 => ?_)
      · have h1' : z.length = 1 := by have := of_decide_eq_true h1; simp at this; omega
        have e := one_sign (.str z) hv h1'
        refine ⟨_, rfl, _, SG, e, rfl, ?_⟩
        have r : isSignB (.str z) = decide (z.cps.getD 0 0 ∈ SG.cps.toList) := by show ((z.length == 1) && inB z SG) = _; rw [h1']; rfl
        rw [r] at q
        exact q
      · have h1' : z.length ≠ 1 := fun e => h1 (by rw [e]; rfl)
        have r : isSignB (.str z) = false := by show ((z.length == 1) && inB z SG) = _; rw [beq_eq_false_iff_ne.mpr h1']; rfl
        rw [r] at q
        exact q
    | non => exact iteF q
    | bl b => exact iteF q
    | int i => exact iteF q
    | _ => cases hf

abbrev s_is_numberT : Stmt := top 16
theorem sc_is_numberT : FnScope ["thing"] ["thing"] (defScope s_is_numberT) := ⟨rfl, rfl, rfl, by decide +kernel, rfl, by decide +kernel, by decide +kernel⟩

theorem ok_is_numberT (F : FunD K "is_number" "is_number" (defArgs s_is_numberT) (defBody s_is_numberT) (defScope s_is_numberT) [] [] f fd) (G : G0 P w K mg base) : FnOk P w K mg base CX0 1 f fd ["thing"] spNumT := by
  refine F.ok (CX := CX0) sc_is_numberT (fun vs H Q E h => ?_) (fun cdv A outer s H vs Q E hr h => ?_)
  · obtain ⟨v, rfl, _⟩ := h
    rfl
  · refine ⟨_, PSs.nox (pss_one (ps_ret (pe_and (pe_callB call_ie (by rfl) G.isinstance (by decide +kernel) (pa_cons (pv 0) (pa_cons (pe_bty (n := "int") (by rfl) G.int (by decide +kernel)) pa_nil))) (pe_one (pe_not (pe_callB call_ie (by rfl) G.isinstance (by decide +kernel) (pa_cons (pv 0) (pa_cons (pe_bty (n := "bool") (by rfl) G.bool (by decide +kernel)) pa_nil)))))))), ?_⟩
    obtain ⟨v, rfl, hf, q⟩ := h
    obtain ⟨T, ty, ks, ki, kb⟩ := thg_ty (K := K) hf
    refine ⟨_, rfl, _, _, _, _, _, rfl, .ty _, ty, kit_ty ki, _, rfl, ?_⟩
    cases v with
    | bl b => exact iteT ⟨_, rfl, _, _, _, _, _, rfl, .ty _, ty, kit_ty kb, _, rfl, q⟩
    | int i => exact iteT ⟨_, rfl, _, _, _, _, _, rfl, .ty _, ty, kit_ty kb, _, rfl, q⟩
    | _ => exact iteF q

theorem ok_is_number (F : FunD K "is_number" "is_number" (defArgs s_is_numberT) (defBody s_is_numberT) (defScope s_is_numberT) [] [] f fd) (G : G0 P w K mg base) : FnOk P w K mg base CX0 1 f fd ["thing"] spNum := (ok_is_numberT F G).imp fun vs H Q E ⟨v, e, h, q⟩ => ⟨v, e, .inl h, q⟩
theorem dg_ok : ∀ n ∈ List.range 400, JoinOk "" [(toString (n : Int) : Str)] = true := by decide +kernel
theorem dg_log : ∀ n ∈ List.range 400, (n : Int).natAbs.log2 < 1920 := by decide +kernel

abbrev s_digits_of : Stmt := top 17
theorem sc_digits_of : FnScope ["number", "limit", "pieces", "piece"] ["number"] (defScope s_digits_of) := ⟨rfl, rfl, rfl, by decide +kernel, rfl, by decide +kernel, by decide +kernel⟩

theorem ok_digits_of (F : FunD K "digits_of" "digits_of" (defArgs s_digits_of) (defBody s_digits_of) (defScope s_digits_of) [] [] f fd) (G : G0 P w K mg base) : FnOk P w K mg base CX0 1 f fd ["number"] spDig := by
  refine F.ok (CX := CX0) sc_digits_of (fun vs H Q E h => ?_) (fun cdv A outer s H vs Q E hr h => ?_)
  · obtain ⟨n, rfl, _⟩ := h
    rfl
  · refine ⟨_, PSs.nox (pss_cons (ps_set (i := 1) sc_digits_of.nd rfl (Or.inl rfl) (pe_op op_pow pe_int pe_int))
    (pss_cons (ps_set (i := 2) sc_digits_of.nd rfl (Or.inl rfl) (pe_lstS pa_nil))
    (pss_cons (ps_while PassesOwn.never (pt_cmpR op_ge (pv 0) (pv 1) (nomark _)) pss_never)
    (pss_cons (ps_expr (pe_bm PySem.F.plainAttrs_list PySem.F.slot_list_append PySem.F.type_list_append mt_append (pv 2) (pa_cons (pe_callTy call_str_int (by rfl) G.str (by decide +kernel) (pa_cons (pv 0) pa_nil)) pa_nil)))
    (pss_one (ps_ret (pe_joinRev rfl (by rfl) G.reversed pe_str (pv 2)))))))), ?_⟩
    obtain ⟨n, rfl, h0, h1, q⟩ := h
    obtain ⟨k, rfl⟩ : ∃ k : Nat, n = (k : Int) := ⟨n.toNat, by omega⟩
    have hk : k ∈ List.range 400 := List.mem_range.mpr (by omega)
    refine ⟨_, _, rfl, rfl, ⟨by decide, by decide, by decide⟩, ?_⟩
    refine ⟨by show 0 ≤ 1000; decide, fun p H1 hp S e => ?_⟩
    refine ⟨fun m σ' H' => m = 0 ∧ σ' = [some (.int (k : Int)), some (.int (10 ^ (64 : Int).toNat)), some (.ref p), none] ∧ H' = H1, ⟨0, rfl, rfl, rfl⟩, ?_⟩
    rintro m σ' H' ⟨rfl, rfl, rfl⟩
    refine ⟨_, rfl, _, rfl, _, _, rfl, rfl, _, rfl, ?_⟩
    refine ite2 (fun hf => ?_) (fun _ => ?_)
    · have z := of_decide_eq_true hf
      have e : (10 : Int) ^ (64 : Int).toNat = 10000000000000000000000000000000000000000000000000000000000000000 := by decide +kernel
      rw [e] at z
      omega
    refine ⟨_, rfl, .inl ⟨rfl, _, SqL.of e⟩, _, rfl, _, rfl, dg_log k hk, p, _, _, rfl, rfl, e, (by rw [sizeLine_eq]; decide), ?_⟩
    refine ⟨_, rfl, _, rfl, p, [(toString (k : Int) : Str)], rfl, SqL.of upd_same, dg_ok k hk, ?_⟩
    exact q _ (same_put S hp)

structure G1 (P : Program) (w : World) (K : Frag) (mg : Str → Option Value) (base : Heap) : Prop extends G0 P w K mg base where
  is_made_of : FnAt P w K mg base CX0 1 "is_made_of" ["text", "signs"] spMade
  is_sign : FnAt P w K mg base CX0 1 "is_sign" ["thing"] (spV isSignB)
  is_number : FnAt P w K mg base CX0 1 "is_number" ["thing"] spNum
  digits_of : FnAt P w K mg base CX0 1 "digits_of" ["number"] spDig

abbrev s_are_signs : Stmt := top 14
theorem sc_are_signs : FnScope ["thing"] ["thing"] (defScope s_are_signs) := ⟨rfl, rfl, rfl, by decide +kernel, rfl, by decide +kernel, by decide +kernel⟩

theorem ok_are_signs (F : FunD K "are_signs" "are_signs" (defArgs s_are_signs) (defBody s_are_signs) (defScope s_are_signs) [] [] f fd) (G : G1 P w K mg base) : FnOk P w K mg base CX0 2 f fd ["thing"] (spV areB) := by
  refine F.ok (CX := CX0) sc_are_signs (fun vs H Q E h => ?_) (fun cdv A outer s H vs Q E hr h => ?_)
  · obtain ⟨v, rfl, _⟩ := h
    rfl
  · refine ⟨_, PSs.nox (pss_one (ps_ret (pe_and (pe_callB call_ie (by rfl) G.isinstance (by decide +kernel) (pa_cons (pv 0) (pa_cons (pe_bty (n := "str") (by rfl) G.str (by decide +kernel)) pa_nil))) (pe_one (pe_fn G.is_made_of hr pass0 (by rfl) (pa_cons (pv 0) (pa_cons (pe_sg G.sg) pa_nil))))))), ?_⟩
    obtain ⟨v, rfl, hv, q⟩ := h
    obtain ⟨hf, _, _, hz⟩ := vM_facts v hv
    refine ⟨_, rfl, _, _, _, _, _, rfl, .ty _, flat_ty hf, kit_ty (kit_str hf), _, rfl, ?_⟩
    cases v with
    | str z => exact iteT ⟨_, rfl, z, SG, rfl, Nat.le_trans hz (by decide), q⟩
    | non => exact iteF q
    | bl b => exact iteF q
    | int i => exact iteF q
    | _ => cases hf

structure G2 (P : Program) (w : World) (K : Frag) (mg : Str → Option Value) (base : Heap) : Prop extends G1 P w K mg base where
  are_signs : FnAt P w K mg base CX0 2 "are_signs" ["thing"] (spV areB)
def spChkS (K : Frag) : Sp := fun vs H Q E => ∃ v : V, vs = [v] ∧ v ∈ sM ∧ (sBad v = false → Q .non H) ∧ (sBad v = true → RaiseE (BF K) "what" (.str "signs") H E)
def spChkB (K : Frag) : Sp := fun vs H Q E => ∃ l m : V, vs = [l, m] ∧ flatV l = true ∧ flatV m = true ∧ (bDue l m = none → Q .non H) ∧ (∀ z, bDue l m = some z → RaiseE (BF K) "what" (.str z) H E)

abbrev s_check_signs : Stmt := top 21
theorem sc_check_signs : FnScope ["signs"] ["signs"] (defScope s_check_signs) := ⟨rfl, rfl, rfl, by decide +kernel, rfl, by decide +kernel, by decide +kernel⟩

theorem ok_check_signs (F : FunD K "check_signs" "check_signs" (defArgs s_check_signs) (defBody s_check_signs) (defScope s_check_signs) [] [] f fd) (G : G2 P w K mg base) : FnOk P w K mg base (L2.CX P w) 3 f fd ["signs"] (spChkS K) := by
  refine F.ok (CX := (L2.CX P w)) sc_check_signs (fun vs H Q E h => ?_) (fun cdv A outer s H vs Q E hr h => ?_)
  · obtain ⟨v, rfl, _⟩ := h
    rfl
  · have hr2 : Room 2 _ := hr
    refine ⟨_, (pss_one (ps_if (PW.pt (pw_or (pt_not (pt_val (pe_fn G.are_signs hr2 pass0 (by rfl) (pa_cons (pv 0) pa_nil)))) (pw_or (pt_cmpR op_eq (pv 0) pe_str (nomark _)) (pw_or1 (pt_cmpR op_lt (pe_lenSetStr rfl (by rfl) G.len (by rfl) G.set (pv 0)) (pe_callB call_len_str (by rfl) G.len (by decide +kernel) (pa_cons (pv 0) pa_nil)) (nomark _))))))
      (pss_one (ps_raise rfl (takes_of rfl rfl rfl rfl) (pmk_1 G.bf hr2 (by rfl) (pa_cons pe_str pa_nil))))
      pss_nil)), ?_⟩
    obtain ⟨v, rfl, hv, q1, q2⟩ := h
    obtain ⟨hf, _, _, hz⟩ := vM_facts v (sM_vM hv)
    refine ⟨_, rfl, v, rfl, sM_vM hv, _, rfl, ?_⟩
    have bad : ∀ h : sBad v = true, _ := fun h => mkO_1 (q2 h)
    show if (!areB v) = true then _ else _
    refine ite2 (fun h1 => bad (by show (!areB v || _) = true; rw [h1]; rfl)) (fun h1 => ?_)
    cases v with
    | str z =>
      refine ⟨_, rfl, rfl, _, rfl, ?_⟩
      refine ite2 (fun h2 => bad (by show (_ || (decide _ || _)) = true; rw [h2]; exact Bool.or_true _)) (fun h2 => ?_)
      refine ⟨_, rfl, z, rfl, Nat.le_trans hz (by decide), _, rfl, z, rfl, small_line z (Nat.le_trans hz (by decide)), _, _, rfl, rfl, _, rfl, ?_⟩
      refine ite2 (fun h3 => bad ?_) (fun h3 => q1 ?_)
      · have h4 : twB (.str z) = true := decide_eq_true (by have := of_decide_eq_true h3; omega)
        show (_ || (_ || twB (.str z))) = true
        rw [h4, Bool.or_true, Bool.or_true]
      · have h4 : twB (.str z) = false := decide_eq_false (fun h => h3 (decide_eq_true (by omega)))
        show (!areB (.str z) || (decide (V.str z = .str "") || twB (.str z))) = false
        rw [h4, Bool.eq_false_iff.mpr h1, Bool.eq_false_iff.mpr h2]
        rfl
    | _ => exact absurd rfl h1

abbrev s_check_span : Stmt := top 22
theorem sc_check_span : FnScope ["least", "most"] ["least", "most"] (defScope s_check_span) := ⟨rfl, rfl, rfl, by decide +kernel, rfl, by decide +kernel, by decide +kernel⟩

theorem ok_check_span (F : FunD K "check_span" "check_span" (defArgs s_check_span) (defBody s_check_span) (defScope s_check_span) [] [] f fd) (G : G2 P w K mg base) : FnOk P w K mg base (L2.CX P w) 3 f fd ["least", "most"] (spChkB K) := by
  refine F.ok (CX := (L2.CX P w)) sc_check_span (fun vs H Q E h => ?_) (fun cdv A outer s H vs Q E hr h => ?_)
  · obtain ⟨l, m, rfl, _⟩ := h
    rfl
  · have hr2 : Room 2 _ := hr
    refine ⟨_, (pss_cons (ps_if (PW.pt (pw_or (pt_not (pt_val (pe_fn G.is_number (hr2.mono (by decide)) pass0 (by rfl) (pa_cons (pv 0) pa_nil)))) (pw_or1 (pt_cmpR op_lt (pv 0) pe_int (nomark _)))))
      (pss_one (ps_raise rfl (takes_of rfl rfl rfl rfl) (pmk_1 G.bf hr2 (by rfl) (pa_cons pe_str pa_nil))))
      pss_nil)
    (pss_one (ps_if (PW.pt (pw_and (pt_cmpR op_notN (pv 1) pe_non (nomark _)) (pw_and1 (PW.pt (pw_or (pt_not (pt_val (pe_fn G.is_number (hr2.mono (by decide)) pass0 (by rfl) (pa_cons (pv 1) pa_nil)))) (pw_or1 (pt_cmpR op_lt (pv 1) (pv 0) (nomark _))))))))
      (pss_one (ps_raise rfl (takes_of rfl rfl rfl rfl) (pmk_1 G.bf hr2 (by rfl) (pa_cons pe_str pa_nil))))
      pss_nil))), ?_⟩
    obtain ⟨l, m, rfl, hl, hm, q1, q2⟩ := h
    refine ⟨_, rfl, l, rfl, hl, _, rfl, ?_⟩
    show if (!numB l) = true then _ else _
    refine ite2 (fun h1 => mkO_1 (q2 _ (by show (if (!numB l || _) = true then _ else _) = _; rw [h1]; rfl))) (fun h1 => ?_)
    cases l with
    | int i =>
      refine ⟨_, rfl, _, _, rfl, rfl, _, rfl, ?_⟩
      refine ite2 (fun h2 => mkO_1 (q2 _ (by show (if (_ || decide (i < 0)) = true then _ else _) = _; rw [h2]; rfl))) (fun h2 => ?_)
      refine ⟨_, rfl, rfl, _, rfl, ?_⟩
      have e0 : bDue (.int i) m = if (!decide (m = .non) && (!numB m || ltV m (.int i))) = true then (some "most" : Option Str) else none := by
        show (if (!true || decide (i < 0)) = true then _ else _) = _
        rw [Bool.eq_false_iff.mpr h2]
        rfl
      rw [e0] at q1 q2
      refine ite2 (fun h3 => ?_) (fun h3 => q1 (by rw [Bool.eq_false_iff.mpr h3]; rfl))
      refine ⟨_, rfl, m, rfl, hm, _, rfl, ?_⟩
      show if (!numB m) = true then _ else _
      refine ite2 (fun h4 => mkO_1 (q2 _ (by rw [h3, h4]; rfl))) (fun h4 => ?_)
      cases m with
      | int j =>
        refine ⟨_, rfl, _, rfl, _, _, rfl, rfl, _, rfl, ?_⟩
        refine ite2 (fun h5 => mkO_1 (q2 _ (by show (if (_ && (_ || decide (j < i))) = true then _ else _) = _; rw [h3, h5]; rfl))) (fun h5 => q1 (by show (if (_ && (!true || decide (j < i))) = true then _ else _) = _; rw [h3, Bool.eq_false_iff.mpr h5]; rfl))
      | _ => exact absurd rfl h4
    | _ => exact absurd rfl h1

def spHww (K : Frag) : Sp := fun vs H Q _ => ∃ (a C dx : Addr) (fs : List (Str × V)) (c : Nat) (z : Str) (m : V), vs = [.ref a, .str ⟨#[c]⟩] ∧ H a = some (.ins C dx fs) ∧ Cls K C ∧ NoAttr K C "signs" ∧ NoAttr K C "most" ∧ fs.lookup ("signs" : Str) = some (.str z) ∧ fs.lookup ("most" : Str) = some m ∧
  scal m (.int 0) = true ∧ Q (.bl (wwB (.str z) m ⟨#[c]⟩)) H

abbrev s_has_words : Stmt := top 25
theorem sc_has_words : FnScope ["field", "sign"] ["field", "sign"] (defScope s_has_words) := ⟨rfl, rfl, rfl, by decide +kernel, rfl, by decide +kernel, by decide +kernel⟩

theorem ok_has_words (F : FunD K "has_words_with" "has_words_with" (defArgs s_has_words) (defBody s_has_words) (defScope s_has_words) [] [] f fd) (G : G0 P w K mg base) : FnOk P w K mg base CX0 1 f fd ["field", "sign"] (spHww K) := by
  refine F.ok (CX := CX0) sc_has_words (fun vs H Q E h => ?_) (fun cdv A outer s H vs Q E hr h => ?_)
  · obtain ⟨a, C, dx, fs, c, z, m, rfl, _⟩ := h
    rfl
  · refine ⟨_, PSs.nox (pss_one (ps_ret (pe_and (pe_cmpR op_in_sign (pv 1) (pe_fld (pv 0) rfl) (by rfl)) (pe_one (pe_cmpR op_ne (pe_fld (pv 0) rfl) pe_int (nomark _)))))), ?_⟩
    obtain ⟨a, C, dx, fs, c, z, m, rfl, ha, hC, n1, n2, l1, l2, sc, q⟩ := h
    refine ⟨_, rfl, _, rfl, a, C, dx, fs, _, rfl, ha, hC, n1, l1, c, z, rfl, rfl, _, rfl, ?_⟩
    refine ite2 (fun h1 => ?_) (fun h1 => ?_)
    · refine ⟨_, rfl, a, C, dx, fs, _, rfl, ha, hC, n2, l2, sc, ?_⟩
      have e : wwB (.str z) m ⟨#[c]⟩ = !decide (m = .int 0) := by show (decide (c ∈ z.cps.toList) && _) = _; rw [h1]; rfl
      rw [e] at q
      exact q
    · have e : wwB (.str z) m ⟨#[c]⟩ = false := by show (decide (c ∈ z.cps.toList) && _) = _; rw [Bool.eq_false_iff.mpr h1]; rfl
      rw [e] at q
      exact q

end
end L2.K77

set_option Elab.async false
set_option linter.all false
set_option maxRecDepth 100000
set_option maxHeartbeats 4000000
/-! 'x' * n, n at least 1. -/
namespace L2.Jk
open PySem PySem.W PySem.Spec PySem.Calls PyProof.Rows
def repS (z : Str) (i : Int) : Str := ⟨(List.replicate i.toNat z.cps).foldl (· ++ ·) #[]⟩
/-- it may be done -/
def repOk (z : Str) (i : Int) : Bool := decide (1 ≤ i) && (decide (i < 1000) && (decide (z.length = 1) && (!Builtin.Str.tooLong (z.length * i.toNat) && decide ((repS z i).length ≤ 16777216))))
theorem op_mulStr {X : Cx} : OpR X (binaryOp .Mult) (fun x y H Q => ∃ (z : Str) (i : Int), x = .str z ∧ y = .int i ∧ repOk z i = true ∧ Q (.str (repS z i)) H) := by
  intro pins s σ H x y v u Q I rx ry h
  obtain ⟨z, i, rfl, rfl, ok, q⟩ := h
  obtain ⟨t, rfl⟩ := rx
  obtain ⟨t', rfl⟩ := ry
  obtain ⟨o1, ok⟩ := Bool.and_eq_true_iff.mp ok
  obtain ⟨o2, ok⟩ := Bool.and_eq_true_iff.mp ok
  obtain ⟨o3, ok⟩ := Bool.and_eq_true_iff.mp ok
  obtain ⟨o4, o5⟩ := Bool.and_eq_true_iff.mp ok
  replace o1 := of_decide_eq_true o1
  replace o2 := of_decide_eq_true o2
  replace o3 := of_decide_eq_true o3
  replace o5 := of_decide_eq_true o5
  have e1 : ¬ i < 1 := by omega
  by_cases h1 : i = 1
  · subst h1
    have er : repS z 1 = z := by
      obtain ⟨c⟩ := z
      show (⟨(List.replicate 1 c).foldl (· ++ ·) #[]⟩ : Str) = ⟨c⟩
      simp
    rw [er] at q
    refine P.mul_str (by decide) (fun _ h => absurd h (by simp)) (fun _ h => absurd h (by simp)) ?_
    rw [if_neg e1, if_pos (show ((1 : Int) == 1 || z.length == 0) = true from rfl)]
    exact ⟨.str z, H, I, ⟨t, rfl⟩, q⟩
  have e2 : (i == 1 || z.length == 0) = false := by
    rw [o3, show (i == 1) = false from beq_eq_false_iff_ne.mpr h1]
    rfl
  refine P.mul_str (by rw [decide_eq_false (by omega), decide_eq_false (by omega)]; rfl) (fun _ _ => ?_) (fun _ _ => by rwa [Bool.not_eq_true'] at o4) ?_
  · rw [o3]
    have h2 : (1 : Int) ≤ (2 ^ 63 - 1) / i := Int.le_ediv_of_mul_le (by omega) (by omega)
    omega
  · rw [if_neg e1, e2]
    exact ⟨by rw [sizeLine_eq]; exact o5, ⟨.str _, H, I.tok _, ⟨_, rfl⟩, q⟩⟩
end L2.Jk

set_option Elab.async false
set_option linter.all false
set_option maxRecDepth 100000
set_option maxHeartbeats 4000000
/-! Tuples of which it is known that they have no dict: made, their methods called. -/
namespace L2.Jk
open PySem PySem.W PySem.Spec PySem.Calls PyProof.Rows
/-- at t: a tuple of these items, an object without a dict -/
def TupZ (H : Hp) (t : Addr) (xs : List V) : Prop := ∃ o : Obj, o.cls = .type "tuple" ∧ o.dict = none ∧ H t = some (.frz o (.tup xs))
theorem TupZ.same {H H' : Hp} {t : Addr} {xs : List V} (S : Same H H') (h : TupZ H t xs) : TupZ H' t xs := by
  obtain ⟨o, c, d, e⟩ := h
  exact ⟨o, c, d, S _ _ e⟩
theorem TupZ.sq {K : Frag} {H : Hp} {t : Addr} {xs : List V} (h : TupZ H t xs) : SqT K H t xs := by
  obtain ⟨o, c, d, e⟩ := h
  exact .inl (.inr ⟨o, e⟩)
section
variable {X : Cx}
def rTupZ (K : Frag) : List V → Hp → VK → Prop := fun xs H Q => ∃ p ys, xs = [.ref p] ∧ ((SqL K H p ys ∧ ∀ l H', H l = none → Same H H' → TupZ H' l ys → Q (.ref l) H') ∨ (SqT K H p ys ∧ Q (.ref p) H))
theorem call_tupleZ : CallR X (.type "tuple") (rTupZ X.K) := by
  intro pins s σ H xs us Q I r h
  obtain ⟨p, ys, rfl, h⟩ := h
  obtain ⟨u, rfl, rx⟩ := vals1 r
  cases rx
  rcases h with ⟨hq, q⟩ | ⟨hq, q⟩
  · obtain ⟨its, r', pl, hz⟩ := I.list hq
    have hlen := r'.length
    refine call_tuple_list pl.isList (fun h' kp => ?_) (by simp only [List.size_toArray] <;> omega)
    have I1 : Inv X pins σ H { s with heap := h' } := I.kept (t' := s.toks) kp
    have I2 : Inv X pins σ (upd H h'.objs.size (.frz { cls := .type "tuple", data := .seq its.toArray } (.tup ys))) { s with heap := h'.push { cls := .type "tuple", data := .seq its.toArray } } :=
      I1.laid (t' := s.toks) (fun b o e => Heap.get?_push_of_some _ e) (Nat.le_refl _) ⟨Heap.get?_push_size _ rfl, show ObjOk X.prog X.w _ _ _ (.tup ys) from ⟨hz, its, r', IsTup.new _ _⟩⟩
    have n := I1.hok.fresh (a := h'.objs.size) (Nat.le_refl _)
    exact ⟨.ref h'.objs.size, _, I2, rfl, q _ _ n (same_upd n) ⟨_, rfl, rfl, upd_same⟩⟩
  · obtain ⟨its, r', pl, hz⟩ := I.tuple hq
    exact call_tuple_same pl ⟨.ref p, H, I, rfl, q⟩
/-- a tuple display -/
def tTupZ (t : TA) : TE := fun σ H Q => t σ H fun xs H1 => xs.length ≤ 1000 ∧ ∀ p H', H1 p = none → Same H1 H' → TupZ H' p xs → Q (.ref p) H'
theorem pe_tupZ {es : List Expr} {t : TA} {pos : Pos} {k} (ha : PA X es t) : PE X (.Tuple es k pos) (tTupZ t) := by
  constructor
  intro pins s σ H Q I h
  refine wpAny_Tuple_spliced (thn (ha.run pos pins s σ H _ I h) fun us s1 ⟨xs, H1, I1, r, z, q⟩ => ?_)
  have z' := Nat.le_of_lt (small1000 z)
  have n : H1 s1.heap.objs.size = none := I1.fresh
  refine ⟨by rw [← r.length]; exact z', .ref s1.heap.objs.size, _, I1.laid (t' := s1.toks) (o := .frz { cls := .type "tuple", data := .seq us.toArray } (.tup xs)) (fun b u e => Heap.get?_push_of_some _ e) (Nat.le_refl _) ?_, rfl, q _ _ n (same_upd n) ⟨_, rfl, rfl, upd_same⟩⟩
  exact ⟨Heap.get?_push_size _ rfl, z', us, r, IsTup.new _ _⟩
/-- o.m(e, ..) of such a tuple -/
def tBMZ (r : V → List V → Hp → VK → Prop) (to : TE) (t : TA) : TE := fun σ H Q => to σ H fun x H1 => (∃ p xs, x = .ref p ∧ TupZ H1 p xs) ∧ t σ H1 fun xs H2 => r x xs H2 Q
variable {o e : Expr} {es : List Expr} {to : TE} {t : TA} {name : Str} {apos cpos : Pos} {id : String} {r : V → List V → Hp → VK → Prop}
theorem pe_bmZ (slot : Slot "tuple" name id) (hty : typeOf (.builtin id) = pure (.type "method_descriptor")) (pa : PlainAttrs "tuple") (hm : MtR X id r) (ho : PE X o to) (ha : PA X (e :: es) t)
    (hbase : attributeBase o name X.env (eval o X.env) = eval o X.env := by rfl)
    (hfew : ((backTo cpos (starEach (e :: es) X.env)).all (fun x => !x.1) && (backToKw cpos (keywordEach [] X.env)).all (fun x => x.1.isSome)
      && decide ((e :: es).length + ([] : List Keyword).length + (if ([] : List Keyword).isEmpty then 0 else 1) < 30)) = true := by rfl)
    (hline : (apos.endLine == cpos.line) = true := by rfl) (hs : starEach (e :: es) X.env = (false, eval e X.env) :: starEach es X.env := by rfl) (hplain : (backTo cpos (starEach es X.env)).any (·.1) = false := by rfl) :
    PE X (.Call (.Attribute o name apos) (e :: es) [] cpos) (tBMZ r to t) := by
  refine ⟨fun pins s σ H Q I h => ?_⟩
  refine wpAny_Call_method_late hbase hfew hline rfl (thn (ho.run pins s σ H _ I h) fun v s1 ⟨x, H1, I1, r1, ⟨p, ys, ex, ob, hc, hd, hp⟩, q1⟩ => ?_)
  subst ex
  obtain rfl : v = Value.ref p := r1
  obtain ⟨hg, _⟩ := (show s1.heap.get? p = some ob ∧ ObjOk X.prog X.w H1 s1.heap p (.tup ys) from I1.hok p _ hp)
  refine ⟨"tuple", id, pa, slot, hty, ⟨ob, hg, hc⟩, (fun a e => by cases e; exact ⟨ob, hg, hd⟩), ?_⟩
  have hA := ha.run cpos pins s1 σ H1 _ I1 q1
  rw [hs] at hA ⊢
  refine Calls.callWith_builtin (by show (false || (backTo cpos (starEach es X.env)).any (·.1)) = false; rw [hplain] <;> rfl) (Calls.evalArgs_plain ?_)
  exact thn hA fun us s2 ⟨vs, H2, I2, r2, q2⟩ => hm pins s2 σ H2 (.ref p) vs (.ref p) us Q I2 rfl r2 q2
end
end L2.Jk

set_option Elab.async false
set_option linter.all false
set_option maxRecDepth 100000
set_option maxHeartbeats 4000000
namespace L2.K77
open PySem PySem.W PySem.Spec PySem.Calls PyProof.Rows L2.Jk
section
variable {P : Program} {w : World} {K : Frag} {mg : Str → Option Value} {base : Heap} {f : Addr} {fd : FuncData}

/-- a field class: its name, its attributes -/
structure C0 (K : Frag) (mg : Str → Option Value) (x : Str) (fs : List Str) : Prop where
  mgC : mg x = some (.ref (He.ga K x))
  cl : Cls K (He.ga K x)
  no : ∀ f ∈ fs, NoAttr K (He.ga K x) f

def fWord (s l m : V) : List (Str × V) := (putF "most" m (putF "least" l (putF "signs" s [])))
theorem lWord_signs {s l m : V} : (fWord s l m).lookup ("signs" : Str) = some s := by unfold fWord; rw [lookup_putF, if_neg (by decide +kernel)]; rw [lookup_putF, if_neg (by decide +kernel)]; rw [lookup_putF, if_pos rfl]
theorem lWord_least {s l m : V} : (fWord s l m).lookup ("least" : Str) = some l := by unfold fWord; rw [lookup_putF, if_neg (by decide +kernel)]; rw [lookup_putF, if_pos rfl]
theorem lWord_most {s l m : V} : (fWord s l m).lookup ("most" : Str) = some m := by unfold fWord; rw [lookup_putF, if_pos rfl]
theorem lWord_hs {s l m : V} : (fWord s l m).lookup ("has_sign" : Str) = none := by unfold fWord; rw [lookup_putF, if_neg (by decide +kernel)]; rw [lookup_putF, if_neg (by decide +kernel)]; rw [lookup_putF, if_neg (by decide +kernel)]; rfl
def fNumber (l m : V) : List (Str × V) := (putF "most" m (putF "least" l []))
theorem lNumber_least {l m : V} : (fNumber l m).lookup ("least" : Str) = some l := by unfold fNumber; rw [lookup_putF, if_neg (by decide +kernel)]; rw [lookup_putF, if_pos rfl]
theorem lNumber_most {l m : V} : (fNumber l m).lookup ("most" : Str) = some m := by unfold fNumber; rw [lookup_putF, if_pos rfl]
theorem lNumber_hs {l m : V} : (fNumber l m).lookup ("has_sign" : Str) = none := by unfold fNumber; rw [lookup_putF, if_neg (by decide +kernel)]; rw [lookup_putF, if_neg (by decide +kernel)]; rfl
def fFixed (w : V) : List (Str × V) := (putF "width" w [])
theorem lFixed_width {w : V} : (fFixed w).lookup ("width" : Str) = some w := by unfold fFixed; rw [lookup_putF, if_pos rfl]
theorem lFixed_hs {w : V} : (fFixed w).lookup ("has_sign" : Str) = none := by unfold fFixed; rw [lookup_putF, if_neg (by decide +kernel)]; rfl
def fListed (x : V) : List (Str × V) := (putF "texts" x [])
theorem lListed_texts {x : V} : (fListed x).lookup ("texts" : Str) = some x := by unfold fListed; rw [lookup_putF, if_pos rfl]
theorem lListed_hs {x : V} : (fListed x).lookup ("has_sign" : Str) = none := by unfold fListed; rw [lookup_putF, if_neg (by decide +kernel)]; rfl
def fEnded (s e l m : V) : List (Str × V) := (putF "most" m (putF "least" l (putF "sign" e (putF "signs" s []))))
theorem lEnded_signs {s e l m : V} : (fEnded s e l m).lookup ("signs" : Str) = some s := by unfold fEnded; rw [lookup_putF, if_neg (by decide +kernel)]; rw [lookup_putF, if_neg (by decide +kernel)]; rw [lookup_putF, if_neg (by decide +kernel)]; rw [lookup_putF, if_pos rfl]
theorem lEnded_sign {s e l m : V} : (fEnded s e l m).lookup ("sign" : Str) = some e := by unfold fEnded; rw [lookup_putF, if_neg (by decide +kernel)]; rw [lookup_putF, if_neg (by decide +kernel)]; rw [lookup_putF, if_pos rfl]
theorem lEnded_least {s e l m : V} : (fEnded s e l m).lookup ("least" : Str) = some l := by unfold fEnded; rw [lookup_putF, if_neg (by decide +kernel)]; rw [lookup_putF, if_pos rfl]
theorem lEnded_most {s e l m : V} : (fEnded s e l m).lookup ("most" : Str) = some m := by unfold fEnded; rw [lookup_putF, if_pos rfl]
theorem lEnded_hs {s e l m : V} : (fEnded s e l m).lookup ("has_sign" : Str) = none := by unfold fEnded; rw [lookup_putF, if_neg (by decide +kernel)]; rw [lookup_putF, if_neg (by decide +kernel)]; rw [lookup_putF, if_neg (by decide +kernel)]; rw [lookup_putF, if_neg (by decide +kernel)]; rfl
def fMarked (n k y : V) : List (Str × V) := (putF "field" y (putF "mark" k (putF "none" n [])))
theorem lMarked_none {n k y : V} : (fMarked n k y).lookup ("none" : Str) = some n := by unfold fMarked; rw [lookup_putF, if_neg (by decide +kernel)]; rw [lookup_putF, if_neg (by decide +kernel)]; rw [lookup_putF, if_pos rfl]
theorem lMarked_mark {n k y : V} : (fMarked n k y).lookup ("mark" : Str) = some k := by unfold fMarked; rw [lookup_putF, if_neg (by decide +kernel)]; rw [lookup_putF, if_pos rfl]
theorem lMarked_field {n k y : V} : (fMarked n k y).lookup ("field" : Str) = some y := by unfold fMarked; rw [lookup_putF, if_pos rfl]
theorem lMarked_hs {n k y : V} : (fMarked n k y).lookup ("has_sign" : Str) = none := by unfold fMarked; rw [lookup_putF, if_neg (by decide +kernel)]; rw [lookup_putF, if_neg (by decide +kernel)]; rw [lookup_putF, if_neg (by decide +kernel)]; rfl

/-- the field d stands at a -/
def FieldAt (K : Frag) (H : Hp) (a : Addr) : PD → Prop
  | .word s l m => ∃ dx, H a = some (.ins (He.ga K "Word") dx (fWord s l m))
  | .number l m => ∃ dx, H a = some (.ins (He.ga K "Number") dx (fNumber l m))
  | .fixed w => ∃ dx, H a = some (.ins (He.ga K "Fixed") dx (fFixed w))
  | .listed x => ∃ dx t, H a = some (.ins (He.ga K "Listed") dx (fListed (.ref t))) ∧ TupZ H t x.els
  | .ended s e l m => ∃ dx, H a = some (.ins (He.ga K "Ended") dx (fEnded s e l m))
theorem FieldAt.same {H H' : Hp} {a : Addr} (S : Same H H') : ∀ {d : PD}, FieldAt K H a d → FieldAt K H' a d
  | .word .., ⟨dx, h⟩ => ⟨dx, S _ _ h⟩
  | .number .., ⟨dx, h⟩ => ⟨dx, S _ _ h⟩
  | .fixed _, ⟨dx, h⟩ => ⟨dx, S _ _ h⟩
  | .listed _, ⟨dx, t, h, k⟩ => ⟨dx, t, S _ _ h, k.same S⟩
  | .ended .., ⟨dx, h⟩ => ⟨dx, S _ _ h⟩
/-- of values that are taken -/
structure G3 (P : Program) (w : World) (K : Frag) (mg : Str → Option Value) (base : Heap) : Prop extends G2 P w K mg base where
  check_signs : FnAt P w K mg base (L2.CX P w) 3 "check_signs" ["signs"] (spChkS K)
  check_span : FnAt P w K mg base (L2.CX P w) 3 "check_span" ["least", "most"] (spChkB K)
  has_words_with : FnAt P w K mg base CX0 1 "has_words_with" ["field", "sign"] (spHww K)
  cWord : C0 K mg "Word" ["signs", "least", "most"]
  cNumber : C0 K mg "Number" ["least", "most"]
  cFixed : C0 K mg "Fixed" ["width"]
  cListed : C0 K mg "Listed" ["texts"]
  cEnded : C0 K mg "Ended" ["signs", "sign", "least", "most"]
  cMarked : C0 K mg "Marked" ["none", "mark", "field"]

def spWord (K : Frag) : Sp := fun vs H Q E => ∃ (a dx : Addr) (s l m : V), vs = [.ref a, s, l, m] ∧ H a = some (.ins (He.ga K "Word") dx []) ∧ s ∈ sM ∧ l ∈ nM ∧ m ∈ nM ∧ (oDue s l m = none → Q .non (upd H a (.ins (He.ga K "Word") dx (fWord s l m)))) ∧
  ∀ z, oDue s l m = some z → RaiseE (BF K) "what" (.str z) H E

abbrev s_Word_init : Stmt := inClass (top 26) 0
theorem sc_Word_init : FnScope ["self", "signs", "least", "most"] ["self", "signs", "least", "most"] (defScope s_Word_init) := ⟨rfl, rfl, rfl, by decide +kernel, rfl, by decide +kernel, by decide +kernel⟩

theorem ok_Word_init (F : FunD K "__init__" "Word.__init__" (defArgs s_Word_init) (defBody s_Word_init) (defScope s_Word_init) [] [] f fd) (G : G3 P w K mg base) : FnOk P w K mg base (L2.CX P w) 4 f fd ["self", "signs", "least", "most"] (spWord K) := by
  refine F.ok (CX := (L2.CX P w)) sc_Word_init (fun vs H Q E h => ?_) (fun cdv A outer s H vs Q E hr h => ?_)
  · obtain ⟨a, dx, s, l, m, rfl, _⟩ := h
    rfl
  · have hr3 : Room 3 _ := hr
    refine ⟨_, (pss_cons (ps_expr (pe_fnS G.check_signs hr3 (fun σ => passAt (takes_of rfl rfl rfl rfl) σ) (by rfl) (pa_cons (pv 1) pa_nil)))
    (pss_cons (ps_expr (pe_fnS G.check_span hr3 (fun σ => passAt (takes_of rfl rfl rfl rfl) σ) (by rfl) (pa_cons (pv 2) (pa_cons (pv 3) pa_nil))))
    (pss_cons (ps_fld (pv 0) (pv 1) rfl)
    (pss_cons (ps_fld (pv 0) (pv 2) rfl)
    (pss_one (ps_fld (pv 0) (pv 3) rfl)))))), ?_⟩
    obtain ⟨a, dx, s, l, m, rfl, ha, hs, hl, hm, q1, q2⟩ := h
    refine ⟨_, rfl, s, rfl, hs, fun e1 => ?_, fun e1 => q2 _ (by unfold oDue; rw [if_pos e1])⟩
    have e0 : oDue s l m = bDue l m := by unfold oDue; rw [e1]; rfl
    rw [e0] at q1 q2
    refine ⟨_, rfl, _, rfl, l, m, rfl, nM_flat l (nh hl), nM_flat m (nh hm), fun e2 => ?_, fun z e2 => q2 z e2⟩
    refine ⟨_, rfl, _, rfl, a, _, dx, _, rfl, ha, G.cWord.cl, G.cWord.no _ (by decide +kernel), (by show 0 < 1000; decide), _, rfl, _, rfl, a, _, dx, _, rfl, upd_same, G.cWord.cl, G.cWord.no _ (by decide +kernel), (by show 1 < 1000; decide), _, rfl, _, rfl, a, _, dx, _, rfl, upd_same, G.cWord.cl, G.cWord.no _ (by decide +kernel), (by show 2 < 1000; decide), ?_⟩
    have z := q1 e2
    show Q .non _
    rw [upd_upd, upd_upd]
    exact z

theorem pi_or {X : Cx} {tg e : Expr} {t1 t2 : TI} (h1 : PI X tg e t1) (h2 : PI X tg e t2) : PI X tg e (fun σ H R => t1 σ H R ∨ t2 σ H R) :=
  ⟨fun pins s σ H R I h => h.elim (h1.run pins s σ H R I) (h2.run pins s σ H R I)⟩
def spNumber (K : Frag) : Sp := fun vs H Q E => ∃ (a dx : Addr) (l m : V), vs = [.ref a, l, m] ∧ H a = some (.ins (He.ga K "Number") dx []) ∧ l ∈ nM ∧ m ∈ hM ∧ (bDue l m = none → Q .non (upd H a (.ins (He.ga K "Number") dx (fNumber l m)))) ∧
  ∀ z, bDue l m = some z → RaiseE (BF K) "what" (.str z) H E

abbrev s_Number_init : Stmt := inClass (top 27) 0
theorem sc_Number_init : FnScope ["self", "least", "most"] ["self", "least", "most"] (defScope s_Number_init) := ⟨rfl, rfl, rfl, by decide +kernel, rfl, by decide +kernel, by decide +kernel⟩

theorem ok_Number_init (F : FunD K "__init__" "Number.__init__" (defArgs s_Number_init) (defBody s_Number_init) (defScope s_Number_init) [] [] f fd) (G : G3 P w K mg base) : FnOk P w K mg base (L2.CX P w) 4 f fd ["self", "least", "most"] (spNumber K) := by
  refine F.ok (CX := (L2.CX P w)) sc_Number_init (fun vs H Q E h => ?_) (fun cdv A outer s H vs Q E hr h => ?_)
  · obtain ⟨a, dx, l, m, rfl, _⟩ := h
    rfl
  · have hr3 : Room 3 _ := hr
    refine ⟨_, (pss_cons (ps_expr (pe_fnS G.check_span hr3 (fun σ => passAt (takes_of rfl rfl rfl rfl) σ) (by rfl) (pa_cons (pv 1) (pa_cons (pv 2) pa_nil))))
    (pss_cons (ps_fld (pv 0) (pv 1) rfl)
    (pss_one (ps_fld (pv 0) (pv 2) rfl)))), ?_⟩
    obtain ⟨a, dx, l, m, rfl, ha, hl, hm, q1, q2⟩ := h
    refine ⟨_, rfl, _, rfl, l, m, rfl, nM_flat l (nh hl), nM_flat m hm, fun e2 => ?_, fun z e2 => q2 z e2⟩
    refine ⟨_, rfl, _, rfl, a, _, dx, _, rfl, ha, G.cNumber.cl, G.cNumber.no _ (by decide +kernel), (by show 0 < 1000; decide), _, rfl, _, rfl, a, _, dx, _, rfl, upd_same, G.cNumber.cl, G.cNumber.no _ (by decide +kernel), (by show 1 < 1000; decide), ?_⟩
    have z := q1 e2
    show Q .non _
    rw [upd_upd]
    exact z

def spFixed (K : Frag) : Sp := fun vs H Q E => ∃ (a dx : Addr) (v : V), vs = [.ref a, v] ∧ H a = some (.ins (He.ga K "Fixed") dx []) ∧ v ∈ wM ∧ (wDue v = none → Q .non (upd H a (.ins (He.ga K "Fixed") dx (fFixed v)))) ∧
  ∀ z, wDue v = some z → RaiseE (BF K) "what" (.str z) H E

abbrev s_Fixed_init : Stmt := inClass (top 28) 0
theorem sc_Fixed_init : FnScope ["self", "width"] ["self", "width"] (defScope s_Fixed_init) := ⟨rfl, rfl, rfl, by decide +kernel, rfl, by decide +kernel, by decide +kernel⟩

theorem ok_Fixed_init (F : FunD K "__init__" "Fixed.__init__" (defArgs s_Fixed_init) (defBody s_Fixed_init) (defScope s_Fixed_init) [] [] f fd) (G : G3 P w K mg base) : FnOk P w K mg base (L2.CX P w) 4 f fd ["self", "width"] (spFixed K) := by
  refine F.ok (CX := (L2.CX P w)) sc_Fixed_init (fun vs H Q E h => ?_) (fun cdv A outer s H vs Q E hr h => ?_)
  · obtain ⟨a, dx, v, rfl, _⟩ := h
    rfl
  · have hr3 : Room 3 _ := hr
    have hr2 : Room 2 _ := hr.mono (by decide)
    refine ⟨_, (pss_cons (ps_if (PW.pt (pw_or (pt_not (pt_val (pe_fn G.is_number (hr2.mono (by decide)) pass0 (by rfl) (pa_cons (pv 1) pa_nil)))) (pw_or1 (pt_cmpR op_lt (pv 1) pe_int (nomark _)))))
      (pss_one (ps_raise rfl (takes_of rfl rfl rfl rfl) (pmk_1 G.bf hr2 (by rfl) (pa_cons pe_str pa_nil))))
      pss_nil)
    (pss_one (ps_fld (pv 0) (pv 1) rfl))), ?_⟩
    obtain ⟨a, dx, v, rfl, ha, hv, q1, q2⟩ := h
    refine ⟨_, rfl, v, rfl, wM_flat v hv, _, rfl, ?_⟩
    show if (!numB v) = true then _ else _
    refine ite2 (fun h1 => mkO_1 (q2 _ (by show (if (!numB v || _) = true then _ else _) = _; rw [h1]; rfl))) (fun h1 => ?_)
    cases v with
    | int i =>
      refine ⟨_, rfl, _, _, rfl, rfl, _, rfl, ?_⟩
      refine ite2 (fun h2 => mkO_1 (q2 _ (by show (if (_ || decide (i < 1)) = true then _ else _) = _; rw [h2]; rfl))) (fun h2 => ?_)
      refine ⟨_, rfl, _, rfl, a, _, dx, _, rfl, ha, G.cFixed.cl, G.cFixed.no _ (by decide +kernel), (by show 0 < 1000; decide), q1 ?_⟩
      show (if (!true || decide (i < 1)) = true then _ else _) = _
      rw [Bool.eq_false_iff.mpr h2]
      rfl
    | _ => exact absurd rfl h1

/-- what is handed in as texts -/
def LXAt (H : Hp) (v : V) : LX → Prop
  | .lst xs => ∃ b, v = .ref b ∧ H b = some (.lst xs)
  | .tup xs => ∃ b, v = .ref b ∧ TupZ H b xs
  | .val u => v = u
theorem LXAt.same {H H' : Hp} {v : V} (S : Same H H') : ∀ {x : LX}, LXAt H v x → LXAt H' v x
  | .lst _, ⟨b, e, h⟩ => ⟨b, e, S _ _ h⟩
  | .tup _, ⟨b, e, h⟩ => ⟨b, e, h.same S⟩
  | .val _, e => e
theorem all_str : ∀ xs : List V, xs.all areB = true → (xs.map strV).map V.str = xs
  | [], _ => rfl
  | v :: xs, h => by
    obtain ⟨h1, h2⟩ := Bool.and_eq_true_iff.mp (show (areB v && xs.all areB) = true from h)
    have e : V.str (strV v) = v := by cases v <;> first | rfl | cases h1
    show V.str (strV v) :: (xs.map strV).map V.str = v :: xs
    rw [e, all_str xs h2]
theorem raise_mono {C : Addr} {g : Str} {v : V} {H H1 : Hp} {E : XK} (S : Same H H1) (h : RaiseE C g v H E) : RaiseE C g v H1 E := fun d H2 hd S2 e => by
  refine h d H2 ?_ (S.trans S2) e
  cases q : H d with
  | none => rfl
  | some o => rw [S d o q] at hd; cases hd
def spListed (K : Frag) : Sp := fun vs H Q E => ∃ (a dx : Addr) (v : V) (x : LX), vs = [.ref a, v] ∧ H a = some (.ins (He.ga K "Listed") dx []) ∧ x ∈ lM ∧ LXAt H v x ∧
  (lxDue x = none → ∀ t H2, Same H H2 → TupZ H2 t x.els → Q .non (upd H2 a (.ins (He.ga K "Listed") dx (fListed (.ref t))))) ∧ ∀ z, lxDue x = some z → RaiseE (BF K) "what" (.str z) H E
theorem kit_LT (K : Frag) : kitAny K (.type "list") [.type "list", .type "tuple"] = some true ∧ kitAny K (.type "tuple") [.type "list", .type "tuple"] = some true ∧ kitAny K (.type "str") [.type "list", .type "tuple"] = some false ∧ kitAny K (.type "NoneType") [.type "list", .type "tuple"] = some false := by
  have k : ∀ {S T : String} {b : Bool}, kitB S T = some b → kitOne K (.type S) (.type T) = some b := fun h => kit_ty h
  refine ⟨?_, ?_, ?_, ?_⟩
  · exact kitAny_cons (b := true) (k (by decide +kernel)) (fun z => nomatch z) (fun _ => rfl)
  · exact kitAny_cons (b := false) (k (by decide +kernel)) (fun _ => kitAny_cons (b := true) (k (by decide +kernel)) (fun z => nomatch z) (fun _ => rfl)) (fun z => nomatch z)
  · exact kitAny_cons (b := false) (k (by decide +kernel)) (fun _ => kitAny_cons (b := false) (k (by decide +kernel)) (fun _ => kitAny_nil) (fun z => nomatch z)) (fun z => nomatch z)
  · exact kitAny_cons (b := false) (k (by decide +kernel)) (fun _ => kitAny_cons (b := false) (k (by decide +kernel)) (fun _ => kitAny_nil) (fun z => nomatch z)) (fun z => nomatch z)
theorem take_succ_map {α β : Type} (g : α → β) {xs : List α} {i : Nat} {x : α} (h : xs[i]? = some x) : (xs.take (i + 1)).map g = (xs.take i).map g ++ [g x] := by
  rw [List.take_add_one, h, List.map_append]
  rfl

abbrev s_Listed_init : Stmt := inClass (top 29) 0
theorem sc_Listed_init : FnScope ["self", "texts", "text"] ["self", "texts"] (defScope s_Listed_init) := ⟨rfl, rfl, rfl, by decide +kernel, rfl, by decide +kernel, by decide +kernel⟩

theorem ok_Listed_init (F : FunD K "__init__" "Listed.__init__" (defArgs s_Listed_init) (defBody s_Listed_init) (defScope s_Listed_init) [] [] f fd) (G : G3 P w K mg base) : FnOk P w K mg base (L2.CX P w) 4 f fd ["self", "texts"] (spListed K) := by
  refine F.ok (CX := (L2.CX P w)) sc_Listed_init (fun vs H Q E h => ?_) (fun cdv A outer s H vs Q E hr h => ?_)
  · obtain ⟨a, dx, v, x, rfl, _⟩ := h
    rfl
  · have hr3 : Room 3 _ := hr
    have hr2 : Room 2 _ := hr.mono (by decide)
    refine ⟨_, (pss_cons (ps_if (PW.pt (pw_or (pt_not (pt_val (pe_callB call_ieT (by rfl) G.isinstance (by decide +kernel) (pa_cons (pv 1) (pa_cons (pe_tupS (pa_cons (pe_bty (n := "list") (by rfl) G.list (by decide +kernel)) (pa_cons (pe_bty (n := "tuple") (by rfl) G.tuple (by decide +kernel)) pa_nil))) pa_nil))))) (pw_or1 (pt_cmpR op_eq (pe_callB call_len_seq (by rfl) G.len (by decide +kernel) (pa_cons (pv 1) pa_nil)) pe_int (nomark _)))))
      (pss_one (ps_raise rfl (takes_of rfl rfl rfl rfl) (pmk_1 G.bf hr2 (by rfl) (pa_cons pe_str pa_nil))))
      pss_nil)
    (pss_cons (ps_if (PW.pt (pw_or (pt_not (pt_val (pe_callB (cr_all rfl) (by rfl) G.all (by decide +kernel) (pa_cons (pe_lc (own := [("text", 2)]) (g := gName 2) (tt := tYes) rfl sc_Listed_init.nd (pi_or (pi_list (pv 1)) (pi_tup (pv 1))) (blkOk_by (N := ["self", "texts", "text"]) (sc := defScope s_Listed_init) (by decide +kernel)) (fun _ _ _ _ _ => pg_name (i := 2) sc_Listed_init.nd rfl (Or.inl rfl)) (fun _ _ _ _ _ => pts_nil) (fun _ _ _ _ _ => (pe_fn G.are_signs hr2 pass0 (by rfl) (pa_cons (pv 2) pa_nil)))) pa_nil)))) (pw_or1 (pt_cmpR op_lt (pe_lenSetSeq rfl (by rfl) G.len (by rfl) G.set (pv 1)) (pe_callB call_len_seq (by rfl) G.len (by decide +kernel) (pa_cons (pv 1) pa_nil)) (nomark _)))))
      (pss_one (ps_raise rfl (takes_of rfl rfl rfl rfl) (pmk_1 G.bf hr2 (by rfl) (pa_cons pe_str pa_nil))))
      pss_nil)
    (pss_one (ps_fld (pv 0) (pe_callTy call_tupleZ (by rfl) G.tuple (by decide +kernel) (pa_cons (pv 1) pa_nil)) rfl)))), ?_⟩
    obtain ⟨a, dx, v, x, rfl, ha, hx, hL, q1, q2⟩ := h
    obtain ⟨hv, hz⟩ := lM_vM x hx
    rcases lM_val x hx with e | e | e
    · subst e
      obtain rfl : v = .str "ab" := hL
      refine ⟨_, rfl, by show 2 ≤ 1000; decide, fun p0 H0 hp0 S0 e0 => ⟨_, p0, _, _, _, false, rfl, e0, .cons (.ty _) (.cons (.ty _) Paired.nil), .x (.base (.str _)), (kit_LT K).2.2.1, _, rfl, iteT (mkO_1 (raise_mono S0 (q2 _ rfl)))⟩⟩
    · subst e
      obtain rfl : v = .non := hL
      refine ⟨_, rfl, by show 2 ≤ 1000; decide, fun p0 H0 hp0 S0 e0 => ⟨_, p0, _, _, _, false, rfl, e0, .cons (.ty _) (.cons (.ty _) Paired.nil), .x (.base .non), (kit_LT K).2.2.2, _, rfl, iteT (mkO_1 (raise_mono S0 (q2 _ rfl)))⟩⟩
    · cases x with
      | val u => rcases e with e | e <;> cases e
      | lst xs =>
      obtain ⟨b, rfl, hb⟩ := hL
      have hz' : xs.length ≤ 20 := hz
      refine ⟨_, rfl, by show 2 ≤ 1000; decide, fun p0 H0 hp0 S0 e0 => ⟨_, p0, _, _, _, true, rfl, e0, .cons (.ty _) (.cons (.ty _) Paired.nil), .x (.base (.lst (S0 _ _ hb))), (kit_LT K).1, _, rfl, iteF ?_⟩⟩
      refine ⟨_, rfl, b, _, rfl, .inl (SqL.of (S0 _ _ hb)), rfl, _, rfl, ?_⟩
      refine ite2 (fun h1 => mkO_1 (raise_mono S0 (q2 _ (by show (if (decide (xs.length = 0) || _) = true then _ else _) = _; rw [show decide (xs.length = 0) = true from decide_eq_true (by have := of_decide_eq_true h1; simpa using this)]; rfl)))) (fun h1 => ?_)
      have n0 : decide (xs.length = 0) = false := decide_eq_false (fun z => h1 (decide_eq_true (by rw [z]; rfl)))
      have eD : lxDue (.lst xs) = if xsBad xs = true then (some "texts" : Option Str) else none := by
        show (if (decide (xs.length = 0) || xsBad xs) = true then _ else _) = _
        rw [n0]
        rfl
      rw [eD] at q1 q2
      refine .inl ⟨_, rfl, b, rfl, ⟨_, SqL.of (S0 _ _ hb)⟩, fun D hD => ?_⟩
      refine lc_list (K := K) (a := b) (xs := xs) (LcP H0 D fun n => (xs.take n).map fun v => V.bl (areB v)) (LcP.start hD rfl) (fun i J hi p => SqL.of (p.1 _ _ (S0 _ _ hb))) ?_ ?_
      · intro i v J hx p
        refine ⟨rfl, _, rfl, v, rfl, hv v (List.mem_of_getElem? hx), p.put (Same.refl _) (take_succ_map _ hx) ?_⟩
        have := (List.getElem?_eq_some_iff.mp hx).1
        omega
      · rintro J ⟨S1, _, eJ, _⟩
        have eJ2 : J D = some (.lst ((xs.map areB).map V.bl)) := by rw [eJ]; show some (HO.lst ((xs.take xs.length).map fun v => V.bl (areB v))) = _; rw [List.take_length, List.map_map]; rfl
        refine ⟨D, xs.map areB, rfl, SqL.of eJ2, _, rfl, ?_⟩
        have ea : (xs.map areB).all id = xs.all areB := by rw [List.all_map]; rfl
        rw [ea]
        show if (!xs.all areB) = true then _ else _
        have S2 : Same H J := S0.trans S1
        refine ite2 (fun h2 => mkO_1 (raise_mono S2 (q2 _ (by unfold xsBad; rw [h2]; rfl)))) (fun h2 => ?_)
        have h2' : xs.all areB = true := by cases z : xs.all areB with | true => rfl | false => exact absurd (by rw [z]; rfl) h2
        refine ⟨_, rfl, b, xs.map strV, rfl, .inl (by rw [all_str xs h2']; exact SqL.of (S2 _ _ hb)), by rw [List.length_map]; omega, _, rfl, b, _, rfl, .inl (SqL.of (S2 _ _ hb)), _, _, rfl, rfl, _, rfl, ?_⟩
        refine ite2 (fun h3 => mkO_1 (raise_mono S2 (q2 _ ?_))) (fun h3 => ?_)
        · unfold xsBad
          rw [show decide ((newS (fun i => (xs.map strV).getD i Str.empty) (xs.map strV).length : Nat) < xs.length) = true from decide_eq_true (by have := of_decide_eq_true h3; omega), Bool.or_true]
          rfl
        · have q1' := q1 (by unfold xsBad; rw [h2', show decide ((newS (fun i => (xs.map strV).getD i Str.empty) (xs.map strV).length : Nat) < xs.length) = false from decide_eq_false (fun z => h3 (decide_eq_true (by omega)))]; rfl)
          refine ⟨_, rfl, b, xs, rfl, .inl ⟨SqL.of (S2 _ _ hb), fun t H3 ht S3 tz => ?_⟩⟩
          refine ⟨_, rfl, a, _, dx, _, rfl, S3 _ _ (S2 _ _ ha), G.cListed.cl, G.cListed.no _ (by decide +kernel), (by show 0 < 1000; decide), ?_⟩
          exact q1' t _ (S2.trans S3) tz
      | tup xs =>
      obtain ⟨b, rfl, hb⟩ := hL
      have hz' : xs.length ≤ 20 := hz
      refine ⟨_, rfl, by show 2 ≤ 1000; decide, fun p0 H0 hp0 S0 e0 => ⟨_, p0, _, _, _, true, rfl, e0, .cons (.ty _) (.cons (.ty _) Paired.nil), .x (.fTuple (hb.same S0).choose_spec.2.2), (kit_LT K).2.1, _, rfl, iteF ?_⟩⟩
      refine ⟨_, rfl, b, _, rfl, .inr ((hb.same S0).sq), rfl, _, rfl, ?_⟩
      refine ite2 (fun h1 => mkO_1 (raise_mono S0 (q2 _ (by show (if (decide (xs.length = 0) || _) = true then _ else _) = _; rw [show decide (xs.length = 0) = true from decide_eq_true (by have := of_decide_eq_true h1; simpa using this)]; rfl)))) (fun h1 => ?_)
      have n0 : decide (xs.length = 0) = false := decide_eq_false (fun z => h1 (decide_eq_true (by rw [z]; rfl)))
      have eD : lxDue (.tup xs) = if xsBad xs = true then (some "texts" : Option Str) else none := by
        show (if (decide (xs.length = 0) || xsBad xs) = true then _ else _) = _
        rw [n0]
        rfl
      rw [eD] at q1 q2
      refine .inr ⟨_, rfl, b, rfl, ⟨_, (hb.same S0).sq⟩, fun D hD => ?_⟩
      refine lc_tup (K := K) (a := b) (xs := xs) (LcP H0 D fun n => (xs.take n).map fun v => V.bl (areB v)) (LcP.start hD rfl) (fun i J hi p => ((hb.same S0).same p.1).sq) ?_ ?_
      · intro i v J hx p
        refine ⟨rfl, _, rfl, v, rfl, hv v (List.mem_of_getElem? hx), p.put (Same.refl _) (take_succ_map _ hx) ?_⟩
        have := (List.getElem?_eq_some_iff.mp hx).1
        omega
      · rintro J ⟨S1, _, eJ, _⟩
        have eJ2 : J D = some (.lst ((xs.map areB).map V.bl)) := by rw [eJ]; show some (HO.lst ((xs.take xs.length).map fun v => V.bl (areB v))) = _; rw [List.take_length, List.map_map]; rfl
        refine ⟨D, xs.map areB, rfl, SqL.of eJ2, _, rfl, ?_⟩
        have ea : (xs.map areB).all id = xs.all areB := by rw [List.all_map]; rfl
        rw [ea]
        show if (!xs.all areB) = true then _ else _
        have S2 : Same H J := S0.trans S1
        refine ite2 (fun h2 => mkO_1 (raise_mono S2 (q2 _ (by unfold xsBad; rw [h2]; rfl)))) (fun h2 => ?_)
        have h2' : xs.all areB = true := by cases z : xs.all areB with | true => rfl | false => exact absurd (by rw [z]; rfl) h2
        refine ⟨_, rfl, b, xs.map strV, rfl, .inr (by rw [all_str xs h2']; exact (hb.same S2).sq), by rw [List.length_map]; omega, _, rfl, b, _, rfl, .inr ((hb.same S2).sq), _, _, rfl, rfl, _, rfl, ?_⟩
        refine ite2 (fun h3 => mkO_1 (raise_mono S2 (q2 _ ?_))) (fun h3 => ?_)
        · unfold xsBad
          rw [show decide ((newS (fun i => (xs.map strV).getD i Str.empty) (xs.map strV).length : Nat) < xs.length) = true from decide_eq_true (by have := of_decide_eq_true h3; omega), Bool.or_true]
          rfl
        · have q1' := q1 (by unfold xsBad; rw [h2', show decide ((newS (fun i => (xs.map strV).getD i Str.empty) (xs.map strV).length : Nat) < xs.length) = false from decide_eq_false (fun z => h3 (decide_eq_true (by omega)))]; rfl)
          refine ⟨_, rfl, b, xs, rfl, .inr ⟨(hb.same S2).sq, ?_⟩⟩
          refine ⟨_, rfl, a, _, dx, _, rfl, S2 _ _ ha, G.cListed.cl, G.cListed.no _ (by decide +kernel), (by show 0 < 1000; decide), ?_⟩
          exact q1' b _ S2 (hb.same S2)


def spEnded (K : Frag) : Sp := fun vs H Q E => ∃ (a dx : Addr) (s e l m : V), vs = [.ref a, s, e, l, m] ∧ H a = some (.ins (He.ga K "Ended") dx []) ∧ s ∈ sM ∧ e ∈ eM ∧ l ∈ nM ∧ m ∈ nM ∧ (eDue s e l m = none → Q .non (upd H a (.ins (He.ga K "Ended") dx (fEnded s e l m)))) ∧
  ∀ z, eDue s e l m = some z → RaiseE (BF K) "what" (.str z) H E

abbrev s_Ended_init : Stmt := inClass (top 30) 0
theorem sc_Ended_init : FnScope ["self", "signs", "sign", "least", "most"] ["self", "signs", "sign", "least", "most"] (defScope s_Ended_init) := ⟨rfl, rfl, rfl, by decide +kernel, rfl, by decide +kernel, by decide +kernel⟩

theorem ok_Ended_init (F : FunD K "__init__" "Ended.__init__" (defArgs s_Ended_init) (defBody s_Ended_init) (defScope s_Ended_init) [] [] f fd) (G : G3 P w K mg base) : FnOk P w K mg base (L2.CX P w) 4 f fd ["self", "signs", "sign", "least", "most"] (spEnded K) := by
  refine F.ok (CX := (L2.CX P w)) sc_Ended_init (fun vs H Q E h => ?_) (fun cdv A outer s H vs Q E hr h => ?_)
  · obtain ⟨a, dx, s, e, l, m, rfl, _⟩ := h
    rfl
  · have hr3 : Room 3 _ := hr
    have hr2 : Room 2 _ := hr.mono (by decide)
    refine ⟨_, (pss_cons (ps_expr (pe_fnS G.check_signs hr3 (fun σ => passAt (takes_of rfl rfl rfl rfl) σ) (by rfl) (pa_cons (pv 1) pa_nil)))
    (pss_cons (ps_if (PW.pt (pw_or (pt_not (pt_val (pe_fn G.is_sign (hr2.mono (by decide)) pass0 (by rfl) (pa_cons (pv 2) pa_nil)))) (pw_or1 (pt_cmpR op_in_sign (pv 2) (pv 1) (by rfl)))))
      (pss_one (ps_raise rfl (takes_of rfl rfl rfl rfl) (pmk_1 G.bf hr2 (by rfl) (pa_cons pe_str pa_nil))))
      pss_nil)
    (pss_cons (ps_expr (pe_fnS G.check_span hr3 (fun σ => passAt (takes_of rfl rfl rfl rfl) σ) (by rfl) (pa_cons (pv 3) (pa_cons (pv 4) pa_nil))))
    (pss_cons (ps_fld (pv 0) (pv 1) rfl)
    (pss_cons (ps_fld (pv 0) (pv 2) rfl)
    (pss_cons (ps_fld (pv 0) (pv 3) rfl)
    (pss_one (ps_fld (pv 0) (pv 4) rfl)))))))), ?_⟩
    obtain ⟨a, dx, s, e, l, m, rfl, ha, hs, he, hl, hm, q1, q2⟩ := h
    refine ⟨_, rfl, s, rfl, hs, fun e1 => ?_, fun e1 => q2 _ (by unfold eDue; rw [if_pos e1])⟩
    have e0 : eDue s e l m = if (!isSignB e || inB (strV e) (strV s)) = true then (some "sign" : Option Str) else bDue l m := by unfold eDue; rw [e1]; rfl
    rw [e0] at q1 q2
    refine ⟨_, rfl, e, rfl, eM_vM he, _, rfl, ?_⟩
    show if (!isSignB e) = true then _ else _
    refine ite2 (fun h1 => mkO_1 (q2 _ (by rw [h1]; rfl))) (fun h1 => ?_)
    have h1' : isSignB e = true := by cases z : isSignB e with | true => rfl | false => exact absurd (by rw [z]; rfl) h1
    refine ⟨_, rfl, _, rfl, _, strV s, eM_one e he h1', sM_str s hs e1, _, rfl, ?_⟩
    show if inB (strV e) (strV s) = true then _ else _
    refine ite2 (fun h2 => mkO_1 (q2 _ (by rw [h2, Bool.or_true]; rfl))) (fun h2 => ?_)
    have h2' : inB (strV e) (strV s) = false := Bool.eq_false_iff.mpr h2
    rw [h1', h2'] at q1 q2
    refine ⟨_, rfl, _, rfl, l, m, rfl, nM_flat l (nh hl), nM_flat m (nh hm), fun e2 => ?_, fun z e2 => q2 z e2⟩
    refine ⟨_, rfl, _, rfl, a, _, dx, _, rfl, ha, G.cEnded.cl, G.cEnded.no _ (by decide +kernel), (by show 0 < 1000; decide), _, rfl, _, rfl, a, _, dx, _, rfl, upd_same, G.cEnded.cl, G.cEnded.no _ (by decide +kernel), (by show 1 < 1000; decide), _, rfl, _, rfl, a, _, dx, _, rfl, upd_same, G.cEnded.cl, G.cEnded.no _ (by decide +kernel), (by show 2 < 1000; decide), _, rfl, _, rfl, a, _, dx, _, rfl, upd_same, G.cEnded.cl, G.cEnded.no _ (by decide +kernel), (by show 3 < 1000; decide), ?_⟩
    have z := q1 e2
    show Q .non _
    rw [upd_upd, upd_upd, upd_upd]
    exact z

def spHasWord (K : Frag) : Sp := fun vs H Q _ => ∃ (a : Addr) (c : Nat) (s l m : V), vs = [.ref a, .str ⟨#[c]⟩] ∧ FieldAt K H a (.word s l m) ∧ PD.In (.word s l m) ∧ PD.due (.word s l m) = none ∧ ∀ H', Same H H' → Q (.bl (PD.has ⟨#[c]⟩ (.word s l m))) H'

def spHasNumber (K : Frag) : Sp := fun vs H Q _ => ∃ (a : Addr) (c : Nat) (l m : V), vs = [.ref a, .str ⟨#[c]⟩] ∧ FieldAt K H a (.number l m) ∧ PD.In (.number l m) ∧ PD.due (.number l m) = none ∧ ∀ H', Same H H' → Q (.bl (PD.has ⟨#[c]⟩ (.number l m))) H'

def spHasFixed (K : Frag) : Sp := fun vs H Q _ => ∃ (a : Addr) (c : Nat) (v : V), vs = [.ref a, .str ⟨#[c]⟩] ∧ FieldAt K H a (.fixed v) ∧ PD.In (.fixed v) ∧ PD.due (.fixed v) = none ∧ ∀ H', Same H H' → Q (.bl (PD.has ⟨#[c]⟩ (.fixed v))) H'

def spHasListed (K : Frag) : Sp := fun vs H Q _ => ∃ (a : Addr) (c : Nat) (x : LX), vs = [.ref a, .str ⟨#[c]⟩] ∧ FieldAt K H a (.listed x) ∧ PD.In (.listed x) ∧ PD.due (.listed x) = none ∧ ∀ H', Same H H' → Q (.bl (PD.has ⟨#[c]⟩ (.listed x))) H'

def spHasEnded (K : Frag) : Sp := fun vs H Q _ => ∃ (a : Addr) (c : Nat) (s e l m : V), vs = [.ref a, .str ⟨#[c]⟩] ∧ FieldAt K H a (.ended s e l m) ∧ PD.In (.ended s e l m) ∧ PD.due (.ended s e l m) = none ∧ ∀ H', Same H H' → Q (.bl (PD.has ⟨#[c]⟩ (.ended s e l m))) H'

abbrev s_Word_has : Stmt := inClass (top 26) 7
theorem sc_Word_has : FnScope ["self", "sign"] ["self", "sign"] (defScope s_Word_has) := ⟨rfl, rfl, rfl, by decide +kernel, rfl, by decide +kernel, by decide +kernel⟩

theorem ok_Word_has (F : FunD K "has_sign" "Word.has_sign" (defArgs s_Word_has) (defBody s_Word_has) (defScope s_Word_has) [] [] f fd) (G : G3 P w K mg base) : FnOk P w K mg base CX0 2 f fd ["self", "sign"] (spHasWord K) := by
  refine F.ok (CX := CX0) sc_Word_has (fun vs H Q E h => ?_) (fun cdv A outer s H vs Q E hr h => ?_)
  · obtain ⟨a, c, s, l, m, rfl, _⟩ := h
    rfl
  · refine ⟨_, PSs.nox (pss_one (ps_ret (pe_fn G.has_words_with hr pass0 (by rfl) (pa_cons (pv 0) (pa_cons (pv 1) pa_nil))))), ?_⟩
    obtain ⟨a, c, s, l, m, rfl, ⟨dx, ha⟩, ⟨hs, hl, hm⟩, hd, q⟩ := h
    obtain ⟨es, sc, _⟩ := word_due s hs l hl m hm hd
    rw [es] at ha q
    exact ⟨_, rfl, _, rfl, a, _, dx, _, c, strV s, m, rfl, ha, G.cWord.cl, G.cWord.no _ (by decide +kernel), G.cWord.no _ (by decide +kernel), lWord_signs, lWord_most, sc, q _ (Same.refl _)⟩

abbrev s_Fixed_has : Stmt := inClass (top 28) 7
theorem sc_Fixed_has : FnScope ["self", "sign"] ["self", "sign"] (defScope s_Fixed_has) := ⟨rfl, rfl, rfl, by decide +kernel, rfl, by decide +kernel, by decide +kernel⟩

theorem ok_Fixed_has (F : FunD K "has_sign" "Fixed.has_sign" (defArgs s_Fixed_has) (defBody s_Fixed_has) (defScope s_Fixed_has) [] [] f fd) (G : G3 P w K mg base) : FnOk P w K mg base CX0 2 f fd ["self", "sign"] (spHasFixed K) := by
  refine F.ok (CX := CX0) sc_Fixed_has (fun vs H Q E h => ?_) (fun cdv A outer s H vs Q E hr h => ?_)
  · obtain ⟨a, c, v, rfl, _⟩ := h
    rfl
  · refine ⟨_, PSs.nox (pss_one (ps_ret (pe_cmpR op_in_sign (pv 1) (pe_sg G.dgs) (by rfl)))), ?_⟩
    obtain ⟨a, c, v, rfl, hf, _, _, q⟩ := h
    exact ⟨_, rfl, c, DG, rfl, rfl, q _ (Same.refl _)⟩

abbrev s_Ended_has : Stmt := inClass (top 30) 7
theorem sc_Ended_has : FnScope ["self", "sign"] ["self", "sign"] (defScope s_Ended_has) := ⟨rfl, rfl, rfl, by decide +kernel, rfl, by decide +kernel, by decide +kernel⟩

theorem ok_Ended_has (F : FunD K "has_sign" "Ended.has_sign" (defArgs s_Ended_has) (defBody s_Ended_has) (defScope s_Ended_has) [] [] f fd) (G : G3 P w K mg base) : FnOk P w K mg base CX0 2 f fd ["self", "sign"] (spHasEnded K) := by
  refine F.ok (CX := CX0) sc_Ended_has (fun vs H Q E h => ?_) (fun cdv A outer s H vs Q E hr h => ?_)
  · obtain ⟨a, c, s, e, l, m, rfl, _⟩ := h
    rfl
  · refine ⟨_, PSs.nox (pss_one (ps_ret (pe_or (pe_cmpR op_eq (pv 1) (pe_fld (pv 0) rfl) (nomark _)) (pe_one (pe_fn G.has_words_with hr pass0 (by rfl) (pa_cons (pv 0) (pa_cons (pv 1) pa_nil))))))), ?_⟩
    obtain ⟨a, c, s, e, l, m, rfl, ⟨dx, ha⟩, ⟨hs, he, hl, hm⟩, hd, q⟩ := h
    obtain ⟨es, ee, sc, _⟩ := end_due s hs e he l hl m hm hd
    have q0 := q _ (Same.refl _)
    refine ⟨_, rfl, _, rfl, a, _, dx, _, _, rfl, ha, G.cEnded.cl, G.cEnded.no _ (by decide +kernel), lEnded_sign, (by rw [ee]; rfl), _, rfl, ?_⟩
    refine ite2 (fun h1 => ?_) (fun h1 => ?_)
    · have r : PD.has ⟨#[c]⟩ (.ended s e l m) = true := by show (decide (V.str ⟨#[c]⟩ = e) || _) = true; rw [h1]; rfl
      rw [r] at q0
      exact q0
    · have r : PD.has ⟨#[c]⟩ (.ended s e l m) = wwB s m ⟨#[c]⟩ := by show (decide (V.str ⟨#[c]⟩ = e) || _) = _; rw [Bool.eq_false_iff.mpr h1]; rfl
      rw [r] at q0
      rw [es] at ha q0
      exact ⟨_, rfl, _, rfl, a, _, dx, _, c, strV s, m, rfl, ha, G.cEnded.cl, G.cEnded.no _ (by decide +kernel), G.cEnded.no _ (by decide +kernel), lEnded_signs, lEnded_most, sc, q0⟩

abbrev s_Listed_has : Stmt := inClass (top 29) 7
theorem sc_Listed_has : FnScope ["self", "sign", "text"] ["self", "sign"] (defScope s_Listed_has) := ⟨rfl, rfl, rfl, by decide +kernel, rfl, by decide +kernel, by decide +kernel⟩

theorem ok_Listed_has (F : FunD K "has_sign" "Listed.has_sign" (defArgs s_Listed_has) (defBody s_Listed_has) (defScope s_Listed_has) [] [] f fd) (G : G3 P w K mg base) : FnOk P w K mg base CX0 2 f fd ["self", "sign"] (spHasListed K) := by
  refine F.ok (CX := CX0) sc_Listed_has (fun vs H Q E h => ?_) (fun cdv A outer s H vs Q E hr h => ?_)
  · obtain ⟨a, c, x, rfl, _⟩ := h
    rfl
  · refine ⟨_, PSs.nox (pss_one (ps_ret (pe_callB (cr_any rfl) (by rfl) G.any (by decide +kernel) (pa_cons (pe_lc (own := [("text", 2)]) (g := gName 2) (tt := tYes) rfl sc_Listed_has.nd (pi_tup (pe_fld (pv 0) rfl)) (blkOk_by (N := ["self", "sign", "text"]) (sc := defScope s_Listed_has) (by decide +kernel)) (fun _ _ _ _ _ => pg_name (i := 2) sc_Listed_has.nd rfl (Or.inl rfl)) (fun _ _ _ _ _ => pts_nil) (fun _ _ _ _ _ => (pe_cmpR op_in_sign (pv 1) (pv 2) (by rfl)))) pa_nil)))), ?_⟩
    obtain ⟨a, c, x, rfl, ⟨dx, t, ha, ht⟩, hx, hd, q⟩ := h
    obtain ⟨hs, hz, _⟩ := lst_due x hx hd
    refine ⟨_, rfl, a, _, dx, _, _, rfl, ha, G.cListed.cl, G.cListed.no _ (by decide +kernel), lListed_texts, t, rfl, ⟨_, ht.sq⟩, fun D hD => ?_⟩
    refine lc_tup (K := K) (a := t) (xs := x.els) (LcP H D fun n => (x.els.take n).map fun v => V.bl (inB ⟨#[c]⟩ (strV v))) (LcP.start hD rfl) (fun i J hi p => (ht.same p.1).sq) ?_ ?_
    · intro i v J hv p
      have ev := hs v (List.mem_of_getElem? hv)
      have := (List.getElem?_eq_some_iff.mp hv).1
      exact ⟨rfl, _, rfl, _, rfl, c, strV v, rfl, ev, p.put (Same.refl _) (take_succ_map _ hv) (by omega)⟩
    · rintro J ⟨S1, _, eJ, _⟩
      have eJ2 : J D = some (.lst ((x.els.map fun v => inB ⟨#[c]⟩ (strV v)).map V.bl)) := by rw [eJ]; show some (HO.lst ((x.els.take x.els.length).map fun v => V.bl (inB ⟨#[c]⟩ (strV v)))) = _; rw [List.take_length, List.map_map]; rfl
      refine ⟨D, _, rfl, SqL.of eJ2, ?_⟩
      rw [List.any_map]
      exact q _ S1

abbrev s_Number_has : Stmt := inClass (top 27) 7
theorem sc_Number_has : FnScope ["self", "sign", "number"] ["self", "sign"] (defScope s_Number_has) := ⟨rfl, rfl, rfl, by decide +kernel, rfl, by decide +kernel, by decide +kernel⟩

theorem ok_Number_has (F : FunD K "has_sign" "Number.has_sign" (defArgs s_Number_has) (defBody s_Number_has) (defScope s_Number_has) [] [] f fd) (G : G3 P w K mg base) : FnOk P w K mg base CX0 2 f fd ["self", "sign"] (spHasNumber K) := by
  refine F.ok (CX := CX0) sc_Number_has (fun vs H Q E h => ?_) (fun cdv A outer s H vs Q E hr h => ?_)
  · obtain ⟨a, c, l, m, rfl, _⟩ := h
    rfl
  · refine ⟨_, PSs.nox (pss_cons (ps_if (PW.pt (pw_or (pt_cmpR op_isN (pe_fld (pv 0) rfl) pe_non (nomark _)) (pw_or1 (pt_cmpR op_ge (pe_op op_sub (pe_fld (pv 0) rfl) (pe_fld (pv 0) rfl)) pe_int (nomark _)))))
      (pss_one (ps_ret (pe_cmpR op_in_sign (pv 1) (pe_sg G.dgs) (by rfl))))
      pss_nil)
    (pss_one (ps_ret (pe_callB (cr_any rfl) (by rfl) G.any (by decide +kernel) (pa_cons (pe_lc (own := [("number", 2)]) (g := gName 2) (tt := tYes) rfl sc_Number_has.nd (pi_range2 (by rfl) G.range (pa_cons (pe_fld (pv 0) rfl) (pa_cons (pe_op op_add (pe_fld (pv 0) rfl) pe_int) pa_nil))) (blkOk_by (N := ["self", "sign", "number"]) (sc := defScope s_Number_has) (by decide +kernel)) (fun _ _ _ _ _ => pg_name (i := 2) sc_Number_has.nd rfl (Or.inl rfl)) (fun _ _ _ _ _ => pts_nil) (fun _ _ _ _ _ => (pe_cmpR op_in_sign (pv 1) (pe_fn G.digits_of hr pass0 (by rfl) (pa_cons (pv 2) pa_nil)) (by rfl)))) pa_nil))))), ?_⟩
    obtain ⟨a, c, l, m, rfl, ⟨dx, ha⟩, ⟨hl, hm⟩, hd, q⟩ := h
    obtain ⟨el, em, hl0, hl1, hm0, hm1, _⟩ := num_due l hl m hm hd
    refine ⟨_, rfl, a, _, dx, _, _, rfl, ha, G.cNumber.cl, G.cNumber.no _ (by decide +kernel), lNumber_most, rfl, _, rfl, ?_⟩
    refine ite2 (fun h1 => ?_) (fun h1 => ?_)
    · have r : PD.has ⟨#[c]⟩ (.number l m) = inB ⟨#[c]⟩ DG := by show (if (decide (m = .non) || _) = true then _ else _) = _; rw [h1]; rfl
      have q0 := q _ (Same.refl _)
      rw [r] at q0
      exact ⟨_, rfl, c, DG, rfl, rfl, q0⟩
    rcases em with em | em
    · exact absurd (decide_eq_true em) h1
    refine ⟨_, rfl, a, _, dx, _, _, rfl, ha, G.cNumber.cl, G.cNumber.no _ (by decide +kernel), lNumber_most, _, rfl, a, _, dx, _, _, rfl, ha, G.cNumber.cl, G.cNumber.no _ (by decide +kernel), lNumber_least, intV m, intV l, em, el, _, _, rfl, rfl, _, rfl, ?_⟩
    refine ite2 (fun h2 => ?_) (fun h2 => ?_)
    · have r : PD.has ⟨#[c]⟩ (.number l m) = inB ⟨#[c]⟩ DG := by show (if (_ || decide (9 ≤ intV m - intV l)) = true then _ else _) = _; rw [h2, Bool.or_true]; rfl
      have q0 := q _ (Same.refl _)
      rw [r] at q0
      exact ⟨_, rfl, c, DG, rfl, rfl, q0⟩
    have h9 : ¬ 9 ≤ intV m - intV l := fun z => h2 (decide_eq_true z)
    have r : PD.has ⟨#[c]⟩ (.number l m) = (List.range (intV m + 1 - intV l).toNat).any fun (i : Nat) => inB ⟨#[c]⟩ (dg (intV l + i)) := by
      show (if (decide (m = .non) || decide (9 ≤ intV m - intV l)) = true then _ else _) = _
      rw [Bool.eq_false_iff.mpr h1, Bool.eq_false_iff.mpr h2]
      rfl
    rw [r] at q
    refine ⟨_, rfl, a, _, dx, _, _, rfl, ha, G.cNumber.cl, G.cNumber.no _ (by decide +kernel), lNumber_least, _, rfl, a, _, dx, _, _, rfl, ha, G.cNumber.cl, G.cNumber.no _ (by decide +kernel), lNumber_most, intV m, 1, em, rfl, intV l, intV m + 1, by rw [el]; rfl, ⟨by omega, by omega, by omega, by omega⟩, fun D hD => ?_⟩
    refine lc_range (lo := intV l) (n := (intV m + 1 - intV l).toNat) (LcP H D fun n => (List.range n).map fun (i : Nat) => V.bl (inB ⟨#[c]⟩ (dg (intV l + i)))) (LcP.start hD rfl) ?_ ?_
    · intro i J hi p
      refine ⟨rfl, _, rfl, _, rfl, _, rfl, by omega, by omega, fun J' S' => ⟨c, _, rfl, rfl, p.put S' (by rw [List.range_succ, List.map_append]; rfl) (by omega)⟩⟩
    · rintro J ⟨S1, _, eJ, _⟩
      have eJ2 : J D = some (.lst (((List.range (intV m + 1 - intV l).toNat).map fun (i : Nat) => inB ⟨#[c]⟩ (dg (intV l + i))).map V.bl)) := by rw [eJ, List.map_map]; rfl
      refine ⟨D, _, rfl, SqL.of eJ2, ?_⟩
      rw [List.any_map]
      exact q _ S1

end
end L2.K77

set_option Elab.async false
set_option linter.all false
set_option maxRecDepth 100000
set_option maxHeartbeats 4000000
namespace L2.K77
open PySem PySem.W PySem.Spec PySem.Calls PyProof.Rows L2.Jk
def PD.ci : PD → Nat
  | .word .. => 0
  | .number .. => 1
  | .fixed _ => 2
  | .listed _ => 3
  | .ended .. => 4
theorem PD.ci_lt (d : PD) : d.ci < 5 := by cases d <;> simp [PD.ci]
/-- what the head says of a field class beyond C0 -/
structure KC (K : Frag) (C : Addr) : Prop where
  kk : findIn K (.ref C) "__class__" = some (some (.builtin "object.__class__"))
  km : mroIn K C (.type "object") = some true
  nf : notFirst K C (.type "tuple") = true
  eq : EqcC K C
  ke : keepIn K (.ref (He.ma K C "__eq__")) = true
structure G4 (P : Program) (w : World) (K : Frag) (mg : Str → Option Value) (base : Heap) : Prop extends G3 P w K mg base where
  kc : ∀ i, i < 6 → KC K (ca K i)
  kn : specialIn K (.builtin "object.__class__") "__get__" = some (some (.builtin "getset_descriptor.__get__"))
  kt : takesIn K (.builtin "object.__class__") = some true
  kit : ∀ i j, i < 6 → j < 6 → kitOne K (.ref (ca K i)) (.ref (ca K j)) = some (decide (i = j))
  kitN : ∀ j, j < 6 → kitOne K (.type "NoneType") (.ref (ca K j)) = some false
  kitS : ∀ j, j < 6 → kitOne K (.type "str") (.ref (ca K j)) = some false
section
variable {P : Program} {w : World} {K : Frag} {mg : Str → Option Value} {base : Heap} {f : Addr} {fd : FuncData}
theorem FieldAt.ins {H : Hp} {y : Addr} : ∀ {d : PD}, FieldAt K H y d → ∃ dx fs, H y = some (.ins (ca K d.ci) dx fs) ∧ fs.lookup ("has_sign" : Str) = none
  | .word .., ⟨dx, h⟩ => ⟨dx, _, h, lWord_hs⟩
  | .number .., ⟨dx, h⟩ => ⟨dx, _, h, lNumber_hs⟩
  | .fixed _, ⟨dx, h⟩ => ⟨dx, _, h, lFixed_hs⟩
  | .listed _, ⟨dx, t, h, k⟩ => ⟨dx, _, h, lListed_hs⟩
  | .ended .., ⟨dx, h⟩ => ⟨dx, _, h, lEnded_hs⟩
theorem G4.cl (G : G4 P w K mg base) : ∀ i, i < 6 → Cls K (ca K i)
  | 0, _ => G.cWord.cl
  | 1, _ => G.cNumber.cl
  | 2, _ => G.cFixed.cl
  | 3, _ => G.cListed.cl
  | 4, _ => G.cEnded.cl
  | 5, _ => G.cMarked.cl
  | n + 6, h => absurd h (by omega)
theorem G4.ty (G : G4 P w K mg base) {H : Hp} {y dx : Addr} {fs : List (Str × V)} {i : Nat} (hi : i < 6) (h : H y = some (.ins (ca K i) dx fs)) : TyE K H (.ref y) (.ref (ca K i)) :=
  .x (.base (.ins h (G.cl i hi) (G.kc i hi).kk G.kn G.kt (G.kc i hi).km))
theorem dp_flat {H : Hp} : ∀ {v : V}, flatV v = true → Dp K H v (dV v)
  | .non, _ => .non
  | .bl b, _ => .bl b
  | .int i, _ => .int i
  | .str z, _ => .str z
theorem dpAll_flat {H : Hp} : ∀ {xs : List V}, xs.all flatV = true → DpAll K H xs (xs.map dV)
  | [], _ => .nil
  | v :: xs, h => by
    obtain ⟨h1, h2⟩ := Bool.and_eq_true_iff.mp (show (flatV v && xs.all flatV) = true from h)
    exact .cons (dp_flat h1) (dpAll_flat h2)

def spEqWord (K : Frag) : Sp := fun vs H Q _ => ∃ (a : Addr) (u : V) (s l m : V), vs = [.ref a, u] ∧ FieldAt K H a (.word s l m) ∧ PD.In (.word s l m) ∧ PD.due (.word s l m) = none ∧
  ((∃ b, u = .ref b ∧ FieldAt K H b (.word s l m) ∧ Q (.bl true) H) ∨ (∃ b xs, u = .ref b ∧ H b = some (.tup xs) ∧ Q (.bl false) H))

def spEqNumber (K : Frag) : Sp := fun vs H Q _ => ∃ (a : Addr) (u : V) (l m : V), vs = [.ref a, u] ∧ FieldAt K H a (.number l m) ∧ PD.In (.number l m) ∧ PD.due (.number l m) = none ∧
  ((∃ b, u = .ref b ∧ FieldAt K H b (.number l m) ∧ Q (.bl true) H) ∨ (∃ b xs, u = .ref b ∧ H b = some (.tup xs) ∧ Q (.bl false) H))

def spEqFixed (K : Frag) : Sp := fun vs H Q _ => ∃ (a : Addr) (u : V) (v : V), vs = [.ref a, u] ∧ FieldAt K H a (.fixed v) ∧ PD.In (.fixed v) ∧ PD.due (.fixed v) = none ∧
  ((∃ b, u = .ref b ∧ FieldAt K H b (.fixed v) ∧ Q (.bl true) H) ∨ (∃ b xs, u = .ref b ∧ H b = some (.tup xs) ∧ Q (.bl false) H))

def spEqListed (K : Frag) : Sp := fun vs H Q _ => ∃ (a : Addr) (u : V) (x : LX), vs = [.ref a, u] ∧ FieldAt K H a (.listed x) ∧ PD.In (.listed x) ∧ PD.due (.listed x) = none ∧
  ((∃ b, u = .ref b ∧ FieldAt K H b (.listed x) ∧ Q (.bl true) H) ∨ (∃ b xs, u = .ref b ∧ H b = some (.tup xs) ∧ Q (.bl false) H))

def spEqEnded (K : Frag) : Sp := fun vs H Q _ => ∃ (a : Addr) (u : V) (s e l m : V), vs = [.ref a, u] ∧ FieldAt K H a (.ended s e l m) ∧ PD.In (.ended s e l m) ∧ PD.due (.ended s e l m) = none ∧
  ((∃ b, u = .ref b ∧ FieldAt K H b (.ended s e l m) ∧ Q (.bl true) H) ∨ (∃ b xs, u = .ref b ∧ H b = some (.tup xs) ∧ Q (.bl false) H))

abbrev s_Word_eq : Stmt := inClass (top 26) 1
theorem sc_Word_eq : FnScope ["self", "other"] ["self", "other"] (defScope s_Word_eq) := ⟨rfl, rfl, rfl, by decide +kernel, rfl, by decide +kernel, by decide +kernel⟩

theorem ok_Word_eq (F : FunD K "__eq__" "Word.__eq__" (defArgs s_Word_eq) (defBody s_Word_eq) (defScope s_Word_eq) [] [] f fd) (G : G4 P w K mg base) : FnOk P w K mg base CX0 1 f fd ["self", "other"] (spEqWord K) := by
  refine F.ok (CX := CX0) sc_Word_eq (fun vs H Q E h => ?_) (fun cdv A outer s H vs Q E hr h => ?_)
  · obtain ⟨a, u, s, l, m, rfl, _⟩ := h
    rfl
  · refine ⟨_, PSs.nox (pss_one (ps_ret (pe_and (pe_cmpR op_isA (pe_callTy call_tyA (by rfl) G.type (by decide +kernel) (pa_cons (pv 0) pa_nil)) (pe_callTy call_tyA (by rfl) G.type (by decide +kernel) (pa_cons (pv 1) pa_nil)) (nomark _)) (pe_and (pe_cmpR op_eq (pe_fld (pv 0) rfl) (pe_fld (pv 1) rfl) (nomark _)) (pe_and (pe_cmpR op_eq (pe_fld (pv 0) rfl) (pe_fld (pv 1) rfl) (nomark _)) (pe_one (pe_cmpR op_eq (pe_fld (pv 0) rfl) (pe_fld (pv 1) rfl) (nomark _)))))))), ?_⟩
    obtain ⟨a, u, s, l, m, rfl, ⟨dx, ha⟩, hin, hd, h⟩ := h
    obtain ⟨hs, hl, hm⟩ := hin
    obtain ⟨_, _, z⟩ := word_due s hs l hl m hm hd
    obtain ⟨k0, z⟩ := Bool.and_eq_true_iff.mp z
    obtain ⟨k1, k2⟩ := Bool.and_eq_true_iff.mp z

    rcases h with ⟨b, rfl, ⟨dy, hb⟩, q⟩ | ⟨b, xs, rfl, hb, q⟩
    · refine ⟨_, rfl, _, rfl, .inl ⟨a, _, dx, _, rfl, ha, _, rfl, _, rfl, .inl ⟨b, _, dy, _, rfl, hb, _, rfl, .inl ⟨_, rfl, .inl rfl, _, rfl, ?_⟩⟩⟩⟩
      refine ite2 (fun _ => ?_) (fun h => absurd (decide_eq_true rfl) h)
      refine ⟨_, rfl, a, _, dx, _, _, rfl, ha, G.cWord.cl, G.cWord.no _ (by decide +kernel), lWord_signs, _, rfl, b, _, dy, _, _, rfl, hb, G.cWord.cl, G.cWord.no _ (by decide +kernel), lWord_signs, k0, _, rfl, ?_⟩
      refine ite2 (fun _ => ?_) (fun h => absurd (decide_eq_true rfl) h)
      refine ⟨_, rfl, a, _, dx, _, _, rfl, ha, G.cWord.cl, G.cWord.no _ (by decide +kernel), lWord_least, _, rfl, b, _, dy, _, _, rfl, hb, G.cWord.cl, G.cWord.no _ (by decide +kernel), lWord_least, k1, _, rfl, ?_⟩
      refine ite2 (fun _ => ?_) (fun h => absurd (decide_eq_true rfl) h)
      refine ⟨_, rfl, a, _, dx, _, _, rfl, ha, G.cWord.cl, G.cWord.no _ (by decide +kernel), lWord_most, _, rfl, b, _, dy, _, _, rfl, hb, G.cWord.cl, G.cWord.no _ (by decide +kernel), lWord_most, k2, ?_⟩
      rw [decide_eq_true rfl]
      exact q
    · exact ⟨_, rfl, _, rfl, .inl ⟨a, _, dx, _, rfl, ha, _, rfl, _, rfl, .inr ⟨_, .tup hb, _, rfl, .inr ⟨_, rfl, _, rfl, iteF q⟩⟩⟩⟩


abbrev s_Number_eq : Stmt := inClass (top 27) 1
theorem sc_Number_eq : FnScope ["self", "other"] ["self", "other"] (defScope s_Number_eq) := ⟨rfl, rfl, rfl, by decide +kernel, rfl, by decide +kernel, by decide +kernel⟩

theorem ok_Number_eq (F : FunD K "__eq__" "Number.__eq__" (defArgs s_Number_eq) (defBody s_Number_eq) (defScope s_Number_eq) [] [] f fd) (G : G4 P w K mg base) : FnOk P w K mg base CX0 1 f fd ["self", "other"] (spEqNumber K) := by
  refine F.ok (CX := CX0) sc_Number_eq (fun vs H Q E h => ?_) (fun cdv A outer s H vs Q E hr h => ?_)
  · obtain ⟨a, u, l, m, rfl, _⟩ := h
    rfl
  · refine ⟨_, PSs.nox (pss_one (ps_ret (pe_and (pe_cmpR op_isA (pe_callTy call_tyA (by rfl) G.type (by decide +kernel) (pa_cons (pv 0) pa_nil)) (pe_callTy call_tyA (by rfl) G.type (by decide +kernel) (pa_cons (pv 1) pa_nil)) (nomark _)) (pe_and (pe_cmpR op_eq (pe_fld (pv 0) rfl) (pe_fld (pv 1) rfl) (nomark _)) (pe_one (pe_cmpR op_eq (pe_fld (pv 0) rfl) (pe_fld (pv 1) rfl) (nomark _))))))), ?_⟩
    obtain ⟨a, u, l, m, rfl, ⟨dx, ha⟩, hin, hd, h⟩ := h
    obtain ⟨hl, hm⟩ := hin
    obtain ⟨_, _, _, _, _, _, z⟩ := num_due l hl m hm hd
    obtain ⟨k0, k1⟩ := Bool.and_eq_true_iff.mp z

    rcases h with ⟨b, rfl, ⟨dy, hb⟩, q⟩ | ⟨b, xs, rfl, hb, q⟩
    · refine ⟨_, rfl, _, rfl, .inl ⟨a, _, dx, _, rfl, ha, _, rfl, _, rfl, .inl ⟨b, _, dy, _, rfl, hb, _, rfl, .inl ⟨_, rfl, .inl rfl, _, rfl, ?_⟩⟩⟩⟩
      refine ite2 (fun _ => ?_) (fun h => absurd (decide_eq_true rfl) h)
      refine ⟨_, rfl, a, _, dx, _, _, rfl, ha, G.cNumber.cl, G.cNumber.no _ (by decide +kernel), lNumber_least, _, rfl, b, _, dy, _, _, rfl, hb, G.cNumber.cl, G.cNumber.no _ (by decide +kernel), lNumber_least, k0, _, rfl, ?_⟩
      refine ite2 (fun _ => ?_) (fun h => absurd (decide_eq_true rfl) h)
      refine ⟨_, rfl, a, _, dx, _, _, rfl, ha, G.cNumber.cl, G.cNumber.no _ (by decide +kernel), lNumber_most, _, rfl, b, _, dy, _, _, rfl, hb, G.cNumber.cl, G.cNumber.no _ (by decide +kernel), lNumber_most, k1, ?_⟩
      rw [decide_eq_true rfl]
      exact q
    · exact ⟨_, rfl, _, rfl, .inl ⟨a, _, dx, _, rfl, ha, _, rfl, _, rfl, .inr ⟨_, .tup hb, _, rfl, .inr ⟨_, rfl, _, rfl, iteF q⟩⟩⟩⟩


abbrev s_Fixed_eq : Stmt := inClass (top 28) 1
theorem sc_Fixed_eq : FnScope ["self", "other"] ["self", "other"] (defScope s_Fixed_eq) := ⟨rfl, rfl, rfl, by decide +kernel, rfl, by decide +kernel, by decide +kernel⟩

theorem ok_Fixed_eq (F : FunD K "__eq__" "Fixed.__eq__" (defArgs s_Fixed_eq) (defBody s_Fixed_eq) (defScope s_Fixed_eq) [] [] f fd) (G : G4 P w K mg base) : FnOk P w K mg base CX0 1 f fd ["self", "other"] (spEqFixed K) := by
  refine F.ok (CX := CX0) sc_Fixed_eq (fun vs H Q E h => ?_) (fun cdv A outer s H vs Q E hr h => ?_)
  · obtain ⟨a, u, v, rfl, _⟩ := h
    rfl
  · refine ⟨_, PSs.nox (pss_one (ps_ret (pe_and (pe_cmpR op_isA (pe_callTy call_tyA (by rfl) G.type (by decide +kernel) (pa_cons (pv 0) pa_nil)) (pe_callTy call_tyA (by rfl) G.type (by decide +kernel) (pa_cons (pv 1) pa_nil)) (nomark _)) (pe_one (pe_cmpR op_eq (pe_fld (pv 0) rfl) (pe_fld (pv 1) rfl) (nomark _)))))), ?_⟩
    obtain ⟨a, u, v, rfl, ⟨dx, ha⟩, hin, hd, h⟩ := h
    have k0 := fix_due v hin hd

    rcases h with ⟨b, rfl, ⟨dy, hb⟩, q⟩ | ⟨b, xs, rfl, hb, q⟩
    · refine ⟨_, rfl, _, rfl, .inl ⟨a, _, dx, _, rfl, ha, _, rfl, _, rfl, .inl ⟨b, _, dy, _, rfl, hb, _, rfl, .inl ⟨_, rfl, .inl rfl, _, rfl, ?_⟩⟩⟩⟩
      refine ite2 (fun _ => ?_) (fun h => absurd (decide_eq_true rfl) h)
      refine ⟨_, rfl, a, _, dx, _, _, rfl, ha, G.cFixed.cl, G.cFixed.no _ (by decide +kernel), lFixed_width, _, rfl, b, _, dy, _, _, rfl, hb, G.cFixed.cl, G.cFixed.no _ (by decide +kernel), lFixed_width, k0, ?_⟩
      rw [decide_eq_true rfl]
      exact q
    · exact ⟨_, rfl, _, rfl, .inl ⟨a, _, dx, _, rfl, ha, _, rfl, _, rfl, .inr ⟨_, .tup hb, _, rfl, .inr ⟨_, rfl, _, rfl, iteF q⟩⟩⟩⟩


abbrev s_Ended_eq : Stmt := inClass (top 30) 1
theorem sc_Ended_eq : FnScope ["self", "other"] ["self", "other"] (defScope s_Ended_eq) := ⟨rfl, rfl, rfl, by decide +kernel, rfl, by decide +kernel, by decide +kernel⟩

theorem ok_Ended_eq (F : FunD K "__eq__" "Ended.__eq__" (defArgs s_Ended_eq) (defBody s_Ended_eq) (defScope s_Ended_eq) [] [] f fd) (G : G4 P w K mg base) : FnOk P w K mg base CX0 1 f fd ["self", "other"] (spEqEnded K) := by
  refine F.ok (CX := CX0) sc_Ended_eq (fun vs H Q E h => ?_) (fun cdv A outer s H vs Q E hr h => ?_)
  · obtain ⟨a, u, s, e, l, m, rfl, _⟩ := h
    rfl
  · refine ⟨_, PSs.nox (pss_one (ps_ret (pe_and (pe_cmpR op_isA (pe_callTy call_tyA (by rfl) G.type (by decide +kernel) (pa_cons (pv 0) pa_nil)) (pe_callTy call_tyA (by rfl) G.type (by decide +kernel) (pa_cons (pv 1) pa_nil)) (nomark _)) (pe_and (pe_cmpR op_eq (pe_fld (pv 0) rfl) (pe_fld (pv 1) rfl) (nomark _)) (pe_and (pe_cmpR op_eq (pe_fld (pv 0) rfl) (pe_fld (pv 1) rfl) (nomark _)) (pe_and (pe_cmpR op_eq (pe_fld (pv 0) rfl) (pe_fld (pv 1) rfl) (nomark _)) (pe_one (pe_cmpR op_eq (pe_fld (pv 0) rfl) (pe_fld (pv 1) rfl) (nomark _))))))))), ?_⟩
    obtain ⟨a, u, s, e, l, m, rfl, ⟨dx, ha⟩, hin, hd, h⟩ := h
    obtain ⟨hs, he, hl, hm⟩ := hin
    obtain ⟨_, _, _, z⟩ := end_due s hs e he l hl m hm hd
    obtain ⟨k0, z⟩ := Bool.and_eq_true_iff.mp z
    obtain ⟨k1, z⟩ := Bool.and_eq_true_iff.mp z
    obtain ⟨k2, k3⟩ := Bool.and_eq_true_iff.mp z

    rcases h with ⟨b, rfl, ⟨dy, hb⟩, q⟩ | ⟨b, xs, rfl, hb, q⟩
    · refine ⟨_, rfl, _, rfl, .inl ⟨a, _, dx, _, rfl, ha, _, rfl, _, rfl, .inl ⟨b, _, dy, _, rfl, hb, _, rfl, .inl ⟨_, rfl, .inl rfl, _, rfl, ?_⟩⟩⟩⟩
      refine ite2 (fun _ => ?_) (fun h => absurd (decide_eq_true rfl) h)
      refine ⟨_, rfl, a, _, dx, _, _, rfl, ha, G.cEnded.cl, G.cEnded.no _ (by decide +kernel), lEnded_signs, _, rfl, b, _, dy, _, _, rfl, hb, G.cEnded.cl, G.cEnded.no _ (by decide +kernel), lEnded_signs, k0, _, rfl, ?_⟩
      refine ite2 (fun _ => ?_) (fun h => absurd (decide_eq_true rfl) h)
      refine ⟨_, rfl, a, _, dx, _, _, rfl, ha, G.cEnded.cl, G.cEnded.no _ (by decide +kernel), lEnded_sign, _, rfl, b, _, dy, _, _, rfl, hb, G.cEnded.cl, G.cEnded.no _ (by decide +kernel), lEnded_sign, k1, _, rfl, ?_⟩
      refine ite2 (fun _ => ?_) (fun h => absurd (decide_eq_true rfl) h)
      refine ⟨_, rfl, a, _, dx, _, _, rfl, ha, G.cEnded.cl, G.cEnded.no _ (by decide +kernel), lEnded_least, _, rfl, b, _, dy, _, _, rfl, hb, G.cEnded.cl, G.cEnded.no _ (by decide +kernel), lEnded_least, k2, _, rfl, ?_⟩
      refine ite2 (fun _ => ?_) (fun h => absurd (decide_eq_true rfl) h)
      refine ⟨_, rfl, a, _, dx, _, _, rfl, ha, G.cEnded.cl, G.cEnded.no _ (by decide +kernel), lEnded_most, _, rfl, b, _, dy, _, _, rfl, hb, G.cEnded.cl, G.cEnded.no _ (by decide +kernel), lEnded_most, k3, ?_⟩
      rw [decide_eq_true rfl]
      exact q
    · exact ⟨_, rfl, _, rfl, .inl ⟨a, _, dx, _, rfl, ha, _, rfl, _, rfl, .inr ⟨_, .tup hb, _, rfl, .inr ⟨_, rfl, _, rfl, iteF q⟩⟩⟩⟩


abbrev s_Listed_eq : Stmt := inClass (top 29) 1
theorem sc_Listed_eq : FnScope ["self", "other"] ["self", "other"] (defScope s_Listed_eq) := ⟨rfl, rfl, rfl, by decide +kernel, rfl, by decide +kernel, by decide +kernel⟩

theorem ok_Listed_eq (F : FunD K "__eq__" "Listed.__eq__" (defArgs s_Listed_eq) (defBody s_Listed_eq) (defScope s_Listed_eq) [] [] f fd) (G : G4 P w K mg base) : FnOk P w K mg base CX0 1 f fd ["self", "other"] (spEqListed K) := by
  refine F.ok (CX := CX0) sc_Listed_eq (fun vs H Q E h => ?_) (fun cdv A outer s H vs Q E hr h => ?_)
  · obtain ⟨a, u, x, rfl, _⟩ := h
    rfl
  · refine ⟨_, PSs.nox (pss_one (ps_ret (pe_and (pe_cmpR op_isA (pe_callTy call_tyA (by rfl) G.type (by decide +kernel) (pa_cons (pv 0) pa_nil)) (pe_callTy call_tyA (by rfl) G.type (by decide +kernel) (pa_cons (pv 1) pa_nil)) (nomark _)) (pe_one (pe_cmpR (op_eqD hr.units) (pe_fld (pv 0) rfl) (pe_fld (pv 1) rfl) (nomark _)))))), ?_⟩
    obtain ⟨a, u, x, rfl, ⟨dx, t, ha, ht⟩, hin, hd, h⟩ := h
    obtain ⟨hf, hsh⟩ := lM_shaped x hin hd
    rcases h with ⟨b, rfl, ⟨dy, t2, hb, ht2⟩, q⟩ | ⟨b, xs, rfl, hb, q⟩
    · refine ⟨_, rfl, _, rfl, .inl ⟨a, _, dx, _, rfl, ha, _, rfl, _, rfl, .inl ⟨b, _, dy, _, rfl, hb, _, rfl, .inl ⟨_, rfl, .inl rfl, _, rfl, ?_⟩⟩⟩⟩
      refine ite2 (fun _ => ?_) (fun h => absurd (decide_eq_true rfl) h)
      refine ⟨_, rfl, a, _, dx, _, _, rfl, ha, G.cListed.cl, G.cListed.no _ (by decide +kernel), lListed_texts, _, rfl, b, _, dy, _, _, rfl, hb, G.cListed.cl, G.cListed.no _ (by decide +kernel), lListed_texts, _, _, .tup ht.sq (dpAll_flat hf), .tup ht2.sq (dpAll_flat hf), hsh, hsh, ?_⟩
      rw [eqv_same hsh]
      exact q
    · exact ⟨_, rfl, _, rfl, .inl ⟨a, _, dx, _, rfl, ha, _, rfl, _, rfl, .inr ⟨_, .tup hb, _, rfl, .inr ⟨_, rfl, _, rfl, iteF q⟩⟩⟩⟩


/-- has_sign and == of each class -/
structure HM (P : Program) (w : World) (K : Frag) (mg : Str → Option Value) (base : Heap) (k : Nat) (C : Addr) (m : Str) (ps : List Str) (sp : Sp) : Prop where
  me : Meth K C m (He.ma K C m)
  ok : ∃ fd, FnOk P w K mg base CX0 k (He.ma K C m) fd ps sp ∧ Binds K fd ps []
structure EQ (P : Program) (w : World) (K : Frag) (mg : Str → Option Value) (base : Heap) (C : Addr) (sp : Sp) : Prop where
  ok : ∃ fd, FnOk P w K mg base CX0 1 (He.ma K C "__eq__") fd ["self", "other"] sp ∧ Binds K fd ["self", "other"] []
structure G5 (P : Program) (w : World) (K : Frag) (mg : Str → Option Value) (base : Heap) : Prop extends G4 P w K mg base where
  hWord : HM P w K mg base 2 (ca K 0) "has_sign" ["self", "sign"] (spHasWord K)
  eWord : EQ P w K mg base (ca K 0) (spEqWord K)
  hNumber : HM P w K mg base 2 (ca K 1) "has_sign" ["self", "sign"] (spHasNumber K)
  eNumber : EQ P w K mg base (ca K 1) (spEqNumber K)
  hFixed : HM P w K mg base 2 (ca K 2) "has_sign" ["self", "sign"] (spHasFixed K)
  eFixed : EQ P w K mg base (ca K 2) (spEqFixed K)
  hListed : HM P w K mg base 2 (ca K 3) "has_sign" ["self", "sign"] (spHasListed K)
  eListed : EQ P w K mg base (ca K 3) (spEqListed K)
  hEnded : HM P w K mg base 2 (ca K 4) "has_sign" ["self", "sign"] (spHasEnded K)
  eEnded : EQ P w K mg base (ca K 4) (spEqEnded K)
theorem G5.has (G : G5 P w K mg base) {H : Hp} {y : Addr} : ∀ {d : PD}, FieldAt K H y d → d.In → d.due = none → ∃ sp, HM P w K mg base 2 (ca K d.ci) "has_sign" ["self", "sign"] sp ∧
    ∀ c Q E, (∀ H', Same H H' → Q (.bl (d.has ⟨#[c]⟩)) H') → sp [.ref y, .str ⟨#[c]⟩] H Q E
  | .word s l m, h, i, u => ⟨_, G.hWord, fun c Q E q => ⟨y, c, s, l, m, rfl, h, i, u, q⟩⟩
  | .number l m, h, i, u => ⟨_, G.hNumber, fun c Q E q => ⟨y, c, l, m, rfl, h, i, u, q⟩⟩
  | .fixed v, h, i, u => ⟨_, G.hFixed, fun c Q E q => ⟨y, c, v, rfl, h, i, u, q⟩⟩
  | .listed x, h, i, u => ⟨_, G.hListed, fun c Q E q => ⟨y, c, x, rfl, h, i, u, q⟩⟩
  | .ended s e l m, h, i, u => ⟨_, G.hEnded, fun c Q E q => ⟨y, c, s, e, l, m, rfl, h, i, u, q⟩⟩
theorem G5.eqs (G : G5 P w K mg base) {H : Hp} {y : Addr} : ∀ {d : PD}, FieldAt K H y d → d.In → d.due = none → ∃ sp, EQ P w K mg base (ca K d.ci) sp ∧
    ∀ u Q E, ((∃ b, u = .ref b ∧ FieldAt K H b d ∧ Q (.bl true) H) ∨ (∃ b xs, u = .ref b ∧ H b = some (.tup xs) ∧ Q (.bl false) H)) → sp [.ref y, u] H Q E
  | .word s l m, h, i, u => ⟨_, G.eWord, fun v Q E q => ⟨y, v, s, l, m, rfl, h, i, u, q⟩⟩
  | .number l m, h, i, u => ⟨_, G.eNumber, fun v Q E q => ⟨y, v, l, m, rfl, h, i, u, q⟩⟩
  | .fixed z, h, i, u => ⟨_, G.eFixed, fun v Q E q => ⟨y, v, z, rfl, h, i, u, q⟩⟩
  | .listed x, h, i, u => ⟨_, G.eListed, fun v Q E q => ⟨y, v, x, rfl, h, i, u, q⟩⟩
  | .ended s e l m, h, i, u => ⟨_, G.eEnded, fun v Q E q => ⟨y, v, s, e, l, m, rfl, h, i, u, q⟩⟩
/-- what is handed in as the field of a marked one -/
def IVAt (K : Frag) (H : Hp) (fv : V) : OD → Prop
  | .val u => fv = u ∧ (u = .non ∨ u = .str "word")
  | .pl d => ∃ y, fv = .ref y ∧ FieldAt K H y d ∧ d.In ∧ d.due = none
  | .mk .. => ∃ y dx fs, fv = .ref y ∧ H y = some (.ins (ca K 5) dx fs)
theorem kit5 (G : G4 P w K mg base) : ∀ i, i < 6 → kitAny K (.ref (ca K i)) [.ref (ca K 0), .ref (ca K 1), .ref (ca K 2), .ref (ca K 3), .ref (ca K 4)] = some (decide (i < 5))
  | 0, h => by
    have k := fun j (hj : j < 6) => G.kit 0 j h hj
    exact kitAny_cons (b := true) (k 0 (by decide)) (fun z => nomatch z) (fun _ => rfl)
  | 1, h => by
    have k := fun j (hj : j < 6) => G.kit 1 j h hj
    exact kitAny_cons (b := false) (k 0 (by decide)) (fun _ => kitAny_cons (b := true) (k 1 (by decide)) (fun z => nomatch z) (fun _ => rfl)) (fun z => nomatch z)
  | 2, h => by
    have k := fun j (hj : j < 6) => G.kit 2 j h hj
    exact kitAny_cons (b := false) (k 0 (by decide)) (fun _ => kitAny_cons (b := false) (k 1 (by decide)) (fun _ => kitAny_cons (b := true) (k 2 (by decide)) (fun z => nomatch z) (fun _ => rfl)) (fun z => nomatch z)) (fun z => nomatch z)
  | 3, h => by
    have k := fun j (hj : j < 6) => G.kit 3 j h hj
    exact kitAny_cons (b := false) (k 0 (by decide)) (fun _ => kitAny_cons (b := false) (k 1 (by decide)) (fun _ => kitAny_cons (b := false) (k 2 (by decide)) (fun _ => kitAny_cons (b := true) (k 3 (by decide)) (fun z => nomatch z) (fun _ => rfl)) (fun z => nomatch z)) (fun z => nomatch z)) (fun z => nomatch z)
  | 4, h => by
    have k := fun j (hj : j < 6) => G.kit 4 j h hj
    exact kitAny_cons (b := false) (k 0 (by decide)) (fun _ => kitAny_cons (b := false) (k 1 (by decide)) (fun _ => kitAny_cons (b := false) (k 2 (by decide)) (fun _ => kitAny_cons (b := false) (k 3 (by decide)) (fun _ => kitAny_cons (b := true) (k 4 (by decide)) (fun z => nomatch z) (fun _ => rfl)) (fun z => nomatch z)) (fun z => nomatch z)) (fun z => nomatch z)) (fun z => nomatch z)
  | 5, h => by
    have k := fun j (hj : j < 6) => G.kit 5 j h hj
    exact kitAny_cons (b := false) (k 0 (by decide)) (fun _ => kitAny_cons (b := false) (k 1 (by decide)) (fun _ => kitAny_cons (b := false) (k 2 (by decide)) (fun _ => kitAny_cons (b := false) (k 3 (by decide)) (fun _ => kitAny_cons (b := false) (k 4 (by decide)) (fun _ => kitAny_nil) (fun z => nomatch z)) (fun z => nomatch z)) (fun z => nomatch z)) (fun z => nomatch z)) (fun z => nomatch z)
  | n + 6, h => absurd h (by omega)
theorem kit5N (G : G4 P w K mg base) : kitAny K (.type "NoneType") [.ref (ca K 0), .ref (ca K 1), .ref (ca K 2), .ref (ca K 3), .ref (ca K 4)] = some false := by
  have k := G.kitN
  exact kitAny_cons (b := false) (k 0 (by decide)) (fun _ => kitAny_cons (b := false) (k 1 (by decide)) (fun _ => kitAny_cons (b := false) (k 2 (by decide)) (fun _ => kitAny_cons (b := false) (k 3 (by decide)) (fun _ => kitAny_cons (b := false) (k 4 (by decide)) (fun _ => kitAny_nil) (fun z => nomatch z)) (fun z => nomatch z)) (fun z => nomatch z)) (fun z => nomatch z)) (fun z => nomatch z)
theorem kit5S (G : G4 P w K mg base) : kitAny K (.type "str") [.ref (ca K 0), .ref (ca K 1), .ref (ca K 2), .ref (ca K 3), .ref (ca K 4)] = some false := by
  have k := G.kitS
  exact kitAny_cons (b := false) (k 0 (by decide)) (fun _ => kitAny_cons (b := false) (k 1 (by decide)) (fun _ => kitAny_cons (b := false) (k 2 (by decide)) (fun _ => kitAny_cons (b := false) (k 3 (by decide)) (fun _ => kitAny_cons (b := false) (k 4 (by decide)) (fun _ => kitAny_nil) (fun z => nomatch z)) (fun z => nomatch z)) (fun z => nomatch z)) (fun z => nomatch z)) (fun z => nomatch z)
def spMarked (K : Frag) : Sp := fun vs H Q E => ∃ (a dx : Addr) (n m fv : V) (i : OD), vs = [.ref a, n, m, fv] ∧ H a = some (.ins (ca K 5) dx []) ∧ n ∈ mQ ∧ m ∈ mQ ∧ IVAt K H fv i ∧
  (OD.due (.mk n m i) = none → ∀ H2, Same H H2 → Q .non (upd H2 a (.ins (ca K 5) dx (fMarked n m fv)))) ∧ ∀ z, OD.due (.mk n m i) = some z → RaiseE (BF K) "what" (.str z) H E

abbrev s_Marked_init : Stmt := inClass (top 31) 0
theorem sc_Marked_init : FnScope ["self", "none", "mark", "field"] ["self", "none", "mark", "field"] (defScope s_Marked_init) := ⟨rfl, rfl, rfl, by decide +kernel, rfl, by decide +kernel, by decide +kernel⟩

theorem ok_Marked_init (F : FunD K "__init__" "Marked.__init__" (defArgs s_Marked_init) (defBody s_Marked_init) (defScope s_Marked_init) [] [] f fd) (G : G5 P w K mg base) : FnOk P w K mg base (L2.CX P w) 4 f fd ["self", "none", "mark", "field"] (spMarked K) := by
  refine F.ok (CX := (L2.CX P w)) sc_Marked_init (fun vs H Q E h => ?_) (fun cdv A outer s H vs Q E hr h => ?_)
  · obtain ⟨a, dx, n, m, fv, i, rfl, _⟩ := h
    rfl
  · have hr3 : Room 3 _ := hr
    have hr2 : Room 2 _ := hr.mono (by decide)
    refine ⟨_, (pss_cons (ps_if (pt_not (pt_val (pe_fn G.is_sign (hr2.mono (by decide)) pass0 (by rfl) (pa_cons (pv 1) pa_nil))))
      (pss_one (ps_raise rfl (takes_of rfl rfl rfl rfl) (pmk_1 G.bf hr2 (by rfl) (pa_cons pe_str pa_nil))))
      pss_nil)
    (pss_cons (ps_if (PW.pt (pw_or (pt_not (pt_val (pe_fn G.is_sign (hr2.mono (by decide)) pass0 (by rfl) (pa_cons (pv 2) pa_nil)))) (pw_or1 (pt_cmpR op_eq (pv 2) (pv 1) (nomark _)))))
      (pss_one (ps_raise rfl (takes_of rfl rfl rfl rfl) (pmk_1 G.bf hr2 (by rfl) (pa_cons pe_str pa_nil))))
      pss_nil)
    (pss_cons (ps_if (pt_not (pt_val (pe_callB call_ieT (by rfl) G.isinstance (by decide +kernel) (pa_cons (pv 3) (pa_cons (pe_tupS (pa_cons (pe_gref (by rfl) G.cWord.mgC) (pa_cons (pe_gref (by rfl) G.cNumber.mgC) (pa_cons (pe_gref (by rfl) G.cFixed.mgC) (pa_cons (pe_gref (by rfl) G.cListed.mgC) (pa_cons (pe_gref (by rfl) G.cEnded.mgC) pa_nil)))))) pa_nil)))))
      (pss_one (ps_raise rfl (takes_of rfl rfl rfl rfl) (pmk_1 G.bf hr2 (by rfl) (pa_cons pe_str pa_nil))))
      pss_nil)
    (pss_cons (ps_if (PW.pt (pw_or (pt_val (pe_methD (CX := CX0) (pv 3) pass0 (pa_cons (pv 1) pa_nil))) (pw_or1 (pt_val (pe_methD (CX := CX0) (pv 3) pass0 (pa_cons (pv 2) pa_nil))))))
      (pss_one (ps_raise rfl (takes_of rfl rfl rfl rfl) (pmk_1 G.bf hr2 (by rfl) (pa_cons pe_str pa_nil))))
      pss_nil)
    (pss_cons (ps_fld (pv 0) (pv 1) rfl)
    (pss_cons (ps_fld (pv 0) (pv 2) rfl)
    (pss_one (ps_fld (pv 0) (pv 3) rfl)))))))), ?_⟩
    obtain ⟨a, dx, n, m, fv, i, rfl, ha, hn, hm, hI, q1, q2⟩ := h
    refine ⟨_, rfl, n, rfl, mQ_vM hn, _, rfl, ?_⟩
    show if (!isSignB n) = true then _ else _
    refine ite2 (fun h1 => mkO_1 (q2 _ (by show (if (!isSignB n) = true then _ else _) = _; rw [if_pos h1]))) (fun h1 => ?_)
    have e1 : OD.due (.mk n m i) = if (!isSignB m || decide (m = n)) = true then (some "mark" : Option Str) else iDue n m i := by show (if (!isSignB n) = true then _ else _) = _; rw [if_neg h1]
    rw [e1] at q1 q2
    have h1' : isSignB n = true := by cases z : isSignB n with | true => rfl | false => exact absurd (by rw [z]; rfl) h1
    obtain ⟨en, cn⟩ := mQ_one n hn h1'
    refine ⟨_, rfl, m, rfl, mQ_vM hm, _, rfl, ?_⟩
    show if (!isSignB m) = true then _ else _
    refine ite2 (fun h2 => mkO_1 (q2 _ (by rw [h2]; rfl))) (fun h2 => ?_)
    have h2' : isSignB m = true := by cases z : isSignB m with | true => rfl | false => exact absurd (by rw [z]; rfl) h2
    obtain ⟨em, cm⟩ := mQ_one m hm h2'
    refine ⟨_, rfl, _, rfl, (by rw [en, em]; rfl), _, rfl, ?_⟩
    refine ite2 (fun h3 => mkO_1 (q2 _ (by rw [h3, Bool.or_true]; rfl))) (fun h3 => ?_)
    rw [h2', Bool.eq_false_iff.mpr h3] at q1 q2
    replace q1 : iDue n m i = none → ∀ H2, Same H H2 → Q .non (upd H2 a (.ins (ca K 5) dx (fMarked n m fv))) := q1
    replace q2 : ∀ z, iDue n m i = some z → RaiseE (BF K) "what" (.str z) H E := q2
    clear e1
    cases i with
    | val u =>
      obtain ⟨rfl, rfl | rfl⟩ := hI
      · refine ⟨_, rfl, by show 5 ≤ 1000; decide, fun p0 H0 hp0 S0 e0 => ⟨_, p0, _, _, _, false, rfl, e0, .cons (.own _) (.cons (.own _) (.cons (.own _) (.cons (.own _) (.cons (.own _) Paired.nil)))), .x (.base .non), (kit5N G.toG4), _, rfl, iteT (mkO_1 (raise_mono S0 (q2 _ rfl)))⟩⟩
      · refine ⟨_, rfl, by show 5 ≤ 1000; decide, fun p0 H0 hp0 S0 e0 => ⟨_, p0, _, _, _, false, rfl, e0, .cons (.own _) (.cons (.own _) (.cons (.own _) (.cons (.own _) (.cons (.own _) Paired.nil)))), .x (.base (.str _)), (kit5S G.toG4), _, rfl, iteT (mkO_1 (raise_mono S0 (q2 _ rfl)))⟩⟩
    | mk n2 m2 i2 =>
      obtain ⟨y, dy, fs, rfl, hy⟩ := hI
      refine ⟨_, rfl, by show 5 ≤ 1000; decide, fun p0 H0 hp0 S0 e0 => ⟨_, p0, _, _, _, false, rfl, e0, .cons (.own _) (.cons (.own _) (.cons (.own _) (.cons (.own _) (.cons (.own _) Paired.nil)))), G.ty (i := 5) (by decide) (S0 _ _ hy), (kit5 G.toG4 5 (by decide)), _, rfl, iteT (mkO_1 (raise_mono S0 (q2 _ rfl)))⟩⟩
    | pl d =>
      obtain ⟨y, rfl, hy, hin, hd⟩ := hI
      have eD : iDue n m (.pl d) = if (d.has ⟨#[(strV n).cps.getD 0 0]⟩ || d.has ⟨#[(strV m).cps.getD 0 0]⟩) = true then (some "field" : Option Str) else none := by
        have e1 : strV n = ⟨#[(strV n).cps.getD 0 0]⟩ := congrArg strV en
        have e2 : strV m = ⟨#[(strV m).cps.getD 0 0]⟩ := congrArg strV em
        rw [← e1, ← e2]
        rfl
      rw [eD] at q1 q2
      obtain ⟨dy, fs, hi, lf⟩ := hy.ins
      refine ⟨_, rfl, by show 5 ≤ 1000; decide, fun p0 H0 hp0 S0 e0 => ⟨_, p0, _, _, _, true, rfl, e0, .cons (.own _) (.cons (.own _) (.cons (.own _) (.cons (.own _) (.cons (.own _) Paired.nil)))), G.ty (Nat.lt_of_lt_of_le d.ci_lt (by decide)) (S0 _ _ hi), ((kit5 G.toG4 d.ci (Nat.lt_of_lt_of_le d.ci_lt (by decide))).trans (congrArg some (decide_eq_true d.ci_lt))), _, rfl, iteF ?_⟩⟩
      obtain ⟨sp, M, Hs⟩ := G.has (hy.same S0) hin hd
      obtain ⟨fdh, Fh, Bh⟩ := M.ok
      refine ⟨_, rfl, y, _, dy, _, fs, 2, fdh, _, sp, rfl, S0 _ _ hi, lf, G.cl _ (Nat.lt_of_lt_of_le d.ci_lt (by decide)), M.me, Fh, hr2, Bh, _, rfl, ?_⟩
      show sp [.ref y, n] H0 _ _
      rw [en]
      refine Hs _ _ _ fun H1 S1 => ⟨_, rfl, ?_⟩
      have S1' := S0.trans S1
      refine ite2 (fun h4 => mkO_1 (raise_mono S1' (q2 _ (by rw [h4]; rfl)))) (fun h4 => ?_)
      obtain ⟨sp2, M2, Hs2⟩ := G.has (hy.same S1') hin hd
      obtain ⟨fdh2, Fh2, Bh2⟩ := M2.ok
      refine ⟨_, rfl, y, _, dy, _, fs, 2, fdh2, _, sp2, rfl, S1' _ _ hi, lf, G.cl _ (Nat.lt_of_lt_of_le d.ci_lt (by decide)), M2.me, Fh2, hr2, Bh2, _, rfl, ?_⟩
      show sp2 [.ref y, m] H1 _ _
      rw [em]
      refine Hs2 _ _ _ fun H2 S2 => ⟨_, rfl, ?_⟩
      have S2' := S1'.trans S2
      refine ite2 (fun h5 => mkO_1 (raise_mono S2' (q2 _ (by rw [h5, Bool.or_true]; rfl)))) (fun h5 => ?_)
      have z := q1 (by rw [Bool.eq_false_iff.mpr h4, Bool.eq_false_iff.mpr h5]; rfl) H2 S2'
      rw [← en, ← em]
      have ha := S2' _ _ ha
      refine ⟨_, rfl, _, rfl, a, _, dx, _, rfl, ha, G.cMarked.cl, G.cMarked.no _ (by decide +kernel), (by show 0 < 1000; decide), _, rfl, _, rfl, a, _, dx, _, rfl, upd_same, G.cMarked.cl, G.cMarked.no _ (by decide +kernel), (by show 1 < 1000; decide), _, rfl, _, rfl, a, _, dx, _, rfl, upd_same, G.cMarked.cl, G.cMarked.no _ (by decide +kernel), (by show 2 < 1000; decide), ?_⟩
      show Q .non _
      rw [upd_upd, upd_upd]
      exact z

/-- a marked field -/
def MkAt (K : Frag) (H : Hp) (a : Addr) (n m : V) (d : PD) : Prop := ∃ dx y, H a = some (.ins (ca K 5) dx (fMarked n m (.ref y))) ∧ FieldAt K H y d
def spEqMarked (K : Frag) : Sp := fun vs H Q _ => ∃ (a : Addr) (u n m : V) (d : PD), vs = [.ref a, u] ∧ MkAt K H a n m d ∧ d.In ∧ d.due = none ∧ scal n n = true ∧ scal m m = true ∧
  ((∃ b, u = .ref b ∧ MkAt K H b n m d ∧ Q (.bl true) H) ∨ (∃ b xs, u = .ref b ∧ H b = some (.tup xs) ∧ Q (.bl false) H))

abbrev s_Marked_eq : Stmt := inClass (top 31) 1
theorem sc_Marked_eq : FnScope ["self", "other"] ["self", "other"] (defScope s_Marked_eq) := ⟨rfl, rfl, rfl, by decide +kernel, rfl, by decide +kernel, by decide +kernel⟩

theorem ok_Marked_eq (F : FunD K "__eq__" "Marked.__eq__" (defArgs s_Marked_eq) (defBody s_Marked_eq) (defScope s_Marked_eq) [] [] f fd) (G : G5 P w K mg base) : FnOk P w K mg base CX0 2 f fd ["self", "other"] (spEqMarked K) := by
  refine F.ok (CX := CX0) sc_Marked_eq (fun vs H Q E h => ?_) (fun cdv A outer s H vs Q E hr h => ?_)
  · obtain ⟨a, u, n, m, d, rfl, _⟩ := h
    rfl
  · refine ⟨_, PSs.nox (pss_one (ps_ret (pe_and (pe_cmpR op_isA (pe_callTy call_tyA (by rfl) G.type (by decide +kernel) (pa_cons (pv 0) pa_nil)) (pe_callTy call_tyA (by rfl) G.type (by decide +kernel) (pa_cons (pv 1) pa_nil)) (nomark _)) (pe_and (pe_cmpR op_eq (pe_fld (pv 0) rfl) (pe_fld (pv 1) rfl) (nomark _)) (pe_and (pe_cmpR op_eq (pe_fld (pv 0) rfl) (pe_fld (pv 1) rfl) (nomark _)) (pe_one (pe_cmpR (op_eqO (CX := CX0) pass0) (pe_fld (pv 0) rfl) (pe_fld (pv 1) rfl) (nomark _)))))))), ?_⟩
    obtain ⟨a, u, n, m, d, rfl, ⟨dx, y, ha, hy⟩, hin, hd, k0, k1, h⟩ := h
    rcases h with ⟨b, rfl, ⟨dy, y2, hb, hy2⟩, q⟩ | ⟨b, xs, rfl, hb, q⟩
    · refine ⟨_, rfl, _, rfl, .inl ⟨a, _, dx, _, rfl, ha, _, rfl, _, rfl, .inl ⟨b, _, dy, _, rfl, hb, _, rfl, .inl ⟨_, rfl, .inl rfl, _, rfl, ?_⟩⟩⟩⟩
      refine ite2 (fun _ => ?_) (fun h => absurd (decide_eq_true rfl) h)
      refine ⟨_, rfl, a, _, dx, _, _, rfl, ha, G.cMarked.cl, G.cMarked.no _ (by decide +kernel), lMarked_none, _, rfl, b, _, dy, _, _, rfl, hb, G.cMarked.cl, G.cMarked.no _ (by decide +kernel), lMarked_none, k0, _, rfl, ?_⟩
      refine ite2 (fun _ => ?_) (fun h => absurd (decide_eq_true rfl) h)
      refine ⟨_, rfl, a, _, dx, _, _, rfl, ha, G.cMarked.cl, G.cMarked.no _ (by decide +kernel), lMarked_mark, _, rfl, b, _, dy, _, _, rfl, hb, G.cMarked.cl, G.cMarked.no _ (by decide +kernel), lMarked_mark, k1, _, rfl, ?_⟩
      refine ite2 (fun _ => ?_) (fun h => absurd (decide_eq_true rfl) h)
      obtain ⟨ey, fs, hi, _⟩ := hy.ins
      obtain ⟨ey2, fs2, hi2, _⟩ := hy2.ins
      have h6 := Nat.lt_of_lt_of_le d.ci_lt (by decide : 5 ≤ 6)
      obtain ⟨sp, M, Hs⟩ := G.eqs hy hin hd
      obtain ⟨fde, Fe, Be⟩ := M.ok
      refine ⟨_, rfl, a, _, dx, _, _, rfl, ha, G.cMarked.cl, G.cMarked.no _ (by decide +kernel), lMarked_field, _, rfl, b, _, dy, _, _, rfl, hb, G.cMarked.cl, G.cMarked.no _ (by decide +kernel), lMarked_field, y, ca K d.ci, ey, fs, .ref (ca K d.ci), rfl, hi, (G.kc _ h6).eq, G.ty h6 hi2, ?_, 1, fde, _, sp, (G.kc _ h6).ke, Fe, hr, Be, Hs _ _ _ (.inl ⟨y2, rfl, hy2, true, rfl, q⟩)⟩
      unfold notFirst
      rw [beq_self_eq_true]
      rfl
    · exact ⟨_, rfl, _, rfl, .inl ⟨a, _, dx, _, rfl, ha, _, rfl, _, rfl, .inr ⟨_, .tup hb, _, rfl, .inr ⟨_, rfl, _, rfl, iteF q⟩⟩⟩⟩


end
end L2.K77

set_option Elab.async false
set_option linter.all false
set_option maxRecDepth 100000
set_option maxHeartbeats 4000000
/-! The methods of the field classes. -/
namespace L2.K77
open PySem PySem.W PySem.Spec PySem.Calls PyProof.Rows L2.Jk
def withinB (l m : V) (n : Int) : Bool := decide (intV l ≤ n) && (decide (m = .non) || decide (n ≤ intV m))
def wordB (s l m : V) : V → Bool
  | .str z => madeB z (strV s) && withinB l m z.length
  | _ => false
def numeralB (t : Str) : Bool := if (decide (V.str t = .str "") || !madeB t DG) = true then false else decide (V.str t = .str "0") || !decide (V.str ⟨#[t.cps.getD 0 0]⟩ = .str "0")
def numTx (t : Str) : Str := ("0" : Str) ++ cutS t none (some ((t.length : Int) % 64))
def numOf (t : Str) : Int := (PySem.intText? (numTx t)).getD 0
def numOk (t : Str) : Bool := (PySem.intText? (numTx t)).isSome && (decide (t.length < 64) && (decide ((numTx t).length ≤ 640) && decide (("0" : Str).length + (cutS t none (some ((t.length : Int) % 64))).length ≤ 640)))
def great (w : V) : Int := numOf (repS "9" (intV w))
def greatOk (w : V) : Bool := numOk (repS "9" (intV w)) && repOk "9" (intV w)
theorem wM_gr : ∀ k ∈ List.range 60, 1 ≤ k → greatOk (.int (k : Nat)) = true ∧ PadOk (k : Nat) = true := by decide +kernel
theorem wM_great (w : V) (h : w ∈ wM) : greatOk w = true ∧ w = .int (intV w) ∧ PadOk (intV w) = true ∧ 0 ≤ intV w ∧ intV w < 100 := by
  obtain ⟨i, rfl, h1, h2⟩ := h
  obtain ⟨k, rfl⟩ : ∃ k : Nat, i = (k : Int) := ⟨i.toNat, by omega⟩
  obtain ⟨g1, g2⟩ := wM_gr k (List.mem_range.mpr (by omega)) (by omega)
  exact ⟨g1, rfl, g2, by show (0 : Int) ≤ (k : Int); omega, by show (k : Int) < 100; omega⟩
theorem rg64 : ∀ k ∈ List.range 64, Builtin.Range.small (k : Nat) (k : Nat) 64 = true ∧ Builtin.Range.rangeSize (k : Nat) (k : Nat) 64 = 0 := by decide +kernel
def spWithin (K : Frag) : Sp := fun vs H Q _ => ∃ (a C dx : Addr) (fs : List (Str × V)) (l m : V) (n : Int), vs = [.ref a, .int n] ∧ H a = some (.ins C dx fs) ∧ Cls K C ∧ NoAttr K C "least" ∧ NoAttr K C "most" ∧ fs.lookup ("least" : Str) = some l ∧ fs.lookup ("most" : Str) = some m ∧
  l = .int (intV l) ∧ (m = .non ∨ m = .int (intV m)) ∧ Q (.bl (withinB l m n)) H
def spWordOf (K : Frag) : Sp := fun vs H Q _ => ∃ (a C dx : Addr) (fs : List (Str × V)) (s l m v : V), vs = [.ref a, v] ∧ H a = some (.ins C dx fs) ∧ Cls K C ∧ NoAttr K C "signs" ∧ NoAttr K C "least" ∧ NoAttr K C "most" ∧ fs.lookup ("signs" : Str) = some s ∧ fs.lookup ("least" : Str) = some l ∧ fs.lookup ("most" : Str) = some m ∧
  s = .str (strV s) ∧ l = .int (intV l) ∧ (m = .non ∨ m = .int (intV m)) ∧ Thg H v ∧ lenV v ≤ 900 ∧ Q (.bl (wordB s l m v)) H
def spNumeral : Sp := fun vs H Q _ => ∃ t : Str, vs = [.str t] ∧ t.length ≤ 900 ∧ Q (.bl (numeralB t)) H
def spNumOf : Sp := fun vs H Q _ => ∃ t : Str, vs = [.str t] ∧ numOk t = true ∧ Q (.int (numOf t)) H
def spGreat : Sp := fun vs H Q _ => ∃ w : V, vs = [w] ∧ w ∈ wM ∧ Q (.int (great w)) H
section
variable {P : Program} {w : World} {K : Frag} {mg : Str → Option Value} {base : Heap} {f : Addr} {fd : FuncData}

abbrev s_is_within : Stmt := top 23
theorem sc_is_within : FnScope ["field", "amount"] ["field", "amount"] (defScope s_is_within) := ⟨rfl, rfl, rfl, by decide +kernel, rfl, by decide +kernel, by decide +kernel⟩

theorem ok_is_within (F : FunD K "is_within" "is_within" (defArgs s_is_within) (defBody s_is_within) (defScope s_is_within) [] [] f fd) (G : G0 P w K mg base) : FnOk P w K mg base CX0 1 f fd ["field", "amount"] (spWithin K) := by
  refine F.ok (CX := CX0) sc_is_within (fun vs H Q E h => ?_) (fun cdv A outer s H vs Q E hr h => ?_)
  · obtain ⟨a, C, dx, fs, l, m, n, rfl, _⟩ := h
    rfl
  · refine ⟨_, PSs.nox (pss_one (ps_ret (pe_and (pe_cmpR op_le (pe_fld (pv 0) rfl) (pv 1) (nomark _)) (pe_one (pe_or (pe_cmpR op_isN (pe_fld (pv 0) rfl) pe_non (nomark _)) (pe_one (pe_cmpR op_le (pv 1) (pe_fld (pv 0) rfl) (nomark _)))))))), ?_⟩
    obtain ⟨a, C, dx, fs, l, m, n, rfl, ha, hC, n1, n2, l1, l2, el, em, q⟩ := h
    refine ⟨_, rfl, a, C, dx, fs, _, rfl, ha, hC, n1, l1, _, rfl, intV l, n, el, rfl, _, rfl, ?_⟩
    refine ite2 (fun h1 => ?_) (fun h1 => ?_)
    · refine ⟨_, rfl, a, C, dx, fs, _, rfl, ha, hC, n2, l2, rfl, _, rfl, ?_⟩
      have e1 : withinB l m n = (decide (m = .non) || decide (n ≤ intV m)) := by unfold withinB; rw [h1]; rfl
      rw [e1] at q
      refine ite2 (fun h2 => ?_) (fun h2 => ?_)
      · rw [h2] at q
        exact q
      · rcases em with em | em
        · exact absurd (decide_eq_true em) h2
        refine ⟨_, rfl, _, rfl, a, C, dx, fs, _, rfl, ha, hC, n2, l2, n, intV m, rfl, em, ?_⟩
        rw [Bool.eq_false_iff.mpr h2] at q
        exact q
    · have e1 : withinB l m n = false := by unfold withinB; rw [Bool.eq_false_iff.mpr h1]; rfl
      rw [e1] at q
      exact q

abbrev s_number_of : Stmt := top 18
theorem sc_number_of : FnScope ["digits", "limit", "start", "number", "at"] ["digits"] (defScope s_number_of) := ⟨rfl, rfl, rfl, by decide +kernel, rfl, by decide +kernel, by decide +kernel⟩

theorem ok_number_of (F : FunD K "number_of" "number_of" (defArgs s_number_of) (defBody s_number_of) (defScope s_number_of) [] [] f fd) (G : G0 P w K mg base) : FnOk P w K mg base CX0 1 f fd ["digits"] spNumOf := by
  refine F.ok (CX := CX0) sc_number_of (fun vs H Q E h => ?_) (fun cdv A outer s H vs Q E hr h => ?_)
  · obtain ⟨t, rfl, _⟩ := h
    rfl
  · refine ⟨_, PSs.nox (pss_cons (ps_set (i := 1) sc_number_of.nd rfl (Or.inl rfl) (pe_op op_pow pe_int pe_int))
    (pss_cons (ps_set (i := 2) sc_number_of.nd rfl (Or.inl rfl) (pe_op op_mod (pe_callB call_len_str (by rfl) G.len (by decide +kernel) (pa_cons (pv 0) pa_nil)) pe_int))
    (pss_cons (ps_set (i := 3) sc_number_of.nd rfl (Or.inl rfl) (pe_callTy call_int_str (by rfl) G.int (by decide +kernel) (pa_cons (pe_op op_add_str pe_str (pe_slice sl_str (pv 0) po_none (po_some (pv 2)))) pa_nil)))
    (pss_cons (ps_for PassesOwn.never rfl (pi_range3 (by rfl) G.range (pa_cons (pv 2) (pa_cons (pe_callB call_len_str (by rfl) G.len (by decide +kernel) (pa_cons (pv 0) pa_nil)) (pa_cons pe_int pa_nil)))) (pg_name (i := 4) sc_number_of.nd rfl (Or.inl rfl)) pss_never)
    (pss_one (ps_ret (pv 3))))))), ?_⟩
    obtain ⟨t, rfl, ok, q⟩ := h
    obtain ⟨o1, ok⟩ := Bool.and_eq_true_iff.mp ok
    obtain ⟨o2, ok⟩ := Bool.and_eq_true_iff.mp ok
    obtain ⟨o3, o4⟩ := Bool.and_eq_true_iff.mp ok
    replace o4 := of_decide_eq_true o4
    replace o2 := of_decide_eq_true o2
    replace o3 := of_decide_eq_true o3
    obtain ⟨n, en⟩ := Option.isSome_iff_exists.mp o1
    have zl := small_line t (Nat.le_trans (Nat.le_of_lt o2) (by decide))
    refine ⟨_, _, rfl, rfl, ⟨by decide, by decide, by decide⟩, _, rfl, t, rfl, zl, _, _, rfl, rfl, (by show (0 : Int) < 64; decide), ?_⟩
    refine ⟨_, rfl, _, rfl, _, rfl, t, rfl, zl, ?_⟩
    refine ⟨_, _, rfl, rfl, Nat.le_trans o4 (by rw [sizeLine_eq]; decide), numTx t, n, rfl, en, o3, ?_⟩
    have en2 : numOf t = n := by unfold numOf; rw [en]; rfl
    rw [en2] at q
    have em : (t.length : Int) % 64 = (t.length : Int) := Int.emod_eq_of_lt (by omega) (by omega)
    refine ⟨_, rfl, _, rfl, t, rfl, zl, _, _, 64, 0, rfl, ?_, ?_⟩
    · rw [em]
      obtain ⟨g1, g2⟩ := rg64 t.length (List.mem_range.mpr o2)
      exact ⟨by decide, by decide, g1, g2⟩
    · refine for_rangeC (n := 0) (fun _ σ H' => σ = [some (.str t), some (.int (10 ^ (64 : Int).toNat)), some (.int ((t.length : Int) % 64)), some (.int n), none] ∧ H' = H) ⟨rfl, rfl⟩ (fun i σ H' hi => absurd hi (Nat.not_lt_zero _)) ?_
      rintro σ H' ⟨rfl, rfl⟩
      exact ⟨_, rfl, q⟩

structure P1 (P : Program) (w : World) (K : Frag) (mg : Str → Option Value) (base : Heap) : Prop extends G5 P w K mg base where
  is_within : FnAt P w K mg base CX0 1 "is_within" ["field", "amount"] (spWithin K)
  number_of : FnAt P w K mg base CX0 1 "number_of" ["digits"] spNumOf
  is_numberT : FnAt P w K mg base CX0 1 "is_number" ["thing"] spNumT

abbrev s_greatest_of : Stmt := top 19
theorem sc_greatest_of : FnScope ["width"] ["width"] (defScope s_greatest_of) := ⟨rfl, rfl, rfl, by decide +kernel, rfl, by decide +kernel, by decide +kernel⟩

theorem ok_greatest_of (F : FunD K "greatest_of" "greatest_of" (defArgs s_greatest_of) (defBody s_greatest_of) (defScope s_greatest_of) [] [] f fd) (G : P1 P w K mg base) : FnOk P w K mg base CX0 2 f fd ["width"] spGreat := by
  refine F.ok (CX := CX0) sc_greatest_of (fun vs H Q E h => ?_) (fun cdv A outer s H vs Q E hr h => ?_)
  · obtain ⟨v, rfl, _⟩ := h
    rfl
  · refine ⟨_, PSs.nox (pss_one (ps_ret (pe_fn G.number_of hr pass0 (by rfl) (pa_cons (pe_op op_mulStr pe_str (pv 0)) pa_nil)))), ?_⟩
    obtain ⟨v, rfl, hv, q⟩ := h
    obtain ⟨g, ev, _, _, _⟩ := wM_great v hv
    obtain ⟨g1, g2⟩ := Bool.and_eq_true_iff.mp g
    exact ⟨_, rfl, "9", intV v, rfl, ev, g2, _, rfl, g1, q⟩

abbrev s_is_word_of : Stmt := top 24
theorem sc_is_word_of : FnScope ["field", "thing"] ["field", "thing"] (defScope s_is_word_of) := ⟨rfl, rfl, rfl, by decide +kernel, rfl, by decide +kernel, by decide +kernel⟩

theorem ok_is_word_of (F : FunD K "is_word_of" "is_word_of" (defArgs s_is_word_of) (defBody s_is_word_of) (defScope s_is_word_of) [] [] f fd) (G : P1 P w K mg base) : FnOk P w K mg base CX0 2 f fd ["field", "thing"] (spWordOf K) := by
  refine F.ok (CX := CX0) sc_is_word_of (fun vs H Q E h => ?_) (fun cdv A outer s H vs Q E hr h => ?_)
  · obtain ⟨a, C, dx, fs, s, l, m, v, rfl, _⟩ := h
    rfl
  · refine ⟨_, PSs.nox (pss_one (ps_ret (pe_and (pe_callB call_ie (by rfl) G.isinstance (by decide +kernel) (pa_cons (pv 1) (pa_cons (pe_bty (n := "str") (by rfl) G.str (by decide +kernel)) pa_nil))) (pe_and (pe_fn G.is_made_of hr pass0 (by rfl) (pa_cons (pv 1) (pa_cons (pe_fld (pv 0) rfl) pa_nil))) (pe_one (pe_fn G.is_within hr pass0 (by rfl) (pa_cons (pv 0) (pa_cons (pe_callB call_len_str (by rfl) G.len (by decide +kernel) (pa_cons (pv 1) pa_nil)) pa_nil)))))))), ?_⟩
    obtain ⟨a, C, dx, fs, s, l, m, v, rfl, ha, hC, n1, n2, n3, l1, l2, l3, es, el, em, hf, hz, q⟩ := h
    obtain ⟨T, ty, ks, ki, kb⟩ := thg_ty (K := K) hf
    refine ⟨_, rfl, _, _, _, _, _, rfl, .ty _, ty, kit_ty ks, _, rfl, ?_⟩
    cases v with
    | str z =>
      have hz' : z.length ≤ 900 := hz
      refine iteT ⟨_, rfl, _, rfl, a, C, dx, fs, _, rfl, ha, hC, n1, l1, z, strV s, by rw [← es]; rfl, Nat.le_trans hz' (by decide), _, rfl, ?_⟩
      have r : wordB s l m (.str z) = (madeB z (strV s) && withinB l m z.length) := rfl
      rw [r] at q
      refine ite2 (fun h1 => ?_) (fun h1 => ?_)
      · rw [h1] at q
        exact ⟨_, rfl, _, rfl, z, rfl, small_line z (Nat.le_trans hz' (by decide)), a, C, dx, fs, l, m, _, rfl, ha, hC, n2, n3, l2, l3, el, em, q⟩
      · rw [Bool.eq_false_iff.mpr h1] at q
        exact q
    | _ => exact iteF q

structure P2 (P : Program) (w : World) (K : Frag) (mg : Str → Option Value) (base : Heap) : Prop extends P1 P w K mg base where
  greatest_of : FnAt P w K mg base CX0 2 "greatest_of" ["width"] spGreat
  is_word_of : FnAt P w K mg base CX0 2 "is_word_of" ["field", "thing"] (spWordOf K)
def init1 (t : Str) : Str := cutS t none (some (-1))
def last1 (t : Str) : Str := cutS t (some (-1)) none
/-- what the methods answer -/
def PD.hasV (v : V) : PD → Bool
  | .word s l m => wordB s l m v
  | .number l m => numB v && withinB l m (intV v)
  | .fixed w => numB v && (decide (0 ≤ intV v) && decide (intV v ≤ great w))
  | .listed x => (match v with | .str _ => inV v x.els | _ => false)
  | .ended s _ l m => wordB s l m v
def PD.hasT (t : Str) : PD → Bool
  | .word s l m => wordB s l m (.str t)
  | .number l m => numeralB t && withinB l m (numOf t)
  | .fixed w => decide (V.int t.length = w) && madeB t DG
  | .listed x => inV (.str t) x.els
  | .ended s e l m => decide (V.str (last1 t) = e) && wordB s l m (.str (init1 t))
def PD.textF (v : V) : PD → Str
  | .word .. => strV v
  | .number .. => dg (intV v)
  | .fixed w => Txt.zfill (dg (intV v)) (intV w)
  | .listed _ => strV v
  | .ended _ e _ _ => strV v ++ strV e
def PD.valF (t : Str) : PD → V
  | .word .. => .str t
  | .number .. => .int (numOf t)
  | .fixed _ => .int (numOf t)
  | .listed _ => .str t
  | .ended .. => .str (init1 t)
/-- a text that may be asked for -/
def txOk (t : Str) : Bool := decide (t.length ≤ 900) && (decide ((init1 t).length ≤ 900) && (!numeralB t || numOk t))
/-- a value that may be written -/
def vaOk : V → Bool
  | .int i => decide (0 ≤ i) && decide (i < 400)
  | .str z => decide (z.length ≤ 900)
  | _ => true

def spHVWord (K : Frag) : Sp := fun vs H Q _ => ∃ (a : Addr) (v : V) (s l m : V), vs = [.ref a, v] ∧ FieldAt K H a (.word s l m) ∧ PD.In (.word s l m) ∧ PD.due (.word s l m) = none ∧ Thg H v ∧ lenV v ≤ 900 ∧ Q (.bl (PD.hasV v (.word s l m))) H
def spTFWord (K : Frag) : Sp := fun vs H Q _ => ∃ (a : Addr) (v : V) (s l m : V), vs = [.ref a, v] ∧ FieldAt K H a (.word s l m) ∧ PD.In (.word s l m) ∧ PD.due (.word s l m) = none ∧ vaOk v = true ∧ PD.hasV v (.word s l m) = true ∧ ∀ H', Same H H' → Q (.str (PD.textF v (.word s l m))) H'
def spHTWord (K : Frag) : Sp := fun vs H Q _ => ∃ (a : Addr) (t : Str) (s l m : V), vs = [.ref a, .str t] ∧ FieldAt K H a (.word s l m) ∧ PD.In (.word s l m) ∧ PD.due (.word s l m) = none ∧ txOk t = true ∧ Q (.bl (PD.hasT t (.word s l m))) H
def spVFWord (K : Frag) : Sp := fun vs H Q _ => ∃ (a : Addr) (t : Str) (s l m : V), vs = [.ref a, .str t] ∧ FieldAt K H a (.word s l m) ∧ PD.In (.word s l m) ∧ PD.due (.word s l m) = none ∧ txOk t = true ∧ PD.hasT t (.word s l m) = true ∧ numOk t = true ∧ Q (PD.valF t (.word s l m)) H
def spHVNumber (K : Frag) : Sp := fun vs H Q _ => ∃ (a : Addr) (v : V) (l m : V), vs = [.ref a, v] ∧ FieldAt K H a (.number l m) ∧ PD.In (.number l m) ∧ PD.due (.number l m) = none ∧ Thg H v ∧ lenV v ≤ 900 ∧ Q (.bl (PD.hasV v (.number l m))) H
def spTFNumber (K : Frag) : Sp := fun vs H Q _ => ∃ (a : Addr) (v : V) (l m : V), vs = [.ref a, v] ∧ FieldAt K H a (.number l m) ∧ PD.In (.number l m) ∧ PD.due (.number l m) = none ∧ vaOk v = true ∧ PD.hasV v (.number l m) = true ∧ ∀ H', Same H H' → Q (.str (PD.textF v (.number l m))) H'
def spHTNumber (K : Frag) : Sp := fun vs H Q _ => ∃ (a : Addr) (t : Str) (l m : V), vs = [.ref a, .str t] ∧ FieldAt K H a (.number l m) ∧ PD.In (.number l m) ∧ PD.due (.number l m) = none ∧ txOk t = true ∧ Q (.bl (PD.hasT t (.number l m))) H
def spVFNumber (K : Frag) : Sp := fun vs H Q _ => ∃ (a : Addr) (t : Str) (l m : V), vs = [.ref a, .str t] ∧ FieldAt K H a (.number l m) ∧ PD.In (.number l m) ∧ PD.due (.number l m) = none ∧ txOk t = true ∧ PD.hasT t (.number l m) = true ∧ numOk t = true ∧ Q (PD.valF t (.number l m)) H
def spHVFixed (K : Frag) : Sp := fun vs H Q _ => ∃ (a : Addr) (v : V) (z : V), vs = [.ref a, v] ∧ FieldAt K H a (.fixed z) ∧ PD.In (.fixed z) ∧ PD.due (.fixed z) = none ∧ Thg H v ∧ lenV v ≤ 900 ∧ Q (.bl (PD.hasV v (.fixed z))) H
def spTFFixed (K : Frag) : Sp := fun vs H Q _ => ∃ (a : Addr) (v : V) (z : V), vs = [.ref a, v] ∧ FieldAt K H a (.fixed z) ∧ PD.In (.fixed z) ∧ PD.due (.fixed z) = none ∧ vaOk v = true ∧ PD.hasV v (.fixed z) = true ∧ ∀ H', Same H H' → Q (.str (PD.textF v (.fixed z))) H'
def spHTFixed (K : Frag) : Sp := fun vs H Q _ => ∃ (a : Addr) (t : Str) (z : V), vs = [.ref a, .str t] ∧ FieldAt K H a (.fixed z) ∧ PD.In (.fixed z) ∧ PD.due (.fixed z) = none ∧ txOk t = true ∧ Q (.bl (PD.hasT t (.fixed z))) H
def spVFFixed (K : Frag) : Sp := fun vs H Q _ => ∃ (a : Addr) (t : Str) (z : V), vs = [.ref a, .str t] ∧ FieldAt K H a (.fixed z) ∧ PD.In (.fixed z) ∧ PD.due (.fixed z) = none ∧ txOk t = true ∧ PD.hasT t (.fixed z) = true ∧ numOk t = true ∧ Q (PD.valF t (.fixed z)) H
def spHVListed (K : Frag) : Sp := fun vs H Q _ => ∃ (a : Addr) (v : V) (x : LX), vs = [.ref a, v] ∧ FieldAt K H a (.listed x) ∧ PD.In (.listed x) ∧ PD.due (.listed x) = none ∧ Thg H v ∧ lenV v ≤ 900 ∧ Q (.bl (PD.hasV v (.listed x))) H
def spTFListed (K : Frag) : Sp := fun vs H Q _ => ∃ (a : Addr) (v : V) (x : LX), vs = [.ref a, v] ∧ FieldAt K H a (.listed x) ∧ PD.In (.listed x) ∧ PD.due (.listed x) = none ∧ vaOk v = true ∧ PD.hasV v (.listed x) = true ∧ ∀ H', Same H H' → Q (.str (PD.textF v (.listed x))) H'
def spHTListed (K : Frag) : Sp := fun vs H Q _ => ∃ (a : Addr) (t : Str) (x : LX), vs = [.ref a, .str t] ∧ FieldAt K H a (.listed x) ∧ PD.In (.listed x) ∧ PD.due (.listed x) = none ∧ txOk t = true ∧ Q (.bl (PD.hasT t (.listed x))) H
def spVFListed (K : Frag) : Sp := fun vs H Q _ => ∃ (a : Addr) (t : Str) (x : LX), vs = [.ref a, .str t] ∧ FieldAt K H a (.listed x) ∧ PD.In (.listed x) ∧ PD.due (.listed x) = none ∧ txOk t = true ∧ PD.hasT t (.listed x) = true ∧ numOk t = true ∧ Q (PD.valF t (.listed x)) H
def spHVEnded (K : Frag) : Sp := fun vs H Q _ => ∃ (a : Addr) (v : V) (s e l m : V), vs = [.ref a, v] ∧ FieldAt K H a (.ended s e l m) ∧ PD.In (.ended s e l m) ∧ PD.due (.ended s e l m) = none ∧ Thg H v ∧ lenV v ≤ 900 ∧ Q (.bl (PD.hasV v (.ended s e l m))) H
def spTFEnded (K : Frag) : Sp := fun vs H Q _ => ∃ (a : Addr) (v : V) (s e l m : V), vs = [.ref a, v] ∧ FieldAt K H a (.ended s e l m) ∧ PD.In (.ended s e l m) ∧ PD.due (.ended s e l m) = none ∧ vaOk v = true ∧ PD.hasV v (.ended s e l m) = true ∧ ∀ H', Same H H' → Q (.str (PD.textF v (.ended s e l m))) H'
def spHTEnded (K : Frag) : Sp := fun vs H Q _ => ∃ (a : Addr) (t : Str) (s e l m : V), vs = [.ref a, .str t] ∧ FieldAt K H a (.ended s e l m) ∧ PD.In (.ended s e l m) ∧ PD.due (.ended s e l m) = none ∧ txOk t = true ∧ Q (.bl (PD.hasT t (.ended s e l m))) H
def spVFEnded (K : Frag) : Sp := fun vs H Q _ => ∃ (a : Addr) (t : Str) (s e l m : V), vs = [.ref a, .str t] ∧ FieldAt K H a (.ended s e l m) ∧ PD.In (.ended s e l m) ∧ PD.due (.ended s e l m) = none ∧ txOk t = true ∧ PD.hasT t (.ended s e l m) = true ∧ numOk t = true ∧ Q (PD.valF t (.ended s e l m)) H
abbrev s_Word_has_value : Stmt := inClass (top 26) 2
theorem sc_Word_has_value : FnScope ["self", "thing"] ["self", "thing"] (defScope s_Word_has_value) := ⟨rfl, rfl, rfl, by decide +kernel, rfl, by decide +kernel, by decide +kernel⟩

theorem ok_Word_has_value (F : FunD K "has_value" "Word.has_value" (defArgs s_Word_has_value) (defBody s_Word_has_value) (defScope s_Word_has_value) [] [] f fd) (G : P2 P w K mg base) : FnOk P w K mg base CX0 3 f fd ["self", "thing"] (spHVWord K) := by
  refine F.ok (CX := CX0) sc_Word_has_value (fun vs H Q E h => ?_) (fun cdv A outer s H vs Q E hr h => ?_)
  · obtain ⟨a, v, s, l, m, rfl, _⟩ := h
    rfl
  · refine ⟨_, PSs.nox (pss_one (ps_ret (pe_fn G.is_word_of hr pass0 (by rfl) (pa_cons (pv 0) (pa_cons (pv 1) pa_nil))))), ?_⟩
    obtain ⟨a, v, s, l, m, rfl, hF, hin, hd, hf, hz, q⟩ := h
    obtain ⟨dx, ha⟩ := hF
    obtain ⟨hs, hl, hm⟩ := hin
    obtain ⟨es, el, em⟩ := word_all s hs l hl m hm hd
    exact ⟨_, rfl, _, rfl, a, _, dx, _, s, l, m, _, rfl, ha, G.cWord.cl, G.cWord.no _ (by decide +kernel), G.cWord.no _ (by decide +kernel), G.cWord.no _ (by decide +kernel), lWord_signs, lWord_least, lWord_most, es, el, em, hf, hz, q⟩

abbrev s_Ended_has_value : Stmt := inClass (top 30) 2
theorem sc_Ended_has_value : FnScope ["self", "thing"] ["self", "thing"] (defScope s_Ended_has_value) := ⟨rfl, rfl, rfl, by decide +kernel, rfl, by decide +kernel, by decide +kernel⟩

theorem ok_Ended_has_value (F : FunD K "has_value" "Ended.has_value" (defArgs s_Ended_has_value) (defBody s_Ended_has_value) (defScope s_Ended_has_value) [] [] f fd) (G : P2 P w K mg base) : FnOk P w K mg base CX0 3 f fd ["self", "thing"] (spHVEnded K) := by
  refine F.ok (CX := CX0) sc_Ended_has_value (fun vs H Q E h => ?_) (fun cdv A outer s H vs Q E hr h => ?_)
  · obtain ⟨a, v, s, e, l, m, rfl, _⟩ := h
    rfl
  · refine ⟨_, PSs.nox (pss_one (ps_ret (pe_fn G.is_word_of hr pass0 (by rfl) (pa_cons (pv 0) (pa_cons (pv 1) pa_nil))))), ?_⟩
    obtain ⟨a, v, s, e, l, m, rfl, hF, hin, hd, hf, hz, q⟩ := h
    obtain ⟨dx, ha⟩ := hF
    obtain ⟨hs, he, hl, hm⟩ := hin
    obtain ⟨es, ee, el, em, hel⟩ := end_all s hs e he l hl m hm hd
    exact ⟨_, rfl, _, rfl, a, _, dx, _, s, l, m, _, rfl, ha, G.cEnded.cl, G.cEnded.no _ (by decide +kernel), G.cEnded.no _ (by decide +kernel), G.cEnded.no _ (by decide +kernel), lEnded_signs, lEnded_least, lEnded_most, es, el, em, hf, hz, q⟩

abbrev s_Word_text_for : Stmt := inClass (top 26) 3
theorem sc_Word_text_for : FnScope ["self", "value"] ["self", "value"] (defScope s_Word_text_for) := ⟨rfl, rfl, rfl, by decide +kernel, rfl, by decide +kernel, by decide +kernel⟩

theorem ok_Word_text_for (F : FunD K "text_for" "Word.text_for" (defArgs s_Word_text_for) (defBody s_Word_text_for) (defScope s_Word_text_for) [] [] f fd) (G : P2 P w K mg base) : FnOk P w K mg base CX0 1 f fd ["self", "value"] (spTFWord K) := by
  refine F.ok (CX := CX0) sc_Word_text_for (fun vs H Q E h => ?_) (fun cdv A outer s H vs Q E hr h => ?_)
  · obtain ⟨a, v, s, l, m, rfl, _⟩ := h
    rfl
  · refine ⟨_, PSs.nox (pss_one (ps_ret (pv 1))), ?_⟩
    obtain ⟨a, v, s, l, m, rfl, hF, hin, hd, hv, hh, q⟩ := h
    have q0 := q _ (Same.refl _)
    cases v with
    | str z => exact ⟨_, rfl, q0⟩
    | _ => cases hh

abbrev s_Listed_text_for : Stmt := inClass (top 29) 3
theorem sc_Listed_text_for : FnScope ["self", "value"] ["self", "value"] (defScope s_Listed_text_for) := ⟨rfl, rfl, rfl, by decide +kernel, rfl, by decide +kernel, by decide +kernel⟩

theorem ok_Listed_text_for (F : FunD K "text_for" "Listed.text_for" (defArgs s_Listed_text_for) (defBody s_Listed_text_for) (defScope s_Listed_text_for) [] [] f fd) (G : P2 P w K mg base) : FnOk P w K mg base CX0 1 f fd ["self", "value"] (spTFListed K) := by
  refine F.ok (CX := CX0) sc_Listed_text_for (fun vs H Q E h => ?_) (fun cdv A outer s H vs Q E hr h => ?_)
  · obtain ⟨a, v, x, rfl, _⟩ := h
    rfl
  · refine ⟨_, PSs.nox (pss_one (ps_ret (pv 1))), ?_⟩
    obtain ⟨a, v, x, rfl, hF, hin, hd, hv, hh, q⟩ := h
    have q0 := q _ (Same.refl _)
    cases v with
    | str z => exact ⟨_, rfl, q0⟩
    | _ => cases hh

abbrev s_Listed_has_value : Stmt := inClass (top 29) 2
theorem sc_Listed_has_value : FnScope ["self", "thing"] ["self", "thing"] (defScope s_Listed_has_value) := ⟨rfl, rfl, rfl, by decide +kernel, rfl, by decide +kernel, by decide +kernel⟩

theorem ok_Listed_has_value (F : FunD K "has_value" "Listed.has_value" (defArgs s_Listed_has_value) (defBody s_Listed_has_value) (defScope s_Listed_has_value) [] [] f fd) (G : P2 P w K mg base) : FnOk P w K mg base CX0 1 f fd ["self", "thing"] (spHVListed K) := by
  refine F.ok (CX := CX0) sc_Listed_has_value (fun vs H Q E h => ?_) (fun cdv A outer s H vs Q E hr h => ?_)
  · obtain ⟨a, v, x, rfl, _⟩ := h
    rfl
  · refine ⟨_, PSs.nox (pss_one (ps_ret (pe_and (pe_callB call_ie (by rfl) G.isinstance (by decide +kernel) (pa_cons (pv 1) (pa_cons (pe_bty (n := "str") (by rfl) G.str (by decide +kernel)) pa_nil))) (pe_one (pe_cmpR op_in_seq (pv 1) (pe_fld (pv 0) rfl) (by rfl)))))), ?_⟩
    obtain ⟨a, v, x, rfl, hF, hin, hd, hf, hz, q⟩ := h
    obtain ⟨dx, tx, ha, htx⟩ := hF
    obtain ⟨hfl, _⟩ := lM_shaped x hin hd
    obtain ⟨T, ty, ks, ki, kb⟩ := thg_ty (K := K) hf
    refine ⟨_, rfl, _, _, _, _, _, rfl, .ty _, ty, kit_ty ks, _, rfl, ?_⟩
    cases v with
    | str z => exact iteT ⟨_, rfl, _, rfl, a, _, dx, _, _, rfl, ha, G.cListed.cl, G.cListed.no _ (by decide +kernel), lListed_texts, tx, x.els, rfl, .inr (htx.sq), rfl, hfl, q⟩
    | _ => exact iteF q

abbrev s_Ended_text_for : Stmt := inClass (top 30) 3
theorem sc_Ended_text_for : FnScope ["self", "value"] ["self", "value"] (defScope s_Ended_text_for) := ⟨rfl, rfl, rfl, by decide +kernel, rfl, by decide +kernel, by decide +kernel⟩

theorem ok_Ended_text_for (F : FunD K "text_for" "Ended.text_for" (defArgs s_Ended_text_for) (defBody s_Ended_text_for) (defScope s_Ended_text_for) [] [] f fd) (G : P2 P w K mg base) : FnOk P w K mg base CX0 1 f fd ["self", "value"] (spTFEnded K) := by
  refine F.ok (CX := CX0) sc_Ended_text_for (fun vs H Q E h => ?_) (fun cdv A outer s H vs Q E hr h => ?_)
  · obtain ⟨a, v, s, e, l, m, rfl, _⟩ := h
    rfl
  · refine ⟨_, PSs.nox (pss_one (ps_ret (pe_op op_add_str (pv 1) (pe_fld (pv 0) rfl)))), ?_⟩
    obtain ⟨a, v, s, e, l, m, rfl, hF, hin, hd, hv, hh, q⟩ := h
    obtain ⟨dx, ha⟩ := hF
    obtain ⟨hs, he, hl, hm⟩ := hin
    obtain ⟨es, ee, el, em, hel⟩ := end_all s hs e he l hl m hm hd
    have q0 := q _ (Same.refl _)
    cases v with
    | str z =>
      have hz : z.length ≤ 900 := of_decide_eq_true hv
      exact ⟨_, rfl, _, rfl, a, _, dx, _, _, rfl, ha, G.cEnded.cl, G.cEnded.no _ (by decide +kernel), lEnded_sign, z, strV e, rfl, ee, by rw [sizeLine_eq]; omega, q0⟩
    | _ => cases hh

abbrev s_Number_has_value : Stmt := inClass (top 27) 2
theorem sc_Number_has_value : FnScope ["self", "thing"] ["self", "thing"] (defScope s_Number_has_value) := ⟨rfl, rfl, rfl, by decide +kernel, rfl, by decide +kernel, by decide +kernel⟩

theorem ok_Number_has_value (F : FunD K "has_value" "Number.has_value" (defArgs s_Number_has_value) (defBody s_Number_has_value) (defScope s_Number_has_value) [] [] f fd) (G : P2 P w K mg base) : FnOk P w K mg base CX0 2 f fd ["self", "thing"] (spHVNumber K) := by
  refine F.ok (CX := CX0) sc_Number_has_value (fun vs H Q E h => ?_) (fun cdv A outer s H vs Q E hr h => ?_)
  · obtain ⟨a, v, l, m, rfl, _⟩ := h
    rfl
  · refine ⟨_, PSs.nox (pss_one (ps_ret (pe_and (pe_fn G.is_numberT hr pass0 (by rfl) (pa_cons (pv 1) pa_nil)) (pe_one (pe_fn G.is_within hr pass0 (by rfl) (pa_cons (pv 0) (pa_cons (pv 1) pa_nil))))))), ?_⟩
    obtain ⟨a, v, l, m, rfl, hF, hin, hd, hf, hz, q⟩ := h
    obtain ⟨dx, ha⟩ := hF
    obtain ⟨hl, hm⟩ := hin
    obtain ⟨el, em, _⟩ := num_due l hl m hm hd
    refine ⟨_, rfl, v, rfl, hf, _, rfl, ?_⟩
    cases v with
    | int i => exact iteT ⟨_, rfl, _, rfl, a, _, dx, _, l, m, _, rfl, ha, G.cNumber.cl, G.cNumber.no _ (by decide +kernel), G.cNumber.no _ (by decide +kernel), lNumber_least, lNumber_most, el, em, q⟩
    | _ => exact iteF q

abbrev s_Number_text_for : Stmt := inClass (top 27) 3
theorem sc_Number_text_for : FnScope ["self", "value"] ["self", "value"] (defScope s_Number_text_for) := ⟨rfl, rfl, rfl, by decide +kernel, rfl, by decide +kernel, by decide +kernel⟩

theorem ok_Number_text_for (F : FunD K "text_for" "Number.text_for" (defArgs s_Number_text_for) (defBody s_Number_text_for) (defScope s_Number_text_for) [] [] f fd) (G : P2 P w K mg base) : FnOk P w K mg base CX0 2 f fd ["self", "value"] (spTFNumber K) := by
  refine F.ok (CX := CX0) sc_Number_text_for (fun vs H Q E h => ?_) (fun cdv A outer s H vs Q E hr h => ?_)
  · obtain ⟨a, v, l, m, rfl, _⟩ := h
    rfl
  · refine ⟨_, PSs.nox (pss_one (ps_ret (pe_fn G.digits_of hr pass0 (by rfl) (pa_cons (pv 1) pa_nil)))), ?_⟩
    obtain ⟨a, v, l, m, rfl, hF, hin, hd, hv, hh, q⟩ := h
    cases v with
    | int i =>
      obtain ⟨v1, v2⟩ := Bool.and_eq_true_iff.mp hv
      exact ⟨_, rfl, i, rfl, of_decide_eq_true v1, of_decide_eq_true v2, fun H' S => q H' S⟩
    | _ => cases hh

abbrev s_Fixed_has_value : Stmt := inClass (top 28) 2
theorem sc_Fixed_has_value : FnScope ["self", "thing"] ["self", "thing"] (defScope s_Fixed_has_value) := ⟨rfl, rfl, rfl, by decide +kernel, rfl, by decide +kernel, by decide +kernel⟩

theorem ok_Fixed_has_value (F : FunD K "has_value" "Fixed.has_value" (defArgs s_Fixed_has_value) (defBody s_Fixed_has_value) (defScope s_Fixed_has_value) [] [] f fd) (G : P2 P w K mg base) : FnOk P w K mg base CX0 3 f fd ["self", "thing"] (spHVFixed K) := by
  refine F.ok (CX := CX0) sc_Fixed_has_value (fun vs H Q E h => ?_) (fun cdv A outer s H vs Q E hr h => ?_)
  · obtain ⟨a, v, z, rfl, _⟩ := h
    rfl
  · refine ⟨_, PSs.nox (pss_one (ps_ret (pe_and (pe_fn G.is_numberT (hr.mono (by decide)) pass0 (by rfl) (pa_cons (pv 1) pa_nil)) (pe_one (pe_chain op_le op_le pe_int (pv 1) (pe_fn G.greatest_of hr pass0 (by rfl) (pa_cons (pe_fld (pv 0) rfl) pa_nil))))))), ?_⟩
    obtain ⟨a, v, z, rfl, hF, hin, hd, hf, hz, q⟩ := h
    obtain ⟨dx, ha⟩ := hF
    obtain ⟨_, ew, pw, w0, w1⟩ := wM_great z hin
    refine ⟨_, rfl, v, rfl, hf, _, rfl, ?_⟩
    cases v with
    | int i =>
      have r : PD.hasV (.int i) (.fixed z) = (decide (0 ≤ i) && decide (i ≤ great z)) := rfl
      rw [r] at q
      refine iteT ⟨_, rfl, _, _, rfl, rfl, _, rfl, ?_⟩
      refine ite2 (fun h1 => ?_) (fun h1 => ?_)
      · rw [h1] at q
        exact ⟨_, rfl, a, _, dx, _, _, rfl, ha, G.cFixed.cl, G.cFixed.no _ (by decide +kernel), lFixed_width, z, rfl, hin, _, _, rfl, rfl, q⟩
      · rw [Bool.eq_false_iff.mpr h1] at q
        exact q
    | _ => exact iteF q

abbrev s_Fixed_text_for : Stmt := inClass (top 28) 3
theorem sc_Fixed_text_for : FnScope ["self", "value"] ["self", "value"] (defScope s_Fixed_text_for) := ⟨rfl, rfl, rfl, by decide +kernel, rfl, by decide +kernel, by decide +kernel⟩

theorem ok_Fixed_text_for (F : FunD K "text_for" "Fixed.text_for" (defArgs s_Fixed_text_for) (defBody s_Fixed_text_for) (defScope s_Fixed_text_for) [] [] f fd) (G : P2 P w K mg base) : FnOk P w K mg base CX0 2 f fd ["self", "value"] (spTFFixed K) := by
  refine F.ok (CX := CX0) sc_Fixed_text_for (fun vs H Q E h => ?_) (fun cdv A outer s H vs Q E hr h => ?_)
  · obtain ⟨a, v, z, rfl, _⟩ := h
    rfl
  · refine ⟨_, PSs.nox (pss_one (ps_ret (pe_bm PySem.F.plainAttrs_str PySem.F.slot_str_zfill PySem.F.type_str_zfill mt_zfill (pe_fn G.digits_of hr pass0 (by rfl) (pa_cons (pv 1) pa_nil)) (pa_cons (pe_fld (pv 0) rfl) pa_nil)))), ?_⟩
    obtain ⟨a, v, z, rfl, hF, hin, hd, hv, hh, q⟩ := h
    obtain ⟨dx, ha⟩ := hF
    obtain ⟨_, ew, pw, w0, w1⟩ := wM_great z hin
    cases v with
    | int i =>
      obtain ⟨v1, v2⟩ := Bool.and_eq_true_iff.mp hv
      exact ⟨_, rfl, i, rfl, of_decide_eq_true v1, of_decide_eq_true v2, fun H' S => ⟨rfl, _, rfl, a, _, dx, _, _, rfl, S _ _ ha, G.cFixed.cl, G.cFixed.no _ (by decide +kernel), lFixed_width, _, intV z, rfl, by rw [ew]; rfl, pw, q H' S⟩⟩
    | _ => cases hh

def idx (z : Str) : List Str → Nat
  | [] => 0
  | y :: ys => if y = z then 0 else idx z ys + 1
theorem idx_at {z : Str} : ∀ {ys : List Str}, z ∈ ys → ys[idx z ys]? = some z ∧ ∀ m, m < idx z ys → ys[m]? ≠ some z
  | [], h => by cases h
  | y :: ys, h => by
    unfold idx
    by_cases e : y = z
    · rw [if_pos e]
      exact ⟨by rw [e]; rfl, fun m hm => absurd hm (Nat.not_lt_zero _)⟩
    · rw [if_neg e]
      have h2 : z ∈ ys := by
        rcases List.mem_cons.mp h with k | k
        · exact absurd k.symm e
        · exact k
      obtain ⟨i1, i2⟩ := idx_at h2
      refine ⟨i1, fun m hm => ?_⟩
      cases m with
      | zero => exact fun k => e (Option.some.inj k)
      | succ m => exact i2 m (Nat.lt_of_succ_lt_succ hm)
/-- puts_before -/
def PD.bef (v u : V) : PD → Bool
  | .word .. => decide ((strV v).cps.toList < (strV u).cps.toList)
  | .number .. => decide (intV v < intV u)
  | .fixed _ => decide (intV v < intV u)
  | .listed x => decide ((idx (strV v) (x.els.map strV) : Int) < (idx (strV u) (x.els.map strV) : Int))
  | .ended .. => decide ((strV v).cps.toList < (strV u).cps.toList)
theorem in_els {x : LX} (ha : x.els.all areB = true) {z : Str} (h : inV (.str z) x.els = true) : z ∈ x.els.map strV := by
  obtain ⟨y, hy, e⟩ := List.any_eq_true.mp h
  have hy2 := List.all_eq_true.mp ha y hy
  cases y with
  | str t =>
    have e2 : t = z := by simpa [eqV] using e
    exact List.mem_map.mpr ⟨_, hy, e2⟩
  | _ => cases hy2

def spPBWord (K : Frag) : Sp := fun vs H Q _ => ∃ (a : Addr) (v u : V) (s l m : V), vs = [.ref a, v, u] ∧ FieldAt K H a (.word s l m) ∧ PD.In (.word s l m) ∧ PD.due (.word s l m) = none ∧ PD.hasV v (.word s l m) = true ∧ PD.hasV u (.word s l m) = true ∧ Q (.bl (PD.bef v u (.word s l m))) H
def spPBNumber (K : Frag) : Sp := fun vs H Q _ => ∃ (a : Addr) (v u : V) (l m : V), vs = [.ref a, v, u] ∧ FieldAt K H a (.number l m) ∧ PD.In (.number l m) ∧ PD.due (.number l m) = none ∧ PD.hasV v (.number l m) = true ∧ PD.hasV u (.number l m) = true ∧ Q (.bl (PD.bef v u (.number l m))) H
def spPBFixed (K : Frag) : Sp := fun vs H Q _ => ∃ (a : Addr) (v u : V) (z : V), vs = [.ref a, v, u] ∧ FieldAt K H a (.fixed z) ∧ PD.In (.fixed z) ∧ PD.due (.fixed z) = none ∧ PD.hasV v (.fixed z) = true ∧ PD.hasV u (.fixed z) = true ∧ Q (.bl (PD.bef v u (.fixed z))) H
def spPBListed (K : Frag) : Sp := fun vs H Q _ => ∃ (a : Addr) (v u : V) (x : LX), vs = [.ref a, v, u] ∧ FieldAt K H a (.listed x) ∧ PD.In (.listed x) ∧ PD.due (.listed x) = none ∧ PD.hasV v (.listed x) = true ∧ PD.hasV u (.listed x) = true ∧ Q (.bl (PD.bef v u (.listed x))) H
def spPBEnded (K : Frag) : Sp := fun vs H Q _ => ∃ (a : Addr) (v u : V) (s e l m : V), vs = [.ref a, v, u] ∧ FieldAt K H a (.ended s e l m) ∧ PD.In (.ended s e l m) ∧ PD.due (.ended s e l m) = none ∧ PD.hasV v (.ended s e l m) = true ∧ PD.hasV u (.ended s e l m) = true ∧ Q (.bl (PD.bef v u (.ended s e l m))) H
structure P3 (P : Program) (w : World) (K : Frag) (mg : Str → Option Value) (base : Heap) : Prop extends P2 P w K mg base where
  hvWord : HM P w K mg base 3 (ca K 0) "has_value" ["self", "thing"] (spHVWord K)
  hvNumber : HM P w K mg base 3 (ca K 1) "has_value" ["self", "thing"] (spHVNumber K)
  hvFixed : HM P w K mg base 3 (ca K 2) "has_value" ["self", "thing"] (spHVFixed K)
  hvListed : HM P w K mg base 3 (ca K 3) "has_value" ["self", "thing"] (spHVListed K)
  hvEnded : HM P w K mg base 3 (ca K 4) "has_value" ["self", "thing"] (spHVEnded K)
  tfWord : HM P w K mg base 3 (ca K 0) "text_for" ["self", "value"] (spTFWord K)
  tfNumber : HM P w K mg base 3 (ca K 1) "text_for" ["self", "value"] (spTFNumber K)
  tfFixed : HM P w K mg base 3 (ca K 2) "text_for" ["self", "value"] (spTFFixed K)
  tfListed : HM P w K mg base 3 (ca K 3) "text_for" ["self", "value"] (spTFListed K)
  tfEnded : HM P w K mg base 3 (ca K 4) "text_for" ["self", "value"] (spTFEnded K)
theorem P3.hv_ (G : P3 P w K mg base) {H : Hp} {y : Addr} : ∀ {d : PD}, FieldAt K H y d → d.In → d.due = none → ∃ sp, HM P w K mg base 3 (ca K d.ci) "has_value" ["self", "thing"] sp ∧
    ∀ (v : V) (Q : VK) (E : XK), Thg H v → lenV v ≤ 900 → Q (.bl (d.hasV v)) H → sp [.ref y, v] H Q E
  | .word s l m, h, i, u0 => ⟨_, G.hvWord, fun v Q E hf hz q => ⟨y, v, s, l, m, rfl, h, i, u0, hf, hz, q⟩⟩
  | .number l m, h, i, u0 => ⟨_, G.hvNumber, fun v Q E hf hz q => ⟨y, v, l, m, rfl, h, i, u0, hf, hz, q⟩⟩
  | .fixed z, h, i, u0 => ⟨_, G.hvFixed, fun v Q E hf hz q => ⟨y, v, z, rfl, h, i, u0, hf, hz, q⟩⟩
  | .listed x, h, i, u0 => ⟨_, G.hvListed, fun v Q E hf hz q => ⟨y, v, x, rfl, h, i, u0, hf, hz, q⟩⟩
  | .ended s e l m, h, i, u0 => ⟨_, G.hvEnded, fun v Q E hf hz q => ⟨y, v, s, e, l, m, rfl, h, i, u0, hf, hz, q⟩⟩

theorem P3.tf_ (G : P3 P w K mg base) {H : Hp} {y : Addr} : ∀ {d : PD}, FieldAt K H y d → d.In → d.due = none → ∃ sp, HM P w K mg base 3 (ca K d.ci) "text_for" ["self", "value"] sp ∧
    ∀ (v : V) (Q : VK) (E : XK), vaOk v = true → d.hasV v = true → (∀ H', Same H H' → Q (.str (d.textF v)) H') → sp [.ref y, v] H Q E
  | .word s l m, h, i, u0 => ⟨_, G.tfWord, fun v Q E hf hz q => ⟨y, v, s, l, m, rfl, h, i, u0, hf, hz, q⟩⟩
  | .number l m, h, i, u0 => ⟨_, G.tfNumber, fun v Q E hf hz q => ⟨y, v, l, m, rfl, h, i, u0, hf, hz, q⟩⟩
  | .fixed z, h, i, u0 => ⟨_, G.tfFixed, fun v Q E hf hz q => ⟨y, v, z, rfl, h, i, u0, hf, hz, q⟩⟩
  | .listed x, h, i, u0 => ⟨_, G.tfListed, fun v Q E hf hz q => ⟨y, v, x, rfl, h, i, u0, hf, hz, q⟩⟩
  | .ended s e l m, h, i, u0 => ⟨_, G.tfEnded, fun v Q E hf hz q => ⟨y, v, s, e, l, m, rfl, h, i, u0, hf, hz, q⟩⟩

/-- a field, marked or not -/
inductive FD where
  | pl (d : PD)
  | mk (n m : V) (d : PD)
def FdAt (K : Frag) (H : Hp) (a : Addr) : FD → Prop
  | .pl d => FieldAt K H a d ∧ d.In ∧ d.due = none
  | .mk n m d => MkAt K H a n m d ∧ d.In ∧ d.due = none ∧ (∃ c, n = .str ⟨#[c]⟩) ∧ ∃ c, m = .str ⟨#[c]⟩
theorem FdAt.same {K : Frag} {H H' : Hp} {a : Addr} (S : Same H H') : ∀ {d : FD}, FdAt K H a d → FdAt K H' a d
  | .pl _, ⟨h, i⟩ => ⟨h.same S, i⟩
  | .mk _ _ _, ⟨⟨dx, y, h, k⟩, i⟩ => ⟨⟨dx, y, S _ _ h, k.same S⟩, i⟩
def tail1 (t : Str) : Str := cutS t (some 1) none
def head1 (t : Str) : Str := cutS t none (some 1)
def FD.hasV (v : V) : FD → Bool
  | .pl d => d.hasV v
  | .mk _ _ d => decide (v = .non) || d.hasV v
def FD.textF (v : V) : FD → Str
  | .pl d => d.textF v
  | .mk n m d => if decide (v = .non) = true then strV n else strV m ++ d.textF v
def FD.hasT (t : Str) : FD → Bool
  | .pl d => d.hasT t
  | .mk n m d => decide (V.str t = n) || (decide (V.str (head1 t) = m) && d.hasT (tail1 t))
def FD.valF (t : Str) : FD → V
  | .pl d => d.valF t
  | .mk n _ d => if decide (V.str t = n) = true then .non else d.valF (tail1 t)
def FD.txOk (t : Str) : FD → Bool
  | .pl _ => K77.txOk t
  | .mk .. => K77.txOk t && K77.txOk (tail1 t)
def FD.nuOk (t : Str) : FD → Bool
  | .pl _ => numOk t
  | .mk n _ _ => decide (V.str t = n) || numOk (tail1 t)

/-- no attribute of a field has a method's name -/
structure P4 (P : Program) (w : World) (K : Frag) (mg : Str → Option Value) (base : Heap) : Prop extends P3 P w K mg base where
theorem FieldAt.no {H : Hp} {y : Addr} {g : Str} (hg : g = "has_value" ∨ g = "text_for" ∨ g = "has_text" ∨ g = "value_for" ∨ g = "puts_before") : ∀ {d : PD}, FieldAt K H y d → ∀ dx fs C, H y = some (.ins C dx fs) → fs.lookup g = none
  | .word s l m, ⟨dx, h⟩, dx2, fs2, C2, h2 => by
    rw [h] at h2
    cases h2
    unfold fWord
    rcases hg with rfl | rfl | rfl | rfl | rfl <;> (rw [lookup_putF, if_neg (by decide +kernel)]; rw [lookup_putF, if_neg (by decide +kernel)]; rw [lookup_putF, if_neg (by decide +kernel)]; rfl)
  | .number l m, ⟨dx, h⟩, dx2, fs2, C2, h2 => by
    rw [h] at h2
    cases h2
    unfold fNumber
    rcases hg with rfl | rfl | rfl | rfl | rfl <;> (rw [lookup_putF, if_neg (by decide +kernel)]; rw [lookup_putF, if_neg (by decide +kernel)]; rfl)
  | .fixed z, ⟨dx, h⟩, dx2, fs2, C2, h2 => by
    rw [h] at h2
    cases h2
    unfold fFixed
    rcases hg with rfl | rfl | rfl | rfl | rfl <;> (rw [lookup_putF, if_neg (by decide +kernel)]; rfl)
  | .listed _, ⟨dx, t, h, _⟩, dx2, fs2, C2, h2 => by
    rw [h] at h2
    cases h2
    unfold fListed
    rcases hg with rfl | rfl | rfl | rfl | rfl <;> (rw [lookup_putF, if_neg (by decide +kernel)]; rfl)
  | .ended s e l m, ⟨dx, h⟩, dx2, fs2, C2, h2 => by
    rw [h] at h2
    cases h2
    unfold fEnded
    rcases hg with rfl | rfl | rfl | rfl | rfl <;> (rw [lookup_putF, if_neg (by decide +kernel)]; rw [lookup_putF, if_neg (by decide +kernel)]; rw [lookup_putF, if_neg (by decide +kernel)]; rw [lookup_putF, if_neg (by decide +kernel)]; rfl)

def spMHV (K : Frag) : Sp := fun vs H Q _ => ∃ (a : Addr) (n m : V) (d : PD) (v : V), vs = [.ref a, v] ∧ FdAt K H a (.mk n m d) ∧ Thg H v ∧ lenV v ≤ 900 ∧ Q (.bl (FD.hasV v (.mk n m d))) H
abbrev s_Marked_has_value : Stmt := inClass (top 31) 2
theorem sc_Marked_has_value : FnScope ["self", "thing"] ["self", "thing"] (defScope s_Marked_has_value) := ⟨rfl, rfl, rfl, by decide +kernel, rfl, by decide +kernel, by decide +kernel⟩

theorem ok_Marked_has_value (F : FunD K "has_value" "Marked.has_value" (defArgs s_Marked_has_value) (defBody s_Marked_has_value) (defScope s_Marked_has_value) [] [] f fd) (G : P4 P w K mg base) : FnOk P w K mg base CX0 4 f fd ["self", "thing"] (spMHV K) := by
  refine F.ok (CX := CX0) sc_Marked_has_value (fun vs H Q E h => ?_) (fun cdv A outer s H vs Q E hr h => ?_)
  · obtain ⟨a, n, m, d, v, rfl, _⟩ := h
    rfl
  · refine ⟨_, PSs.nox (pss_one (ps_ret (pe_or (pe_cmpR op_isN (pv 1) pe_non (nomark _)) (pe_one (pe_methD (CX := CX0) (pe_fld (pv 0) rfl) pass0 (pa_cons (pv 1) pa_nil)))))), ?_⟩
    obtain ⟨a, n, m, d, v, rfl, ⟨⟨dx, y, ha, hy⟩, hin, hd, ⟨cn, en⟩, cm, em⟩, hf, hz, q⟩ := h
    obtain ⟨ey, fs, hi, _⟩ := hy.ins
    have h6 := Nat.lt_of_lt_of_le d.ci_lt (by decide : 5 ≤ 6)
    obtain ⟨sp, M, Hs⟩ := G.hv_ hy hin hd
    obtain ⟨fde, Fe, Be⟩ := M.ok
    refine ⟨_, rfl, rfl, _, rfl, ?_⟩
    have r : FD.hasV v (.mk n m d) = (decide (v = .non) || d.hasV v) := rfl
    rw [r] at q
    refine ite2 (fun h1 => ?_) (fun h1 => ?_)
    · rw [h1] at q
      exact q
    · rw [Bool.eq_false_iff.mpr h1] at q
      exact ⟨_, rfl, a, _, dx, _, _, rfl, ha, G.cMarked.cl, G.cMarked.no _ (by decide +kernel), lMarked_field, y, _, ey, _, fs, 3, fde, _, sp, rfl, hi, hy.no (by decide +kernel) _ _ _ hi, G.cl _ h6, M.me, Fe, hr, Be, _, rfl, Hs _ _ _ hf hz q⟩

def spMTF (K : Frag) : Sp := fun vs H Q _ => ∃ (a : Addr) (n m : V) (d : PD) (v : V), vs = [.ref a, v] ∧ FdAt K H a (.mk n m d) ∧ vaOk v = true ∧ FD.hasV v (.mk n m d) = true ∧ (d.textF v).length ≤ 900 ∧ ∀ H', Same H H' → Q (.str (FD.textF v (.mk n m d))) H'
abbrev s_Marked_text_for : Stmt := inClass (top 31) 3
theorem sc_Marked_text_for : FnScope ["self", "value"] ["self", "value"] (defScope s_Marked_text_for) := ⟨rfl, rfl, rfl, by decide +kernel, rfl, by decide +kernel, by decide +kernel⟩

theorem ok_Marked_text_for (F : FunD K "text_for" "Marked.text_for" (defArgs s_Marked_text_for) (defBody s_Marked_text_for) (defScope s_Marked_text_for) [] [] f fd) (G : P4 P w K mg base) : FnOk P w K mg base CX0 4 f fd ["self", "value"] (spMTF K) := by
  refine F.ok (CX := CX0) sc_Marked_text_for (fun vs H Q E h => ?_) (fun cdv A outer s H vs Q E hr h => ?_)
  · obtain ⟨a, n, m, d, v, rfl, _⟩ := h
    rfl
  · refine ⟨_, PSs.nox (pss_cons (ps_if (pt_cmpR op_isN (pv 1) pe_non (nomark _))
      (pss_one (ps_ret (pe_fld (pv 0) rfl)))
      pss_nil)
    (pss_one (ps_ret (pe_op op_add_str (pe_fld (pv 0) rfl) (pe_methD (CX := CX0) (pe_fld (pv 0) rfl) pass0 (pa_cons (pv 1) pa_nil)))))), ?_⟩
    obtain ⟨a, n, m, d, v, rfl, ⟨⟨dx, y, ha, hy⟩, hin, hd, ⟨cn, en⟩, cm, em⟩, hv, hh, hlen, q⟩ := h
    obtain ⟨ey, fs, hi, _⟩ := hy.ins
    have h6 := Nat.lt_of_lt_of_le d.ci_lt (by decide : 5 ≤ 6)
    obtain ⟨sp, M, Hs⟩ := G.tf_ hy hin hd
    obtain ⟨fde, Fe, Be⟩ := M.ok
    have r : FD.textF v (.mk n m d) = if decide (v = .non) = true then strV n else strV m ++ d.textF v := rfl
    rw [r] at q
    refine ⟨_, rfl, rfl, _, rfl, ?_⟩
    refine ite2 (fun h1 => ?_) (fun h1 => ?_)
    · rw [if_pos h1] at q
      have q0 := q _ (Same.refl _)
      refine ⟨_, rfl, a, _, dx, _, _, rfl, ha, G.cMarked.cl, G.cMarked.no _ (by decide +kernel), lMarked_none, ?_⟩
      rw [en] at q0 ⊢
      exact q0
    · rw [if_neg h1] at q
      have hh' : d.hasV v = true := by
        have z : (decide (v = .non) || d.hasV v) = true := hh
        rw [Bool.eq_false_iff.mpr h1] at z
        exact z
      refine ⟨_, rfl, a, _, dx, _, _, rfl, ha, G.cMarked.cl, G.cMarked.no _ (by decide +kernel), lMarked_mark, _, rfl, a, _, dx, _, _, rfl, ha, G.cMarked.cl, G.cMarked.no _ (by decide +kernel), lMarked_field, y, _, ey, _, fs, 3, fde, _, sp, rfl, hi, hy.no (by decide +kernel) _ _ _ hi, G.cl _ h6, M.me, Fe, hr, Be, _, rfl, Hs _ _ _ hv hh' (fun H' S => ⟨⟨#[cm]⟩, _, em, rfl, by rw [sizeLine_eq]; show 1 + (d.textF v).length ≤ 16777216; omega, ?_⟩)⟩
      have z := q H' S
      rw [em] at z
      exact z

def FD.bef (v u : V) : FD → Bool
  | .pl d => d.bef v u
  | .mk _ _ d => if decide (u = .non) = true then false else decide (v = .non) || d.bef v u
def spMPB (K : Frag) : Sp := fun vs H Q _ => ∃ (a : Addr) (n m : V) (d : PD) (v u : V), vs = [.ref a, v, u] ∧ FdAt K H a (.mk n m d) ∧ FD.hasV v (.mk n m d) = true ∧ FD.hasV u (.mk n m d) = true ∧ Q (.bl (FD.bef v u (.mk n m d))) H

end
end L2.K77

set_option Elab.async false
set_option linter.all false
set_option maxRecDepth 100000
set_option maxHeartbeats 4000000
/-! zip of three sequences, lists or tuples. -/
namespace L2.Jk.Z3
open PySem
open PySem.Sem (wp)
/-- a list (true) or a tuple -/
def Sq : Bool → Heap → Addr → Array Value → Prop
  | true, h, a, xs => h.IsList a xs
  | false, h, a, xs => h.IsTuple a xs
def It : Bool → Heap → Addr → Addr → Nat → Prop
  | true, h, a, l, k => h.IsListIter a l k
  | false, h, a, l, k => h.IsTupleIter a l k
def itN : Bool → Str
  | true => "list_iterator"
  | false => "tuple_iterator"
theorem Sq.ext {b : Bool} {h h' : Heap} {a c : Addr} {xs : Array Value} (x : Sq b h a xs) (e : Heap.ExtBut c h h') (n : a ≠ c) : Sq b h' a xs := by
  cases b
  · exact Heap.IsTuple.extBut x e n
  · exact Heap.IsList.extBut x e n
theorem Sq.at {b : Bool} {h h' : Heap} {a : Addr} {xs : Array Value} (x : Sq b h a xs) (k : ∀ o, h.get? a = some o → h'.get? a = some o) : Sq b h' a xs := by
  cases b <;> (obtain ⟨o, ho, r⟩ := x; exact ⟨o, k o ho, r⟩)
theorem It.at {b : Bool} {h h' : Heap} {a l : Addr} {i : Nat} (x : It b h a l i) (k : ∀ o, h.get? a = some o → h'.get? a = some o) : It b h' a l i := by
  cases b <;> (obtain ⟨o, ho, r⟩ := x; exact ⟨o, k o ho, r⟩)
theorem It.ext {b : Bool} {h h' : Heap} {a c l : Addr} {i : Nat} (x : It b h a l i) (e : Heap.ExtBut c h h') (n : a ≠ c) : It b h' a l i := x.at fun o q => e a o n q
theorem It.obj {b : Bool} {h : Heap} {a l : Addr} {i : Nat} (x : It b h a l i) : ∃ o, h.get? a = some o ∧ ∀ v, o.data ≠ .cell v := by
  cases b <;> (obtain ⟨o, ho, _, d⟩ := x; exact ⟨o, ho, fun v q => by rw [d] at q; cases q⟩)
theorem It.lt {b : Bool} {h : Heap} {a l : Addr} {i : Nat} (x : It b h a l i) : a < h.objs.size := by
  obtain ⟨o, e, _⟩ := x.obj
  exact Heap.lt_size e
theorem Sq.lt {b : Bool} {h : Heap} {a : Addr} {xs : Array Value} (x : Sq b h a xs) : a < h.objs.size := by
  cases b <;> (obtain ⟨o, e, _⟩ := x; exact Heap.lt_size e)
abbrev IsTrip (h : Heap) (T : Addr) (a b c : Value) : Prop := h.get? T = some { cls := .type "tuple", data := .seq #[a, b, c] }
structure Ap (z TI TO i1 i2 i3 l1 l2 l3 : Addr) : Prop where
  ti : TI ≠ z ∧ TI ≠ TO ∧ TI ≠ i1 ∧ TI ≠ i2 ∧ TI ≠ i3
  to : TO ≠ z ∧ TO ≠ i1 ∧ TO ≠ i2 ∧ TO ≠ i3
  iz : i1 ≠ z ∧ i2 ≠ z ∧ i3 ≠ z
  ii : i1 ≠ i2 ∧ i1 ≠ i3 ∧ i2 ≠ i3
  a1 : l1 ≠ z ∧ l1 ≠ TO ∧ l1 ≠ i1 ∧ l1 ≠ i2 ∧ l1 ≠ i3
  a2 : l2 ≠ z ∧ l2 ≠ TO ∧ l2 ≠ i1 ∧ l2 ≠ i2 ∧ l2 ≠ i3
  a3 : l3 ≠ z ∧ l3 ≠ TO ∧ l3 ≠ i1 ∧ l3 ≠ i2 ∧ l3 ≠ i3
section
variable {prog : Program} {w : World} {A : Around} {E : Value → Shared → Prop} {s : Shared}
theorem next_item {b : Bool} {it l : Addr} {i : Nat} {xs : Array Value} {x : Value} {Q : Value → Shared → Prop} (hit : It b s.heap it l i) (hl : Sq b s.heap l xs) (hx : xs[i]? = some x)
    (hQ : ∀ h', It b h' it l (i + 1) → Heap.SameBut it s.heap h' → Q x { s with heap := h' }) : wpAny (model prog w) A (Builtin.SmallTypes.nextOf (.ref it)) Q E s := by
  cases b
  · exact RZ.nextOf_tuple_item hit hl hx hQ
  · exact wpAny_nextOf_list_item hit hl hx hQ
theorem next_end {b : Bool} {it l : Addr} {i : Nat} {xs : Array Value} {Q : Value → Shared → Prop} (hh : A.handled = none) (hit : It b s.heap it l i) (hl : Sq b s.heap l xs) (hx : xs[i]? = none)
    (hE : ∀ h' e, Heap.ExtBut it s.heap h' → (∃ o, h'.get? e = some o ∧ o.cls = .type "StopIteration") → E (.ref e) { s with heap := h' }) : wpAny (model prog w) A (Builtin.SmallTypes.nextOf (.ref it)) Q E s := by
  cases b
  · exact RZ.nextOf_tuple_end hh hit hl hx hE
  · exact wpAny_nextOf_list_end hh hit hl hx hE
theorem updateSeq_trip {T : Addr} {a b c x : Value} {k : Nat} {Q : Unit → Shared → Prop} (hT : IsTrip s.heap T a b c)
    (h : ∀ h', h'.get? T = some { cls := .type "tuple", data := .seq ((#[a, b, c] : Array Value).setIfInBounds k x) } → Heap.SameBut T s.heap h' → Q () { s with heap := h' }) :
    wpAny (model prog w) A (updateSeq T (·.setIfInBounds k x)) Q E s := by
  refine wpAny_updateSeq hT rfl (h _ ?_ (Heap.SameBut.update ..))
  rw [Heap.get?_update_self _ hT rfl]
  simp [Obj.mapSeq]
variable {z TI TO i1 i2 i3 l1 l2 l3 : Addr} {k : Nat} {b1 b2 b3 : Bool} {xs ys zs : Array Value} {a b c : Value}
/-- what stands still -/
def Kp (z TO i1 i2 i3 : Addr) (h h' : Heap) : Prop := ∀ c o, c ≠ z → c ≠ TO → c ≠ i1 → c ≠ i2 → c ≠ i3 → h.get? c = some o → h'.get? c = some o
theorem zip_item {x y u : Value} {Q : Value → Shared → Prop} (D : Ap z TI TO i1 i2 i3 l1 l2 l3)
    (hz : IsZip s.heap z TI TO .none) (hTI : IsTrip s.heap TI (.ref i1) (.ref i2) (.ref i3)) (hTO : IsTrip s.heap TO a b c)
    (h1 : It b1 s.heap i1 l1 k) (h2 : It b2 s.heap i2 l2 k) (h3 : It b3 s.heap i3 l3 k) (q1 : Sq b1 s.heap l1 xs) (q2 : Sq b2 s.heap l2 ys) (q3 : Sq b3 s.heap l3 zs)
    (hx : xs[k]? = some x) (hy : ys[k]? = some y) (hu : zs[k]? = some u)
    (hQ : ∀ h', IsZip h' z TI TO (rawInt s.heap.objs.size) → IsTrip h' TO x y u → It b1 h' i1 l1 (k + 1) → It b2 h' i2 l2 (k + 1) → It b3 h' i3 l3 (k + 1) → IsTrip h' s.heap.objs.size x y u → h'.objs.size = s.heap.objs.size + 1 →
      Kp z TO i1 i2 i3 s.heap h' → Q (.ref s.heap.objs.size) { s with heap := h' }) :
    wpAny (model prog w) A (Builtin.«zip.__next__» ⟨[.ref z], []⟩) (fun fin s' => ∃ v, fin = .done (.ret v) ∧ Q v s') E s := by
  obtain ⟨⟨ti1, ti2, ti3, ti4, ti5⟩, ⟨to1, to2, to3, to4⟩, ⟨iz1, iz2, iz3⟩, ⟨ii1, ii2, ii3⟩, ⟨x1, x2, x3, x4, x5⟩, ⟨y1, y2, y3, y4, y5⟩, ⟨w1, w2, w3, w4, w5⟩⟩ := D
  show wpAny _ _ (field (.ref z) 2 >>= _) _ _ _
  refine wpAny_bind (wpAny_field hz rfl (x := .bool false) rfl ?_)
  show wpAny _ _ (field (.ref z) 3 >>= _) _ _ _
  refine wpAny_bind (wpAny_field hz rfl (x := .ref TI) rfl ?_)
  refine wpAny_bind (wpAny_seqItems hTI rfl ?_)
  show wpAny _ _ (Builtin.SmallTypes.ownedTupleIsFree (.ref z) >>= _) _ _ _
  refine wpAny_bind ?_
  unfold Builtin.SmallTypes.ownedTupleIsFree
  refine wpAny_bind (wpAny_field hz rfl (x := .none) rfl (wpAny_pure ?_))
  simp only [if_true]
  refine wpAny_bind (wpAny_rule ?_)
  refine wpAny_bind (wpAny_field hz rfl (x := .ref TO) rfl ?_)
  refine wpAny_bind (wpAny_setField_rec hz (by simp) fun h₁ hz₁ hs₁ => ?_)
  replace hz₁ : IsZip h₁ z TI TO .ellipsis := hz₁
  refine wpAny_bind ?_
  simp only [List.zipIdx_cons, List.zipIdx_nil, List.forIn_cons, List.forIn_nil]
  have e1 := hs₁.extBut
  have hTO₁ : IsTrip h₁ TO a b c := e1 _ _ to1 hTO

  refine wpAny_bind (wpAny_bind (wpAny_onRaise ?_))
  show wpAny _ _ (Builtin.SmallTypes.nextOf (.ref i1) >>= _) _ _ _
  refine wpAny_bind (next_item (h1.ext e1 iz1) (q1.ext e1 x1) hx fun h₂ n1 hs₂ => wpAny_pure ?_)
  have e2 := hs₂.extBut
  have hTO₂ : IsTrip h₂ TO a b c := e2 _ _ to2 hTO₁
  refine wpAny_bind (wpAny_seqItems hTO₂ rfl ?_)
  refine wpAny_bind (updateSeq_trip hTO₂ fun h₃ hTO₃ hs₃ => ?_)
  have e3 := hs₃.extBut
  replace hTO₃ : IsTrip h₃ TO x b c := hTO₃
  refine wpAny_bind (wpAny_letGo (wpAny_pure ?_))

  refine wpAny_bind (wpAny_bind (wpAny_onRaise ?_))
  show wpAny _ _ (Builtin.SmallTypes.nextOf (.ref i2) >>= _) _ _ _
  refine wpAny_bind (next_item (((h2.ext e1 iz2).ext e2 ii1.symm).ext e3 to3.symm) (((q2.ext e1 y1).ext e2 y3).ext e3 y2) hy fun h₄ n2 hs₄ => wpAny_pure ?_)
  have e4 := hs₄.extBut
  have hTO₄ : IsTrip h₄ TO x b c := e4 _ _ to3 hTO₃
  refine wpAny_bind (wpAny_seqItems hTO₄ rfl ?_)
  refine wpAny_bind (updateSeq_trip hTO₄ fun h₅ hTO₅ hs₅ => ?_)
  have e5 := hs₅.extBut
  replace hTO₅ : IsTrip h₅ TO x y c := hTO₅
  refine wpAny_bind (wpAny_letGo (wpAny_pure ?_))

  refine wpAny_bind (wpAny_bind (wpAny_onRaise ?_))
  show wpAny _ _ (Builtin.SmallTypes.nextOf (.ref i3) >>= _) _ _ _
  refine wpAny_bind (next_item (((((h3.ext e1 iz3).ext e2 ii2.symm).ext e3 to4.symm).ext e4 ii3.symm).ext e5 to4.symm) (((((q3.ext e1 w1).ext e2 w3).ext e3 w2).ext e4 w4).ext e5 w2) hu fun h₆ n3 hs₆ => wpAny_pure ?_)
  have e6 := hs₆.extBut
  have hTO₆ : IsTrip h₆ TO x y c := e6 _ _ to4 hTO₅
  refine wpAny_bind (wpAny_seqItems hTO₆ rfl ?_)
  refine wpAny_bind (updateSeq_trip hTO₆ fun h₇ hTO₇ hs₇ => ?_)
  have e7 := hs₇.extBut
  replace hTO₇ : IsTrip h₇ TO x y u := hTO₇
  refine wpAny_bind (wpAny_letGo (wpAny_pure (wpAny_pure ?_)))

  refine wpAny_bind (wpAny_seqItems hTO₇ rfl ?_)
  refine wpAny_bind (wpAny_newTuple ?_)
  have hsz : h₇.objs.size = s.heap.objs.size := by rw [hs₇.1, hs₆.1, hs₅.1, hs₄.1, hs₃.1, hs₂.1, hs₁.1]
  have hz₇ : IsZip h₇ z TI TO .ellipsis := e7 _ _ to1.symm (e6 _ _ iz3.symm (e5 _ _ to1.symm (e4 _ _ iz2.symm (e3 _ _ to1.symm (e2 _ _ iz1.symm hz₁)))))
  have hk₇ : Kp z TO i1 i2 i3 s.heap h₇ := fun c o c1 c2 c3 c4 c5 e =>
    e7 _ _ c2 (e6 _ _ c5 (e5 _ _ c2 (e4 _ _ c4 (e3 _ _ c2 (e2 _ _ c3 (e1 _ _ c1 e))))))
  have m1 : It b1 h₇ i1 l1 (k + 1) := ((((n1.ext e3 to2.symm).ext e4 ii1).ext e5 to2.symm).ext e6 ii2).ext e7 to2.symm
  have m2 : It b2 h₇ i2 l2 (k + 1) := ((n2.ext e5 to3.symm).ext e6 ii3).ext e7 to3.symm
  have m3 : It b3 h₇ i3 l3 (k + 1) := n3.ext e7 to4.symm
  have hzlt : z < h₇.objs.size := Heap.lt_size hz₇
  show wpAny _ _ (Builtin.SmallTypes.ownedTupleHandOut (.ref z) (.ref h₇.objs.size) >>= _) _ _ _
  refine wpAny_bind ?_
  unfold Builtin.SmallTypes.ownedTupleHandOut
  have hz₈ : IsZip (h₇.push { cls := .type "tuple", data := .seq #[x, y, u] }) z TI TO .ellipsis := Heap.get?_push_of_some _ hz₇
  refine wpAny_bind (wpAny_setField_rec hz₈ (by simp) fun h₉ hz₉ hs₉ => ?_)
  replace hz₉ : IsZip h₉ z TI TO (rawInt h₇.objs.size) := hz₉
  refine wpAny_setField_rec hz₉ (by simp) fun ha hza hsa => ?_
  replace hza : IsZip ha z TI TO (rawInt h₇.objs.size) := hza
  have up : ∀ c o, c ≠ z → h₇.get? c = some o → ha.get? c = some o := fun c o c1 e => hsa.extBut _ _ c1 (hs₉.extBut _ _ c1 (Heap.get?_push_of_some _ e))
  have hTa : IsTrip ha h₇.objs.size x y u := hsa.extBut _ _ (Nat.ne_of_gt hzlt) (hs₉.extBut _ _ (Nat.ne_of_gt hzlt) (Heap.get?_push_size _ rfl))
  have hza8 : ha.objs.size = h₇.objs.size + 1 := by rw [hsa.1, hs₉.1, Heap.size_push]
  rw [hsz] at hza hTa hza8
  refine wpAny_pure ⟨_, rfl, ?_⟩
  show Q (.ref h₇.objs.size) _
  rw [hsz]
  exact hQ ha hza (up _ _ to1 hTO₇) (m1.at fun o e => up _ o iz1 e) (m2.at fun o e => up _ o iz2 e) (m3.at fun o e => up _ o iz3 e) hTa hza8 fun c o c1 c2 c3 c4 c5 e => up c o c1 (hk₇ c o c1 c2 c3 c4 c5 e)

/-- where one of the three is at its end -/
theorem zip_end {Q : Fin → Shared → Prop} (hh : A.handled = none) (D : Ap z TI TO i1 i2 i3 l1 l2 l3)
    (hz : IsZip s.heap z TI TO .none) (hTI : IsTrip s.heap TI (.ref i1) (.ref i2) (.ref i3)) (hTO : IsTrip s.heap TO a b c)
    (h1 : It b1 s.heap i1 l1 k) (h2 : It b2 s.heap i2 l2 k) (h3 : It b3 s.heap i3 l3 k) (q1 : Sq b1 s.heap l1 xs) (q2 : Sq b2 s.heap l2 ys) (q3 : Sq b3 s.heap l3 zs)
    (hend : xs[k]? = none ∨ ys[k]? = none ∨ zs[k]? = none)
    (hE : ∀ h' e, Kp z TO i1 i2 i3 s.heap h' → (∃ o, h'.get? e = some o ∧ o.cls = .type "StopIteration") → E (.ref e) { s with heap := h' }) :
    wpAny (model prog w) A (Builtin.«zip.__next__» ⟨[.ref z], []⟩) Q E s := by
  obtain ⟨⟨ti1, ti2, ti3, ti4, ti5⟩, ⟨to1, to2, to3, to4⟩, ⟨iz1, iz2, iz3⟩, ⟨ii1, ii2, ii3⟩, ⟨x1, x2, x3, x4, x5⟩, ⟨y1, y2, y3, y4, y5⟩, ⟨w1, w2, w3, w4, w5⟩⟩ := D
  show wpAny _ _ (field (.ref z) 2 >>= _) _ _ _
  refine wpAny_bind (wpAny_field hz rfl (x := .bool false) rfl ?_)
  show wpAny _ _ (field (.ref z) 3 >>= _) _ _ _
  refine wpAny_bind (wpAny_field hz rfl (x := .ref TI) rfl ?_)
  refine wpAny_bind (wpAny_seqItems hTI rfl ?_)
  show wpAny _ _ (Builtin.SmallTypes.ownedTupleIsFree (.ref z) >>= _) _ _ _
  refine wpAny_bind ?_
  unfold Builtin.SmallTypes.ownedTupleIsFree
  refine wpAny_bind (wpAny_field hz rfl (x := .none) rfl (wpAny_pure ?_))
  simp only [if_true]
  refine wpAny_bind (wpAny_rule ?_)
  refine wpAny_bind (wpAny_field hz rfl (x := .ref TO) rfl ?_)
  refine wpAny_bind (wpAny_setField_rec hz (by simp) fun h₁ hz₁ hs₁ => ?_)
  replace hz₁ : IsZip h₁ z TI TO .ellipsis := hz₁
  refine wpAny_bind ?_
  simp only [List.zipIdx_cons, List.zipIdx_nil, List.forIn_cons, List.forIn_nil]
  have e1 := hs₁.extBut
  have hTO₁ : IsTrip h₁ TO a b c := e1 _ _ to1 hTO
  refine wpAny_bind (wpAny_bind (wpAny_onRaise ?_))
  show wpAny _ _ (Builtin.SmallTypes.nextOf (.ref i1) >>= _) _ _ _
  cases hx : xs[k]? with
  | none =>
    refine wpAny_bind (next_end hh (h1.ext e1 iz1) (q1.ext e1 x1) hx fun h₂ e e2 he => ?_)
    obtain ⟨oe, hoe, hce⟩ := he
    have hz₂ : IsZip h₂ z TI TO .ellipsis := e2 _ _ iz1.symm hz₁
    have hez : e ≠ z := fun x => by subst x; rw [hz₂] at hoe; cases hoe; simp at hce
    refine wpAny_setField_rec hz₂ (by simp) fun h₃ _ hs₃ => hE h₃ e (fun c o c1 _ c3 _ _ x => hs₃.extBut _ _ c1 (e2 _ _ c3 (e1 _ _ c1 x))) ⟨oe, hs₃.extBut _ _ hez hoe, hce⟩
  | some x =>
    refine wpAny_bind (next_item (h1.ext e1 iz1) (q1.ext e1 x1) hx fun h₂ n1 hs₂ => wpAny_pure ?_)
    have e2 := hs₂.extBut
    have hTO₂ : IsTrip h₂ TO a b c := e2 _ _ to2 hTO₁
    refine wpAny_bind (wpAny_seqItems hTO₂ rfl ?_)
    refine wpAny_bind (updateSeq_trip hTO₂ fun h₃ hTO₃ hs₃ => ?_)
    have e3 := hs₃.extBut
    replace hTO₃ : IsTrip h₃ TO x b c := hTO₃
    refine wpAny_bind (wpAny_letGo (wpAny_pure ?_))
    refine wpAny_bind (wpAny_bind (wpAny_onRaise ?_))
    show wpAny _ _ (Builtin.SmallTypes.nextOf (.ref i2) >>= _) _ _ _
    have hz₃ : IsZip h₃ z TI TO .ellipsis := e3 _ _ to1.symm (e2 _ _ iz1.symm hz₁)
    have g2 := ((h2.ext e1 iz2).ext e2 ii1.symm).ext e3 to3.symm
    have r2 := ((q2.ext e1 y1).ext e2 y3).ext e3 y2
    cases hy : ys[k]? with
    | none =>
      refine wpAny_bind (next_end hh g2 r2 hy fun h₄ e e4 he => ?_)
      obtain ⟨oe, hoe, hce⟩ := he
      have hz₄ : IsZip h₄ z TI TO .ellipsis := e4 _ _ iz2.symm hz₃
      have hez : e ≠ z := fun x => by subst x; rw [hz₄] at hoe; cases hoe; simp at hce
      refine wpAny_setField_rec hz₄ (by simp) fun h₅ _ hs₅ => hE h₅ e (fun c o c1 c2 c3 c4 _ x => hs₅.extBut _ _ c1 (e4 _ _ c4 (e3 _ _ c2 (e2 _ _ c3 (e1 _ _ c1 x))))) ⟨oe, hs₅.extBut _ _ hez hoe, hce⟩
    | some y =>
      have hu : zs[k]? = none := by
        rcases hend with h | h | h
        · rw [hx] at h; cases h
        · rw [hy] at h; cases h
        · exact h
      refine wpAny_bind (next_item g2 r2 hy fun h₄ n2 hs₄ => wpAny_pure ?_)
      have e4 := hs₄.extBut
      have hTO₄ : IsTrip h₄ TO x b c := e4 _ _ to3 hTO₃
      refine wpAny_bind (wpAny_seqItems hTO₄ rfl ?_)
      refine wpAny_bind (updateSeq_trip hTO₄ fun h₅ hTO₅ hs₅ => ?_)
      have e5 := hs₅.extBut
      replace hTO₅ : IsTrip h₅ TO x y c := hTO₅
      refine wpAny_bind (wpAny_letGo (wpAny_pure ?_))
      refine wpAny_bind (wpAny_bind (wpAny_onRaise ?_))
      show wpAny _ _ (Builtin.SmallTypes.nextOf (.ref i3) >>= _) _ _ _
      refine wpAny_bind (next_end hh (((((h3.ext e1 iz3).ext e2 ii2.symm).ext e3 to4.symm).ext e4 ii3.symm).ext e5 to4.symm) (((((q3.ext e1 w1).ext e2 w3).ext e3 w2).ext e4 w4).ext e5 w2) hu fun h₆ e e6 he => ?_)
      obtain ⟨oe, hoe, hce⟩ := he
      have hz₆ : IsZip h₆ z TI TO .ellipsis := e6 _ _ iz3.symm (e5 _ _ to1.symm (e4 _ _ iz2.symm hz₃))
      have hez : e ≠ z := fun x => by subst x; rw [hz₆] at hoe; cases hoe; simp at hce
      refine wpAny_setField_rec hz₆ (by simp) fun h₇ _ hs₇ => hE h₇ e (fun c o c1 c2 c3 c4 c5 x => hs₇.extBut _ _ c1 (e6 _ _ c5 (e5 _ _ c2 (e4 _ _ c4 (e3 _ _ c2 (e2 _ _ c3 (e1 _ _ c1 x))))))) ⟨oe, hs₇.extBut _ _ hez hoe, hce⟩

theorem pyNext_item {x y u : Value} {Q : Option Value → Shared → Prop} (D : Ap z TI TO i1 i2 i3 l1 l2 l3)
    (hz : IsZip s.heap z TI TO .none) (hTI : IsTrip s.heap TI (.ref i1) (.ref i2) (.ref i3)) (hTO : IsTrip s.heap TO a b c)
    (h1 : It b1 s.heap i1 l1 k) (h2 : It b2 s.heap i2 l2 k) (h3 : It b3 s.heap i3 l3 k) (q1 : Sq b1 s.heap l1 xs) (q2 : Sq b2 s.heap l2 ys) (q3 : Sq b3 s.heap l3 zs)
    (hx : xs[k]? = some x) (hy : ys[k]? = some y) (hu : zs[k]? = some u)
    (hQ : ∀ h', IsZip h' z TI TO (rawInt s.heap.objs.size) → IsTrip h' TO x y u → It b1 h' i1 l1 (k + 1) → It b2 h' i2 l2 (k + 1) → It b3 h' i3 l3 (k + 1) → IsTrip h' s.heap.objs.size x y u → h'.objs.size = s.heap.objs.size + 1 →
      Kp z TO i1 i2 i3 s.heap h' → Q (some (.ref s.heap.objs.size)) { s with heap := h' }) :
    wpAny (model prog w) A (pyNext (.ref z)) Q E s := by
  have hT : s.TypeIs (.ref z) "zip" := ⟨_, hz, rfl⟩
  unfold pyNext
  exact wpAny_bind (wpAny_attempt (wpAny_callSpecial?_slot (name := Str.ofString "__next__") hT F.slot_zip_next
    (wpAny_call_entry F.slot_zip_next hT F.entry_zip_next
      (zip_item D hz hTI hTO h1 h2 h3 q1 q2 q3 hx hy hu fun h' a1 a2 a3 a4 a5 a6 a7 a8 => wpAny_pure (hQ h' a1 a2 a3 a4 a5 a6 a7 a8)) (F.args_zip_next_1 _))))
theorem pyNext_end {Q : Option Value → Shared → Prop} (hh : A.handled = none) (D : Ap z TI TO i1 i2 i3 l1 l2 l3)
    (hz : IsZip s.heap z TI TO .none) (hTI : IsTrip s.heap TI (.ref i1) (.ref i2) (.ref i3)) (hTO : IsTrip s.heap TO a b c)
    (h1 : It b1 s.heap i1 l1 k) (h2 : It b2 s.heap i2 l2 k) (h3 : It b3 s.heap i3 l3 k) (q1 : Sq b1 s.heap l1 xs) (q2 : Sq b2 s.heap l2 ys) (q3 : Sq b3 s.heap l3 zs)
    (hend : xs[k]? = none ∨ ys[k]? = none ∨ zs[k]? = none)
    (hQ : ∀ h', Kp z TO i1 i2 i3 s.heap h' → Q none { s with heap := h' }) : wpAny (model prog w) A (pyNext (.ref z)) Q E s := by
  have hT : s.TypeIs (.ref z) "zip" := ⟨_, hz, rfl⟩
  unfold pyNext
  refine wpAny_bind (wpAny_attempt (wpAny_callSpecial?_slot (name := Str.ofString "__next__") hT F.slot_zip_next
    (wpAny_call_entry F.slot_zip_next hT F.entry_zip_next (zip_end hh D hz hTI hTO h1 h2 h3 q1 q2 q3 hend fun h' e hk he => ?_) (F.args_zip_next_1 _))))
  obtain ⟨o, ho, hc⟩ := he
  refine wpAny_bind (wpAny_isInstance (T := "StopIteration") (b := true) ⟨o, ho, hc⟩ isSubtype_stop ?_)
  exact wpAny_pure (hQ _ hk)
end
end L2.Jk.Z3

set_option Elab.async false
set_option linter.all false
set_option maxRecDepth 100000
set_option maxHeartbeats 4000000
/-! zip(a, b, c): made, walked. -/
namespace L2.Jk.Z3
open PySem PySem.W PySem.Spec PySem.Calls PyProof.Rows L2 L2.Jk
theorem typeCall_zip_3 (a b c : Value) : checkTypeCall "zip" ⟨[a, b, c], []⟩ = pure () := by kernel_rfl
theorem newCall_zip_3 (a b c : Value) : checkBuiltinCall "zip.__new__" ⟨[.type "zip", a, b, c], []⟩ = pure () := by kernel_rfl
theorem args_object_init_4 (a b c d : Value) : argsOk "object.__init__" ⟨[a, b, c, d], []⟩ := by
  unfold argsOk; rw [signature?_of (id := "object.__init__") (n := ['_', '_', 't', 'i', 'n', 'i', '_', '_']) (o := ['t', 'c', 'e', 'j', 'b', 'o']) (by kernel_rfl) PySem.F.owner_object]; kernel_rfl
def itO (b : Bool) (l : Addr) : Obj := match b with
  | true => { cls := .type "list_iterator", data := .fields #[.ref l, .int 0 0] }
  | false => { cls := .type "tuple_iterator", data := .fields #[.ref l, .int 0 0] }
theorem it_new {b : Bool} {h : Heap} {a l : Addr} (e : h.get? a = some (itO b l)) : It b h a l 0 := by
  cases b <;> exact ⟨_, e, rfl, rfl⟩
section
variable {prog : Program} {w : World} {A : Around} {E : Value → Shared → Prop} {s : Shared}
theorem pyIter_sq {b : Bool} {l : Addr} {xs : Array Value} {Q : Value → Shared → Prop} (hl : Sq b s.heap l xs) (hQ : Q (.ref s.heap.objs.size) { s with heap := s.heap.push (itO b l) }) : wpAny (model prog w) A (pyIter (.ref l)) Q E s := by
  cases b
  · exact wpAny_pyIter_tuple hl hQ
  · exact wpAny_pyIter_list hl hQ
abbrev g1 (h : Heap) (b1 : Bool) (l1 : Addr) : Heap := h.push (itO b1 l1)
abbrev g2 (h : Heap) (b1 b2 : Bool) (l1 l2 : Addr) : Heap := (g1 h b1 l1).push (itO b2 l2)
abbrev g3 (h : Heap) (b1 b2 b3 : Bool) (l1 l2 l3 : Addr) : Heap := (g2 h b1 b2 l1 l2).push (itO b3 l3)
abbrev g4 (h : Heap) (b1 b2 b3 : Bool) (l1 l2 l3 : Addr) : Heap := (g3 h b1 b2 b3 l1 l2 l3).push { cls := .type "tuple", data := .seq #[.ref h.objs.size, .ref (g1 h b1 l1).objs.size, .ref (g2 h b1 b2 l1 l2).objs.size] }
abbrev g5 (h : Heap) (b1 b2 b3 : Bool) (l1 l2 l3 : Addr) : Heap := (g4 h b1 b2 b3 l1 l2 l3).push { cls := .type "tuple", data := .seq #[.none, .none, .none] }
abbrev g6 (h : Heap) (b1 b2 b3 : Bool) (l1 l2 l3 : Addr) : Heap := (g5 h b1 b2 b3 l1 l2 l3).push { cls := .type "zip", data := .fields #[.none, .bool false, .bool false, .ref (g3 h b1 b2 b3 l1 l2 l3).objs.size, .ref (g4 h b1 b2 b3 l1 l2 l3).objs.size] }
theorem Sq.push {b : Bool} {h : Heap} {a : Addr} {xs : Array Value} (x : Sq b h a xs) (o : Obj) : Sq b (h.push o) a xs := x.at fun _ e => Heap.get?_push_of_some _ e
theorem meets_zip3_new (b1 b2 b3 : Bool) (l1 l2 l3 : Addr) (xs ys zs : Array Value) :
    Meets (Builtin.«zip.__new__» ⟨[.type "zip", .ref l1, .ref l2, .ref l3], []⟩) (fun _ R s => Sq b1 s.heap l1 xs ∧ Sq b2 s.heap l2 ys ∧ Sq b3 s.heap l3 zs ∧
      R (.ok (.ret (.ref (g5 s.heap b1 b2 b3 l1 l2 l3).objs.size))) { s with heap := g6 s.heap b1 b2 b3 l1 l2 l3 }) :=
  .of_wp fun prog w A R s h => by
    obtain ⟨hp, g, d, tk, os⟩ := s; obtain ⟨hl1, hl2, hl3, h⟩ := h
    have hsub := sub_zip
    have hL1 : Sq b1 (Shared.heap ⟨hp, g, d, tk, os⟩) l1 xs := hl1
    have hL2 : Sq b2 (Shared.heap ⟨hp.push (itO b1 l1), g, d, tk, os⟩) l2 ys := Sq.push hl2 _
    have hL3 : Sq b3 (Shared.heap ⟨(hp.push (itO b1 l1)).push (itO b2 l2), g, d, tk, os⟩) l3 zs := Sq.push (Sq.push hl3 _) _
    wp_walk using pyIter_sq hL1, pyIter_sq hL2, pyIter_sq hL3
    exact ⟨_, rfl, h⟩
theorem call_zip3 {b1 b2 b3 : Bool} {l1 l2 l3 : Addr} {xs ys zs : Array Value} {Q : Value → Shared → Prop} (hl1 : Sq b1 s.heap l1 xs) (hl2 : Sq b2 s.heap l2 ys) (hl3 : Sq b3 s.heap l3 zs)
    (h : ∀ h', IsZip h' (s.heap.objs.size + 5) (s.heap.objs.size + 3) (s.heap.objs.size + 4) .none → IsTrip h' (s.heap.objs.size + 3) (.ref s.heap.objs.size) (.ref (s.heap.objs.size + 1)) (.ref (s.heap.objs.size + 2)) →
      IsTrip h' (s.heap.objs.size + 4) .none .none .none → It b1 h' s.heap.objs.size l1 0 → It b2 h' (s.heap.objs.size + 1) l2 0 → It b3 h' (s.heap.objs.size + 2) l3 0 → h'.objs.size = s.heap.objs.size + 6 →
      (∀ c o, s.heap.get? c = some o → h'.get? c = some o) → Q (.ref (s.heap.objs.size + 5)) { s with heap := h' }) :
    wpAny (model prog w) A (call (.type "zip") [.ref l1, .ref l2, .ref l3]) Q E s := by
  refine callType_new PySem.F.called_zip (by decide) (typeCall_zip_3 _ _ _) (newCall_zip_3 _ _ _) (fun obj => args_object_init_4 obj _ _ _) PySem.F.entry_zip_new
    (meets_zip3_new b1 b2 b3 l1 l2 l3 xs ys zs) ⟨hl1, hl2, hl3, ?_⟩
  have z1 : (g1 s.heap b1 l1).objs.size = s.heap.objs.size + 1 := Heap.size_push ..
  have z2 : (g2 s.heap b1 b2 l1 l2).objs.size = s.heap.objs.size + 2 := by rw [Heap.size_push, z1]
  have z3 : (g3 s.heap b1 b2 b3 l1 l2 l3).objs.size = s.heap.objs.size + 3 := by rw [Heap.size_push, z2]
  have z4 : (g4 s.heap b1 b2 b3 l1 l2 l3).objs.size = s.heap.objs.size + 4 := by rw [Heap.size_push, z3]
  have z5 : (g5 s.heap b1 b2 b3 l1 l2 l3).objs.size = s.heap.objs.size + 5 := by rw [Heap.size_push, z4]
  have z6 : (g6 s.heap b1 b2 b3 l1 l2 l3).objs.size = s.heap.objs.size + 6 := by rw [Heap.size_push, z5]
  have p {h : Heap} {a : Addr} {o : Obj} (q : Obj) : h.get? a = some o → (h.push q).get? a = some o := Heap.get?_push_of_some _
  have e6 : (g6 s.heap b1 b2 b3 l1 l2 l3).get? (g5 s.heap b1 b2 b3 l1 l2 l3).objs.size = some _ := Heap.get?_push_size _ rfl
  have e5 : (g6 s.heap b1 b2 b3 l1 l2 l3).get? (g4 s.heap b1 b2 b3 l1 l2 l3).objs.size = some _ := p _ (Heap.get?_push_size _ rfl)
  have e4 : (g6 s.heap b1 b2 b3 l1 l2 l3).get? (g3 s.heap b1 b2 b3 l1 l2 l3).objs.size = some _ := p _ (p _ (Heap.get?_push_size _ rfl))
  have nf : ∀ b l, (itO b l).isFreed = false := fun b l => by cases b <;> rfl
  have e3 : (g6 s.heap b1 b2 b3 l1 l2 l3).get? (g2 s.heap b1 b2 l1 l2).objs.size = some (itO b3 l3) := p _ (p _ (p _ (Heap.get?_push_size _ (nf _ _))))
  have e2 : (g6 s.heap b1 b2 b3 l1 l2 l3).get? (g1 s.heap b1 l1).objs.size = some (itO b2 l2) := p _ (p _ (p _ (p _ (Heap.get?_push_size _ (nf _ _)))))
  have e1 : (g6 s.heap b1 b2 b3 l1 l2 l3).get? s.heap.objs.size = some (itO b1 l1) := p _ (p _ (p _ (p _ (p _ (Heap.get?_push_size _ (nf _ _))))))
  show _ ∧ _
  rw [z3, z4, z5] at e6
  rw [z1, z2, z3] at e4
  rw [z4] at e5
  rw [z2] at e3
  rw [z1] at e2
  rw [z5]
  exact ⟨⟨_, e6, rfl⟩, h _ e6 e4 e5 (it_new e1) (it_new e2) (it_new e3) z6 fun c o x => p _ (p _ (p _ (p _ (p _ (p _ x)))))⟩
end
theorem ap_new (I l1 l2 l3 : Nat) (h1 : l1 < I) (h2 : l2 < I) (h3 : l3 < I) : Ap (I + 5) (I + 3) (I + 4) I (I + 1) (I + 2) l1 l2 l3 := by
  have ne : ∀ {a b : Nat}, (a < b ∨ b < a) → a ≠ b := fun h e => by omega
  exact ⟨⟨ne (by omega), ne (by omega), ne (by omega), ne (by omega), ne (by omega)⟩, ⟨ne (by omega), ne (by omega), ne (by omega), ne (by omega)⟩, ⟨ne (by omega), ne (by omega), ne (by omega)⟩, ⟨ne (by omega), ne (by omega), ne (by omega)⟩,
    ⟨ne (by omega), ne (by omega), ne (by omega), ne (by omega), ne (by omega)⟩, ⟨ne (by omega), ne (by omega), ne (by omega), ne (by omega), ne (by omega)⟩, ⟨ne (by omega), ne (by omega), ne (by omega), ne (by omega), ne (by omega)⟩⟩

/-! ### over the hand layer's heap -/
def SqB : Bool → Frag → Hp → Addr → List V → Prop
  | true, K, H, a, xs => SqL K H a xs
  | false, K, H, a, xs => SqT K H a xs
theorem seqT_same {K : Frag} {H H' : Hp} {a : Addr} {xs : List V} (S : Same H H') (h : SqT K H a xs) : SqT K H' a xs := by
  rcases h with (h | ⟨o, h⟩) | h
  · exact .inl (.inl (S _ _ h))
  · exact .inl (.inr ⟨o, S _ _ h⟩)
  · exact .inr h
theorem SqB.same {b : Bool} {K : Frag} {H H' : Hp} {a : Addr} {xs : List V} (S : Same H H') (h : SqB b K H a xs) : SqB b K H' a xs := by
  cases b
  · exact seqT_same S h
  · exact Same.seq S h
section
variable {X : Cx} {pins : List (Addr × Obj)} {σ : St} {H : Hp} {s : Shared}
theorem inv_seq {b : Bool} {a : Addr} {xs : List V} (I : Inv X pins σ H s) (h : SqB b X.K H a xs) : ∃ its : List Value, Vals xs its ∧ Sq b s.heap a its.toArray := by
  cases b
  · obtain ⟨its, rv, p, _⟩ := I.tuple h
    exact ⟨its, rv, p⟩
  · obtain ⟨its, rv, p, _⟩ := I.list h
    exact ⟨its, rv, p.isList⟩
theorem inv_inj {b : Bool} {a : Addr} {xs ys : List V} (I : Inv X pins σ H s) (h : SqB b X.K H a xs) (h2 : SqB b X.K H a ys) : xs = ys := by
  cases b
  · exact I.tuple_inj h h2
  · exact I.list_inj h h2
end
def Itz3 (K : Frag) (b1 b2 b3 : Bool) (a1 a2 a3 : Addr) : L2.It :=
  ⟨fun i H => ∃ (xs ys zs : List V) (x y u : V), SqB b1 K H a1 xs ∧ SqB b2 K H a2 ys ∧ SqB b3 K H a3 zs ∧ xs[i]? = some x ∧ ys[i]? = some y ∧ zs[i]? = some u,
    fun i H v H' => ∃ T x y u, v = .ref T ∧ H T = none ∧ H' = upd H T (.tup [x, y, u]) ∧ (∀ xs, SqB b1 K H a1 xs → xs[i]? = some x) ∧ (∀ ys, SqB b2 K H a2 ys → ys[i]? = some y) ∧ ∀ zs, SqB b3 K H a3 zs → zs[i]? = some u,
    fun i H => ∃ xs ys zs : List V, SqB b1 K H a1 xs ∧ SqB b2 K H a2 ys ∧ SqB b3 K H a3 zs ∧ (xs.length ≤ i ∨ ys.length ≤ i ∨ zs.length ≤ i)⟩
theorem turn_zip3 {P : Program} {w : World} {K : Frag} {elts : List Expr} {kk : Nat} {tpos : Pos} {b1 b2 b3 : Bool} {a1 a2 a3 z TI TO i1 i2 i3 : Addr} (D : Ap z TI TO i1 i2 i3 a1 a2 a3) :
    Turn P w K (.Tuple elts kk tpos) (Itz3 K b1 b2 b3 a1 a2 a3) [z, TI, TO, i1, i2, i3] z (fun i h => IsZip h z TI TO .none ∧ IsTrip h TI (.ref i1) (.ref i2) (.ref i3) ∧ (∃ x y u, IsTrip h TO x y u) ∧ It b1 h i1 a1 i ∧ It b2 h i2 a2 i ∧ It b3 h i3 a3 i) where
  mem := by simp
  obj := fun i h st c hc => by
    obtain ⟨hz, hTI, ⟨x, y, u, hTO⟩, h1, h2, h3⟩ := st
    have e' : c = z ∨ c = TI ∨ c = TO ∨ c = i1 ∨ c = i2 ∨ c = i3 := by simpa using hc
    rcases e' with q | q | q | q | q | q
    · rw [q]; exact ⟨_, hz, fun v q => nomatch q⟩
    · rw [q]; exact ⟨_, hTI, fun v q => nomatch q⟩
    · rw [q]; exact ⟨_, hTO, fun v q => nomatch q⟩
    · rw [q]; exact h1.obj
    · rw [q]; exact h2.obj
    · rw [q]; exact h3.obj
  keep := fun i h h' st k => by
    obtain ⟨hz, hTI, ⟨x, y, u, hTO⟩, h1, h2, h3⟩ := st
    exact ⟨k z (by simp) _ hz, k TI (by simp) _ hTI, ⟨x, y, u, k TO (by simp) _ hTO⟩, h1.at fun o q => k i1 (by simp) o q, h2.at fun o q => k i2 (by simp) o q, h3.at fun o q => k i3 (by simp) o q⟩
  item := by
    intro X hP hw hK hc i pins s σ H E I hf st hg
    subst hP hw hK
    obtain ⟨hz, hTI, ⟨x0, y0, u0, hTO⟩, h1, h2, h3⟩ := st
    obtain ⟨xs, ys, zs, x, y, u, hqx, hqy, hqz, hx, hy, hu⟩ := hg
    obtain ⟨its, rv, p⟩ := inv_seq I hqx
    obtain ⟨its2, rv2, p2⟩ := inv_seq I hqy
    obtain ⟨its3, rv3, p3⟩ := inv_seq I hqz
    obtain ⟨v1, hv1, r1⟩ := rv.get hx
    obtain ⟨v2, hv2, r2⟩ := rv2.get hy
    obtain ⟨v3, hv3, r3⟩ := rv3.get hu
    have hzl : z < s.heap.objs.size := Heap.lt_size hz
    refine pyNext_item D hz hTI hTO h1 h2 h3 p p2 p3 (x := v1) (y := v2) (u := v3) (by simpa using hv1) (by simpa using hv2) (by simpa using hv3) fun h' z' TO' h1' h2' h3' hT hsz hk => ?_
    refine ⟨_, rfl, wpAny_letOwnedTupleGo_zip (s := { s with heap := h' }) z' fun h'' z'' sb => ?_⟩
    have hT2 : h''.get? s.heap.objs.size = some { cls := .type "tuple", data := .seq #[v1, v2, v3] } := (sb.2 _ (Nat.ne_of_gt hzl)).trans hT
    have new : ObjOk X.prog X.w (upd H s.heap.objs.size (.tup [x, y, u])) h'' s.heap.objs.size (.tup [x, y, u]) :=
      ⟨by show 3 ≤ sizeLine; decide, [v1, v2, v3], .cons r1 (.cons r2 (.cons r3 .nil)), ⟨_, hT2, rfl, _, rfl⟩⟩
    have I1 : Inv X pins σ (upd H s.heap.objs.size (.tup [x, y, u])) { s with heap := h'' } :=
      I.turnedNew (t' := s.toks) (ch := [z, TI, TO, i1, i2, i3]) (fun c o hb q => (sb.2 c (fun q' => hb (by simp [q']))).trans (hk c o (fun q' => hb (by simp [q'])) (fun q' => hb (by simp [q'])) (fun q' => hb (by simp [q'])) (fun q' => hb (by simp [q'])) (fun q' => hb (by simp [q'])) q)) hf (Nat.le_refl _) new
    obtain ⟨⟨ti1, ti2, ti3, ti4, ti5⟩, ⟨to1, to2, to3, to4⟩, ⟨iz1, iz2, iz3⟩, _⟩ := D
    refine ⟨.ref s.heap.objs.size, _, I1, rfl, ⟨_, x, y, u, rfl, I.hok.fresh (Nat.le_refl _), rfl, fun l hl => by rw [inv_inj I hl hqx]; exact hx, fun l hl => by rw [inv_inj I hl hqy]; exact hy, fun l hl => by rw [inv_inj I hl hqz]; exact hu⟩, ⟨z'', ?_, ⟨v1, v2, v3, ?_⟩, ?_, ?_, ?_⟩, fun c hcm => ?_⟩
    · exact (sb.2 _ ti1).trans (hk _ _ ti1 ti2 ti3 ti4 ti5 hTI)
    · exact (sb.2 _ to1).trans TO'
    · exact h1'.at fun o q => (sb.2 _ iz1).trans q
    · exact h2'.at fun o q => (sb.2 _ iz2).trans q
    · exact h3'.at fun o q => (sb.2 _ iz3).trans q
    · have hlt : c < s.heap.objs.size := by
        have e' : c = z ∨ c = TI ∨ c = TO ∨ c = i1 ∨ c = i2 ∨ c = i3 := by simpa using hcm
        rcases e' with q | q | q | q | q | q
        · rw [q]; exact hzl
        · rw [q]; exact Heap.lt_size hTI
        · rw [q]; exact Heap.lt_size hTO
        · rw [q]; exact h1.lt
        · rw [q]; exact h2.lt
        · rw [q]; exact h3.lt
      rw [upd_ne (Nat.ne_of_lt hlt)]
      exact (hf c hcm).1
  done := by
    intro X hP hw hK hc i pins s σ H E I hf st hg
    subst hP hw hK
    obtain ⟨hz, hTI, ⟨x0, y0, u0, hTO⟩, h1, h2, h3⟩ := st
    obtain ⟨xs, ys, zs, hqx, hqy, hqz, hend⟩ := hg
    obtain ⟨its, rv, p⟩ := inv_seq I hqx
    obtain ⟨its2, rv2, p2⟩ := inv_seq I hqy
    obtain ⟨its3, rv3, p3⟩ := inv_seq I hqz
    have l1 := rv.length
    have l2 := rv2.length
    have l3 := rv3.length
    have he : its.toArray[i]? = none ∨ its2.toArray[i]? = none ∨ its3.toArray[i]? = none := by
      rcases hend with q | q | q
      · exact .inl (by simp; omega)
      · exact .inr (.inl (by simp; omega))
      · exact .inr (.inr (by simp; omega))
    exact pyNext_end (I.ok.hd hc) D hz hTI hTO h1 h2 h3 p p2 p3 he fun h' hk => ⟨rfl, I.turnedL (t' := s.toks) (ch := [z, TI, TO, i1, i2, i3]) (fun c o hb q =>
      hk c o (fun q' => hb (by simp [q'])) (fun q' => hb (by simp [q'])) (fun q' => hb (by simp [q'])) (fun q' => hb (by simp [q'])) (fun q' => hb (by simp [q'])) q) hf⟩
  self := fun A i s Q E st h => wpAny_pyIter_zip st.1 h
def iZip3 (K : Frag) (ta : TA) : TI := fun σ H R => ta σ H fun vs H1 => ∃ a1 a2 a3 b1 b2 b3 xs ys zs, vs = [.ref a1, .ref a2, .ref a3] ∧ SqB b1 K H1 a1 xs ∧ SqB b2 K H1 a2 ys ∧ SqB b3 K H1 a3 zs ∧ R (Itz3 K b1 b2 b3 a1 a2 a3) H1
theorem pi_zip3 {X : Cx} {e e2 e3 : Expr} {ta : TA} {p pos tpos : Pos} {elts : List Expr} {kk : Nat} (hg : Gl X "zip") (hm : X.mg "zip" = none) (ha : PA X [e, e2, e3] ta)
    (hs : starEach [e, e2, e3] X.env = (false, eval e X.env) :: starEach [e2, e3] X.env := by rfl) (hpl : (backTo pos (starEach [e2, e3] X.env)).any (·.1) = false := by rfl) :
    PI X (.Tuple elts kk tpos) (.Call (.Name "zip" p) [e, e2, e3] [] pos) (iZip3 X.K ta) := by
  refine ⟨fun pins s σ H R I h => ?_⟩
  refine Call_ (ld_blt I hg hm PyProof.Rows.boot_zip (PyProof.Rows.callWith_type1 (thn (ha.run pos pins s σ H _ I h) fun us s1 ⟨vs, H1, I1, r1, q1⟩ => ?_) hs hpl))
  obtain ⟨a1, a2, a3, b1, b2, b3, xs, ys, zs, ex, hqx, hqy, hqz, q⟩ := q1
  subst ex
  cases r1 with
  | cons r rr =>
    cases rr with
    | cons r' rr =>
      cases rr with
      | cons r'' rr =>
        cases rr
        cases r
        cases r'
        cases r''
        have fresh6 : ∀ c, c ∈ [s1.heap.objs.size + 5, s1.heap.objs.size + 3, s1.heap.objs.size + 4, s1.heap.objs.size, s1.heap.objs.size + 1, s1.heap.objs.size + 2] → FpOk X pins H1 c := fun c hcm => by
          have e' : c = s1.heap.objs.size + 5 ∨ c = s1.heap.objs.size + 3 ∨ c = s1.heap.objs.size + 4 ∨ c = s1.heap.objs.size ∨ c = s1.heap.objs.size + 1 ∨ c = s1.heap.objs.size + 2 := by simpa using hcm
          have hle : s1.heap.objs.size ≤ c := by
            rcases e' with z | z | z | z | z | z
            · rw [z]; exact Nat.le_add_right _ _
            · rw [z]; exact Nat.le_add_right _ _
            · rw [z]; exact Nat.le_add_right _ _
            · rw [z]; exact Nat.le_refl _
            · rw [z]; exact Nat.le_add_right _ _
            · rw [z]; exact Nat.le_add_right _ _
          exact I1.fpOk hle (I1.hok.fresh hle)
        obtain ⟨its, rv, p1⟩ := inv_seq I1 hqx
        obtain ⟨its2, rv2, p2⟩ := inv_seq I1 hqy
        obtain ⟨its3, rv3, p3⟩ := inv_seq I1 hqz
        refine call_zip3 p1 p2 p3 fun h' hz hTI hTO h1 h2 h3 hsz hk => wpAny_pyIter_zip hz ?_
        have I2 : Inv X pins σ H1 { s1 with heap := h' } := I1.kept (t' := s1.toks) hk
        exact ⟨s1.heap.objs.size + 5, [s1.heap.objs.size + 5, s1.heap.objs.size + 3, s1.heap.objs.size + 4, s1.heap.objs.size, s1.heap.objs.size + 1, s1.heap.objs.size + 2], _, _, H1, rfl, I2,
          turn_zip3 (ap_new s1.heap.objs.size a1 a2 a3 p1.lt p2.lt p3.lt), ⟨hz, hTI, ⟨_, _, _, hTO⟩, h1, h2, h3⟩, fresh6, q⟩
/-- a comprehension over it -/
theorem lc_zip3 {K : Frag} {b1 b2 b3 : Bool} {a1 a2 a3 : Addr} {xs ys zs : List V} {g : TG} {tt : TT} {te : TE} {vs : List Nat} {σ : St} {H1 : Hp} {D : Addr} {Qd : Hp → Prop} (hl : xs.length = ys.length) (hl2 : xs.length = zs.length) (Pv : Nat → Hp → Prop)
    (h0 : Pv 0 (upd H1 D (.lst []))) (hq : ∀ i H, Pv i H → SqB b1 K H a1 xs ∧ SqB b2 K H a2 ys ∧ SqB b3 K H a3 zs)
    (hs : ∀ (i : Nat) (x y u : V) (T : Addr) (H : Hp), xs[i]? = some x → ys[i]? = some y → zs[i]? = some u → Pv i H → H T = none → g (.ref T) (wipe σ vs) (upd H T (.tup [x, y, u])) fun σ2 H2 => wipe σ2 vs = wipe σ vs ∧ tt σ2 H2 fun b H3 =>
      if b = true then te σ2 H3 fun y H4 => ∃ acc, H4 D = some (.lst acc) ∧ acc.length < sizeLine ∧ Pv (i + 1) (upd H4 D (.lst (acc ++ [y]))) else Pv (i + 1) H3) (hd : ∀ H, Pv xs.length H → Qd H) :
    ∃ W : Nat → Nat → Hp → Prop, (∃ m, W 0 m (upd H1 D (.lst []))) ∧ ∀ i m H, W i m H →
      ((Itz3 K b1 b2 b3 a1 a2 a3).stop i H ∧ Qd H) ∨ ((Itz3 K b1 b2 b3 a1 a2 a3).go i H ∧ ∃ Nx : Hp → Prop, (∀ H', Nx H' → ∃ m', m' < m ∧ W (i + 1) m' H') ∧ ∀ y H', (Itz3 K b1 b2 b3 a1 a2 a3).yld i H y H' → g y (wipe σ vs) H' fun σ2 H2 => wipe σ2 vs = wipe σ vs ∧ tt σ2 H2 fun b H3 =>
        if b = true then te σ2 H3 fun y H4 => ∃ acc, H4 D = some (.lst acc) ∧ acc.length < sizeLine ∧ Nx (upd H4 D (.lst (acc ++ [y]))) else Nx H3) := by
  refine ⟨fun i m H => m = xs.length - i ∧ i ≤ xs.length ∧ Pv i H, ⟨xs.length, by simp, Nat.zero_le _, h0⟩, ?_⟩
  rintro i m H ⟨rfl, hi, p⟩
  obtain ⟨s1, s2, s3⟩ := hq i H p
  by_cases hlt : i < xs.length
  · have g1 := List.getElem?_eq_getElem hlt
    have g2 := List.getElem?_eq_getElem (show i < ys.length by omega)
    have g3 := List.getElem?_eq_getElem (show i < zs.length by omega)
    refine .inr ⟨⟨xs, ys, zs, _, _, _, s1, s2, s3, g1, g2, g3⟩, Pv (i + 1), fun H' p' => ⟨xs.length - (i + 1), by omega, rfl, hlt, p'⟩, fun y H' z => ?_⟩
    obtain ⟨T, x, y, u, ev, hT, eH, k1, k2, k3⟩ := z
    subst ev eH
    exact hs i x y u T H (k1 _ s1) (k2 _ s2) (k3 _ s3) p hT
  · have e : i = xs.length := by omega
    subst e
    exact .inl ⟨⟨xs, ys, zs, s1, s2, s3, .inl (Nat.le_refl _)⟩, hd H p⟩
end L2.Jk.Z3

set_option Elab.async false
set_option linter.all false
set_option maxRecDepth 100000
set_option maxHeartbeats 4000000
/-! Layouts: made, their rows checked, the texts of rows. -/
namespace L2.K77
open PySem PySem.W PySem.Spec PySem.Calls PyProof.Rows L2.Jk
abbrev LA (K : Frag) : Addr := He.ga K "Layout"
structure P5 (P : Program) (w : World) (K : Frag) (mg : Str → Option Value) (base : Heap) : Prop extends P4 P w K mg base where
  hvMarked : HM P w K mg base 4 (ca K 5) "has_value" ["self", "thing"] (spMHV K)
  tfMarked : HM P w K mg base 4 (ca K 5) "text_for" ["self", "value"] (spMTF K)
def FD.ci : FD → Nat
  | .pl d => d.ci
  | .mk .. => 5
theorem FD.ci_lt : ∀ d : FD, d.ci < 6
  | .pl d => Nat.lt_of_lt_of_le d.ci_lt (by decide)
  | .mk .. => by show 5 < 6; decide
def FD.tfOk (v : V) : FD → Bool
  | .pl _ => true
  | .mk _ _ d => decide ((d.textF v).length ≤ 900)
section
variable {P : Program} {w : World} {K : Frag} {mg : Str → Option Value} {base : Heap} {f : Addr} {fd : FuncData}
theorem FdAt.ins {H : Hp} {y : Addr} {g : Str} (hg : g = "has_value" ∨ g = "text_for" ∨ g = "has_text" ∨ g = "value_for" ∨ g = "puts_before") : ∀ {d : FD}, FdAt K H y d → ∃ dx fs, H y = some (.ins (ca K d.ci) dx fs) ∧ fs.lookup g = none
  | .pl d, ⟨h, _⟩ => by
    obtain ⟨dx, fs, hi, _⟩ := h.ins
    exact ⟨dx, fs, hi, h.no hg _ _ _ hi⟩
  | .mk n m d, ⟨⟨dx, y2, h, _⟩, _⟩ => by
    refine ⟨dx, _, h, ?_⟩
    unfold fMarked
    rcases hg with rfl | rfl | rfl | rfl | rfl <;> (rw [lookup_putF, if_neg (by decide +kernel)]; rw [lookup_putF, if_neg (by decide +kernel)]; rw [lookup_putF, if_neg (by decide +kernel)]; rfl)
theorem HM.mono {j k : Nat} {C : Addr} {m : Str} {ps : List Str} {sp : Sp} (h : HM P w K mg base j C m ps sp) (hjk : j ≤ k) : HM P w K mg base k C m ps sp := by
  obtain ⟨fd, F, b⟩ := h.ok
  exact ⟨h.me, fd, F.mono hjk, b⟩
theorem P5.hv5 (G : P5 P w K mg base) {H : Hp} {y : Addr} : ∀ {d : FD}, FdAt K H y d → ∃ sp, HM P w K mg base 4 (ca K d.ci) "has_value" ["self", "thing"] sp ∧
    ∀ (v : V) (Q : VK) (E : XK), Thg H v → lenV v ≤ 900 → Q (.bl (d.hasV v)) H → sp [.ref y, v] H Q E
  | .pl d, ⟨h, i, u⟩ => by
    obtain ⟨sp, M, Hs⟩ := G.hv_ h i u
    exact ⟨sp, M.mono (by decide), fun v Q E hf hz q => Hs v Q E hf hz q⟩
  | .mk n m d, h => ⟨_, G.hvMarked, fun v Q E hf hz q => ⟨y, n, m, d, v, rfl, h, hf, hz, q⟩⟩
theorem P5.tf5 (G : P5 P w K mg base) {H : Hp} {y : Addr} : ∀ {d : FD}, FdAt K H y d → ∃ sp, HM P w K mg base 4 (ca K d.ci) "text_for" ["self", "value"] sp ∧
    ∀ (v : V) (Q : VK) (E : XK), vaOk v = true → d.hasV v = true → d.tfOk v = true → (∀ H', Same H H' → Q (.str (d.textF v)) H') → sp [.ref y, v] H Q E
  | .pl d, ⟨h, i, u⟩ => by
    obtain ⟨sp, M, Hs⟩ := G.tf_ h i u
    exact ⟨sp, M.mono (by decide), fun v Q E hf hz _ q => Hs v Q E hf hz q⟩
  | .mk n m d, h => ⟨_, G.tfMarked, fun v Q E hf hz ho q => ⟨y, n, m, d, v, rfl, h, hf, hz, of_decide_eq_true ho, q⟩⟩
/-! ### sequences -/
inductive SeqIs (K : Frag) (H : Hp) : V → Option (List V) → Prop
  | flat {v : V} (h : flatV v = true) : SeqIs K H v none
  | dict {p : Addr} {kvs : List (Key × V)} (h : H p = some (.dK kvs)) : SeqIs K H (.ref p) none
  | lst {p : Addr} {xs : List V} (h : H p = some (.lst xs)) : SeqIs K H (.ref p) (some xs)
  | tup {p : Addr} {xs : List V} (h : H p = some (.tup xs)) : SeqIs K H (.ref p) (some xs)
theorem SeqIs.same {K : Frag} {H H' : Hp} {v : V} {o : Option (List V)} (S : Same H H') : SeqIs K H v o → SeqIs K H' v o
  | .flat h => .flat h
  | .dict h => .dict (S _ _ h)
  | .lst h => .lst (S _ _ h)
  | .tup h => .tup (S _ _ h)
theorem SeqIs.sqb {K : Frag} {H : Hp} {v : V} {xs : List V} (h : SeqIs K H v (some xs)) : ∃ p b, v = .ref p ∧ Z3.SqB b K H p xs ∧ (SqL K H p xs ∨ SqT K H p xs) := by
  cases h with
  | lst h => exact ⟨_, true, rfl, SqL.of h, .inl (SqL.of h)⟩
  | tup h => exact ⟨_, false, rfl, SqT.of h, .inr (SqT.of h)⟩
def spSeq (K : Frag) : Sp := fun vs H Q _ => ∃ (v : V) (o : Option (List V)), vs = [v] ∧ SeqIs K H v o ∧ ∀ H', Same H H' → Q (.bl o.isSome) H'

abbrev s_is_sequence : Stmt := top 33
theorem sc_is_sequence : FnScope ["thing"] ["thing"] (defScope s_is_sequence) := ⟨rfl, rfl, rfl, by decide +kernel, rfl, by decide +kernel, by decide +kernel⟩

theorem ok_is_sequence (F : FunD K "is_sequence" "is_sequence" (defArgs s_is_sequence) (defBody s_is_sequence) (defScope s_is_sequence) [] [] f fd) (G : P5 P w K mg base) : FnOk P w K mg base CX0 1 f fd ["thing"] (spSeq K) := by
  refine F.ok (CX := CX0) sc_is_sequence (fun vs H Q E h => ?_) (fun cdv A outer s H vs Q E hr h => ?_)
  · obtain ⟨v, o, rfl, _⟩ := h
    rfl
  · refine ⟨_, PSs.nox (pss_one (ps_ret (pe_callB call_ieT (by rfl) G.isinstance (by decide +kernel) (pa_cons (pv 0) (pa_cons (pe_tupS (pa_cons (pe_bty (n := "list") (by rfl) G.list (by decide +kernel)) (pa_cons (pe_bty (n := "tuple") (by rfl) G.tuple (by decide +kernel)) pa_nil))) pa_nil))))), ?_⟩
    obtain ⟨v, o, rfl, h, q⟩ := h
    refine ⟨_, rfl, by show 2 ≤ 1000; decide, fun p0 H0 hp0 S0 e0 => ?_⟩
    have h := h.same S0
    have hn : ∀ S : String, kitB S "list" = some false → kitB S "tuple" = some false → kitAny K (.type S) [.type "list", .type "tuple"] = some false := fun S a b =>
      kitAny_cons (b := false) (kit_ty a) (fun _ => kitAny_cons (b := false) (kit_ty b) (fun _ => kitAny_nil) (fun z => nomatch z)) (fun z => nomatch z)
    cases h with
    | flat hf =>
      refine ⟨_, p0, _, _, _, false, rfl, e0, .cons (.ty _) (.cons (.ty _) Paired.nil), flat_ty hf, ?_, q _ S0⟩
      cases v with
      | non => exact hn "NoneType" (by decide +kernel) (by decide +kernel)
      | bl b => exact hn "bool" (by decide +kernel) (by decide +kernel)
      | int i => exact hn "int" (by decide +kernel) (by decide +kernel)
      | str z => exact hn "str" (by decide +kernel) (by decide +kernel)
      | _ => cases hf
    | dict hd => exact ⟨_, p0, _, _, _, false, rfl, e0, .cons (.ty _) (.cons (.ty _) Paired.nil), .x (.base (.dK hd)), hn "dict" (by decide +kernel) (by decide +kernel), q _ S0⟩
    | lst hl => exact ⟨_, p0, _, _, _, true, rfl, e0, .cons (.ty _) (.cons (.ty _) Paired.nil), .x (.base (.lst hl)), (kit_LT K).1, q _ S0⟩
    | tup hl => exact ⟨_, p0, _, _, _, true, rfl, e0, .cons (.ty _) (.cons (.ty _) Paired.nil), .x (.base (.tup hl)), (kit_LT K).2.1, q _ S0⟩

end
end L2.K77

set_option Elab.async false
set_option linter.all false
set_option maxRecDepth 100000
set_option maxHeartbeats 4000000
/-! Layouts: made, their rows checked, the texts of rows. -/
namespace L2.K77
open PySem PySem.W PySem.Spec PySem.Calls PyProof.Rows L2.Jk
def fLayout (x y : V) : List (Str × V) := putF "joints" y (putF "fields" x [])
theorem lLayout_fields {x y : V} : (fLayout x y).lookup ("fields" : Str) = some x := by unfold fLayout; rw [lookup_putF, if_neg (by decide +kernel)]; rw [lookup_putF, if_pos rfl]
theorem lLayout_joints {x y : V} : (fLayout x y).lookup ("joints" : Str) = some y := by unfold fLayout; rw [lookup_putF, if_pos rfl]
/-- the fields that stand at values -/
def FsAt (K : Frag) (H : Hp) (ys : List V) (ds : List FD) : Prop := ys.length = ds.length ∧ ∀ (i : Nat) (v : V) (d : FD), ys[i]? = some v → ds[i]? = some d → ∃ y, v = .ref y ∧ FdAt K H y d
theorem FsAt.same {K : Frag} {H H' : Hp} {ys : List V} {ds : List FD} (S : Same H H') (h : FsAt K H ys ds) : FsAt K H' ys ds := ⟨h.1, fun i v d a b => by
  obtain ⟨y, e, k⟩ := h.2 i v d a b
  exact ⟨y, e, k.same S⟩⟩
theorem FsAt.get {K : Frag} {H : Hp} {ys : List V} {ds : List FD} (h : FsAt K H ys ds) {i : Nat} {v : V} (e : ys[i]? = some v) : ∃ y d, v = .ref y ∧ ds[i]? = some d ∧ FdAt K H y d := by
  have hi := (List.getElem?_eq_some_iff.mp e).1
  have e2 := List.getElem?_eq_getElem (show i < ds.length by rw [← h.1]; exact hi)
  obtain ⟨y, ev, k⟩ := h.2 i v _ e e2
  exact ⟨y, _, ev, e2, k⟩
def JN : List Str := ["", "!", "~"]
structure LyOk (ds : List FD) (js : List Str) : Prop where
  few : ds.length ≤ 30
  some : ds ≠ []
  len : js.length + 1 = ds.length
  jn : ∀ j ∈ js, j ∈ JN
structure LayAt (K : Frag) (H : Hp) (L : Addr) (ds : List FD) (js : List Str) : Prop where
  ex : ∃ dx t1 t2 ys, H L = some (.ins (LA K) dx (fLayout (.ref t1) (.ref t2))) ∧ SqT K H t1 ys ∧ FsAt K H ys ds ∧ SqT K H t2 (js.map V.str)
  ok : LyOk ds js
theorem LayAt.same {K : Frag} {H H' : Hp} {L : Addr} {ds : List FD} {js : List Str} (S : Same H H') (h : LayAt K H L ds js) : LayAt K H' L ds js := by
  obtain ⟨⟨dx, t1, t2, ys, a, b, c, d⟩, o⟩ := h
  exact ⟨⟨dx, t1, t2, ys, S _ _ a, Z3.seqT_same S b, c.same S, Z3.seqT_same S d⟩, o⟩
def JK : List Str := JN
theorem call_ieTK {X : Cx} {K : Frag} (h : X.K = K) : CallR X (.builtin "isinstance") (rIeT K) := by
  subst h
  exact call_ieT
structure P6 (P : Program) (w : World) (K : Frag) (mg : Str → Option Value) (base : Heap) : Prop extends P5 P w K mg base where
  is_sequence : FnAt P w K mg base CX0 1 "is_sequence" ["thing"] (spSeq K)
  low : ∃ t, mg "LOW" = some (.str "!" t)
  high : ∃ t, mg "HIGH" = some (.str "~" t)
  cLayout : C0 K mg "Layout" ["fields", "joints"]
  nr : ErrAt P w K mg base "NoRow" (NR K) ["place"] "refused norow"
  max : mg "max" = none
  zip : mg "zip" = none
section
variable {P : Program} {w : World} {K : Frag} {mg : Str → Option Value} {base : Heap} {f : Addr} {fd : FuncData}
theorem kit6 (G : G4 P w K mg base) : ∀ i, i < 6 → kitAny K (.ref (ca K i)) [.ref (ca K 0), .ref (ca K 1), .ref (ca K 2), .ref (ca K 3), .ref (ca K 4), .ref (ca K 5)] = some true
  | 0, h => by
    have k := fun j (hj : j < 6) => G.kit 0 j h hj
    exact kitAny_cons (b := true) (k 0 (by decide)) (fun z => nomatch z) (fun _ => rfl)
  | 1, h => by
    have k := fun j (hj : j < 6) => G.kit 1 j h hj
    exact kitAny_cons (b := false) (k 0 (by decide)) (fun _ => kitAny_cons (b := true) (k 1 (by decide)) (fun z => nomatch z) (fun _ => rfl)) (fun z => nomatch z)
  | 2, h => by
    have k := fun j (hj : j < 6) => G.kit 2 j h hj
    exact kitAny_cons (b := false) (k 0 (by decide)) (fun _ => kitAny_cons (b := false) (k 1 (by decide)) (fun _ => kitAny_cons (b := true) (k 2 (by decide)) (fun z => nomatch z) (fun _ => rfl)) (fun z => nomatch z)) (fun z => nomatch z)
  | 3, h => by
    have k := fun j (hj : j < 6) => G.kit 3 j h hj
    exact kitAny_cons (b := false) (k 0 (by decide)) (fun _ => kitAny_cons (b := false) (k 1 (by decide)) (fun _ => kitAny_cons (b := false) (k 2 (by decide)) (fun _ => kitAny_cons (b := true) (k 3 (by decide)) (fun z => nomatch z) (fun _ => rfl)) (fun z => nomatch z)) (fun z => nomatch z)) (fun z => nomatch z)
  | 4, h => by
    have k := fun j (hj : j < 6) => G.kit 4 j h hj
    exact kitAny_cons (b := false) (k 0 (by decide)) (fun _ => kitAny_cons (b := false) (k 1 (by decide)) (fun _ => kitAny_cons (b := false) (k 2 (by decide)) (fun _ => kitAny_cons (b := false) (k 3 (by decide)) (fun _ => kitAny_cons (b := true) (k 4 (by decide)) (fun z => nomatch z) (fun _ => rfl)) (fun z => nomatch z)) (fun z => nomatch z)) (fun z => nomatch z)) (fun z => nomatch z)
  | 5, h => by
    have k := fun j (hj : j < 6) => G.kit 5 j h hj
    exact kitAny_cons (b := false) (k 0 (by decide)) (fun _ => kitAny_cons (b := false) (k 1 (by decide)) (fun _ => kitAny_cons (b := false) (k 2 (by decide)) (fun _ => kitAny_cons (b := false) (k 3 (by decide)) (fun _ => kitAny_cons (b := false) (k 4 (by decide)) (fun _ => kitAny_cons (b := true) (k 5 (by decide)) (fun z => nomatch z) (fun _ => rfl)) (fun z => nomatch z)) (fun z => nomatch z)) (fun z => nomatch z)) (fun z => nomatch z)) (fun z => nomatch z)
  | n + 6, h => absurd h (by omega)

def spCkF (K : Frag) : Sp := fun vs H Q _ => ∃ (p : Addr) (ys : List V) (ds : List FD), vs = [.ref p] ∧ H p = some (.lst ys) ∧ FsAt K H ys ds ∧ ys.length ≤ 1000 ∧ ys ≠ [] ∧ ∀ H', Same H H' → Q .non H'

abbrev s_check_fields : Stmt := top 34
theorem sc_check_fields : FnScope ["fields", "field"] ["fields"] (defScope s_check_fields) := ⟨rfl, rfl, rfl, by decide +kernel, rfl, by decide +kernel, by decide +kernel⟩

theorem ok_check_fields (F : FunD K "check_fields" "check_fields" (defArgs s_check_fields) (defBody s_check_fields) (defScope s_check_fields) [] [] f fd) (G : P6 P w K mg base) : FnOk P w K mg base CX0 2 f fd ["fields"] (spCkF K) := by
  refine F.ok (CX := CX0) sc_check_fields (fun vs H Q E h => ?_) (fun cdv A outer s H vs Q E hr h => ?_)
  · obtain ⟨p, ys, ds, rfl, _⟩ := h
    rfl
  · refine ⟨_, PSs.nox (pss_cons (ps_if (PW.pt (pw_or (pt_not (pt_val (pe_fn G.is_sequence (hr.mono (by decide)) pass0 (by rfl) (pa_cons (pv 0) pa_nil)))) (pw_or1 (pt_cmpR op_eq (pe_callB call_len_seq (by rfl) G.len (by decide +kernel) (pa_cons (pv 0) pa_nil)) pe_int (nomark _)))))
      (pss_one ps_never)
      pss_nil)
    (pss_one (ps_if (pt_not (pt_val (pe_callB (cr_all rfl) (by rfl) G.all (by decide +kernel) (pa_cons (pe_lc (own := [("field", 1)]) (g := gName 1) (tt := tYes) rfl sc_check_fields.nd (pi_list (pv 0)) (blkOk_by (N := ["fields", "field"]) (sc := defScope s_check_fields) (by decide +kernel)) (fun _ _ _ _ _ => pg_name (i := 1) sc_check_fields.nd rfl (Or.inl rfl)) (fun _ _ _ _ _ => pts_nil) (fun _ _ _ _ _ => (pe_callB (call_ieTK (K := K) rfl) (by rfl) G.isinstance (by decide +kernel) (pa_cons (pv 1) (pa_cons (pe_tupS (pa_cons (pe_gref (by rfl) G.cWord.mgC) (pa_cons (pe_gref (by rfl) G.cNumber.mgC) (pa_cons (pe_gref (by rfl) G.cFixed.mgC) (pa_cons (pe_gref (by rfl) G.cListed.mgC) (pa_cons (pe_gref (by rfl) G.cEnded.mgC) (pa_cons (pe_gref (by rfl) G.cMarked.mgC) pa_nil))))))) pa_nil))))) pa_nil))))
      (pss_one ps_never)
      pss_nil))), ?_⟩
    obtain ⟨p, ys, ds, rfl, hp, hF, hz, hne, q⟩ := h
    refine ⟨_, rfl, _, _, rfl, .lst hp, fun H0 S0 => ?_⟩
    have hp0 := S0 _ _ hp
    refine ⟨_, rfl, iteF ?_⟩
    refine ⟨_, rfl, p, ys, rfl, .inl (SqL.of hp0), rfl, _, rfl, ?_⟩
    rw [decide_eq_false (show ¬ V.int (ys.length : Nat) = V.int 0 from fun z => hne (List.length_eq_zero_iff.mp (by injection z with z; omega)))]
    refine iteF ?_
    refine ⟨_, rfl, p, rfl, ⟨_, SqL.of hp0⟩, fun D hD => ?_⟩
    refine lc_list (K := K) (a := p) (xs := ys) (LcP H0 D fun n => (ys.take n).map fun _ => V.bl true) (LcP.start hD rfl) (fun i J hi pJ => SqL.of (pJ.1 _ _ hp0)) ?_ ?_
    · intro i v J hv pJ
      obtain ⟨y, d, rfl, _, k⟩ := ((hF.same S0).same pJ.1).get hv
      obtain ⟨dx, fs, hi, _⟩ := k.ins (.inl rfl)
      have hlt := (List.getElem?_eq_some_iff.mp hv).1
      refine ⟨rfl, _, rfl, by show 6 ≤ 1000; decide, fun p1 H1 hp1 S1 e1 => ?_⟩
      exact ⟨_, p1, _, _, _, true, rfl, e1, .cons (.own _) (.cons (.own _) (.cons (.own _) (.cons (.own _) (.cons (.own _) (.cons (.own _) Paired.nil))))), G.ty d.ci_lt (S1 _ _ hi), kit6 G.toG4 _ d.ci_lt, pJ.put S1 (take_succ_map _ hv) (by omega)⟩
    · rintro J ⟨S1, _, eJ, _⟩
      have eJ2 : J D = some (.lst ((ys.map fun _ => true).map V.bl)) := by rw [eJ]; show some (HO.lst ((ys.take ys.length).map fun _ => V.bl true)) = _; rw [List.take_length, List.map_map]; rfl
      refine ⟨D, ys.map fun _ => true, rfl, SqL.of eJ2, _, rfl, ?_⟩
      have ea : (ys.map fun _ => true).all id = true := by rw [List.all_map]; exact List.all_eq_true.mpr fun _ _ => rfl
      rw [ea]
      exact iteF (q _ (S0.trans S1))

def spJn : Sp := fun vs H Q _ => ∃ j : Str, vs = [.str j] ∧ j ∈ JN ∧ ∀ H', Same H H' → Q (.bl true) H'

end
end L2.K77

set_option Elab.async false
set_option linter.all false
set_option maxRecDepth 100000
set_option maxHeartbeats 4000000
/-! Layouts: made, their rows checked, the texts of rows. -/
namespace L2.K77
open PySem PySem.W PySem.Spec PySem.Calls PyProof.Rows L2.Jk
/-- o.m(e, ..) in a context that is not named yet -/
def tMethK (P : Program) (w : World) (K : Frag) (mg : Str → Option Value) (base : Heap) (k : Nat) (CX : CXT) (m : Str) (E : XK) (ta : TE) (t : TA) : TE := fun σ H Q => ta σ H fun x H1 => ∃ (a C dx f : Addr) (fs : List (Str × V)) (fd : FuncData) (ps : List Str) (sp : Sp), x = .ref a ∧ H1 a = some (.ins C dx fs) ∧ fs.lookup m = none ∧
  Cls K C ∧ Meth K C m f ∧ FnOk P w K mg base CX k f fd ps sp ∧ Binds K fd ps [] ∧ t σ H1 fun vs H2 => sp (x :: vs) H2 Q E
section
variable {P : Program} {w : World} {K : Frag} {mg : Str → Option Value} {base : Heap} {k : Nat} {X : Cx} {CX : CXT} {E : XK} {o e : Expr} {es : List Expr} {m : Str} {ta : TE} {t : TA} {apos pos : Pos}
theorem pe_methK {pl : Sem Bool} (eP : X.prog = P) (ew : X.w = w) (eK : X.K = K) (em : X.mg = mg) (eb : X.base = base) (hr : Room k X.A) (he : PE X o ta) (hx : Passes CX X E) (ha : PA X (e :: es) t)
    (hst : starEach (e :: es) X.env = (false, eval e X.env) :: starEach es X.env := by rfl) (hpl : (backTo pos (starEach es X.env)).any (·.1) = false := by rfl)
    (ht : eval (.Call (.Attribute o m apos) (e :: es) [] pos) X.env = (do
      let ov ← eval o X.env
      standAt apos.atName
      let (f, first) ← holding [ov] (getMethod ov m pl)
      callWith pos f first (backTo pos (starEach (e :: es) X.env)) (backToKw pos (keywordEach [] X.env))) := by rfl) :
    PE X (.Call (.Attribute o m apos) (e :: es) [] pos) (tMethK P w K mg base k CX m E ta t) := by
  subst eP ew eK em eb
  refine ⟨fun pins s σ H Q I h => ?_⟩
  refine PySem.W.methodCall_KW (pl := pl) (thn (he.run pins s σ H _ I h) fun u s1 hh => ?_) ht
  obtain ⟨x, H1, I1, rx, a, C, dx, f, fs, fd, ps, sp, ex, ea, l, c, hm, F, hb, q⟩ := hh
  subst ex
  obtain rfl : u = Value.ref a := rx
  refine getmeth_ok I1 ea c hm l ?_
  refine PySem.W.callWith_K (first := [.ref a]) (h₀ := X.base) I.ok.mod.kin hm.kp (thn (ha.run pos pins s1 σ H1 _ I1 q) fun us s2 ⟨vs, H2, I2, r, q2⟩ => ⟨I2.kIn, ?_⟩) hst hpl
  have q2' : sp (V.ref a :: (vs ++ [])) H2 Q E := by rw [List.append_nil]; exact q2
  exact run_fn (us := .ref a :: us) (vs := .ref a :: vs) (dvs := []) (ds := []) F hr hb .nil hx I2 (.cons rfl r) q2'
end
structure P7 (P : Program) (w : World) (K : Frag) (mg : Str → Option Value) (base : Heap) : Prop extends P6 P w K mg base where
  check_fields : FnAt P w K mg base CX0 2 "check_fields" ["fields"] (spCkF K)
  is_joint : FnAt P w K mg base CX0 1 "is_joint" ["thing"] spJn
section
variable {P : Program} {w : World} {K : Frag} {mg : Str → Option Value} {base : Heap} {f : Addr} {fd : FuncData}

abbrev s_is_joint : Stmt := top 35
theorem sc_is_joint : FnScope ["thing"] ["thing"] (defScope s_is_joint) := ⟨rfl, rfl, rfl, by decide +kernel, rfl, by decide +kernel, by decide +kernel⟩

theorem ok_is_joint (F : FunD K "is_joint" "is_joint" (defArgs s_is_joint) (defBody s_is_joint) (defScope s_is_joint) [] [] f fd) (G : P6 P w K mg base) : FnOk P w K mg base CX0 1 f fd ["thing"] spJn := by
  refine F.ok (CX := CX0) sc_is_joint (fun vs H Q E h => ?_) (fun cdv A outer s H vs Q E hr h => ?_)
  · obtain ⟨j, rfl, _⟩ := h
    rfl
  · refine ⟨_, PSs.nox (pss_one (ps_ret (pe_and (pe_callB call_ie (by rfl) G.isinstance (by decide +kernel) (pa_cons (pv 0) (pa_cons (pe_bty (n := "str") (by rfl) G.str (by decide +kernel)) pa_nil))) (pe_one (pe_cmpR op_in_seq (pv 0) (pe_tupS (pa_cons pe_str (pa_cons (pe_sg G.low) (pa_cons (pe_sg G.high) pa_nil)))) (by rfl)))))), ?_⟩
    obtain ⟨j, rfl, hj, q⟩ := h
    refine ⟨_, rfl, _, _, _, _, _, rfl, .ty _, flat_ty (v := .str j) rfl, kit_ty (kit_str (v := .str j) rfl), _, rfl, ?_⟩
    refine iteT ⟨_, rfl, by show 3 ≤ 1000; decide, fun p H1 hp S1 e1 => ⟨p, _, rfl, .inr (SqT.of e1), rfl, rfl, ?_⟩⟩
    have e : inV (.str j) [V.str "", V.str "!", V.str "~"] = true := by
      rcases List.mem_cons.mp hj with rfl | h
      · decide +kernel
      rcases List.mem_cons.mp h with rfl | h
      · decide +kernel
      rcases List.mem_cons.mp h with rfl | h
      · decide +kernel
      cases h
    rw [e]
    exact q _ S1

def spLay (K : Frag) : Sp := fun vs H Q _ => ∃ (L dx p p2 : Addr) (ys : List V) (ds : List FD) (js : List Str), vs = [.ref L, .ref p, .ref p2] ∧ H L = some (.ins (LA K) dx []) ∧ H p = some (.lst ys) ∧ FsAt K H ys ds ∧ H p2 = some (.lst (js.map V.str)) ∧ LyOk ds js ∧
  ∀ H' t1 t2, Same H H' → SqT K H' t1 ys → SqT K H' t2 (js.map V.str) → Q .non (upd H' L (.ins (LA K) dx (fLayout (.ref t1) (.ref t2))))
theorem seqL_same {K : Frag} {H H' : Hp} {a : Addr} {xs : List V} (S : Same H H') (h : H a = some (.lst xs)) : SqL K H' a xs := SqL.of (S _ _ h)

abbrev s_Layout_init : Stmt := inClass (top 36) 0
theorem sc_Layout_init : FnScope ["self", "fields", "joints", "joint"] ["self", "fields", "joints"] (defScope s_Layout_init) := ⟨rfl, rfl, rfl, by decide +kernel, rfl, by decide +kernel, by decide +kernel⟩

theorem ok_Layout_init (F : FunD K "__init__" "Layout.__init__" (defArgs s_Layout_init) (defBody s_Layout_init) (defScope s_Layout_init) [] [] f fd) (G : P7 P w K mg base) : FnOk P w K mg base CX0 3 f fd ["self", "fields", "joints"] (spLay K) := by
  refine F.ok (CX := CX0) sc_Layout_init (fun vs H Q E h => ?_) (fun cdv A outer s H vs Q E hr h => ?_)
  · obtain ⟨L, dx, p, p2, ys, ds, js, rfl, _⟩ := h
    rfl
  · refine ⟨_, PSs.nox (pss_cons (ps_expr (pe_fn G.check_fields (hr.mono (by decide)) pass0 (by rfl) (pa_cons (pv 1) pa_nil)))
    (pss_cons (ps_if (PW.pt (pw_or (pt_not (pt_val (pe_fn G.is_sequence (hr.mono (by decide)) pass0 (by rfl) (pa_cons (pv 2) pa_nil)))) (pw_or1 (pt_cmpR op_ne (pe_callB call_len_seq (by rfl) G.len (by decide +kernel) (pa_cons (pv 2) pa_nil)) (pe_op op_sub (pe_callB call_len_seq (by rfl) G.len (by decide +kernel) (pa_cons (pv 1) pa_nil)) pe_int) (nomark _)))))
      (pss_one ps_never)
      pss_nil)
    (pss_cons (ps_if (pt_not (pt_val (pe_callB (cr_all rfl) (by rfl) G.all (by decide +kernel) (pa_cons (pe_lc (own := [("joint", 3)]) (g := gName 3) (tt := tYes) rfl sc_Layout_init.nd (pi_list (pv 2)) (blkOk_by (N := ["self", "fields", "joints", "joint"]) (sc := defScope s_Layout_init) (by decide +kernel)) (fun _ _ _ _ _ => pg_name (i := 3) sc_Layout_init.nd rfl (Or.inl rfl)) (fun _ _ _ _ _ => pts_nil) (fun _ _ _ _ _ => (pe_fn G.is_joint (hr.mono (by decide)) pass0 (by rfl) (pa_cons (pv 3) pa_nil)))) pa_nil))))
      (pss_one ps_never)
      pss_nil)
    (pss_cons (ps_fld (pv 0) (pe_callTy call_tupleZ (by rfl) G.tuple (by decide +kernel) (pa_cons (pv 1) pa_nil)) rfl)
    (pss_one (ps_fld (pv 0) (pe_callTy call_tupleZ (by rfl) G.tuple (by decide +kernel) (pa_cons (pv 2) pa_nil)) rfl)))))), ?_⟩
    obtain ⟨L, dx, p, p2, ys, ds, js, rfl, hL, hp, hF, hp2, ok, q⟩ := h
    have hlen : ys.length = ds.length := hF.1
    have hfew := ok.few
    have hjl := ok.len
    refine ⟨_, rfl, p, ys, ds, rfl, hp, hF, by omega, fun z => ok.some (List.length_eq_zero_iff.mp (by rw [← hlen, z]; rfl)), fun H0 S0 => ?_⟩
    have hp2' := S0 _ _ hp2
    refine ⟨_, rfl, _, _, rfl, .lst hp2', fun H1 S1 => ⟨_, rfl, iteF ?_⟩⟩
    have T1 : Same H H1 := S0.trans S1
    refine ⟨_, rfl, p2, _, rfl, .inl (SqL.of (T1 _ _ hp2)), _, rfl, p, _, rfl, .inl (SqL.of (T1 _ _ hp)), _, _, rfl, rfl, rfl, _, rfl, ?_⟩
    refine ite2 (fun h => absurd h ?_) (fun _ => ?_)
    · rw [show decide (V.int (((js.map V.str).length : Nat) : Int) = V.int ((ys.length : Int) - 1)) = true from decide_eq_true (congrArg V.int (by rw [List.length_map]; omega))]
      decide
    refine ⟨_, rfl, p2, rfl, ⟨_, SqL.of (T1 _ _ hp2)⟩, fun D hD => ?_⟩
    refine lc_list (K := K) (a := p2) (xs := js.map V.str) (LcP H1 D fun n => (js.take n).map fun _ => V.bl true) (LcP.start hD rfl) (fun i J hi pJ => SqL.of (pJ.1 _ _ (T1 _ _ hp2))) ?_ ?_
    · intro i v J hv pJ
      obtain ⟨j, hj, rfl⟩ : ∃ j, js[i]? = some j ∧ V.str j = v := by rw [List.getElem?_map] at hv; cases e : js[i]? with
        | none => rw [e] at hv; cases hv
        | some j => rw [e] at hv; exact ⟨j, rfl, Option.some.inj hv⟩
      have hlt := (List.getElem?_eq_some_iff.mp hj).1
      exact ⟨rfl, _, rfl, j, rfl, ok.jn j (List.mem_of_getElem? hj), fun H2 S2 => pJ.put S2 (take_succ_map _ hj) (by omega)⟩
    · rintro J ⟨S2, _, eJ, _⟩
      have eJ2 : J D = some (.lst ((js.map fun _ => true).map V.bl)) := by rw [eJ]; show some (HO.lst ((js.take (js.map V.str).length).map fun _ => V.bl true)) = _; rw [List.length_map, List.take_length, List.map_map]; rfl
      refine ⟨D, js.map fun _ => true, rfl, SqL.of eJ2, _, rfl, ?_⟩
      have ea : (js.map fun _ => true).all id = true := by rw [List.all_map]; exact List.all_eq_true.mpr fun _ _ => rfl
      rw [ea]
      have T2 : Same H J := T1.trans S2
      refine iteF ⟨_, rfl, p, ys, rfl, .inl ⟨SqL.of (T2 _ _ hp), fun t1 H3 ht1 S3 tz1 => ?_⟩⟩
      have T3 := T2.trans S3
      refine ⟨_, rfl, L, _, dx, _, rfl, T3 _ _ hL, G.cLayout.cl, G.cLayout.no _ (by decide +kernel), (by show 0 < 1000; decide), ?_⟩
      have nL : p2 ≠ L := fun e => by rw [e, hL] at hp2; cases hp2
      refine ⟨_, rfl, p2, _, rfl, .inl ⟨SqL.of (by show upd H3 L _ p2 = _; rw [upd_ne nL]; exact T3 _ _ hp2), fun t2 H4 ht2 S4 tz2 => ?_⟩⟩
      refine ⟨_, rfl, L, _, dx, _, rfl, S4 _ _ upd_same, G.cLayout.cl, G.cLayout.no _ (by decide +kernel), (by show 1 < 1000; decide), ?_⟩
      obtain ⟨o1, oc1, od1, oe1⟩ := tz1
      obtain ⟨o2, oc2, od2, oe2⟩ := tz2
      have n1 : t1 ≠ L := fun e => by rw [e, T2 _ _ hL] at ht1; cases ht1
      have n2 : t2 ≠ L := fun e => by rw [e, upd_same] at ht2; cases ht2
      have z := q (upd H4 L (.ins (LA K) dx [])) t1 t2 (fun b o e => by
        by_cases hb : b = L
        · subst hb
          rw [upd_same]
          rw [hL] at e
          exact e
        · rw [upd_ne hb]
          refine S4 _ _ ?_
          rw [upd_ne hb]
          exact T3 _ _ e) (.inl (.inr ⟨o1, by
            rw [upd_ne n1]
            refine S4 _ _ ?_
            rw [upd_ne n1]
            exact oe1⟩)) (.inl (.inr ⟨o2, by rw [upd_ne n2]; exact oe2⟩))
      rw [upd_upd] at z
      exact z

structure P8 (P : Program) (w : World) (K : Frag) (mg : Str → Option Value) (base : Heap) : Prop extends P7 P w K mg base where
  kLayout : ClsAt P w K mg base CX0 3 "Layout" (LA K) ["self", "fields", "joints"] (spLay K)
def spJB (K : Frag) : Sp := fun vs H Q _ => ∃ (L : Addr) (ds : List FD) (js : List Str), vs = [.ref L] ∧ LayAt K H L ds js ∧ ∀ p H', Same H H' → SqT K H' p ((js ++ [("" : Str)]).map V.str) → Q (.ref p) H'
/-- the first place that does not fit -/
def badAt (ds : List FD) (xs : List V) (i : Nat) : Bool := match ds[i]?, xs[i]? with
  | some d, some x => !d.hasV x
  | _, _ => true
def rowDue (ds : List FD) : Option (List V) → Option Int
  | none => some (-1)
  | some xs => ((List.range (max xs.length ds.length)).find? (badAt ds xs)).map fun i : Nat => (i : Int)
def RowIn (H : Hp) : Option (List V) → Prop
  | none => True
  | some xs => xs.length ≤ 1000 ∧ ∀ x ∈ xs, Thg H x ∧ lenV x ≤ 900
theorem RowIn.same {H H' : Hp} (S : Same H H') : ∀ {o : Option (List V)}, RowIn H o → RowIn H' o
  | none, _ => trivial
  | some _, ⟨a, b⟩ => ⟨a, fun x hx => ⟨(b x hx).1.same S, (b x hx).2⟩⟩
def spCkR (K : Frag) : Sp := fun vs H Q E => ∃ (L : Addr) (ds : List FD) (js : List Str) (v : V) (o : Option (List V)), vs = [.ref L, v] ∧ LayAt K H L ds js ∧ SeqIs K H v o ∧ RowIn H o ∧
  (rowDue ds o = none → ∀ H', Same H H' → Q .non H') ∧ ∀ z, rowDue ds o = some z → RaiseE (NR K) "place" (.int z) H E
theorem find_at {p : Nat → Bool} {n i : Nat} (hi : i < n) (h1 : p i = true) (h2 : ∀ j, j < i → p j = false) : (List.range n).find? p = some i := by
  rw [List.find?_range_eq_some]
  exact ⟨h1, List.mem_range.mpr hi, fun j hj => by rw [h2 j hj]; rfl⟩

abbrev s_joints_behind : Stmt := top 37
theorem sc_joints_behind : FnScope ["layout"] ["layout"] (defScope s_joints_behind) := ⟨rfl, rfl, rfl, by decide +kernel, rfl, by decide +kernel, by decide +kernel⟩

theorem ok_joints_behind (F : FunD K "joints_behind" "joints_behind" (defArgs s_joints_behind) (defBody s_joints_behind) (defScope s_joints_behind) [] [] f fd) (G : P8 P w K mg base) : FnOk P w K mg base CX0 1 f fd ["layout"] (spJB K) := by
  refine F.ok (CX := CX0) sc_joints_behind (fun vs H Q E h => ?_) (fun cdv A outer s H vs Q E hr h => ?_)
  · obtain ⟨L, ds, js, rfl, _⟩ := h
    rfl
  · refine ⟨_, PSs.nox (pss_one (ps_ret (pe_op op_catA (pe_fld (pv 0) rfl) (pe_tupS (pa_cons pe_str pa_nil))))), ?_⟩
    obtain ⟨L, ds, js, rfl, ⟨⟨dx, t1, t2, ys, hL, h1, hF, h2⟩, ok⟩, q⟩ := h
    have hl := ok.len
    have hf := ok.few
    refine ⟨_, rfl, L, _, dx, _, _, rfl, hL, G.cLayout.cl, G.cLayout.no _ (by decide +kernel), lLayout_joints, by show 1 ≤ 1000; decide, fun p H1 hp S1 e1 => ?_⟩
    refine ⟨t2, p, js.map V.str, [.str ""], rfl, rfl, Z3.seqT_same S1 h2, SqT.of e1, by rw [List.length_map, sizeLine_eq]; show js.length + 1 ≤ 16777216; omega, fun e => ?_, fun _ e => (by cases e), fun _ _ p2 hp2 => ?_⟩
    · refine q _ _ S1 ?_
      rw [List.map_append, e]
      exact SqT.of e1
    · refine q _ _ (S1.trans (same_upd hp2)) ?_
      rw [List.map_append]
      exact SqT.of upd_same

abbrev s_check_row : Stmt := top 38
theorem sc_check_row : FnScope ["layout", "row", "place"] ["layout", "row"] (defScope s_check_row) := ⟨rfl, rfl, rfl, by decide +kernel, rfl, by decide +kernel, by decide +kernel⟩

theorem ok_check_row (F : FunD K "check_row" "check_row" (defArgs s_check_row) (defBody s_check_row) (defScope s_check_row) [] [] f fd) (G : P8 P w K mg base) : FnOk P w K mg base (L2.CX P w) 5 f fd ["layout", "row"] (spCkR K) := by
  refine F.ok (CX := (L2.CX P w)) sc_check_row (fun vs H Q E h => ?_) (fun cdv A outer s H vs Q E hr h => ?_)
  · obtain ⟨L, ds, js, v, o, rfl, _⟩ := h
    rfl
  · have hr2 : Room 2 _ := hr.mono (by decide)
    refine ⟨_, (pss_cons (ps_if (pt_not (pt_val (pe_fn G.is_sequence (hr.mono (by decide)) pass0 (by rfl) (pa_cons (pv 1) pa_nil))))
      (pss_one (ps_raise rfl (takes_of rfl rfl rfl rfl) (pmk_1 G.nr hr2 (by rfl) (pa_cons (pe_un un_neg pe_int) pa_nil))))
      pss_nil)
    (pss_one (ps_for (passes_of rfl) rfl (pi_range1 (by rfl) G.range (pa_cons (pe_callB (call_max2 rfl) (by rfl) G.max (by decide +kernel) (pa_cons (pe_callB call_len_seq (by rfl) G.len (by decide +kernel) (pa_cons (pv 1) pa_nil)) (pa_cons (pe_callB call_len_seq (by rfl) G.len (by decide +kernel) (pa_cons (pe_fld (pv 0) rfl) pa_nil)) pa_nil))) pa_nil)) (pg_name (i := 2) sc_check_row.nd rfl (Or.inl rfl))
      (pss_cons (ps_if (PW.pt (pw_or (pt_cmpR op_ge (pv 2) (pe_callB call_len_seq (by rfl) G.len (by decide +kernel) (pa_cons (pv 1) pa_nil)) (nomark _)) (pw_or1 (pt_cmpR op_ge (pv 2) (pe_callB call_len_seq (by rfl) G.len (by decide +kernel) (pa_cons (pe_fld (pv 0) rfl) pa_nil)) (nomark _)))))
        (pss_one (ps_raise rfl (takes_of rfl rfl rfl rfl) (pmk_1 G.nr hr2 (by rfl) (pa_cons (pv 2) pa_nil))))
        pss_nil)
      (pss_one (ps_if (pt_not (pt_val (pe_methK (P := P) (w := w) (K := K) (mg := mg) (base := base) (k := 4) (CX := CX0) rfl rfl rfl rfl rfl hr (pe_ix ix_tup (pe_fld (pv 0) rfl) (pv 2) (fun _ _ => rfl)) pass0 (pa_cons (pe_ix ix_seq (pv 1) (pv 2) (fun _ _ => rfl)) pa_nil))))
        (pss_one (ps_raise rfl (takes_of rfl rfl rfl rfl) (pmk_1 G.nr hr2 (by rfl) (pa_cons (pv 2) pa_nil))))
        pss_nil)))))), ?_⟩
    obtain ⟨L, ds, js, v, o, rfl, hLy, hS, hR, q1, q2⟩ := h
    refine ⟨_, rfl, v, o, rfl, hS, fun H0 S0 => ⟨_, rfl, ?_⟩⟩
    have hLy0 := hLy.same S0
    have hS0 := hS.same S0
    have hR0 := hR.same S0
    cases o with
    | none => exact iteT ⟨_, rfl, mkO_1 (raise_mono S0 (q2 _ rfl))⟩
    | some xs =>
    refine iteF ?_
    obtain ⟨p, b, rfl, hsq, hor⟩ := hS0.sqb
    obtain ⟨⟨dx, t1, t2, ys, hL, h1, hF, h2⟩, ok⟩ := id hLy0
    obtain ⟨hxl, hxs⟩ := hR0
    have hlen : ys.length = ds.length := hF.1
    have hf := ok.few
    refine ⟨_, rfl, p, xs, rfl, hor, _, rfl, L, _, dx, _, _, rfl, hL, G.cLayout.cl, G.cLayout.no _ (by decide +kernel), lLayout_fields, t1, ys, rfl, .inr h1, _, _, rfl, ?_⟩
    have eM : (if (ys.length : Int) > (xs.length : Int) then (ys.length : Int) else (xs.length : Int)) = ((max xs.length ds.length : Nat) : Int) := by
      split <;> omega
    rw [eM]
    refine ⟨_, rfl, by omega, by omega, ?_⟩
    refine for_range (lo := 0) (n := max xs.length ds.length) (fun i σ H' => (∃ v2, σ = [some (.ref L), some (.ref p), v2]) ∧ Same H0 H' ∧ ∀ j, j < i → badAt ds xs j = false) ⟨⟨_, rfl⟩, Same.refl _, fun j hj => absurd hj (Nat.not_lt_zero _)⟩ ?_ ?_
    · rintro i σ J hi ⟨⟨v2, rfl⟩, S1, hb⟩
      have hLy1 := hLy0.same S1
      obtain ⟨⟨dx, t1, t2, ys, hL, h1, hF, h2⟩, _⟩ := id hLy1
      have hlen : ys.length = ds.length := hF.1
      have hor1 : SqL K J p xs ∨ SqT K J p xs := hor.imp (fun h => S1.seq h) (fun h => Z3.seqT_same S1 h)
      have hR1 := hxs
      have T1 := S0.trans S1
      have bad : badAt ds xs i = true → RaiseE (NR K) "place" (.int ((0 : Int) + (i : Int))) J E := fun hbd => raise_mono T1 (q2 _ (by
        show ((List.range (max xs.length ds.length)).find? (badAt ds xs)).map _ = _
        rw [find_at hi hbd hb, Int.zero_add]
        rfl))
      rw [Int.zero_add] at bad ⊢
      refine ⟨_, rfl, _, rfl, p, xs, rfl, hor1, _, _, rfl, rfl, _, rfl, ?_⟩
      refine ite2 (fun c1 => ?_) (fun c1 => ?_)
      · have c1' : ¬ i < xs.length := by have := of_decide_eq_true c1; omega
        refine iteT ⟨_, rfl, mkO_1 (bad ?_)⟩
        unfold badAt
        rw [List.getElem?_eq_none (show xs.length ≤ i by omega)]
        cases ds[i]? <;> rfl
      · have c1' : i < xs.length := by
          refine Decidable.byContradiction fun z => c1 (decide_eq_true ?_)
          omega
        refine ⟨_, rfl, _, rfl, L, _, dx, _, _, rfl, hL, G.cLayout.cl, G.cLayout.no _ (by decide +kernel), lLayout_fields, t1, ys, rfl, .inr h1, _, _, rfl, rfl, _, rfl, ?_⟩
        refine ite2 (fun c2 => ?_) (fun c2 => ?_)
        · have c2' : ¬ i < ds.length := by have := of_decide_eq_true c2; omega
          refine ⟨_, rfl, mkO_1 (bad ?_)⟩
          unfold badAt
          rw [List.getElem?_eq_none (show ds.length ≤ i by omega)]
        · have c2' : i < ds.length := by
            refine Decidable.byContradiction fun z => c2 (decide_eq_true ?_)
            omega
          obtain ⟨x, hx⟩ : ∃ x, xs[i]? = some x := ⟨_, List.getElem?_eq_getElem c1'⟩
          obtain ⟨y0, hy0⟩ : ∃ x, ys[i]? = some x := ⟨_, List.getElem?_eq_getElem (by omega)⟩
          obtain ⟨y, d, rfl, hd, hk⟩ := hF.get hy0
          have eb : badAt ds xs i = !d.hasV x := by
            unfold badAt
            rw [hd, hx]
          rw [eb] at bad
          obtain ⟨ey, fs, hin, lf⟩ := hk.ins (g := "has_value") (.inl rfl)
          obtain ⟨sp, M, Hs⟩ := G.toP5.hv5 hk
          obtain ⟨fde, Fe, Be⟩ := M.ok
          obtain ⟨ht, hlv⟩ := hxs x (List.mem_of_getElem? hx)
          have aty : atI ys (i : Int) = some (.ref y) := (atI_nat hy0)
          have atx : atI xs (i : Int) = some x := (atI_nat hx)
          refine ⟨_, rfl, L, _, dx, _, _, rfl, hL, G.cLayout.cl, G.cLayout.no _ (by decide +kernel), lLayout_fields, _, rfl, t1, ys, _, _, rfl, rfl, h1, aty, y, _, ey, _, fs, fde, _, sp, rfl, hin, lf, G.cl _ d.ci_lt, M.me, Fe, Be, _, rfl, _, rfl, ?_⟩
          have fin : ∀ v2, sp [.ref y, x] J v2 E0 → sp [.ref y, x] J v2 E0 := fun _ h => h
          rcases hor1 with hl | hl
          · refine .inl ⟨p, xs, _, x, rfl, rfl, hl, atx, Hs x _ _ (ht.same S1) hlv ⟨_, rfl, ?_⟩⟩
            refine ite2 (fun c => ⟨_, rfl, mkO_1 (bad c)⟩) (fun c => ⟨⟨_, rfl⟩, S1, fun j hj => ?_⟩)
            rcases Nat.lt_or_ge j i with h | h
            · exact hb j h
            · rw [show j = i by omega, eb]
              exact Bool.eq_false_iff.mpr c
          · refine .inr (.inl ⟨p, xs, _, x, rfl, rfl, hl, atx, Hs x _ _ (ht.same S1) hlv ⟨_, rfl, ?_⟩⟩)
            refine ite2 (fun c => ⟨_, rfl, mkO_1 (bad c)⟩) (fun c => ⟨⟨_, rfl⟩, S1, fun j hj => ?_⟩)
            rcases Nat.lt_or_ge j i with h | h
            · exact hb j h
            · rw [show j = i by omega, eb]
              exact Bool.eq_false_iff.mpr c
    · rintro σ J ⟨⟨v2, rfl⟩, S1, hb⟩
      refine q1 ?_ _ (S0.trans S1)
      show ((List.range (max xs.length ds.length)).find? (badAt ds xs)).map _ = none
      rw [List.find?_eq_none.mpr (fun j hj => by rw [hb j (List.mem_range.mp hj)]; decide)]
      rfl

structure P9 (P : Program) (w : World) (K : Frag) (mg : Str → Option Value) (base : Heap) : Prop extends P8 P w K mg base where
  joints_behind : FnAt P w K mg base CX0 1 "joints_behind" ["layout"] (spJB K)
  check_row : FnAt P w K mg base (L2.CX P w) 5 "check_row" ["layout", "row"] (spCkR K)
def piece (ds : List FD) (js : List Str) (xs : List V) (i : Nat) : Str := match ds[i]?, xs[i]?, (js ++ [("" : Str)])[i]? with
  | some d, some x, some j => d.textF x ++ j
  | _, _, _ => ""
def pieces (ds : List FD) (js : List Str) (xs : List V) : List Str := (List.range ds.length).map (piece ds js xs)
def rowText (ds : List FD) (js : List Str) (xs : List V) : Str := Txt.join "" (pieces ds js xs)
/-- the texts of a row are not too long -/
def RowT (ds : List FD) (xs : List V) : Prop := ∀ (i : Nat) (d : FD) (x : V), ds[i]? = some d → xs[i]? = some x → vaOk x = true ∧ d.tfOk x = true ∧ (d.textF x).length ≤ 900
def spRT (K : Frag) : Sp := fun vs H Q E => ∃ (L : Addr) (ds : List FD) (js : List Str) (v : V) (o : Option (List V)), vs = [.ref L, v] ∧ LayAt K H L ds js ∧ SeqIs K H v o ∧ RowIn H o ∧
  (rowDue ds o = none → ∀ xs, o = some xs → RowT ds xs ∧ ∀ H', Same H H' → Q (.str (rowText ds js xs)) H') ∧ ∀ z, rowDue ds o = some z → RaiseE (NR K) "place" (.int z) H E
theorem due_none {ds : List FD} {o : Option (List V)} (h : rowDue ds o = none) : ∃ xs, o = some xs ∧ xs.length = ds.length ∧ ∀ (i : Nat) (d : FD) (x : V), ds[i]? = some d → xs[i]? = some x → d.hasV x = true := by
  cases o with
  | none => cases h
  | some xs =>
    have h : ((List.range (max xs.length ds.length)).find? (badAt ds xs)).map (fun i : Nat => (i : Int)) = none := h
    have h0 : (List.range (max xs.length ds.length)).find? (badAt ds xs) = none := by
      cases e : (List.range (max xs.length ds.length)).find? (badAt ds xs) with
      | none => rfl
      | some i => rw [e] at h; cases h
    have all : ∀ i, i < max xs.length ds.length → badAt ds xs i = false := fun i hi => Bool.eq_false_iff.mpr (List.find?_eq_none.mp h0 i (List.mem_range.mpr hi))
    have bad0 : ∀ i, badAt ds xs i = false → i < xs.length ∧ i < ds.length := fun i hb => by
      unfold badAt at hb
      cases e1 : ds[i]? with
      | none => rw [e1] at hb; cases hb
      | some d =>
        cases e2 : xs[i]? with
        | none => rw [e1, e2] at hb; cases hb
        | some x => exact ⟨(List.getElem?_eq_some_iff.mp e2).1, (List.getElem?_eq_some_iff.mp e1).1⟩
    refine ⟨xs, rfl, ?_, fun i d x e1 e2 => ?_⟩
    · rcases Nat.lt_trichotomy xs.length ds.length with k | k | k
      · have := (bad0 xs.length (all _ (by omega))).1
        omega
      · exact k
      · have := (bad0 ds.length (all _ (by omega))).2
        omega
    · have z := all i (by have := (List.getElem?_eq_some_iff.mp e2).1; omega)
      unfold badAt at z
      rw [e1, e2] at z
      cases e : d.hasV x with
      | true => rfl
      | false =>
        have z : (!d.hasV x) = false := z
        rw [e] at z
        cases z
theorem mem_joint {ds : List FD} {js : List Str} (ok : LyOk ds js) {i : Nat} {j : Str} (h : (js ++ [("" : Str)])[i]? = some j) : j.length ≤ 1 := by
  have hm := List.mem_of_getElem? h
  have z : ∀ j ∈ JN, j.length ≤ 1 := by decide +kernel
  rcases List.mem_append.mp hm with k | k
  · exact z j (ok.jn j k)
  · rcases List.mem_cons.mp k with rfl | k
    · exact Nat.zero_le _
    · cases k
theorem append_len (a b : Str) : (a ++ b).length = a.length + b.length := by
  show (a.cps ++ b.cps).size = _
  rw [Array.size_append]
  rfl
theorem piece_len {ds : List FD} {js : List Str} {xs : List V} (ok : LyOk ds js) (hT : RowT ds xs) (i : Nat) : (piece ds js xs i).length ≤ 901 := by
  unfold piece
  cases e1 : ds[i]? with
  | none => exact Nat.zero_le _
  | some d =>
    cases e2 : xs[i]? with
    | none => exact Nat.zero_le _
    | some x =>
      cases e3 : (js ++ [("" : Str)])[i]? with
      | none => exact Nat.zero_le _
      | some j =>
        obtain ⟨_, _, h⟩ := hT i d x e1 e2
        have h2 := mem_joint ok e3
        show (d.textF x ++ j).length ≤ 901
        rw [append_len]
        omega
theorem sum_len {α : Type} {f : α → Nat} {k : Nat} : ∀ (xs : List α), (∀ x ∈ xs, f x ≤ k) → (xs.map f).sum ≤ xs.length * k
  | [], _ => Nat.zero_le _
  | x :: xs, h => by
    have h1 := h x (List.mem_cons_self ..)
    have h2 := sum_len xs fun y hy => h y (List.mem_cons_of_mem _ hy)
    rw [List.map_cons, List.sum_cons, List.length_cons, Nat.succ_mul]
    omega

theorem pg_tupK {X : Cx} {K : Frag} {es : List Expr} {k : Nat} {t : TGs} {n : Nat} {pos : Pos} (hK : X.K = K) (hc : X.calm = true) (h : PGs X es t)
    (hn : (assignEach es X.env).length = n := by rfl) (hst : (assignEach es X.env).findIdx? (·.1) = none := by rfl) : PG X (.Tuple es k pos) (gTup K n t) := by
  subst hK
  exact pg_tup hc h hn hst

abbrev s_row_text : Stmt := top 39
theorem sc_row_text : FnScope ["layout", "row", "field", "value", "joint"] ["layout", "row"] (defScope s_row_text) := ⟨rfl, rfl, rfl, by decide +kernel, rfl, by decide +kernel, by decide +kernel⟩

theorem ok_row_text (F : FunD K "row_text" "row_text" (defArgs s_row_text) (defBody s_row_text) (defScope s_row_text) [] [] f fd) (G : P9 P w K mg base) : FnOk P w K mg base (L2.CX P w) 6 f fd ["layout", "row"] (spRT K) := by
  refine F.ok (CX := (L2.CX P w)) sc_row_text (fun vs H Q E h => ?_) (fun cdv A outer s H vs Q E hr h => ?_)
  · obtain ⟨L, ds, js, v, o, rfl, _⟩ := h
    rfl
  · have hr2 : Room 2 _ := hr.mono (by decide)
    refine ⟨_, (pss_cons (ps_expr (pe_fnS G.check_row hr (fun σ => passAt (takes_of rfl rfl rfl rfl) σ) (by rfl) (pa_cons (pv 0) (pa_cons (pv 1) pa_nil))))
    (pss_one (ps_ret (pe_join pe_str (pe_lc (own := [("field", 2), ("value", 3), ("joint", 4)]) (g := _) (tt := tYes) rfl sc_row_text.nd (Z3.pi_zip3 (by rfl) G.zip (pa_cons (pe_fld (pv 0) rfl) (pa_cons (pv 1) (pa_cons (pe_fn G.joints_behind (hr.mono (by decide)) pass0 (by rfl) (pa_cons (pv 0) pa_nil)) pa_nil)))) (blkOk_by (N := ["layout", "row", "field", "value", "joint"]) (sc := defScope s_row_text) (by decide +kernel)) (fun _ _ _ _ _ => pg_tupK (n := 3) (K := K) rfl rfl (pgs_cons (pg_name (i := 2) sc_row_text.nd rfl (Or.inl rfl)) (pgs_cons (pg_name (i := 3) sc_row_text.nd rfl (Or.inl rfl)) (pgs_cons (pg_name (i := 4) sc_row_text.nd rfl (Or.inl rfl)) pgs_nil)))) (fun _ _ _ _ _ => pts_nil) (fun _ _ _ _ _ => (pe_op op_add_str (pe_methK (P := P) (w := w) (K := K) (mg := mg) (base := base) (k := 4) (CX := CX0) rfl rfl rfl rfl rfl (hr.mono (by decide)) (pv 2) pass0 (pa_cons (pv 3) pa_nil)) (pv 4)))))))), ?_⟩
    obtain ⟨L, ds, js, v, o, rfl, hLy, hS, hR, q1, q2⟩ := h
    refine ⟨_, rfl, _, rfl, L, ds, js, v, o, rfl, hLy, hS, hR, fun hn H0 S0 => ?_, fun z hz => q2 z hz⟩
    obtain ⟨xs, rfl, hxl, hall⟩ := due_none hn
    obtain ⟨hT, q⟩ := q1 hn xs rfl
    have hLy0 := hLy.same S0
    obtain ⟨hx1, hx2⟩ := hR.same S0
    obtain ⟨p, b, rfl, hsq, hor⟩ := (hS.same S0).sqb
    obtain ⟨⟨dx, t1, t2, ys, hL, h1, hF, h2⟩, ok⟩ := id hLy0
    have hlen : ys.length = ds.length := hF.1
    have hfew := ok.few
    have hjl := ok.len
    refine ⟨⟨_, rfl⟩, _, rfl, L, _, dx, _, _, rfl, hL, G.cLayout.cl, G.cLayout.no _ (by decide +kernel), lLayout_fields, _, rfl, _, rfl, L, ds, js, rfl, hLy0, fun p3 H1 S1 h3 => ?_⟩
    refine ⟨t1, p, p3, false, b, false, ys, xs, (js ++ [("" : Str)]).map V.str, rfl, Z3.seqT_same S1 h1, Z3.SqB.same S1 hsq, h3, fun D hD => ?_⟩
    refine Z3.lc_zip3 (K := K) (by omega) (by rw [List.length_map, List.length_append]; show ys.length = js.length + 1; omega) (LcP H1 D fun n => ((List.range n).map (piece ds js xs)).map V.str) (LcP.start hD rfl) (fun i J pJ => ⟨Z3.seqT_same (S1.trans pJ.1) h1, Z3.SqB.same (S1.trans pJ.1) hsq, Z3.seqT_same pJ.1 h3⟩) ?_ ?_
    · intro i y x u T J hy hx hu pJ hTn
      obtain ⟨ya, d, rfl, hd, hk⟩ := hF.get hy
      obtain ⟨j, hj, rfl⟩ : ∃ j, (js ++ [("" : Str)])[i]? = some j ∧ V.str j = u := by
        rw [List.getElem?_map] at hu
        cases e : (js ++ [("" : Str)])[i]? with
        | none => rw [e] at hu; cases hu
        | some j => rw [e] at hu; exact ⟨j, rfl, Option.some.inj hu⟩
      have SJ := (S1.trans pJ.1).trans (same_upd (o := .tup [.ref ya, x, .str j]) hTn)
      have hk2 := hk.same SJ
      obtain ⟨ey, fs, hin, lf⟩ := hk2.ins (g := "text_for") (.inr (.inl rfl))
      obtain ⟨sp, M, Hs⟩ := G.toP5.tf5 hk2
      obtain ⟨fde, Fe, Be⟩ := M.ok
      obtain ⟨hv1, hv2, hv3⟩ := hT i d x hd hx
      have hi := (List.getElem?_eq_some_iff.mp hd).1
      have hj1 := mem_joint ok hj
      have ep : piece ds js xs i = d.textF x ++ j := by
        unfold piece
        rw [hd, hx, hj]
      refine ⟨T, _, rfl, SqT.of upd_same, rfl, _, _, rfl, _, _, rfl, _, _, rfl, rfl, rfl, _, rfl, ya, _, ey, _, fs, fde, _, sp, rfl, hin, lf, G.cl _ d.ci_lt, M.me, Fe, Be, _, rfl, Hs x _ _ hv1 (hall i d x hd hx) hv2 fun H3 S3 => ?_⟩
      refine ⟨_, rfl, _, j, rfl, rfl, by rw [sizeLine_eq]; omega, pJ.put ((same_upd hTn).trans S3) ?_ (by omega)⟩
      show (List.map V.str (List.map (piece ds js xs) (List.range (i + 1)))) = _
      rw [List.range_succ, List.map_append, List.map_append]
      show _ ++ [V.str (piece ds js xs i)] = _
      rw [ep]
    · rintro J ⟨S2, _, eJ, _⟩
      rw [hlen] at eJ
      refine ⟨_, D, pieces ds js xs, rfl, rfl, .inl (SqL.of eJ), ?_, q _ ((S0.trans S1).trans S2)⟩
      have z := sum_len (f := fun x : Str => x.length) (k := 901) (pieces ds js xs) (fun x hx => by
        obtain ⟨i, _, rfl⟩ := List.mem_map.mp hx
        exact piece_len ok hT i)
      have l : (pieces ds js xs).length = ds.length := by
        unfold pieces
        rw [List.length_map, List.length_range]
      rw [l] at z ⊢
      have z2 : ("" : Str).length = 0 := rfl
      rw [z2, Nat.mul_zero, Nat.add_zero]
      omega

end
end L2.K77

set_option Elab.async false
set_option linter.all false
set_option maxRecDepth 100000
set_option maxHeartbeats 4000000
/-! A comprehension over zip of three, the second one the shortest. -/
namespace L2.Jk.Z3
open PySem PySem.W PySem.Spec PySem.Calls PyProof.Rows L2
theorem lc_zip3S {K : Frag} {b1 b2 b3 : Bool} {a1 a2 a3 : Addr} {xs ys zs : List V} {g : TG} {tt : TT} {te : TE} {vs : List Nat} {σ : St} {H1 : Hp} {D : Addr} {Qd : Hp → Prop} (hl : ys.length ≤ xs.length) (hl2 : ys.length ≤ zs.length) (Pv : Nat → Hp → Prop)
    (h0 : Pv 0 (upd H1 D (.lst []))) (hq : ∀ i H, Pv i H → SqB b1 K H a1 xs ∧ SqB b2 K H a2 ys ∧ SqB b3 K H a3 zs)
    (hs : ∀ (i : Nat) (x y u : V) (T : Addr) (H : Hp), xs[i]? = some x → ys[i]? = some y → zs[i]? = some u → Pv i H → H T = none → g (.ref T) (wipe σ vs) (upd H T (.tup [x, y, u])) fun σ2 H2 => wipe σ2 vs = wipe σ vs ∧ tt σ2 H2 fun b H3 =>
      if b = true then te σ2 H3 fun y H4 => ∃ acc, H4 D = some (.lst acc) ∧ acc.length < sizeLine ∧ Pv (i + 1) (upd H4 D (.lst (acc ++ [y]))) else Pv (i + 1) H3) (hd : ∀ H, Pv ys.length H → Qd H) :
    ∃ W : Nat → Nat → Hp → Prop, (∃ m, W 0 m (upd H1 D (.lst []))) ∧ ∀ i m H, W i m H →
      ((Itz3 K b1 b2 b3 a1 a2 a3).stop i H ∧ Qd H) ∨ ((Itz3 K b1 b2 b3 a1 a2 a3).go i H ∧ ∃ Nx : Hp → Prop, (∀ H', Nx H' → ∃ m', m' < m ∧ W (i + 1) m' H') ∧ ∀ y H', (Itz3 K b1 b2 b3 a1 a2 a3).yld i H y H' → g y (wipe σ vs) H' fun σ2 H2 => wipe σ2 vs = wipe σ vs ∧ tt σ2 H2 fun b H3 =>
        if b = true then te σ2 H3 fun y H4 => ∃ acc, H4 D = some (.lst acc) ∧ acc.length < sizeLine ∧ Nx (upd H4 D (.lst (acc ++ [y]))) else Nx H3) := by
  refine ⟨fun i m H => m = ys.length - i ∧ i ≤ ys.length ∧ Pv i H, ⟨ys.length, by simp, Nat.zero_le _, h0⟩, ?_⟩
  rintro i m H ⟨rfl, hi, p⟩
  obtain ⟨s1, s2, s3⟩ := hq i H p
  by_cases hlt : i < ys.length
  · have g1 := List.getElem?_eq_getElem (show i < xs.length by omega)
    have g2 := List.getElem?_eq_getElem hlt
    have g3 := List.getElem?_eq_getElem (show i < zs.length by omega)
    refine .inr ⟨⟨xs, ys, zs, _, _, _, s1, s2, s3, g1, g2, g3⟩, Pv (i + 1), fun H' p' => ⟨ys.length - (i + 1), by omega, rfl, hlt, p'⟩, fun y H' z => ?_⟩
    obtain ⟨T, x, y, u, ev, hT, eH, k1, k2, k3⟩ := z
    subst ev eH
    exact hs i x y u T H (k1 _ s1) (k2 _ s2) (k3 _ s3) p hT
  · have e : i = ys.length := by omega
    subst e
    exact .inl ⟨⟨xs, ys, zs, s1, s2, s3, .inr (.inl (Nat.le_refl _))⟩, hd H p⟩
end L2.Jk.Z3

set_option Elab.async false
set_option linter.all false
set_option maxRecDepth 100000
set_option maxHeartbeats 4000000
/-! Places in ascending texts; heads of rows. -/
namespace L2.K77
open PySem PySem.W PySem.Spec PySem.Calls PyProof.Rows L2.Jk
theorem noneOf {H H' : Hp} {p : Addr} (S : Same H H') (h : H' p = none) : H p = none := by
  cases e : H p with
  | none => rfl
  | some o => rw [S _ _ e] at h; cases h
def ltS (a b : Str) : Bool := decide (a.cps.toList < b.cps.toList)
theorem ltS_iff {a b : Str} : ltS a b = true ↔ a.cps.toList < b.cps.toList := decide_eq_true_iff
theorem str_ext {a b : Str} (h : a.cps.toList = b.cps.toList) : a = b := by
  obtain ⟨x⟩ := a
  obtain ⟨y⟩ := b
  exact congrArg Str.mk (Array.toList_inj.mp h)
theorem ltS_irr (a : Str) : ltS a a = false := decide_eq_false (List.lt_irrefl _)
theorem ltS_trans {a b c : Str} (h : ltS a b = true) (k : ltS b c = true) : ltS a c = true := decide_eq_true (List.lt_trans (of_decide_eq_true h) (of_decide_eq_true k))
theorem ltS_tri (a b : Str) : ltS a b = true ∨ a = b ∨ ltS b a = true := by
  rcases Decidable.em (a.cps.toList < b.cps.toList) with h | h
  · exact .inl (decide_eq_true h)
  · rcases Decidable.em (b.cps.toList < a.cps.toList) with k | k
    · exact .inr (.inr (decide_eq_true k))
    · exact .inr (.inl (str_ext (List.le_antisymm (List.not_lt.mp k) (List.not_lt.mp h))))
theorem ltS_asymm {a b : Str} (h : ltS a b = true) : ltS b a = false := by
  cases e : ltS b a with
  | false => rfl
  | true =>
    have z := ltS_trans h e
    rw [ltS_irr] at z
    cases z
/-- strictly ascending -/
def Asc (ts : List Str) : Prop := ts.Pairwise fun a b => ltS a b = true
theorem Asc.lt {ts : List Str} (h : Asc ts) {i j : Nat} {x y : Str} (hij : i < j) (hx : ts[i]? = some x) (hy : ts[j]? = some y) : ltS x y = true := by
  obtain ⟨i1, rfl⟩ := List.getElem?_eq_some_iff.mp hx
  obtain ⟨j1, rfl⟩ := List.getElem?_eq_some_iff.mp hy
  exact List.pairwise_iff_getElem.mp h i j i1 j1 hij
/-- how many stand ahead of t -/
def At (ts : List Str) (t : Str) (i : Nat) : Prop := i ≤ ts.length ∧ ∀ (j : Nat) x, ts[j]? = some x → (ltS x t = true ↔ j < i)
def spFF (K : Frag) : Sp := fun vs H Q _ => ∃ (p : Addr) (ts : List Str) (t : Str), vs = [.ref p, .str t] ∧ H p = some (.lst (ts.map V.str)) ∧ Asc ts ∧ ts.length ≤ 100000 ∧ ∀ i : Nat, At ts t i → Q (.int (i : Nat)) H
section
variable {P : Program} {w : World} {K : Frag} {mg : Str → Option Value} {base : Heap} {f : Addr} {fd : FuncData}

abbrev s_ff : Stmt := top 41
theorem sc_ff : FnScope ["ascending", "thing", "low", "high", "middle"] ["ascending", "thing"] (defScope s_ff) := ⟨rfl, rfl, rfl, by decide +kernel, rfl, by decide +kernel, by decide +kernel⟩

theorem ok_first_from (F : FunD K "first_from" "first_from" (defArgs s_ff) (defBody s_ff) (defScope s_ff) [] [] f fd) (G : Bl mg) : FnOk P w K mg base CX0 1 f fd ["ascending", "thing"] (spFF K) := by
  refine F.ok (CX := CX0) sc_ff (fun vs H Q E h => ?_) (fun cdv A outer s H vs Q E hr h => ?_)
  · obtain ⟨p, ts, t, rfl, _⟩ := h
    rfl
  · refine ⟨_, PSs.nox (pss_cons (ps_set (i := 2) sc_ff.nd rfl (Or.inl rfl) pe_int)
    (pss_cons (ps_set (i := 3) sc_ff.nd rfl (Or.inl rfl) (pe_callB call_len_seq (by rfl) G.len (by decide +kernel) (pa_cons (pv 0) pa_nil)))
    (pss_cons (ps_while PassesOwn.never (pt_cmpR op_lt (pv 2) (pv 3) (nomark _))
      (pss_cons (ps_set (i := 4) sc_ff.nd rfl (Or.inl rfl) (pe_op op_fdivN (pe_op op_add (pv 2) (pv 3)) pe_int))
      (pss_one (ps_if (pt_cmpR op_lt_str (pe_ix ix_list (pv 0) (pv 4) (fun _ _ => rfl)) (pv 1) (nomark _))
        (pss_one (ps_set (i := 2) sc_ff.nd rfl (Or.inl rfl) (pe_op op_add (pv 4) pe_int)))
        (pss_one (ps_set (i := 3) sc_ff.nd rfl (Or.inl rfl) (pv 4)))))))
    (pss_one (ps_ret (pv 2)))))), ?_⟩
    obtain ⟨p, ts, t, rfl, hp, ha, hz, q⟩ := h
    refine ⟨_, rfl, p, _, rfl, .inl (SqL.of hp), ?_⟩
    refine while_by (fun σ J => ∃ (lo hi : Nat) (v4 : Option V), σ = [some (.ref p), some (.str t), some (.int (lo : Nat)), some (.int (hi : Nat)), v4] ∧ J = H ∧ lo ≤ hi ∧ hi ≤ ts.length ∧ (∀ (j : Nat) x, ts[j]? = some x → j < lo → ltS x t = true) ∧ ∀ (j : Nat) x, ts[j]? = some x → hi ≤ j → ltS x t = false)
      (fun σ _ => match σ with | [_, _, some (.int lo), some (.int hi), _] => (hi - lo).toNat | _ => 0) ?_ ?_ ?_
    · refine ⟨0, ts.length, _, by rw [List.length_map]; rfl, rfl, Nat.zero_le _, Nat.le_refl _, fun j x _ h => absurd h (Nat.not_lt_zero _), fun j x hx h => ?_⟩
      have := (List.getElem?_eq_some_iff.mp hx).1
      omega
    · rintro σ J ⟨lo, hi, v4, rfl, rfl, h1, h2, h3, h4⟩
      refine ⟨_, rfl, _, rfl, _, _, rfl, rfl, _, rfl, ?_⟩
      refine ite2 (fun c => ?_) (fun c => ?_)
      · have hlt : lo < hi := by have := of_decide_eq_true c; omega
        refine ⟨_, rfl, _, rfl, _, _, rfl, rfl, _, _, rfl, rfl, ⟨by decide, by decide⟩, ?_⟩
        have em : ((fun i j : Int => V.int (i.fdiv j)) ((lo : Int) + (hi : Int)) 2) = V.int (((lo + hi) / 2 : Nat) : Int) := by
          show V.int (Int.fdiv _ _) = _
          rw [Int.fdiv_eq_ediv_of_nonneg _ (by decide)]
          congr 1
        rw [em]
        have m1 : lo ≤ (lo + hi) / 2 := by omega
        have m2 : (lo + hi) / 2 < hi := by omega
        generalize (lo + hi) / 2 = mid at m1 m2
        obtain ⟨x, hx⟩ : ∃ x, ts[mid]? = some x := ⟨_, List.getElem?_eq_getElem (by omega)⟩
        have hxv : (ts.map V.str)[mid]? = some (V.str x) := by rw [List.getElem?_map, hx]; rfl
        refine ⟨_, rfl, _, rfl, p, _, _, _, rfl, rfl, SqL.of hp, atI_nat (j := mid) hxv, _, rfl, _, _, rfl, rfl, _, rfl, ?_⟩
        refine ite2 (fun c2 => ?_) (fun c2 => ?_)
        · refine ⟨_, rfl, _, _, rfl, rfl, ⟨mid + 1, hi, _, by rfl, rfl, by omega, h2, fun j y hy hj => ?_, h4⟩, ?_⟩
          · rcases Nat.lt_or_ge j mid with k | k
            · exact ltS_trans (ha.lt k hy hx) c2
            · obtain rfl : j = mid := by omega
              rw [hx] at hy
              cases hy
              exact c2
          · show ((hi : Int) - ((mid : Int) + 1)).toNat < ((hi : Int) - (lo : Int)).toNat
            omega
        · refine ⟨_, rfl, ⟨lo, mid, _, rfl, rfl, by omega, by omega, h3, fun j y hy hj => ?_⟩, ?_⟩
          · rcases Nat.lt_or_ge mid j with k | k
            · cases e : ltS y t with
              | false => rfl
              | true => exact absurd (ltS_trans (ha.lt k hx hy) e) c2
            · obtain rfl : j = mid := by omega
              rw [hx] at hy
              cases hy
              exact Bool.eq_false_iff.mpr c2
          · show ((mid : Int) - (lo : Int)).toNat < ((hi : Int) - (lo : Int)).toNat
            omega
      · have heq : lo = hi := by
          rcases Nat.lt_or_ge lo hi with k | k
          · exact absurd (decide_eq_true (by omega)) c
          · omega
        subst heq
        refine ⟨_, rfl, q lo ⟨h2, fun j x hx => ⟨fun h => ?_, fun h => h3 j x hx h⟩⟩⟩
        rcases Nat.lt_or_ge j lo with k | k
        · exact k
        · rw [h4 j x hx k] at h
          cases h
    · intro σ J Q1 Q2 m h
      obtain ⟨v1, e1, v2, e2, i, j, e3, e4, k, e5, h⟩ := h
      exact ⟨v1, e1, v2, e2, i, j, e3, e4, k, e5, m _ _ h⟩

end
end L2.K77

set_option Elab.async false
set_option linter.all false
set_option maxRecDepth 100000
set_option maxHeartbeats 4000000
/-! What a store keeps: a map from texts to rows with numbers. -/
namespace L2.K77
open PySem PySem.W PySem.Spec PySem.Calls PyProof.Rows L2.Jk
abbrev Mp := Str → Option (List V × Int)
def setM (m : Mp) (t : Str) (e : List V × Int) : Mp := fun u => if u = t then some e else m u
def delM (m : Mp) (t : Str) : Mp := fun u => if u = t then none else m u
theorem setM_isSome {m : Mp} {t u : Str} {e : List V × Int} : (setM m t e u).isSome = true ↔ u = t ∨ (m u).isSome = true := by
  unfold setM
  by_cases h : u = t
  · rw [if_pos h]; simp [h]
  · rw [if_neg h]; simp [h]
theorem delM_isSome {m : Mp} {t u : Str} : (delM m t u).isSome = true ↔ u ≠ t ∧ (m u).isSome = true := by
  unfold delM
  by_cases h : u = t
  · rw [if_pos h]; simp [h]
  · rw [if_neg h]; simp [h]
/-- the texts, ascending -/
def TIs (ts : List Str) (m : Mp) : Prop := Asc ts ∧ ∀ t, t ∈ ts ↔ (m t).isSome = true
def Ent (H : Hp) (v : V) (e : List V × Int) : Prop := ∃ r rr, v = .ref r ∧ H r = some (.tup [.ref rr, .int e.2]) ∧ H rr = some (.tup e.1)
def DIs (H : Hp) (kvs : List (Key × V)) (m : Mp) : Prop := (∃ ks : List Str, kvs.map (·.1) = ks.map Sum.inr ∧ ks.Nodup ∧ ∀ t, t ∈ ks ↔ (m t).isSome = true) ∧ ∀ t e, m t = some e → ∃ v, valV kvs (.inr t) = some v ∧ Ent H v e
theorem Asc.nodup {ts : List Str} (h : Asc ts) : ts.Nodup := h.imp fun {a b} h e => by
  rw [e, ltS_irr] at h
  cases h
theorem tIs_nil : TIs [] (fun _ => none) := ⟨List.Pairwise.nil, fun t => by simp⟩
theorem dIs_nil (H : Hp) : DIs H [] (fun _ => none) := ⟨⟨[], rfl, List.nodup_nil, fun t => by simp⟩, fun t e h => by cases h⟩
theorem Ent.mono {H H' : Hp} {v : V} {e : List V × Int} (S : ∀ r xs, H r = some (.tup xs) → H' r = some (.tup xs)) : Ent H v e → Ent H' v e
  | ⟨r, rr, a, b, c⟩ => ⟨r, rr, a, S _ _ b, S _ _ c⟩
theorem DIs.mono {H H' : Hp} {kvs : List (Key × V)} {m : Mp} (S : ∀ r xs, H r = some (.tup xs) → H' r = some (.tup xs)) (h : DIs H kvs m) : DIs H' kvs m := ⟨h.1, fun t e k => by
  obtain ⟨v, a, b⟩ := h.2 t e k
  exact ⟨v, a, b.mono S⟩⟩
theorem inr_nodup {ks : List Str} (h : ks.Nodup) : (ks.map (Sum.inr : Str → Key)).Nodup := by
  refine List.Pairwise.map _ (fun a b n e => n ?_) h
  injection e
theorem DIs.nd {H : Hp} {kvs : List (Key × V)} {m : Mp} (h : DIs H kvs m) : (kvs.map (·.1)).Nodup := by
  obtain ⟨⟨ks, e, n, _⟩, _⟩ := h
  rw [e]
  exact inr_nodup n
theorem DIs.none {H : Hp} {kvs : List (Key × V)} {m : Mp} {t : Str} (h : DIs H kvs m) (k : m t = none) : valV kvs (.inr t) = none := by
  obtain ⟨⟨ks, e, n, i⟩, _⟩ := h
  cases z : valV kvs (Sum.inr t : Key) with
  | none => rfl
  | some v =>
    have y := valV_in z
    rw [e] at y
    obtain ⟨u, hu, hz⟩ := List.mem_map.mp y
    injection hz with hz
    rw [hz] at hu
    rw [i t, k] at hu
    cases hu
theorem DIs.isSome {H : Hp} {kvs : List (Key × V)} {m : Mp} (h : DIs H kvs m) (t : Str) : (valV kvs (.inr t)).isSome = (m t).isSome := by
  cases e : m t with
  | none => rw [h.none e]; rfl
  | some x =>
    obtain ⟨v, a, _⟩ := h.2 t x e
    rw [a]; rfl
theorem keys_put {kvs : List (Key × V)} {k : Key} {v : V} (h : (valV kvs k).isSome = true) : (putK kvs k v).map (·.1) = kvs.map (·.1) := by
  unfold putK
  rw [valV_any, if_pos h, List.map_map]
  refine List.map_congr_left fun p _ => ?_
  show (if p.1 = k then (p.1, v) else p).1 = p.1
  split <;> rfl
theorem DIs.put {H : Hp} {kvs : List (Key × V)} {m : Mp} {t : Str} {v : V} {e : List V × Int} (h : DIs H kvs m) (he : Ent H v e) : DIs H (putK kvs (.inr t) v) (setM m t e) := by
  obtain ⟨ks, ek, n, i⟩ := h.1
  refine ⟨?_, fun u x hx => ?_⟩
  · cases z : m t with
    | none =>
      refine ⟨ks ++ [t], ?_, ?_, fun u => ?_⟩
      · rw [putK_new v (h.none z), List.map_append, ek, List.map_append]
        rfl
      · refine List.nodup_append.mpr ⟨n, List.nodup_cons.mpr ⟨List.not_mem_nil, List.nodup_nil⟩, fun a ha b hb => ?_⟩
        rw [List.mem_singleton.mp hb]
        intro e2
        rw [e2, i t, z] at ha
        cases ha
      · rw [setM_isSome, List.mem_append, i u, List.mem_singleton]
        exact Or.comm
    | some y =>
      refine ⟨ks, by rw [keys_put (by rw [h.isSome, z]; rfl), ek], n, fun u => ?_⟩
      rw [setM_isSome, i u]
      exact ⟨.inr, fun q => q.elim (fun q => by rw [q, z]; rfl) id⟩
  · rw [valV_put]
    unfold setM at hx
    by_cases q : u = t
    · rw [if_pos q] at hx
      cases hx
      rw [if_pos (by rw [q])]
      exact ⟨v, rfl, he⟩
    · rw [if_neg q] at hx
      rw [if_neg (fun z => q (by injection z))]
      exact h.2 u x hx
theorem valV_drop {kvs : List (Key × V)} {k j : Key} (n : j ≠ k) : valV (dropK kvs k) j = valV kvs j := by
  induction kvs with
  | nil => rfl
  | cons p r ih =>
    by_cases e : p.1 = k
    · rw [dropK_pos e, valV_neg (fun z => n (z.symm.trans e)), ih]
    · rw [dropK_neg e]
      by_cases f : p.1 = j
      · rw [valV_pos f, valV_pos f]
      · rw [valV_neg f, valV_neg f, ih]
theorem DIs.drop {H : Hp} {kvs : List (Key × V)} {m : Mp} {t : Str} (h : DIs H kvs m) : DIs H (dropK kvs (.inr t)) (delM m t) := by
  obtain ⟨ks, ek, n, i⟩ := h.1
  refine ⟨⟨ks.filter fun u => decide (u ≠ t), ?_, n.sublist List.filter_sublist, fun u => ?_⟩, fun u x hx => ?_⟩
  · have key : ∀ (kvs : List (Key × V)) (ks : List Str), kvs.map (·.1) = ks.map Sum.inr → (dropK kvs (.inr t)).map (·.1) = (ks.filter fun u => decide (u ≠ t)).map Sum.inr := by
      intro kvs
      induction kvs with
      | nil =>
        intro ks e
        cases ks with
        | nil => rfl
        | cons _ _ => cases e
      | cons p r ih =>
        intro ks e
        cases ks with
        | nil => cases e
        | cons s ss =>
          rw [List.map_cons, List.map_cons] at e
          injection e with e1 e2
          have e1 : p.1 = Sum.inr s := e1
          by_cases q : s = t
          · rw [dropK_pos (by rw [e1, q]), ih ss e2, List.filter_cons_of_neg (by simp [q])]
          · rw [dropK_neg (fun z => q (by rw [e1] at z; injection z)), List.map_cons, ih ss e2, List.filter_cons_of_pos (by simp [q]), List.map_cons]
            exact congrArg (· :: _) e1
    exact key kvs ks ek
  · rw [delM_isSome, List.mem_filter, i u]
    simp [and_comm]
  · unfold delM at hx
    by_cases q : u = t
    · rw [if_pos q] at hx
      cases hx
    · rw [if_neg q] at hx
      rw [valV_drop (fun z => q (by injection z))]
      exact h.2 u x hx
/-! the texts -/
theorem at_mem {ts : List Str} {t : Str} {i : Nat} (ha : Asc ts) (h : At ts t i) (hm : t ∈ ts) : ts[i]? = some t := by
  obtain ⟨j, hj, e⟩ := List.mem_iff_getElem.mp hm
  have ej : ts[j]? = some t := by rw [List.getElem?_eq_getElem hj, e]
  have nj : ¬ j < i := fun z => by
    have := (h.2 j t ej).mpr z
    rw [ltS_irr] at this
    cases this
  rcases Nat.lt_or_ge i j with k | k
  · obtain ⟨x, hx⟩ : ∃ x, ts[i]? = some x := ⟨_, List.getElem?_eq_getElem (by omega)⟩
    have := (h.2 i x hx).mp (ha.lt k hx ej)
    omega
  · obtain rfl : i = j := by omega
    exact ej
theorem TIs.put_in {ts : List Str} {m : Mp} {t : Str} {e : List V × Int} (h : TIs ts m) (k : (m t).isSome = true) : TIs ts (setM m t e) := ⟨h.1, fun u => by
  rw [setM_isSome, h.2 u]
  exact ⟨.inr, fun q => q.elim (fun q => by rw [q]; exact k) id⟩⟩
theorem TIs.put {ts : List Str} {m : Mp} {t : Str} {e : List V × Int} {i : Nat} (h : TIs ts m) (k : m t = none) (a : At ts t i) : TIs (ts.take i ++ [t] ++ ts.drop i) (setM m t e) := by
  have nt : t ∉ ts := fun z => by
    rw [h.2 t, k] at z
    cases z
  refine ⟨?_, fun u => ?_⟩
  · refine List.pairwise_append.mpr ⟨List.pairwise_append.mpr ⟨h.1.sublist (List.take_sublist ..), List.pairwise_singleton _ _, fun x hx y hy => ?_⟩, h.1.sublist (List.drop_sublist ..), fun x hx y hy => ?_⟩
    · rw [List.mem_singleton.mp hy]
      obtain ⟨j, hj, e⟩ := List.mem_iff_getElem.mp hx
      rw [List.getElem_take] at e
      rw [List.length_take] at hj
      exact (a.2 j x (by rw [List.getElem?_eq_getElem (by omega), e])).mpr (by omega)
    · have hd : ∀ y, y ∈ ts.drop i → ltS t y = true := fun y hy => by
        obtain ⟨j, hj, e⟩ := List.mem_iff_getElem.mp hy
        rw [List.getElem_drop] at e
        rw [List.length_drop] at hj
        have ey : ts[i + j]? = some y := by rw [List.getElem?_eq_getElem (by omega), e]
        rcases ltS_tri t y with z | z | z
        · exact z
        · exact absurd (z ▸ List.mem_of_getElem? ey) nt
        · have := (a.2 _ y ey).mp z
          omega
      rcases List.mem_append.mp hx with hx | hx
      · obtain ⟨j, hj, e⟩ := List.mem_iff_getElem.mp hx
        rw [List.getElem_take] at e
        rw [List.length_take] at hj
        exact ltS_trans ((a.2 j x (by rw [List.getElem?_eq_getElem (by omega), e])).mpr (by omega)) (hd y hy)
      · rw [List.mem_singleton.mp hx]
        exact hd y hy
  · rw [setM_isSome, ← h.2 u]
    have e : u ∈ ts ↔ u ∈ ts.take i ∨ u ∈ ts.drop i := by
      rw [← List.mem_append, List.take_append_drop]
    rw [e, List.mem_append, List.mem_append, List.mem_singleton]
    constructor
    · rintro ((h | h) | h)
      · exact .inr (.inl h)
      · exact .inl h
      · exact .inr (.inr h)
    · rintro (h | h | h)
      · exact .inl (.inr h)
      · exact .inl (.inl h)
      · exact .inr h
theorem TIs.del {ts : List Str} {m : Mp} {t : Str} {i : Nat} (h : TIs ts m) (e : ts[i]? = some t) : TIs (ts.eraseIdx i) (delM m t) := by
  refine ⟨h.1.sublist (List.eraseIdx_sublist ..), fun u => ?_⟩
  rw [delM_isSome, ← h.2 u]
  have hn := h.1.nodup
  constructor
  · intro hu
    refine ⟨fun z => ?_, List.mem_of_mem_eraseIdx hu⟩
    rw [z] at hu
    obtain ⟨j, j1, j2, q⟩ := List.mem_eraseIdx_iff_getElem.mp hu
    have ei := (List.getElem?_eq_some_iff.mp e)
    obtain ⟨i1, i2⟩ := ei
    exact j2 ((List.getElem_inj hn).mp (q.trans i2.symm))
  · rintro ⟨n, hu⟩
    obtain ⟨j, hj, q⟩ := List.mem_iff_getElem.mp hu
    refine List.mem_eraseIdx_iff_getElem.mpr ⟨j, hj, fun z => n ?_, q⟩
    subst z
    rw [List.getElem?_eq_getElem hj] at e
    exact q.symm.trans (Option.some.inj e)
theorem TIs.len {ts : List Str} {kvs : List (Key × V)} {H : Hp} {m : Mp} (h : TIs ts m) (k : DIs H kvs m) : kvs.length = ts.length := by
  obtain ⟨⟨ks, e, n, i⟩, _⟩ := k
  have p : ks.Perm ts := (List.perm_ext_iff_of_nodup n h.1.nodup).mpr fun t => (i t).trans (h.2 t).symm
  have l := congrArg List.length e
  rw [List.length_map, List.length_map] at l
  rw [l]
  exact p.length_eq
theorem rising_pw : ∀ (p : Str) (l : List Str), risingS p l = true → (p :: l).Pairwise fun a b => a.cps.toList ≤ b.cps.toList
  | p, [], _ => List.pairwise_singleton _ _
  | p, x :: r, h => by
    obtain ⟨h1, h2⟩ := Bool.and_eq_true_iff.mp (show (!ltCps x.cps.toList p.cps.toList && risingS x r) = true from h)
    have ih := rising_pw x r h2
    have e1 : p.cps.toList ≤ x.cps.toList := by
      rw [ltCps_eq] at h1
      intro z
      rw [decide_eq_true z] at h1
      cases h1
    refine List.pairwise_cons.mpr ⟨fun y hy => ?_, ih⟩
    rcases List.mem_cons.mp hy with rfl | hy
    · exact e1
    · exact List.le_trans e1 (List.rel_of_pairwise_cons ih hy)
theorem sorted_pw {l : List Str} (h : sortedS l = true) : l.Pairwise fun a b => a.cps.toList ≤ b.cps.toList := by
  cases l with
  | nil => exact List.Pairwise.nil
  | cons x r => exact rising_pw x r h
/-- sorted(kept) gives the texts -/
theorem TIs.sorted {ts ys : List Str} {kvs : List (Key × V)} {ks : List Str} {m : Mp} {H : Hp} (h : TIs ts m) (e : kvs.map (·.1) = ks.map Sum.inr) (k : DIs H kvs m) (p : ys.Perm ks) (s : sortedS ys = true) : ys = ts := by
  obtain ⟨⟨ks', e', n, i⟩, _⟩ := k
  have ek : ks = ks' := by
    have z : ks.map (Sum.inr : Str → Key) = ks'.map Sum.inr := e.symm.trans e'
    exact (List.map_inj_right fun a b q => by injection q).mp z
  subst ek
  have p2 : ys.Perm ts := p.trans ((List.perm_ext_iff_of_nodup n h.1.nodup).mpr fun t => (i t).trans (h.2 t).symm)
  exact List.Perm.eq_of_pairwise (fun _ _ _ _ a b => str_ext (List.le_antisymm a b)) (sorted_pw s) (h.1.imp fun {a b} q => Std.le_of_lt (ltS_iff.mp q)) p2
end L2.K77

set_option Elab.async false
set_option linter.all false
set_option maxRecDepth 100000
set_option maxHeartbeats 4000000
/-! enumerate(t), t a tuple. -/
namespace L2.Jk
open PySem PySem.W PySem.Spec PySem.Calls PyProof.Rows L2
theorem meets_enumerate_newT (l : Addr) (items : Array Value) :
    Meets (Builtin.«enumerate.__new__» ⟨[.type "enumerate", .ref l], []⟩) (fun _ R s => s.heap.IsTuple l items ∧
      R (.ok (.ret (.ref (s.heap.push { cls := .type "tuple_iterator", data := .fields #[.ref l, .int 0 0] }).objs.size)))
        { s with heap := (s.heap.push { cls := .type "tuple_iterator", data := .fields #[.ref l, .int 0 0] }).push { cls := .type "enumerate", data := .fields #[.none, .bool false, .ref s.heap.objs.size, rawInt 0, .none, .none] } }) :=
  .of_wp fun prog w A R s h => by
    obtain ⟨hp, g, d, tk, os⟩ := s; obtain ⟨hl, h⟩ := h
    have hsub := sub_enumerate
    have hL : Heap.IsTuple (Shared.heap ⟨hp, g, d, tk, os⟩) l items := hl
    wp_walk using wpAny_pyIter_tuple hL
    refine wpAny_stack_any fun st => wpAny_pure ?_
    split
    · rename_i c _ _ _ _ _
      cases (c == Value.type "enumerate")
      · wp_walk using wpAny_pyIter_tuple hL
        exact ⟨_, rfl, h⟩
      · wp_walk using wpAny_pyIter_tuple hL
        exact ⟨_, rfl, h⟩
    · wp_walk using wpAny_pyIter_tuple hL
      exact ⟨_, rfl, h⟩
section
variable {prog : Program} {w : World} {A : Around} {E : Value → Shared → Prop} {s : Shared}
theorem call_enumerate_tuple {l : Addr} {items : Array Value} {Q : Value → Shared → Prop} (hL : s.heap.IsTuple l items)
    (h : ∀ h', IsEnum h' (s.heap.objs.size + 1) s.heap.objs.size 0 .none → h'.IsTupleIter s.heap.objs.size l 0 → h'.objs.size = s.heap.objs.size + 2 →
      (∀ b o, s.heap.get? b = some o → h'.get? b = some o) → Q (.ref (s.heap.objs.size + 1)) { s with heap := h' }) :
    wpAny (model prog w) A (call (.type "enumerate") [.ref l]) Q E s := by
  refine callType_new PySem.F.called_enumerate (by decide) (PySem.F.typeCall_enumerate_1 _) (PySem.F.newCall_enumerate_1 _) (fun obj => PySem.F.args_object_init_2 obj _) PySem.F.entry_enumerate_new
    (meets_enumerate_newT l items) ⟨hL, ?_⟩
  have hz : (s.heap.push { cls := .type "tuple_iterator", data := .fields #[.ref l, .int 0 0] }).objs.size = s.heap.objs.size + 1 := Heap.size_push ..
  show _ ∧ _
  rw [hz]
  have he : IsEnum ((s.heap.push { cls := .type "tuple_iterator", data := .fields #[.ref l, .int 0 0] }).push
      { cls := .type "enumerate", data := .fields #[.none, .bool false, .ref s.heap.objs.size, rawInt 0, .none, .none] }) (s.heap.objs.size + 1) s.heap.objs.size 0 .none := by
    have := Heap.get?_push_size (s.heap.push { cls := .type "tuple_iterator", data := .fields #[.ref l, .int 0 0] })
      (o := { cls := .type "enumerate", data := .fields #[.none, .bool false, .ref s.heap.objs.size, rawInt 0, .none, .none] }) rfl
    rw [hz] at this; exact this
  refine ⟨⟨_, he, rfl⟩, h _ he ⟨_, Heap.get?_push_of_some _ (Heap.get?_push_size _ rfl), rfl, rfl⟩ (by rw [Heap.size_push, hz]) fun b o x => Heap.get?_push_of_some _ (Heap.get?_push_of_some _ x)⟩
end
/-- the tuple at a, each item in a new pair -/
def IteT (K : Frag) (a : Addr) : L2.It :=
  ⟨fun i H => ∃ (xs : List V) (x : V), SqT K H a xs ∧ xs[i]? = some x, fun i H v H' => ∃ T x, v = .ref T ∧ H T = none ∧ H' = upd H T (.tup [.int (i : Nat), x]) ∧ ∀ xs, SqT K H a xs → xs[i]? = some x, fun i H => ∃ xs : List V, SqT K H a xs ∧ xs.length = i⟩
theorem turn_enumT {P : Program} {w : World} {K : Frag} {elts : List Expr} {kk : Nat} {tpos : Pos} (a e it : Addr) (hai : a ≠ it) (hae : e ≠ a) :
    Turn P w K (.Tuple elts kk tpos) (IteT K a) [e, it] e (fun i h => (∃ old, IsEnum h e it ((i : Nat) : Int) old) ∧ h.IsTupleIter it a i ∧ e ≠ it) where
  mem := by simp
  obj := fun i h st b hb => by
    obtain ⟨⟨old, he⟩, ⟨o, ho, hc, hd⟩, _⟩ := st
    have e' : b = e ∨ b = it := by simpa using hb
    rcases e' with z | z
    · rw [z]; exact ⟨_, he, fun v q => nomatch q⟩
    · rw [z]; exact ⟨o, ho, fun v q => by rw [hd] at q; cases q⟩
  keep := fun i h h' st k => let ⟨⟨old, he⟩, hi, hne⟩ := st; ⟨⟨old, k e (by simp) _ he⟩, by
    obtain ⟨o, ho, r⟩ := hi
    exact ⟨o, k it (by simp) o ho, r⟩, hne⟩
  item := by
    intro X hP hw hK hc i pins s σ H E I hf st hg
    subst hP hw hK
    obtain ⟨⟨old, he⟩, hit, hne⟩ := st
    obtain ⟨xs, x, hq, hx⟩ := hg
    obtain ⟨its, rv, p, hz⟩ := I.tuple hq
    obtain ⟨u, hu, ru⟩ := rv.get hx
    have hel : e < s.heap.objs.size := Heap.lt_size he
    have hil : it < s.heap.objs.size := by obtain ⟨_, q, _⟩ := hit; exact Heap.lt_size q
    have D := Draws.tuple (prog := X.prog) (w := X.w) (A := X.A.in1) (I.ok.hd hc) it a hai its.toArray
    have hlen := (List.getElem?_eq_some_iff.mp hu).1
    have nea : ∀ {b : Addr}, b ≠ e → b ≠ it → b ∉ [e, it] := fun h1 h2 z => by
      rcases List.mem_cons.mp z with z | z
      · exact h1 z
      · exact h2 (List.mem_singleton.mp z)
    refine wpAny_pyNext_enum_itemC (i := i) D he ⟨hit, p⟩ (by simpa using hlen) hne (fun z => ?_) fun x2 h' tk hP ho hs' hT hsz hk => ?_
    · rcases List.mem_cons.mp z with z | z
      · exact hne z
      · exact hae (List.mem_singleton.mp z)
    have ex2 : x2 = u := by
      have z : its[i]? = some x2 := by simpa using hP
      rw [hu] at z
      exact (Option.some.inj z).symm
    subst ex2
    refine ⟨_, rfl, wpAny_letOwnedTupleGo_enum (s := { s with heap := h', toks := tk + 1 }) ho fun h'' he' sb => ?_⟩
    have hT2 : h''.get? s.heap.objs.size = some { cls := .type "tuple", data := .seq #[.int i tk, x2] } := (sb.2 _ (Nat.ne_of_gt hel)).trans hT
    have new : ObjOk X.prog X.w (upd H s.heap.objs.size (.tup [.int (i : Nat), x])) h'' s.heap.objs.size (.tup [.int (i : Nat), x]) :=
      ⟨by show 2 ≤ sizeLine; decide, [.int i tk, x2], .cons ⟨_, rfl⟩ (.cons ru .nil), ⟨_, hT2, rfl, _, rfl⟩⟩
    have I1 : Inv X pins σ (upd H s.heap.objs.size (.tup [.int (i : Nat), x])) { s with heap := h'', toks := tk + 1 } :=
      I.turnedNew (ch := [e, it]) (fun b ob hb q => (sb.2 b (fun z => hb (by simp [z]))).trans (hk b ob (fun z => hb (by simp [z])) (fun z => hb (by simp [z])) q)) hf (Nat.le_refl _) new
    refine ⟨.ref s.heap.objs.size, _, I1, rfl, ⟨_, x, rfl, I.hok.fresh (Nat.le_refl _), rfl, fun ys hy => by rw [I.tuple_inj hy hq]; exact hx⟩, ⟨⟨x2, ?_⟩, ?_, hne⟩, fun b hb => ?_⟩
    · have e1 : ((i + 1 : Nat) : Int) = (i : Int) + 1 := by omega
      rw [e1]; exact he'
    · obtain ⟨o, ho2, r⟩ := hs'.1
      exact ⟨o, (sb.2 it (Ne.symm hne)).trans ho2, r⟩
    · have hb' : b < s.heap.objs.size := by
        have e' : b = e ∨ b = it := by simpa using hb
        rcases e' with z | z
        · rw [z]; exact hel
        · rw [z]; exact hil
      rw [upd_ne (Nat.ne_of_lt hb')]
      exact (hf b hb).1
  done := by
    intro X hP hw hK hc i pins s σ H E I hf st hg
    subst hP hw hK
    obtain ⟨⟨old, he⟩, hit, hne⟩ := st
    obtain ⟨xs, hq, hx⟩ := hg
    obtain ⟨its, rv, p, hz⟩ := I.tuple hq
    obtain ⟨f0, f1, f2, f3, f4, f5⟩ := hf it (by simp)
    have hl := rv.length
    have D := Draws.tuple (prog := X.prog) (w := X.w) (A := X.A.in1) (I.ok.hd hc) it a hai its.toArray
    refine wpAny_pyNext_enum_endD D he ⟨?_, p⟩ fun h' eb => ⟨rfl, I.turned (t' := s.toks) (fun b o hb q => eb b o hb q) f0 f1 f3 f4 f5⟩
    have e1 : its.toArray.size = i := by simp; omega
    rw [e1]
    exact hit
  self := fun A i s Q E st h => let ⟨⟨_, he⟩, _⟩ := st; wpAny_pyIter_enum he h
def iEnumT (K : Frag) (ta : TA) : TI := fun σ H R => ta σ H fun vs H1 => ∃ a xs, vs = [.ref a] ∧ SqT K H1 a xs ∧ R (IteT K a) H1
theorem pi_enumT {X : Cx} {e : Expr} {ta : TA} {p pos tpos : Pos} {elts : List Expr} {kk : Nat} (hg : Gl X "enumerate") (hm : X.mg "enumerate" = none) (ha : PA X [e] ta) (hs : starEach [e] X.env = [(false, eval e X.env)] := by rfl) :
    PI X (.Tuple elts kk tpos) (.Call (.Name "enumerate" p) [e] [] pos) (iEnumT X.K ta) := by
  refine ⟨fun pins s σ H R I h => ?_⟩
  refine Call_ (ld_blt I hg hm boot_enumerate (PyProof.Rows.callWith_type1 (thn (ha.run pos pins s σ H _ I h) fun us s1 ⟨vs, H1, I1, r1, q1⟩ => ?_) hs rfl))
  obtain ⟨a, xs, ex, hq, q⟩ := q1
  subst ex
  cases r1 with
  | cons r rr =>
    cases rr
    cases r
    obtain ⟨its, rv, p', hz⟩ := I1.tuple hq
    have hal : a < s1.heap.objs.size := Z3.Sq.lt (b := false) p'
    refine call_enumerate_tuple p' fun h' he hit hsz hk => wpAny_pyIter_enum he ?_
    have I2 : Inv X pins σ H1 { s1 with heap := h' } := I1.kept (t' := s1.toks) hk
    refine ⟨s1.heap.objs.size + 1, [s1.heap.objs.size + 1, s1.heap.objs.size], _, _, H1, rfl, I2, turn_enumT a (s1.heap.objs.size + 1) s1.heap.objs.size (Nat.ne_of_lt hal) (Nat.ne_of_gt (Nat.lt_succ_of_lt hal)), ⟨⟨.none, he⟩, hit, Nat.succ_ne_self _⟩, fun b hb => ?_, q⟩
    have e' : b = s1.heap.objs.size + 1 ∨ b = s1.heap.objs.size := by simpa using hb
    have hle : s1.heap.objs.size ≤ b := by
      rcases e' with z | z
      · rw [z]; exact Nat.le_add_right _ _
      · rw [z]; exact Nat.le_refl _
    exact I1.fpOk hle (I1.hok.fresh hle)
theorem walk_enumT {K : Frag} {a : Addr} {xs : List V} : Walk (IteT K a) xs.length (fun H => SqT K H a xs) (YPair (fun i => some (.int (i : Nat))) (fun i => xs[i]?)) := by
  refine ⟨fun i _ hi q => ⟨xs, xs[i], q, by simp [hi]⟩, fun _ q => ⟨xs, q, rfl⟩, fun i H v H' _ q y => ?_⟩
  obtain ⟨T, x, h1, h2, h3, h4⟩ := y
  exact ⟨T, .int (i : Nat), x, h1, h2, h3, rfl, h4 xs q⟩
end L2.Jk

set_option Elab.async false
set_option linter.all false
set_option maxRecDepth 100000
set_option maxHeartbeats 4000000
/-! The head of a row that begins with some values. -/
namespace L2.K77
open PySem PySem.W PySem.Spec PySem.Calls PyProof.Rows L2.Jk
structure S0 (P : Program) (w : World) (K : Frag) (mg : Str → Option Value) (base : Heap) : Prop extends P9 P w K mg base where
  row_text : FnAt P w K mg base (L2.CX P w) 6 "row_text" ["layout", "row"] (spRT K)
  first_from : FnAt P w K mg base CX0 1 "first_from" ["ascending", "thing"] (spFF K)
  cStore : C0 K mg "Store" ["layout", "texts", "kept"]
  enumerate : mg "enumerate" = none
def headDue (ds : List FD) : Option (List V) → Option Int
  | none => some (-1)
  | some xs => ((List.range xs.length).find? (badAt ds xs)).map fun i : Nat => (i : Int)
def headText (ds : List FD) (js : List Str) (xs : List V) : Str := Txt.join "" ((List.range xs.length).map (piece ds js xs))
def spHd (K : Frag) : Sp := fun vs H Q E => ∃ (L : Addr) (ds : List FD) (js : List Str) (v : V) (o : Option (List V)), vs = [.ref L, v] ∧ LayAt K H L ds js ∧ SeqIs K H v o ∧ RowIn H o ∧
  (headDue ds o = none → ∀ xs, o = some xs → RowT ds xs ∧ ∀ H', Same H H' → Q (.str (headText ds js xs)) H') ∧ ∀ z, headDue ds o = some z → RaiseE (NR K) "place" (.int z) H E
section
variable {P : Program} {w : World} {K : Frag} {mg : Str → Option Value} {base : Heap} {f : Addr} {fd : FuncData}

abbrev s_hd : Stmt := top 43
theorem sc_hd : FnScope ["layout", "values", "place", "value", "field", "joint"] ["layout", "values"] (defScope s_hd) := ⟨rfl, rfl, rfl, by decide +kernel, rfl, by decide +kernel, by decide +kernel⟩

theorem ok_head_of (F : FunD K "head_of" "head_of" (defArgs s_hd) (defBody s_hd) (defScope s_hd) [] [] f fd) (G : S0 P w K mg base) : FnOk P w K mg base (L2.CX P w) 5 f fd ["layout", "values"] (spHd K) := by
  refine F.ok (CX := (L2.CX P w)) sc_hd (fun vs H Q E h => ?_) (fun cdv A outer s H vs Q E hr h => ?_)
  · obtain ⟨L, ds, js, v, o, rfl, _⟩ := h
    rfl
  · have hr2 : Room 2 _ := hr.mono (by decide)
    refine ⟨_, (pss_cons (ps_if (pt_not (pt_val (pe_fn G.is_sequence (hr.mono (by decide)) pass0 (by rfl) (pa_cons (pv 1) pa_nil))))
      (pss_one (ps_raise rfl (takes_of rfl rfl rfl rfl) (pmk_1 G.nr hr2 (by rfl) (pa_cons (pe_un un_neg pe_int) pa_nil))))
      pss_nil)
    (C8.pss_cut (ps_for (passes_of rfl) rfl (pi_or (pi_enum (by rfl) G.enumerate (pa_cons (pv 1) pa_nil)) (pi_enumT (by rfl) G.enumerate (pa_cons (pv 1) pa_nil))) (pg_tup rfl (pgs_cons (pg_name (i := 2) sc_hd.nd rfl (Or.inl rfl)) (pgs_cons (pg_name (i := 3) sc_hd.nd rfl (Or.inl rfl)) pgs_nil)))
      (pss_one (ps_if (PW.pt (pw_or (pt_cmpR op_ge (pv 2) (pe_callB call_len_seq (by rfl) G.len (by decide +kernel) (pa_cons (pe_fld (pv 0) rfl) pa_nil)) (nomark _)) (pw_or1 (pt_not (pt_val (pe_methK (P := P) (w := w) (K := K) (mg := mg) (base := base) (k := 4) (CX := CX0) rfl rfl rfl rfl rfl hr (pe_ix ix_tup (pe_fld (pv 0) rfl) (pv 2) (fun _ _ => rfl)) pass0 (pa_cons (pv 3) pa_nil)))))))
        (pss_one (ps_raise rfl (takes_of rfl rfl rfl rfl) (pmk_1 G.nr hr2 (by rfl) (pa_cons (pv 2) pa_nil))))
        pss_nil)))
    (pss_one (ps_ret (pe_join pe_str (pe_lc (own := [("field", 4), ("value", 3), ("joint", 5)]) (g := _) (tt := tYes) rfl sc_hd.nd (Z3.pi_zip3 (by rfl) G.zip (pa_cons (pe_fld (pv 0) rfl) (pa_cons (pv 1) (pa_cons (pe_fn G.joints_behind (hr.mono (by decide)) pass0 (by rfl) (pa_cons (pv 0) pa_nil)) pa_nil)))) (blkOk_by (N := ["layout", "values", "place", "value", "field", "joint"]) (sc := defScope s_hd) (by decide +kernel)) (fun _ _ _ _ _ => pg_tupK (n := 3) (K := K) rfl rfl (pgs_cons (pg_name (i := 4) sc_hd.nd rfl (Or.inl rfl)) (pgs_cons (pg_name (i := 3) sc_hd.nd rfl (Or.inl rfl)) (pgs_cons (pg_name (i := 5) sc_hd.nd rfl (Or.inl rfl)) pgs_nil)))) (fun _ _ _ _ _ => pts_nil) (fun _ _ _ _ _ => (pe_op op_add_str (pe_methK (P := P) (w := w) (K := K) (mg := mg) (base := base) (k := 4) (CX := CX0) rfl rfl rfl rfl rfl (hr.mono (by decide)) (pv 4) pass0 (pa_cons (pv 3) pa_nil)) (pv 5))))))))), ?_⟩
    obtain ⟨L, ds, js, v, o, rfl, hLy, hS, hR, q1, q2⟩ := h
    refine ⟨_, rfl, v, o, rfl, hS, fun H0 S0 => ⟨_, rfl, ?_⟩⟩
    have hLy0 := hLy.same S0
    have hS0 := hS.same S0
    have hR0 := hR.same S0
    cases o with
    | none => exact iteT ⟨_, rfl, mkO_1 (raise_mono S0 (q2 _ rfl))⟩
    | some xs =>
    refine iteF ?_
    obtain ⟨p, b, rfl, hsq, hor⟩ := hS0.sqb
    obtain ⟨hxl, hxs⟩ := hR0
    have hfew := hLy0.ok.few
    refine ⟨fun σ J => ∃ v2 v3 v4 v5, σ = [some (.ref L), some (.ref p), v2, v3, v4, v5] ∧ Same H0 J ∧ ∀ j, j < xs.length → badAt ds xs j = false, ?_, ?_⟩
    · rcases hor with hl | hl
      · refine .inl ⟨_, rfl, p, xs, rfl, hl, for_it (walk_enum (xs := xs)) (fun i σ J => (∃ v2 v3 v4 v5, σ = [some (.ref L), some (.ref p), v2, v3, v4, v5]) ∧ Same H0 J ∧ ∀ j, j < i → badAt ds xs j = false) ⟨⟨_, _, _, _, rfl⟩, Same.refl _, fun j hj => absurd hj (Nat.not_lt_zero _)⟩ (fun i σ J _ ⟨_, S, _⟩ => S.seq hl) ?_ ?_⟩
        · rintro i z σ J1 J2 hi ⟨⟨v2, v3, v4, v5, rfl⟩, S1, hb⟩ ⟨tt, zi, x, rfl, ht, rfl, ei, ev⟩
          cases ei
          replace ev : xs[i]? = some x := ev
          have S2 := same_upd (o := .tup [V.int (i : Nat), x]) ht
          have r2 : upd J1 tt (.tup [V.int (i : Nat), x]) tt = some (.tup [V.int (i : Nat), x]) := upd_same
          generalize upd J1 tt (.tup [V.int (i : Nat), x]) = J2 at S2 r2 ⊢
          have S3 := S1.trans S2
          have hLy1 := hLy0.same S3
          obtain ⟨⟨dx, t1, t2, ys, hL, h1, hF, h2⟩, _⟩ := id hLy1
          have hlen : ys.length = ds.length := hF.1
          have T1 := S0.trans S3
          have bad : badAt ds xs i = true → RaiseE (NR K) "place" (.int (i : Nat)) J2 E := fun hbd => raise_mono T1 (q2 _ (by
            show ((List.range xs.length).find? (badAt ds xs)).map _ = _
            rw [find_at hi hbd hb]
            rfl))
          refine ⟨tt, _, rfl, SqT.of r2, rfl, _, _, rfl, _, _, rfl, rfl, ?_⟩
          refine ⟨_, rfl, _, rfl, L, _, dx, _, _, rfl, hL, G.cLayout.cl, G.cLayout.no _ (by decide +kernel), lLayout_fields, t1, ys, rfl, .inr h1, _, _, rfl, rfl, _, rfl, ?_⟩
          refine ite2 (fun c2 => ?_) (fun c2 => ?_)
          · have c2' : ¬ i < ds.length := by have := of_decide_eq_true c2; omega
            refine ⟨_, rfl, mkO_1 (bad ?_)⟩
            unfold badAt
            rw [List.getElem?_eq_none (show ds.length ≤ i by omega)]
          · have c2' : i < ds.length := by
              refine Decidable.byContradiction fun z => c2 (decide_eq_true ?_)
              omega
            obtain ⟨y0, hy0⟩ : ∃ x, ys[i]? = some x := ⟨_, List.getElem?_eq_getElem (by omega)⟩
            obtain ⟨y, d, rfl, hd, hk⟩ := hF.get hy0
            have eb : badAt ds xs i = !d.hasV x := by
              unfold badAt
              rw [hd, ev]
            rw [eb] at bad
            obtain ⟨ey, fs, hin, lf⟩ := hk.ins (g := "has_value") (.inl rfl)
            obtain ⟨sp, M, Hs⟩ := G.toP5.hv5 hk
            obtain ⟨fde, Fe, Be⟩ := M.ok
            obtain ⟨htx, hlv⟩ := hxs x (List.mem_of_getElem? ev)
            have aty : atI ys (i : Int) = some (.ref y) := (atI_nat hy0)
            refine ⟨_, rfl, L, _, dx, _, _, rfl, hL, G.cLayout.cl, G.cLayout.no _ (by decide +kernel), lLayout_fields, _, rfl, t1, ys, _, _, rfl, rfl, h1, aty, y, _, ey, _, fs, fde, _, sp, rfl, hin, lf, G.cl _ d.ci_lt, M.me, Fe, Be, _, rfl, Hs x _ _ (htx.same S3) hlv ⟨_, rfl, ?_⟩⟩
            refine ite2 (fun c => ⟨_, rfl, mkO_1 (bad c)⟩) (fun c => ⟨⟨_, _, _, _, rfl⟩, S3, fun j hj => ?_⟩)
            rcases Nat.lt_or_ge j i with h | h
            · exact hb j h
            · rw [show j = i by omega, eb]
              exact Bool.eq_false_iff.mpr c
        · rintro σ J ⟨⟨v2, v3, v4, v5, rfl⟩, S1, hb⟩
          exact ⟨_, _, _, _, rfl, S1, hb⟩
      · refine .inr ⟨_, rfl, p, xs, rfl, hl, for_it (walk_enumT (xs := xs)) (fun i σ J => (∃ v2 v3 v4 v5, σ = [some (.ref L), some (.ref p), v2, v3, v4, v5]) ∧ Same H0 J ∧ ∀ j, j < i → badAt ds xs j = false) ⟨⟨_, _, _, _, rfl⟩, Same.refl _, fun j hj => absurd hj (Nat.not_lt_zero _)⟩ (fun i σ J _ ⟨_, S, _⟩ => Z3.seqT_same S hl) ?_ ?_⟩
        · rintro i z σ J1 J2 hi ⟨⟨v2, v3, v4, v5, rfl⟩, S1, hb⟩ ⟨tt, zi, x, rfl, ht, rfl, ei, ev⟩
          cases ei
          replace ev : xs[i]? = some x := ev
          have S2 := same_upd (o := .tup [V.int (i : Nat), x]) ht
          have r2 : upd J1 tt (.tup [V.int (i : Nat), x]) tt = some (.tup [V.int (i : Nat), x]) := upd_same
          generalize upd J1 tt (.tup [V.int (i : Nat), x]) = J2 at S2 r2 ⊢
          have S3 := S1.trans S2
          have hLy1 := hLy0.same S3
          obtain ⟨⟨dx, t1, t2, ys, hL, h1, hF, h2⟩, _⟩ := id hLy1
          have hlen : ys.length = ds.length := hF.1
          have T1 := S0.trans S3
          have bad : badAt ds xs i = true → RaiseE (NR K) "place" (.int (i : Nat)) J2 E := fun hbd => raise_mono T1 (q2 _ (by
            show ((List.range xs.length).find? (badAt ds xs)).map _ = _
            rw [find_at hi hbd hb]
            rfl))
          refine ⟨tt, _, rfl, SqT.of r2, rfl, _, _, rfl, _, _, rfl, rfl, ?_⟩
          refine ⟨_, rfl, _, rfl, L, _, dx, _, _, rfl, hL, G.cLayout.cl, G.cLayout.no _ (by decide +kernel), lLayout_fields, t1, ys, rfl, .inr h1, _, _, rfl, rfl, _, rfl, ?_⟩
          refine ite2 (fun c2 => ?_) (fun c2 => ?_)
          · have c2' : ¬ i < ds.length := by have := of_decide_eq_true c2; omega
            refine ⟨_, rfl, mkO_1 (bad ?_)⟩
            unfold badAt
            rw [List.getElem?_eq_none (show ds.length ≤ i by omega)]
          · have c2' : i < ds.length := by
              refine Decidable.byContradiction fun z => c2 (decide_eq_true ?_)
              omega
            obtain ⟨y0, hy0⟩ : ∃ x, ys[i]? = some x := ⟨_, List.getElem?_eq_getElem (by omega)⟩
            obtain ⟨y, d, rfl, hd, hk⟩ := hF.get hy0
            have eb : badAt ds xs i = !d.hasV x := by
              unfold badAt
              rw [hd, ev]
            rw [eb] at bad
            obtain ⟨ey, fs, hin, lf⟩ := hk.ins (g := "has_value") (.inl rfl)
            obtain ⟨sp, M, Hs⟩ := G.toP5.hv5 hk
            obtain ⟨fde, Fe, Be⟩ := M.ok
            obtain ⟨htx, hlv⟩ := hxs x (List.mem_of_getElem? ev)
            have aty : atI ys (i : Int) = some (.ref y) := (atI_nat hy0)
            refine ⟨_, rfl, L, _, dx, _, _, rfl, hL, G.cLayout.cl, G.cLayout.no _ (by decide +kernel), lLayout_fields, _, rfl, t1, ys, _, _, rfl, rfl, h1, aty, y, _, ey, _, fs, fde, _, sp, rfl, hin, lf, G.cl _ d.ci_lt, M.me, Fe, Be, _, rfl, Hs x _ _ (htx.same S3) hlv ⟨_, rfl, ?_⟩⟩
            refine ite2 (fun c => ⟨_, rfl, mkO_1 (bad c)⟩) (fun c => ⟨⟨_, _, _, _, rfl⟩, S3, fun j hj => ?_⟩)
            rcases Nat.lt_or_ge j i with h | h
            · exact hb j h
            · rw [show j = i by omega, eb]
              exact Bool.eq_false_iff.mpr c
        · rintro σ J ⟨⟨v2, v3, v4, v5, rfl⟩, S1, hb⟩
          exact ⟨_, _, _, _, rfl, S1, hb⟩
    rintro σ J ⟨v2, v3, v4, v5, rfl, S1, hb⟩
    have hn : headDue ds (some xs) = none := by
      show ((List.range xs.length).find? (badAt ds xs)).map _ = none
      rw [List.find?_eq_none.mpr (fun j hj => by rw [hb j (List.mem_range.mp hj)]; decide)]
      rfl
    obtain ⟨hT, q⟩ := q1 hn xs rfl
    have hLy1 := hLy0.same S1
    have hsq1 := Z3.SqB.same S1 hsq
    obtain ⟨⟨dx, t1, t2, ys, hL, h1, hF, h2⟩, ok⟩ := id hLy1
    have hlen : ys.length = ds.length := hF.1
    have hjl := ok.len
    have bad0 : ∀ i, badAt ds xs i = false → i < ds.length ∧ ∀ d x, ds[i]? = some d → xs[i]? = some x → d.hasV x = true := fun i hb => by
      unfold badAt at hb
      cases e1 : ds[i]? with
      | none => rw [e1] at hb; cases hb
      | some d =>
        refine ⟨(List.getElem?_eq_some_iff.mp e1).1, fun d' x e2 e3 => ?_⟩
        cases e2
        rw [e1, e3] at hb
        cases e : d.hasV x with
        | true => rfl
        | false =>
          have hb : (!d.hasV x) = false := hb
          rw [e] at hb
          cases hb
    have hle : xs.length ≤ ds.length := by
      rcases Nat.lt_or_ge ds.length xs.length with k | k
      · have := (bad0 ds.length (hb _ k)).1
        omega
      · exact k
    refine ⟨⟨_, rfl⟩, _, rfl, L, _, dx, _, _, rfl, hL, G.cLayout.cl, G.cLayout.no _ (by decide +kernel), lLayout_fields, _, rfl, _, rfl, L, ds, js, rfl, hLy1, fun p3 H1 S2 h3 => ?_⟩
    refine ⟨t1, p, p3, false, b, false, ys, xs, (js ++ [("" : Str)]).map V.str, rfl, Z3.seqT_same S2 h1, Z3.SqB.same S2 hsq1, h3, fun D hD => ?_⟩
    refine Z3.lc_zip3S (K := K) (by omega) (by rw [List.length_map, List.length_append]; show xs.length ≤ js.length + 1; omega) (LcP H1 D fun n => ((List.range n).map (piece ds js xs)).map V.str) (LcP.start hD rfl) (fun i J pJ => ⟨Z3.seqT_same (S2.trans pJ.1) h1, Z3.SqB.same (S2.trans pJ.1) hsq1, Z3.seqT_same pJ.1 h3⟩) ?_ ?_
    · intro i y x u T J hy hx hu pJ hTn
      obtain ⟨ya, d, rfl, hd, hk⟩ := hF.get hy
      obtain ⟨j, hj, rfl⟩ : ∃ j, (js ++ [("" : Str)])[i]? = some j ∧ V.str j = u := by
        rw [List.getElem?_map] at hu
        cases e : (js ++ [("" : Str)])[i]? with
        | none => rw [e] at hu; cases hu
        | some j => rw [e] at hu; exact ⟨j, rfl, Option.some.inj hu⟩
      have SJ := (S2.trans pJ.1).trans (same_upd (o := .tup [.ref ya, x, .str j]) hTn)
      have hk2 := hk.same SJ
      obtain ⟨ey, fs, hin, lf⟩ := hk2.ins (g := "text_for") (.inr (.inl rfl))
      obtain ⟨sp, M, Hs⟩ := G.toP5.tf5 hk2
      obtain ⟨fde, Fe, Be⟩ := M.ok
      obtain ⟨hv1, hv2, hv3⟩ := hT i d x hd hx
      have hi := (List.getElem?_eq_some_iff.mp hd).1
      have hix := (List.getElem?_eq_some_iff.mp hx).1
      have hj1 := mem_joint ok hj
      have ep : piece ds js xs i = d.textF x ++ j := by
        unfold piece
        rw [hd, hx, hj]
      refine ⟨T, _, rfl, SqT.of upd_same, rfl, _, _, rfl, _, _, rfl, _, _, rfl, rfl, rfl, _, rfl, ya, _, ey, _, fs, fde, _, sp, rfl, hin, lf, G.cl _ d.ci_lt, M.me, Fe, Be, _, rfl, Hs x _ _ hv1 ((bad0 i (hb i hix)).2 d x hd hx) hv2 fun H3 S3 => ?_⟩
      refine ⟨_, rfl, _, j, rfl, rfl, by rw [sizeLine_eq]; omega, pJ.put ((same_upd hTn).trans S3) ?_ (by omega)⟩
      show (List.map V.str (List.map (piece ds js xs) (List.range (i + 1)))) = _
      rw [List.range_succ, List.map_append, List.map_append]
      show _ ++ [V.str (piece ds js xs i)] = _
      rw [ep]
    · rintro J2 ⟨S3, _, eJ, _⟩
      refine ⟨_, D, (List.range xs.length).map (piece ds js xs), rfl, rfl, .inl (SqL.of eJ), ?_, q _ (((S0.trans S1).trans S2).trans S3)⟩
      have z := sum_len (f := fun x : Str => x.length) (k := 901) ((List.range xs.length).map (piece ds js xs)) (fun x hx => by
        obtain ⟨i, _, rfl⟩ := List.mem_map.mp hx
        exact piece_len ok hT i)
      rw [List.length_map, List.length_range] at z ⊢
      have z2 : ("" : Str).length = 0 := rfl
      rw [z2, Nat.mul_zero, Nat.add_zero]
      omega

end
end L2.K77

set_option Elab.async false
set_option linter.all false
set_option maxRecDepth 100000
set_option maxHeartbeats 4000000
/-! A method of an instance of a known class, which may raise. -/
namespace L2.Jk
open PySem PySem.W PySem.Spec PySem.Calls PyProof.Rows
structure MetAt (P : Program) (w : World) (K : Frag) (mg : Str → Option Value) (base : Heap) (CX : CXT) (k : Nat) (C : Addr) (m : Str) (ps : List Str) (sp : Sp) : Prop where
  cl : Cls K C
  me : Meth K C m (He.ma K C m)
  ok : ∃ fd, FnOk P w K mg base CX k (He.ma K C m) fd ps sp ∧ Binds K fd ps []
def tMetS (C : Addr) (m : Str) (sp : Sp) (E : St → XK) (ta : TE) (t : TA) : TE := fun σ H Q => ta σ H fun x H1 => ∃ (a dx : Addr) (fs : List (Str × V)), x = .ref a ∧ H1 a = some (.ins C dx fs) ∧ fs.lookup m = none ∧ t σ H1 fun vs H2 => sp (x :: vs) H2 Q (E σ)
section
variable {X : Cx} {CX : CXT} {k : Nat} {C : Addr} {ps : List Str} {sp : Sp} {E : St → XK} {o e : Expr} {es : List Expr} {m : Str} {ta : TE} {t : TA} {apos pos : Pos}
theorem pe_metS {pl : Sem Bool} (G : MetAt X.prog X.w X.K X.mg X.base CX k C m ps sp) (hr : Room k X.A) (he : PE X o ta) (hx : ∀ σ, PassesAt CX X σ (E σ)) (ha : PA X (e :: es) t)
    (hst : starEach (e :: es) X.env = (false, eval e X.env) :: starEach es X.env := by rfl) (hpl : (backTo pos (starEach es X.env)).any (·.1) = false := by rfl)
    (ht : eval (.Call (.Attribute o m apos) (e :: es) [] pos) X.env = (do
      let ov ← eval o X.env
      standAt apos.atName
      let (f, first) ← holding [ov] (getMethod ov m pl)
      callWith pos f first (backTo pos (starEach (e :: es) X.env)) (backToKw pos (keywordEach [] X.env))) := by rfl) :
    PE X (.Call (.Attribute o m apos) (e :: es) [] pos) (tMetS C m sp E ta t) := by
  obtain ⟨fd, F, hb⟩ := G.ok
  refine ⟨fun pins s σ H Q I h => ?_⟩
  refine PySem.W.methodCall_KW (pl := pl) (thn (he.run pins s σ H _ I h) fun u s1 hh => ?_) ht
  obtain ⟨x, H1, I1, rx, a, dx, fs, ex, ea, l, q⟩ := hh
  subst ex
  obtain rfl : u = Value.ref a := rx
  refine getmeth_ok I1 ea G.cl G.me l ?_
  refine PySem.W.callWith_K (first := [.ref a]) (h₀ := X.base) I.ok.mod.kin G.me.kp (thn (ha.run pos pins s1 σ H1 _ I1 q) fun us s2 ⟨vs, H2, I2, r, q2⟩ => ⟨I2.kIn, ?_⟩) hst hpl
  exact run_fnS (us := .ref a :: us) (vs := .ref a :: vs) F hr hb (hx σ) I2 (.cons rfl r) q2
theorem pe_metS0 {pl : Sem Bool} (G : MetAt X.prog X.w X.K X.mg X.base CX k C m ps sp) (hr : Room k X.A) (he : PE X o ta) (hx : ∀ σ, PassesAt CX X σ (E σ))
    (ht : eval (.Call (.Attribute o m apos) [] [] pos) X.env = (do
      let ov ← eval o X.env
      standAt apos.atName
      let (f, first) ← holding [ov] (getMethod ov m pl)
      callWith pos f first (backTo pos (starEach [] X.env)) (backToKw pos (keywordEach [] X.env))) := by rfl) :
    PE X (.Call (.Attribute o m apos) [] [] pos) (tMetS C m sp E ta tNil) := by
  obtain ⟨fd, F, hb⟩ := G.ok
  refine ⟨fun pins s σ H Q I h => ?_⟩
  refine PySem.W.methodCall_KW (pl := pl) (thn (he.run pins s σ H _ I h) fun u s1 hh => ?_) ht
  obtain ⟨x, H1, I1, rx, a, dx, fs, ex, ea, l, q⟩ := hh
  subst ex
  obtain rfl : u = Value.ref a := rx
  refine getmeth_ok I1 ea G.cl G.me l ?_
  exact PySem.W.callWith_K0 (first := [.ref a]) I1.kIn G.me.kp (run_fnS (us := [.ref a]) (vs := [.ref a]) F hr hb (hx σ) I1 (.cons rfl .nil) q)
theorem pass0A {E : St → XK} : ∀ σ, PassesAt CX0 X σ (E σ) := fun σ => fun pins H s e s' I h => pass0 pins σ H s e s' I h
end
end L2.Jk

set_option Elab.async false
set_option linter.all false
set_option maxRecDepth 100000
set_option maxHeartbeats 4000000
/-! Stores. -/
namespace L2.K77
open PySem PySem.W PySem.Spec PySem.Calls PyProof.Rows L2.Jk
abbrev SC (K : Frag) : Addr := He.ga K "Store"
def fStore (l x k : V) : List (Str × V) := putF "kept" k (putF "texts" x (putF "layout" l []))
theorem lStore_layout {l x k : V} : (fStore l x k).lookup ("layout" : Str) = some l := by unfold fStore; rw [lookup_putF, if_neg (by decide +kernel), lookup_putF, if_neg (by decide +kernel), lookup_putF, if_pos rfl]
theorem lStore_texts {l x k : V} : (fStore l x k).lookup ("texts" : Str) = some x := by unfold fStore; rw [lookup_putF, if_neg (by decide +kernel), lookup_putF, if_pos rfl]
theorem lStore_kept {l x k : V} : (fStore l x k).lookup ("kept" : Str) = some k := by unfold fStore; rw [lookup_putF, if_pos rfl]
/-- what is neither a list nor a dict stays -/
def NL (H H' : Hp) : Prop := ∀ b o, (∀ xs, o ≠ .lst xs) → (∀ kvs, o ≠ .dK kvs) → H b = some o → H' b = some o
theorem NL.of_same {H H' : Hp} (S : Same H H') : NL H H' := fun b o _ _ h => S b o h
theorem NL.trans {H H1 H2 : Hp} (a : NL H H1) (b : NL H1 H2) : NL H H2 := fun c o x y h => b c o x y (a c o x y h)
theorem NL.tup {H H' : Hp} (n : NL H H') {r : Addr} {xs : List V} (h : H r = some (.tup xs)) : H' r = some (.tup xs) := n r _ (fun _ z => by cases z) (fun _ z => by cases z) h
theorem NL.ins {H H' : Hp} (n : NL H H') {r C dx : Addr} {fs : List (Str × V)} (h : H r = some (.ins C dx fs)) : H' r = some (.ins C dx fs) := n r _ (fun _ z => by cases z) (fun _ z => by cases z) h
theorem NL.frz {H H' : Hp} (n : NL H H') {r : Addr} {o : Obj} {u : HO} (h : H r = some (.frz o u)) : H' r = some (.frz o u) := n r _ (fun _ z => by cases z) (fun _ z => by cases z) h
theorem NL.sqT {K : Frag} {H H' : Hp} (n : NL H H') {t : Addr} {xs : List V} (h : SqT K H t xs) : SqT K H' t xs := by
  rcases h with (h | ⟨o, h⟩) | h
  · exact .inl (.inl (n.tup h))
  · exact .inl (.inr ⟨o, n.frz h⟩)
  · exact .inr h
theorem FieldAt.nl {K : Frag} {H H' : Hp} {y : Addr} (n : NL H H') : ∀ {d : PD}, FieldAt K H y d → FieldAt K H' y d
  | .word .., ⟨dx, h⟩ => ⟨dx, n.ins h⟩
  | .number .., ⟨dx, h⟩ => ⟨dx, n.ins h⟩
  | .fixed _, ⟨dx, h⟩ => ⟨dx, n.ins h⟩
  | .listed _, ⟨dx, t, h, ⟨o, c, d, g⟩⟩ => ⟨dx, t, n.ins h, ⟨o, c, d, n.frz g⟩⟩
  | .ended .., ⟨dx, h⟩ => ⟨dx, n.ins h⟩
theorem FdAt.nl {K : Frag} {H H' : Hp} {y : Addr} (n : NL H H') : ∀ {d : FD}, FdAt K H y d → FdAt K H' y d
  | .pl _, ⟨h, i⟩ => ⟨h.nl n, i⟩
  | .mk _ _ _, ⟨⟨dx, z, h, k⟩, i⟩ => ⟨⟨dx, z, n.ins h, k.nl n⟩, i⟩
theorem LayAt.nl {K : Frag} {H H' : Hp} {L : Addr} {ds : List FD} {js : List Str} (n : NL H H') (h : LayAt K H L ds js) : LayAt K H' L ds js := by
  obtain ⟨⟨dx, t1, t2, ys, a, b, c, d⟩, o⟩ := h
  refine ⟨⟨dx, t1, t2, ys, n.ins a, n.sqT b, ⟨c.1, fun i v d a b => ?_⟩, n.sqT d⟩, o⟩
  obtain ⟨y, ev, k⟩ := c.2 i v d a b
  exact ⟨y, ev, k.nl n⟩
theorem DIs.nl {H H' : Hp} {kvs : List (Key × V)} {m : Mp} (n : NL H H') (h : DIs H kvs m) : DIs H' kvs m := h.mono fun _ _ e => n.tup e
/-- all but what stands at two places -/
def But2 (a b : Addr) (H H' : Hp) : Prop := ∀ c o, c ≠ a → c ≠ b → H c = some o → H' c = some o
theorem But2.of_same {a b : Addr} {H H' : Hp} (S : Same H H') : But2 a b H H' := fun c o _ _ h => S c o h
theorem But2.trans {a b : Addr} {H H1 H2 : Hp} (x : But2 a b H H1) (y : But2 a b H1 H2) : But2 a b H H2 := fun c o n1 n2 h => y c o n1 n2 (x c o n1 n2 h)
theorem but2_l {a b : Addr} {H : Hp} {o : HO} : But2 a b H (upd H a o) := fun c u n _ h => by rw [upd_ne n]; exact h
theorem but2_r {a b : Addr} {H : Hp} {o : HO} : But2 a b H (upd H b o) := fun c u _ n h => by rw [upd_ne n]; exact h
theorem But2.nl {a b : Addr} {H H' : Hp} {xs : List V} {kvs : List (Key × V)} (ha : H a = some (.lst xs)) (hb : H b = some (.dK kvs)) (B : But2 a b H H') : NL H H' := fun c o n1 n2 h => B c o (fun z => by
  rw [z, ha] at h
  exact n1 _ (Option.some.inj h).symm) (fun z => by
  rw [z, hb] at h
  exact n2 _ (Option.some.inj h).symm) h
theorem erase_map {f : Str → V} : ∀ (ts : List Str) (i : Nat), (ts.map f).eraseIdx i = (ts.eraseIdx i).map f
  | [], _ => rfl
  | _ :: _, 0 => rfl
  | t :: ts, i + 1 => congrArg (f t :: ·) (erase_map ts i)
theorem seqIx_nat {i n : Nat} (h : i < n) : seqIndex? (i : Int) n = some i := by
  unfold seqIndex?
  simp
  omega
structure StA (K : Frag) (H : Hp) (S L Tx Kd : Addr) (m : Mp) (n : Nat) : Prop where
  ex : ∃ dx, H S = some (.ins (SC K) dx (fStore (.ref L) (.ref Tx) (.ref Kd)))
  tx : ∃ ts, H Tx = some (.lst (ts.map V.str)) ∧ TIs ts m ∧ ts.length ≤ n
  kd : ∃ kvs, H Kd = some (.dK kvs) ∧ DIs H kvs m
theorem StA.same {K : Frag} {H H' : Hp} {S L Tx Kd : Addr} {m : Mp} {n : Nat} (E : Same H H') (h : StA K H S L Tx Kd m n) : StA K H' S L Tx Kd m n := by
  obtain ⟨⟨dx, a⟩, ⟨ts, b, c⟩, kvs, d, e⟩ := h
  exact ⟨⟨dx, E _ _ a⟩, ⟨ts, E _ _ b, c⟩, kvs, E _ _ d, e.nl (NL.of_same E)⟩
theorem StA.nl {K : Frag} {H H' : Hp} {S L Tx Kd a b : Addr} {m : Mp} {n : Nat} (B : But2 Tx Kd H H') (h : StA K H S L Tx Kd m n) : NL H H' := by
  obtain ⟨_, ⟨ts, b, _⟩, kvs, d, _⟩ := h
  exact B.nl b d
theorem StA.dist {K : Frag} {H : Hp} {S L Tx Kd : Addr} {m : Mp} {n : Nat} (h : StA K H S L Tx Kd m n) : Tx ≠ Kd ∧ S ≠ Tx ∧ S ≠ Kd := by
  obtain ⟨⟨dx, a⟩, ⟨ts, b, c⟩, kvs, d, e⟩ := h
  exact ⟨ne_of b d (fun z => by cases z), ne_of a b (fun z => by cases z), ne_of a d (fun z => by cases z)⟩
def spStI (K : Frag) : Sp := fun vs H Q _ => ∃ (a dx L : Addr), vs = [.ref a, .ref L] ∧ H a = some (.ins (SC K) dx []) ∧ ∀ Tx Kd H', H Tx = none → H Kd = none → But a H H' → StA K H' a L Tx Kd (fun _ => none) 0 → Q .non H'
def spPut (K : Frag) : Sp := fun vs H Q E => ∃ (S L Tx Kd : Addr) (ds : List FD) (js : List Str) (m : Mp) (n : Nat) (v : V) (o : Option (List V)) (num : Int), vs = [.ref S, v, .int num] ∧ StA K H S L Tx Kd m n ∧ n < 1000 ∧ LayAt K H L ds js ∧ SeqIs K H v o ∧ RowIn H o ∧ v ≠ .ref Tx ∧
  (rowDue ds o = none → ∀ xs, o = some xs → RowT ds xs ∧ ∀ H', But2 Tx Kd H H' → StA K H' S L Tx Kd (setM m (rowText ds js xs) (xs, num)) (n + 1) → Q .non H') ∧ ∀ z, rowDue ds o = some z → RaiseE (NR K) "place" (.int z) H E
def spTake (K : Frag) : Sp := fun vs H Q E => ∃ (S L Tx Kd : Addr) (ds : List FD) (js : List Str) (m : Mp) (n : Nat) (v : V) (o : Option (List V)), vs = [.ref S, v] ∧ StA K H S L Tx Kd m n ∧ n ≤ 1000 ∧ LayAt K H L ds js ∧ SeqIs K H v o ∧ RowIn H o ∧
  (rowDue ds o = none → ∀ xs, o = some xs → RowT ds xs ∧ ∀ H', But2 Tx Kd H H' → StA K H' S L Tx Kd (delM m (rowText ds js xs)) n → Q (.bl (m (rowText ds js xs)).isSome) H') ∧ ∀ z, rowDue ds o = some z → RaiseE (NR K) "place" (.int z) H E
def spSize (K : Frag) : Sp := fun vs H Q _ => ∃ (S L Tx Kd : Addr) (m : Mp) (n : Nat), vs = [.ref S] ∧ StA K H S L Tx Kd m n ∧ ∀ ts, TIs ts m → ts.length ≤ n → Q (.int (ts.length : Nat)) H
section
variable {P : Program} {w : World} {K : Frag} {mg : Str → Option Value} {base : Heap} {f : Addr} {fd : FuncData}

abbrev s_StI : Stmt := inClass (top 44) 0
theorem sc_StI : FnScope ["self", "layout"] ["self", "layout"] (defScope s_StI) := ⟨rfl, rfl, rfl, by decide +kernel, rfl, by decide +kernel, by decide +kernel⟩

theorem ok_StI (F : FunD K "__init__" "Store.__init__" (defArgs s_StI) (defBody s_StI) (defScope s_StI) [] [] f fd) (G : S0 P w K mg base) : FnOk P w K mg base CX0 1 f fd ["self", "layout"] (spStI K) := by
  refine F.ok (CX := CX0) sc_StI (fun vs H Q E h => ?_) (fun cdv A outer s H vs Q E hr h => ?_)
  · obtain ⟨_, _, _, rfl, _⟩ := h
    rfl
  · refine ⟨_, PSs.nox (pss_cons (ps_fld (pv 0) (pv 1) rfl)
    (pss_cons (ps_fld (pv 0) (pe_lstS pa_nil) rfl)
    (pss_one (ps_fld (pv 0) pe_dnewK rfl)))), ?_⟩
    obtain ⟨a, dx, L, rfl, ha, q⟩ := h
    refine ⟨_, rfl, _, rfl, a, _, dx, _, rfl, ha, G.cStore.cl, G.cStore.no _ (by decide +kernel), (by show 0 < 1000; decide), by show 0 ≤ 1000; decide, fun Tx H1 hTx S1 e1 => ?_⟩
    refine ⟨_, rfl, a, _, dx, _, rfl, S1 _ _ upd_same, G.cStore.cl, G.cStore.no _ (by decide +kernel), (by show 1 < 1000; decide), fun Kd hKd => ?_⟩
    have nT : Tx ≠ a := fun z => by rw [z, upd_same] at hTx; cases hTx
    have nK : Kd ≠ a := fun z => by rw [z, upd_same] at hKd; cases hKd
    have nTK : Tx ≠ Kd := fun z => by rw [← z, upd_ne nT, e1] at hKd; cases hKd
    refine ⟨_, rfl, a, _, dx, _, rfl, (by rw [upd_ne nK.symm, upd_same]), G.cStore.cl, G.cStore.no _ (by decide +kernel), (by show 2 < 1000; decide), ?_⟩
    have hT0 : H Tx = none := by rw [upd_ne nT] at hTx; exact hTx
    have hK0 : H Kd = none := by
      rw [upd_ne nK] at hKd
      have z := noneOf S1 hKd
      rw [upd_ne nK] at z
      exact z
    refine q Tx Kd _ hT0 hK0 (fun c o n e => ?_) ⟨⟨dx, upd_same⟩, ⟨[], ?_, tIs_nil, Nat.le_refl _⟩, [], ?_, dIs_nil _⟩
    · rw [upd_ne n, upd_ne (ne_of_none e hK0), upd_ne n]
      exact S1 _ _ (by rw [upd_ne n]; exact e)
    · rw [upd_ne nT, upd_ne nTK, upd_ne nT]
      exact e1
    · rw [upd_ne nK, upd_same]

abbrev s_put : Stmt := inClass (top 44) 1
theorem sc_put : FnScope ["self", "row", "number", "text"] ["self", "row", "number"] (defScope s_put) := ⟨rfl, rfl, rfl, by decide +kernel, rfl, by decide +kernel, by decide +kernel⟩

theorem ok_put (F : FunD K "put" "Store.put" (defArgs s_put) (defBody s_put) (defScope s_put) [] [] f fd) (G : S0 P w K mg base) : FnOk P w K mg base (L2.CX P w) 7 f fd ["self", "row", "number"] (spPut K) := by
  refine F.ok (CX := (L2.CX P w)) sc_put (fun vs H Q E h => ?_) (fun cdv A outer s H vs Q E hr h => ?_)
  · obtain ⟨_, _, _, _, _, _, _, _, _, _, _, rfl, _⟩ := h
    rfl
  · refine ⟨_, (pss_cons (ps_set (i := 3) sc_put.nd rfl (Or.inl rfl) (pe_fnS G.row_text hr (fun σ => passAt (takes_of rfl rfl rfl rfl) σ) (by rfl) (pa_cons (pe_fld (pv 0) rfl) (pa_cons (pv 1) pa_nil))))
    (C8.pss_cut (ps_if (pt_cmp (pc_dnotin (hu_of hr) (pv 3) (pe_fld (pv 0) rfl)))
      (pss_one (ps_expr (pe_bm PySem.F.plainAttrs_list PySem.F.slot_list_insert PySem.F.type_list_insert mt_insert (pe_fld (pv 0) rfl) (pa_cons (pe_fn G.first_from (hr.mono (by decide)) pass0 (by rfl) (pa_cons (pe_fld (pv 0) rfl) (pa_cons (pv 3) pa_nil))) (pa_cons (pv 3) pa_nil)))))
      pss_nil)
    (pss_one (ps_dput (hu_of hr) (pe_fld (pv 0) rfl) (pv 3) (pe_tupS (pa_cons (pe_callTy call_tuple_of (by rfl) G.tuple (by decide +kernel) (pa_cons (pv 1) pa_nil)) (pa_cons (pv 2) pa_nil))) rfl)))), ?_⟩
    obtain ⟨S, L, Tx, Kd, ds, js, m, n, v, o, num, rfl, hS, hn, hLy, hsq, hR, nv, q1, q2⟩ := h
    obtain ⟨⟨dx, eS⟩, _, _⟩ := id hS
    refine ⟨_, rfl, S, _, dx, _, _, rfl, eS, G.cStore.cl, G.cStore.no _ (by decide +kernel), lStore_layout, _, rfl, L, ds, js, v, o, rfl, hLy, hsq, hR, fun gd xs ex => ?_, fun z hz => q2 z hz⟩
    obtain ⟨hT, q⟩ := q1 gd xs ex
    subst ex
    refine ⟨hT, fun H0 S0 => ?_⟩
    obtain ⟨d1, d2, d3⟩ := hS.dist
    obtain ⟨⟨dx, eS⟩, ⟨ts, eT, hTs, hl⟩, kvs, eK, hK⟩ := hS.same S0
    have hsq0 := hsq.same S0
    have hkl := hTs.len hK
    generalize rowText ds js xs = tt at q ⊢
    refine ⟨fun σ J => ∃ ts, σ = [some (.ref S), some v, some (.int num), some (.str tt)] ∧ But2 Tx Kd H J ∧ (∃ dx, J S = some (.ins (SC K) dx (fStore (.ref L) (.ref Tx) (.ref Kd)))) ∧ J Tx = some (.lst (ts.map V.str)) ∧ TIs ts (setM m tt (xs, num)) ∧ ts.length ≤ n + 1 ∧ (∃ kvs, J Kd = some (.dK kvs) ∧ DIs J kvs m ∧ kvs.length ≤ 1000) ∧ SeqIs K J v (some xs), ?_, ?_⟩
    · refine ⟨_, rfl, _, rfl, S, _, dx, _, _, rfl, eS, G.cStore.cl, G.cStore.no _ (by decide +kernel), lStore_kept, Kd, _, rfl, DGet.k (k := .inr tt) eK, _, rfl, ?_⟩
      rw [hK.isSome]
      refine ite2 (fun c => ?_) (fun c => ?_)
      · have hnone : m tt = none := by
          cases e : m tt with
          | none => rfl
          | some _ => rw [e] at c; cases c
        refine ⟨_, rfl, S, _, dx, _, _, rfl, eS, G.cStore.cl, G.cStore.no _ (by decide +kernel), lStore_texts, .inl ⟨rfl, _, SqL.of eT⟩, _, rfl, S, _, dx, _, _, rfl, eS, G.cStore.cl, G.cStore.no _ (by decide +kernel), lStore_texts, _, rfl, Tx, ts, tt, rfl, eT, hTs.1, by omega, fun i hi => ?_⟩
        have hil := hi.1
        refine ⟨_, rfl, Tx, _, (i : Int), _, rfl, rfl, eT, by rw [List.length_map, sizeLine_eq]; omega, by omega, by omega, ?_⟩
        have el : ((ts.map V.str).take (i : Int).toNat ++ [V.str tt]) ++ (ts.map V.str).drop (i : Int).toNat = ((ts.take i ++ [tt]) ++ ts.drop i).map V.str := by
          rw [show (i : Int).toNat = i by omega, List.map_append, List.map_append, List.map_take, List.map_drop]
          rfl
        rw [el]
        have nl : NL H0 (upd H0 Tx (.lst (((ts.take i ++ [tt]) ++ ts.drop i).map V.str))) := But2.nl eT eK but2_l
        refine ⟨_, rfl, (But2.of_same S0).trans but2_l, ⟨dx, nl.ins eS⟩, upd_same, hTs.put hnone hi, ?_, ⟨kvs, by rw [upd_ne d1.symm]; exact eK, hK.nl nl, by omega⟩, ?_⟩
        · rw [List.length_append, List.length_append, List.length_take, List.length_drop]
          show min i ts.length + 1 + _ ≤ _
          omega
        · cases hsq0 with
          | lst h => exact .lst (by rw [upd_ne (fun z => nv (by rw [z]))]; exact h)
          | tup h => exact .tup (nl.tup h)
      · have hsome : (m tt).isSome = true := by
          cases e : (m tt).isSome with
          | true => rfl
          | false => rw [e] at c; exact absurd rfl c
        exact ⟨ts, rfl, But2.of_same S0, ⟨dx, eS⟩, eT, hTs.put_in hsome, by omega, ⟨kvs, eK, hK, by omega⟩, hsq0⟩
    clear hsq0 hK eK hTs eT eS hkl S0 hsq hLy hR q1 q2
    rintro σ J ⟨ts, rfl, B, ⟨dx, eS⟩, eT, hTs, hl, ⟨kvs, eK, hK, hkl⟩, hsq⟩
    cases hsq with
    | lst h =>
      refine ⟨_, rfl, _, _, rfl, .inl ⟨SqL.of h, fun rr hrr => ?_⟩⟩
      have S2 : Same J (upd J rr (.tup xs)) := same_upd hrr
      have e2 : upd J rr (.tup xs) rr = some (.tup xs) := upd_same
      generalize upd J rr (.tup xs) = J2 at S2 e2 ⊢
      refine ⟨_, rfl, by show 2 ≤ 1000; decide, fun pe J3 hpe S3 e3 => ?_⟩
      have S23 := S2.trans S3
      refine ⟨_, rfl, S, _, dx, _, _, rfl, S23 _ _ eS, G.cStore.cl, G.cStore.no _ (by decide +kernel), lStore_kept, _, rfl, Kd, _, rfl, DPut.k (k := .inr tt) (S23 _ _ eK) (by rw [sizeLine_eq]; omega), ?_⟩
      have nl : NL J3 (upd J3 Kd (.dK (putK kvs (.inr tt) (.ref pe)))) := But2.nl (S23 _ _ eT) (S23 _ _ eK) but2_r
      have he : Ent J3 (.ref pe) (xs, num) := ⟨pe, _, rfl, e3, S3 _ _ e2⟩
      exact q _ ((B.trans (But2.of_same S23)).trans but2_r) ⟨⟨dx, nl.ins (S23 _ _ eS)⟩, ⟨ts, by rw [upd_ne d1]; exact S23 _ _ eT, hTs, hl⟩, _, upd_same, ((hK.nl (NL.of_same S23)).put he).nl nl⟩
    | tup h =>
      refine ⟨_, rfl, _, _, rfl, .inr ⟨SqT.of h, ?_⟩⟩
      have S2 := Same.refl J
      have e2 := h
      refine ⟨_, rfl, by show 2 ≤ 1000; decide, fun pe J3 hpe S3 e3 => ?_⟩
      have S23 := S2.trans S3
      refine ⟨_, rfl, S, _, dx, _, _, rfl, S23 _ _ eS, G.cStore.cl, G.cStore.no _ (by decide +kernel), lStore_kept, _, rfl, Kd, _, rfl, DPut.k (k := .inr tt) (S23 _ _ eK) (by rw [sizeLine_eq]; omega), ?_⟩
      have nl : NL J3 (upd J3 Kd (.dK (putK kvs (.inr tt) (.ref pe)))) := But2.nl (S23 _ _ eT) (S23 _ _ eK) but2_r
      have he : Ent J3 (.ref pe) (xs, num) := ⟨pe, _, rfl, e3, S3 _ _ e2⟩
      exact q _ ((B.trans (But2.of_same S23)).trans but2_r) ⟨⟨dx, nl.ins (S23 _ _ eS)⟩, ⟨ts, by rw [upd_ne d1]; exact S23 _ _ eT, hTs, hl⟩, _, upd_same, ((hK.nl (NL.of_same S23)).put he).nl nl⟩

abbrev s_take : Stmt := inClass (top 44) 2
theorem sc_take : FnScope ["self", "row", "text"] ["self", "row"] (defScope s_take) := ⟨rfl, rfl, rfl, by decide +kernel, rfl, by decide +kernel, by decide +kernel⟩

theorem ok_take (F : FunD K "take" "Store.take" (defArgs s_take) (defBody s_take) (defScope s_take) [] [] f fd) (G : S0 P w K mg base) : FnOk P w K mg base (L2.CX P w) 7 f fd ["self", "row"] (spTake K) := by
  refine F.ok (CX := (L2.CX P w)) sc_take (fun vs H Q E h => ?_) (fun cdv A outer s H vs Q E hr h => ?_)
  · obtain ⟨_, _, _, _, _, _, _, _, _, _, rfl, _⟩ := h
    rfl
  · refine ⟨_, (pss_cons (ps_set (i := 2) sc_take.nd rfl (Or.inl rfl) (pe_fnS G.row_text hr (fun σ => passAt (takes_of rfl rfl rfl rfl) σ) (by rfl) (pa_cons (pe_fld (pv 0) rfl) (pa_cons (pv 1) pa_nil))))
    (pss_cons (ps_if (pt_cmp (pc_dnotin (hu_of hr) (pv 2) (pe_fld (pv 0) rfl)))
      (pss_one (ps_ret pe_bl))
      pss_nil)
    (pss_cons (ps_ddel (pe_fld (pv 0) rfl) (pv 2))
    (pss_cons (ps_delL (pe_fld (pv 0) rfl) (pe_fn G.first_from (hr.mono (by decide)) pass0 (by rfl) (pa_cons (pe_fld (pv 0) rfl) (pa_cons (pv 2) pa_nil))))
    (pss_one (ps_ret pe_bl)))))), ?_⟩
    obtain ⟨S, L, Tx, Kd, ds, js, m, n, v, o, rfl, hS, hn, hLy, hsq, hR, q1, q2⟩ := h
    obtain ⟨⟨dx, eS⟩, _, _⟩ := id hS
    refine ⟨_, rfl, S, _, dx, _, _, rfl, eS, G.cStore.cl, G.cStore.no _ (by decide +kernel), lStore_layout, _, rfl, L, ds, js, v, o, rfl, hLy, hsq, hR, fun gd xs ex => ?_, fun z hz => q2 z hz⟩
    obtain ⟨hT, q⟩ := q1 gd xs ex
    subst ex
    refine ⟨hT, fun H0 S0 => ?_⟩
    obtain ⟨d1, d2, d3⟩ := hS.dist
    have hS0 := hS.same S0
    obtain ⟨⟨dx, eS⟩, ⟨ts, eT, hTs, hl⟩, kvs, eK, hK⟩ := id hS0
    generalize rowText ds js xs = tt at q ⊢
    refine ⟨_, rfl, _, rfl, S, _, dx, _, _, rfl, eS, G.cStore.cl, G.cStore.no _ (by decide +kernel), lStore_kept, Kd, _, rfl, DGet.k (k := .inr tt) eK, _, rfl, ?_⟩
    rw [hK.isSome]
    refine ite2 (fun c => ?_) (fun c => ?_)
    · have hnone : m tt = none := by
        cases e : m tt with
        | none => rfl
        | some _ => rw [e] at c; cases c
      have em : delM m tt = m := funext fun u => by
        unfold delM
        by_cases h : u = tt
        · rw [if_pos h, h, hnone]
        · rw [if_neg h]
      have z := q H0 (But2.of_same S0) (by rw [em]; exact hS0)
      rw [hnone] at z
      exact z
    · have hsome : (m tt).isSome = true := by
        cases e : (m tt).isSome with
        | true => rfl
        | false => rw [e] at c; exact absurd rfl c
      have nl : NL H0 (upd H0 Kd (.dK (dropK kvs (.inr tt)))) := But2.nl eT eK but2_r
      have eT1 : upd H0 Kd (.dK (dropK kvs (.inr tt))) Tx = some (.lst (ts.map V.str)) := by rw [upd_ne d1]; exact eT
      refine ⟨_, rfl, S, _, dx, _, _, rfl, eS, G.cStore.cl, G.cStore.no _ (by decide +kernel), lStore_kept, _, rfl, Kd, kvs, .inr tt, rfl, eK, rfl, by rw [hK.isSome]; exact hsome, ?_⟩
      refine ⟨_, rfl, S, _, dx, _, _, rfl, nl.ins eS, G.cStore.cl, G.cStore.no _ (by decide +kernel), lStore_texts, _, rfl, S, _, dx, _, _, rfl, nl.ins eS, G.cStore.cl, G.cStore.no _ (by decide +kernel), lStore_texts, _, rfl, Tx, ts, tt, rfl, eT1, hTs.1, by omega, fun i hi => ?_⟩
      have ei := at_mem hTs.1 hi ((hTs.2 tt).mpr hsome)
      have hil := (List.getElem?_eq_some_iff.mp ei).1
      refine ⟨Tx, _, (i : Int), i, rfl, rfl, eT1, by omega, by omega, seqIx_nat (by rw [List.length_map]; exact hil), ?_⟩
      have el : (ts.map V.str).eraseIdx i = (ts.eraseIdx i).map V.str := erase_map ts i
      rw [el]
      have B2 : But2 Tx Kd H0 (upd (upd H0 Kd (.dK (dropK kvs (.inr tt)))) Tx (.lst ((ts.eraseIdx i).map V.str))) := but2_r.trans but2_l
      have nl2 : NL H0 (upd (upd H0 Kd (.dK (dropK kvs (.inr tt)))) Tx (.lst ((ts.eraseIdx i).map V.str))) := But2.nl eT eK B2
      have z := q _ ((But2.of_same S0).trans B2) ⟨⟨dx, nl2.ins eS⟩, ⟨_, upd_same, hTs.del ei, by have := List.length_eraseIdx_le ts i; omega⟩, _, by rw [upd_ne d1.symm, upd_same], hK.drop.nl nl2⟩
      rw [hsome] at z
      exact z

abbrev s_size : Stmt := inClass (top 44) 5
theorem sc_size : FnScope ["self"] ["self"] (defScope s_size) := ⟨rfl, rfl, rfl, by decide +kernel, rfl, by decide +kernel, by decide +kernel⟩

theorem ok_size (F : FunD K "size" "Store.size" (defArgs s_size) (defBody s_size) (defScope s_size) [] [] f fd) (G : S0 P w K mg base) : FnOk P w K mg base CX0 1 f fd ["self"] (spSize K) := by
  refine F.ok (CX := CX0) sc_size (fun vs H Q E h => ?_) (fun cdv A outer s H vs Q E hr h => ?_)
  · obtain ⟨_, _, _, _, _, _, rfl, _⟩ := h
    rfl
  · refine ⟨_, PSs.nox (pss_one (ps_ret (pe_callB call_len_seq (by rfl) G.len (by decide +kernel) (pa_cons (pe_fld (pv 0) rfl) pa_nil)))), ?_⟩
    obtain ⟨S, L, Tx, Kd, m, n, rfl, hS, q⟩ := h
    obtain ⟨⟨dx, eS⟩, ⟨ts, eT, hT, hl⟩, kvs, eK, hK⟩ := hS
    refine ⟨_, rfl, S, _, dx, _, _, rfl, eS, G.cStore.cl, G.cStore.no _ (by decide +kernel), lStore_texts, Tx, _, rfl, .inl (SqL.of eT), ?_⟩
    rw [List.length_map]
    exact q ts hT hl

end
end L2.K77

set_option Elab.async false
set_option linter.all false
set_option maxRecDepth 100000
set_option maxHeartbeats 4000000
/-! Stores: scanned, moved. -/
namespace L2.K77
open PySem PySem.W PySem.Spec PySem.Calls PyProof.Rows L2.Jk
theorem pe_fldK {X : Cx} {K : Frag} {e : Expr} {ta : TE} {f : Str} {pos : Pos} (h : X.K = K) (he : PE X e ta) (hb : attributeBase e f X.env (eval e X.env) = eval e X.env := by rfl) : PE X (.Attribute e f pos) (tFld K ta f) := by
  subst h
  exact pe_fld he hb
structure S1 (P : Program) (w : World) (K : Frag) (mg : Str → Option Value) (base : Heap) : Prop extends S0 P w K mg base where
  head_of : FnAt P w K mg base (L2.CX P w) 5 "head_of" ["layout", "values"] (spHd K)
  kStore : ClsAt P w K mg base CX0 1 "Store" (SC K) ["self", "layout"] (spStI K)
  mPut : MetAt P w K mg base (L2.CX P w) 7 (SC K) "put" ["self", "row", "number"] (spPut K)
/-- what stands in a list: rows with numbers, by their texts -/
def LsIs (H : Hp) (vs : List V) (zs : List Str) (m : Mp) : Prop := vs.length = zs.length ∧ ∀ (k : Nat) v t, vs[k]? = some v → zs[k]? = some t → ∃ e, m t = some e ∧ Ent H v e
theorem LsIs.nl {H H' : Hp} {vs : List V} {zs : List Str} {m : Mp} (n : NL H H') (h : LsIs H vs zs m) : LsIs H' vs zs m := ⟨h.1, fun k v t a b => by
  obtain ⟨e, x, y⟩ := h.2 k v t a b
  exact ⟨e, x, y.mono fun _ _ q => n.tup q⟩⟩
theorem LsIs.snoc {H : Hp} {vs : List V} {zs : List Str} {m : Mp} {v : V} {t : Str} {e : List V × Int} (h : LsIs H vs zs m) (hm : m t = some e) (he : Ent H v e) : LsIs H (vs ++ [v]) (zs ++ [t]) m := by
  refine ⟨by rw [List.length_append, List.length_append, h.1]; rfl, fun k x u h1 h2 => ?_⟩
  rcases Nat.lt_or_ge k vs.length with hk | hk
  · rw [List.getElem?_append_left hk] at h1
    rw [List.getElem?_append_left (by rw [← h.1]; exact hk)] at h2
    exact h.2 k x u h1 h2
  · rw [List.getElem?_append_right hk] at h1
    rw [List.getElem?_append_right (by rw [← h.1]; exact hk), ← h.1] at h2
    have e0 : k - vs.length = 0 := by
      have := (List.getElem?_eq_some_iff.mp h1).1
      have : k - vs.length < 1 := this
      omega
    rw [e0] at h1 h2
    cases h1
    cases h2
    exact ⟨e, hm, he⟩
theorem take_snoc {α : Type} {l : List α} {k : Nat} {x : α} (h : l[k]? = some x) : l.take (k + 1) = l.take k ++ [x] := by
  rw [List.take_succ, h]
  rfl
theorem takeWhile_take {α : Type} {p : α → Bool} : ∀ {l : List α} {k : Nat}, (∀ x ∈ l.take k, p x = true) → (∀ x, l[k]? = some x → p x = false) → l.takeWhile p = l.take k
  | [], _, _, _ => by simp
  | x :: l, 0, _, h2 => by rw [List.takeWhile_cons_of_neg (by rw [h2 x rfl]; decide)]; rfl
  | x :: l, k + 1, h1, h2 => by
    rw [List.takeWhile_cons_of_pos (h1 x (by simp)), List.take_succ_cons, takeWhile_take (l := l) (k := k) (fun y hy => h1 y (by simp [hy])) (fun y hy => h2 y hy)]
def begins (h : Str) (t : Str) : Bool := Txt.startswith t h
def spScan (K : Frag) : Sp := fun vs H Q E => ∃ (S L Tx Kd : Addr) (ds : List FD) (js : List Str) (m : Mp) (n : Nat) (v : V) (o : Option (List V)), vs = [.ref S, v] ∧ StA K H S L Tx Kd m n ∧ n ≤ 1000 ∧ LayAt K H L ds js ∧ SeqIs K H v o ∧ RowIn H o ∧
  (headDue ds o = none → ∀ xs, o = some xs → RowT ds xs ∧ ∀ D ts i us H', TIs ts m → At ts (headText ds js xs) i → Same H H' → H D = none → H' D = some (.lst us) → LsIs H' us ((ts.drop i).takeWhile (begins (headText ds js xs))) m → Q (.ref D) H') ∧
  ∀ z, headDue ds o = some z → RaiseE (NR K) "place" (.int z) H E
section
variable {P : Program} {w : World} {K : Frag} {mg : Str → Option Value} {base : Heap} {f : Addr} {fd : FuncData}

abbrev s_scan : Stmt := inClass (top 44) 4
theorem sc_scan : FnScope ["self", "values", "head", "found", "at"] ["self", "values"] (defScope s_scan) := ⟨rfl, rfl, rfl, by decide +kernel, rfl, by decide +kernel, by decide +kernel⟩

theorem ok_scan (F : FunD K "scan" "Store.scan" (defArgs s_scan) (defBody s_scan) (defScope s_scan) [] [] f fd) (G : S1 P w K mg base) : FnOk P w K mg base (L2.CX P w) 6 f fd ["self", "values"] (spScan K) := by
  refine F.ok (CX := (L2.CX P w)) sc_scan (fun vs H Q E h => ?_) (fun cdv A outer s H vs Q E hr h => ?_)
  · obtain ⟨_, _, _, _, _, _, _, _, _, _, rfl, _⟩ := h
    rfl
  · refine ⟨_, (pss_cons (ps_set (i := 2) sc_scan.nd rfl (Or.inl rfl) (pe_fnS G.head_of (hr.mono (by decide)) (fun σ => passAt (takes_of rfl rfl rfl rfl) σ) (by rfl) (pa_cons (pe_fld (pv 0) rfl) (pa_cons (pv 1) pa_nil))))
    (pss_cons (ps_set (i := 3) sc_scan.nd rfl (Or.inl rfl) (pe_lstS pa_nil))
    (pss_cons (ps_set (i := 4) sc_scan.nd rfl (Or.inl rfl) (pe_fn G.first_from (hr.mono (by decide)) pass0 (by rfl) (pa_cons (pe_fld (pv 0) rfl) (pa_cons (pv 2) pa_nil))))
    (pss_cons (ps_while (passes_of rfl) (PW.pt (pw_and (pt_cmpR op_lt (pv 4) (pe_callB call_len_seq (by rfl) G.len (by decide +kernel) (pa_cons (pe_fld (pv 0) rfl) pa_nil)) (nomark _)) (pw_and1 (pt_val (pe_bm PySem.F.plainAttrs_str PySem.F.slot_str_startswith PySem.F.type_str_startswith mt_startswith (pe_ix ix_list (pe_fld (pv 0) rfl) (pv 4) (fun _ _ => rfl)) (pa_cons (pv 2) pa_nil))))))
      (pss_cons (ps_expr (pe_bm PySem.F.plainAttrs_list PySem.F.slot_list_append PySem.F.type_list_append mt_append (pv 3) (pa_cons (pe_dget (hu_of hr) (pe_fld (pv 0) rfl) (pe_ix ix_list (pe_fld (pv 0) rfl) (pv 4) (fun _ _ => rfl)) (fun _ _ => rfl)) pa_nil)))
      (pss_one (ps_aug (i := 4) sc_scan.nd rfl (Or.inl rfl) pe_int ip_add))))
    (pss_one (ps_ret (pv 3))))))), ?_⟩
    obtain ⟨S, L, Tx, Kd, ds, js, m, n, v, o, rfl, hS, hn, hLy, hsq, hR, q1, q2⟩ := h
    obtain ⟨⟨dx, eS⟩, _, _⟩ := id hS
    refine ⟨_, rfl, S, _, dx, _, _, rfl, eS, G.cStore.cl, G.cStore.no _ (by decide +kernel), lStore_layout, _, rfl, L, ds, js, v, o, rfl, hLy, hsq, hR, fun gd xs ex => ?_, fun z hz => q2 z hz⟩
    obtain ⟨hT, q⟩ := q1 gd xs ex
    subst ex
    refine ⟨hT, fun H0 S0 => ?_⟩
    have hS0 := hS.same S0
    obtain ⟨⟨dx, eS⟩, ⟨ts, eT, hTs, hl⟩, kvs, eK, hK⟩ := id hS0
    generalize headText ds js xs = hd at q ⊢
    refine ⟨by show 0 ≤ 1000; decide, fun D H1 hD S1 eD => ?_⟩
    have T1 := S0.trans S1
    refine ⟨_, rfl, S, _, dx, _, _, rfl, S1 _ _ eS, G.cStore.cl, G.cStore.no _ (by decide +kernel), lStore_texts, _, rfl, Tx, ts, hd, rfl, S1 _ _ eT, hTs.1, by omega, fun i hi => ?_⟩
    have hil := hi.1
    refine ⟨fun mm σ J => ∃ k us, mm = ts.length - (i + k) ∧ σ = [some (.ref S), some v, some (.str hd), some (.ref D), some (.int ((i + k : Nat) : Int))] ∧ i + k ≤ ts.length ∧ Same H0 J ∧ J D = some (.lst us) ∧ LsIs J us ((ts.drop i).take k) m ∧ ∀ t ∈ (ts.drop i).take k, begins hd t = true, ⟨_, 0, [], rfl, rfl, by omega, S1, eD, ⟨rfl, fun k v t h => by cases h⟩, fun t h => by cases h⟩, ?_⟩
    rintro mm σ J ⟨k, us, rfl, rfl, hk, SJ, eJ, hU, hB⟩
    have eSJ := SJ _ _ eS
    have eTJ := SJ _ _ eT
    have eKJ := SJ _ _ eK
    have tw : ∀ x, (∀ t, (ts.drop i)[k]? = some t → begins hd t = false) → x = (ts.drop i).take k → LsIs J us ((ts.drop i).takeWhile (begins hd)) m := fun x h e => by
      rw [takeWhile_take hB h]
      exact hU
    refine ⟨_, rfl, _, rfl, S, _, dx, _, _, rfl, eSJ, G.cStore.cl, G.cStore.no _ (by decide +kernel), lStore_texts, Tx, _, rfl, .inl (SqL.of eTJ), _, _, rfl, rfl, _, rfl, ?_⟩
    rw [List.length_map]
    refine ite2 (fun c => ?_) (fun c => ?_)
    · have hlt : i + k < ts.length := by have := of_decide_eq_true c; omega
      obtain ⟨t, ht⟩ : ∃ t, ts[i + k]? = some t := ⟨_, List.getElem?_eq_getElem hlt⟩
      have htv : (ts.map V.str)[i + k]? = some (V.str t) := by rw [List.getElem?_map, ht]; rfl
      have htd : (ts.drop i)[k]? = some t := by rw [List.getElem?_drop]; exact ht
      refine ⟨_, rfl, S, _, dx, _, _, rfl, eSJ, G.cStore.cl, G.cStore.no _ (by decide +kernel), lStore_texts, _, rfl, Tx, _, _, _, rfl, rfl, SqL.of eTJ, atI_nat (j := i + k) htv, rfl, _, rfl, _, _, rfl, rfl, _, rfl, ?_⟩
      refine ite2 (fun c2 => ?_) (fun c2 => ?_)
      · refine ⟨fun σ J => ∃ us, σ = [some (.ref S), some v, some (.str hd), some (.ref D), some (.int ((i + (k + 1) : Nat) : Int))] ∧ i + (k + 1) ≤ ts.length ∧ Same H0 J ∧ J D = some (.lst us) ∧ LsIs J us ((ts.drop i).take (k + 1)) m ∧ ∀ t ∈ (ts.drop i).take (k + 1), begins hd t = true, fun σ' J' ⟨us', r1, r2, r3, r4, r5, r6⟩ => ⟨ts.length - (i + (k + 1)), by omega, k + 1, us', rfl, r1, r2, r3, r4, r5, r6⟩, ?_⟩
        have hsome : (m t).isSome = true := (hTs.2 t).mp (List.mem_of_getElem? ht)
        obtain ⟨e, he⟩ := Option.isSome_iff_exists.mp hsome
        obtain ⟨r, hv, hE⟩ := hK.2 t e he
        have DG : DGet J Kd (.str t) (some r) := by
          have z := DGet.k (k := Sum.inr t) eKJ
          rw [hv] at z
          exact z
        have hul : us.length ≤ k := by rw [hU.1, List.length_take]; exact Nat.min_le_left _ _
        refine ⟨_, rfl, .inl ⟨rfl, _, SqL.of eJ⟩, _, rfl, S, _, dx, _, _, rfl, eSJ, G.cStore.cl, G.cStore.no _ (by decide +kernel), lStore_kept, _, rfl, S, _, dx, _, _, rfl, eSJ, G.cStore.cl, G.cStore.no _ (by decide +kernel), lStore_texts, _, rfl, Tx, _, _, _, rfl, rfl, SqL.of eTJ, atI_nat (j := i + k) htv, Kd, r, rfl, DG, D, us, _, rfl, rfl, eJ, by rw [sizeLine_eq]; omega, ?_⟩
        have hD0 : H0 D = none := hD
        have nl : NL J (upd J D (.lst (us ++ [r]))) := fun b o n1 n2 h => by
          rw [upd_ne (fun z => n1 us (by rw [z, eJ] at h; exact (Option.some.inj h).symm))]
          exact h
        have hEJ : Ent J r e := hE.mono fun _ _ q => SJ _ _ q
        refine ⟨_, rfl, _, _, rfl, rfl, us ++ [r], ?_, by omega, same_put SJ hD0, upd_same, ?_, fun u hu => ?_⟩
        · rw [show ((i + (k + 1) : Nat) : Int) = ((i + k : Nat) : Int) + 1 by omega]
          rfl
        · rw [take_snoc htd]
          exact (hU.snoc he hEJ).nl nl
        · rw [take_snoc htd] at hu
          rcases List.mem_append.mp hu with hu | hu
          · exact hB u hu
          · rw [List.mem_singleton.mp hu]
            exact c2
      · refine ⟨_, rfl, q D ts i us J hTs hi (S0.trans SJ) (noneOf S0 hD) eJ (tw _ (fun u hu => ?_) rfl)⟩
        rw [htd] at hu
        cases hu
        exact Bool.eq_false_iff.mpr c2
    · have hge : ts.length ≤ i + k := by
        rcases Nat.lt_or_ge (i + k) ts.length with z | z
        · exact absurd (decide_eq_true (by omega)) c
        · exact z
      refine ⟨_, rfl, q D ts i us J hTs hi (S0.trans SJ) (noneOf S0 hD) eJ (tw _ (fun u hu => ?_) rfl)⟩
      rw [List.getElem?_drop] at hu
      have := (List.getElem?_eq_some_iff.mp hu).1
      omega

end
end L2.K77

set_option Elab.async false
set_option linter.all false
set_option maxRecDepth 100000
set_option maxHeartbeats 2000000
/-! An error of two fields, raised. -/
namespace L2.Jk
open PySem PySem.W PySem.Spec PySem.Calls PyProof.Rows
/-- what is wished of an error C(v, u) that is raised at H -/
def RaiseE2 (C : Addr) (f g : Str) (v u : V) (H : Hp) (Q : XK) : Prop := ∀ d H2, H d = none → Same H H2 → H2 d = some (.xd [(g, u), (f, v)]) → Q (.ref C) (some d) H2
theorem mkO_2 {C : Addr} {f g : Str} {v u : V} {H : Hp} {Q : XK} (q : RaiseE2 C f g v u H Q) : ([v, u] : List V).length ≤ 1000 ∧ ∀ a, H a = none → spI2 C f g (.ref a :: ([v, u] ++ [])) (upd H a (exo a C none))
    (fun w H2 => w = .non ∧ ∃ (d : Addr) (fs : List (Str × V)), H2 a = some (exo a C (some d)) ∧ H2 d = some (exd d fs) ∧ H d = none ∧ Q (.ref C) (some d) (upd (del H2 a) d (.xd fs))) (fun _ _ _ => False) := by
  refine ⟨by show 2 ≤ 1000; decide, fun a ha => ⟨a, v, u, rfl, upd_same, fun d hd ne => ⟨rfl, d, [(g, u), (f, v)], ?_, ?_, ?_, ?_⟩⟩⟩
  · rw [mkE_new ne]
    exact upd_same
  · rw [mkE_new ne]
    unfold mkE
    rw [upd_ne ne, upd_same]
  · rw [upd_ne ne] at hd
    exact hd
  · rw [mkE_new ne]
    rw [upd_ne ne] at hd
    exact q d _ hd (same_raise ha hd ne) upd_same
section
variable {X : Cx} {x : Str} {e : Expr} {es : List Expr} {ta : TA} {p pos : Pos}
/-- raise C(e, e2), C an error of two fields -/
theorem pmk_2 {C : Addr} {f g z : Str} (T : ErrAt X.prog X.w X.K X.mg X.base x C [f, g] z) (hr : Room 2 X.A) (hg : Gl X x) (ha : PA X (e :: es) ta)
    (hdb : (x == ("__debug__" : Str)) = false := by decide) (he : starEach (e :: es) X.env = (false, eval e X.env) :: starEach es X.env := by rfl) (hpl : (backTo pos (starEach es X.env)).any (·.1) = false := by rfl) :
    PMk X (.Call (.Name x p) (e :: es) [] pos) (tMkO C (spI2 C f g) [] ta) := by
  obtain ⟨fd, hb, iok⟩ := T.iok
  exact pmk_oex (X := X) (ta := ta) T.ex.ec.ox T.ini.1 T.ini.2 iok hr hb .nil pass0 hg T.mgC ha hdb he hpl
end
end L2.Jk

set_option Elab.async false
set_option linter.all false
set_option maxRecDepth 100000
set_option maxHeartbeats 4000000
/-! Stores: moved. -/
namespace L2.K77
open PySem PySem.W PySem.Spec PySem.Calls PyProof.Rows L2.Jk
theorem lStore_m {l x k : V} (m : Str) (h : m ≠ "kept" ∧ m ≠ "texts" ∧ m ≠ "layout") : (fStore l x k).lookup m = none := by
  unfold fStore
  rw [lookup_putF, if_neg h.1, lookup_putF, if_neg h.2.1, lookup_putF, if_neg h.2.2]
  rfl
def mvL (tx : List V → Str) (es : List (List V × Int)) : Mp := es.foldl (fun m e => setM m (tx e.1) e) (fun _ => none)
theorem mvL_snoc {tx : List V → Str} {es : List (List V × Int)} {e : List V × Int} : mvL tx (es ++ [e]) = setM (mvL tx es) (tx e.1) e := by
  unfold mvL
  rw [List.foldl_append]
  rfl
theorem mvL_fold {tx : List V → Str} {u : Str} : ∀ (es : List (List V × Int)) (m : Mp), (∀ e ∈ es, tx e.1 ≠ u) → es.foldl (fun m e => setM m (tx e.1) e) m u = m u
  | [], _, _ => rfl
  | e :: es, m, h => by
    rw [List.foldl_cons, mvL_fold es _ fun x hx => h x (List.mem_cons_of_mem _ hx)]
    unfold setM
    rw [if_neg fun z => h e (List.mem_cons_self ..) z.symm]
theorem mvL_none {tx : List V → Str} {u : Str} {es : List (List V × Int)} (h : ∀ e ∈ es, tx e.1 ≠ u) : mvL tx es u = none := mvL_fold es _ h
/-- the entries, by the texts -/
def Ents (m : Mp) (ts : List Str) (es : List (List V × Int)) : Prop := es.length = ts.length ∧ ∀ (k : Nat) t, ts[k]? = some t → ∃ e, es[k]? = some e ∧ m t = some e
theorem ents_of {m : Mp} {ts : List Str} (h : TIs ts m) : ∃ es, Ents m ts es := by
  refine ⟨ts.map fun t => (m t).getD ([], 0), by rw [List.length_map], fun k t ht => ?_⟩
  have hsome : (m t).isSome = true := (h.2 t).mp (List.mem_of_getElem? ht)
  obtain ⟨e, he⟩ := Option.isSome_iff_exists.mp hsome
  refine ⟨e, ?_, he⟩
  rw [List.getElem?_map, ht]
  show some ((m t).getD ([], 0)) = some e
  rw [he]
  rfl
theorem StA.put_other {K : Frag} {H : Hp} {S L Tx Kd R : Addr} {m : Mp} {n : Nat} {kvs : List (Key × V)} {o : HO} (h : StA K H S L Tx Kd m n) (hR : H R = some (.dK kvs)) (nK : R ≠ Kd) : StA K (upd H R o) S L Tx Kd m n := by
  obtain ⟨⟨dx, a⟩, ⟨ts, b, c⟩, kv, d, e⟩ := h
  have nl : NL H (upd H R o) := fun x u n1 n2 q => by
    rw [upd_ne (fun z => n2 kvs (by rw [z, hR] at q; exact (Option.some.inj q).symm))]
    exact q
  exact ⟨⟨dx, nl.ins a⟩, ⟨ts, by rw [upd_ne (ne_of b hR (fun z => by cases z))]; exact b, c⟩, kv, by rw [upd_ne (fun z => nK z.symm)]; exact d, e.nl nl⟩
/-- the ways a store is moved: a row that does not fit, two rows with one text, or all goes over -/
structure MvEnd (K : Frag) (H : Hp) (Q : VK) (E : XK) (ds : List FD) (js : List Str) (es : List (List V × Int)) (n : Nat) (L2 : Addr) : Prop where
  row : ∀ (k : Nat) (e : List V × Int) (z : Int), es[k]? = some e → rowDue ds (some e.1) = some z → (∀ e' ∈ es.take k, rowDue ds (some e'.1) = none) → ∀ H1, Same H H1 → RaiseE (NR K) "place" (.int z) H1 E
  clash : (∀ e ∈ es, rowDue ds (some e.1) = none) → ∀ (k : Nat) (e e0 : List V × Int), es[k]? = some e → mvL (rowText ds js) (es.take k) (rowText ds js e.1) = some e0 → (∀ (j : Nat) e', j < k → es[j]? = some e' → mvL (rowText ds js) (es.take j) (rowText ds js e'.1) = none) →
    ∀ r1 r2 H1, Same H H1 → H1 r1 = some (.tup e0.1) → H1 r2 = some (.tup e.1) → RaiseE2 (CLx K) "one" "other" (.ref r1) (.ref r2) H1 E
  good : (∀ e ∈ es, rowDue ds (some e.1) = none) → (∀ (k : Nat) e, es[k]? = some e → mvL (rowText ds js) (es.take k) (rowText ds js e.1) = none) → ∀ S2 Tx2 Kd2 H', Same H H' → H S2 = none → H Tx2 = none → H Kd2 = none → StA K H' S2 L2 Tx2 Kd2 (mvL (rowText ds js) es) n → Q (.ref S2) H'
def spMoved (K : Frag) : Sp := fun vs H Q E => ∃ (S L Tx Kd L2 : Addr) (ds : List FD) (js : List Str) (m : Mp) (n : Nat), vs = [.ref S, .ref L2] ∧ StA K H S L Tx Kd m n ∧ n ≤ 900 ∧ LayAt K H L2 ds js ∧
  (∀ t e, m t = some e → (rowDue ds (some e.1) = none → RowT ds e.1) ∧ ∀ J, RowIn J (some e.1)) ∧ ∀ ts es, TIs ts m → Ents m ts es → MvEnd K H Q E ds js es n L2
structure S2c (P : Program) (w : World) (K : Frag) (mg : Str → Option Value) (base : Heap) : Prop extends S1 P w K mg base where
  ecl : ErrAt P w K mg base "Clash" (CLx K) ["one", "other"] "refused clash"
section
variable {P : Program} {w : World} {K : Frag} {mg : Str → Option Value} {base : Heap} {f : Addr} {fd : FuncData}

abbrev s_moved : Stmt := inClass (top 44) 6
theorem sc_moved : FnScope ["self", "layout", "pairs", "text", "row", "_", "rows", "store", "number"] ["self", "layout"] (defScope s_moved) := ⟨rfl, rfl, rfl, by decide +kernel, rfl, by decide +kernel, by decide +kernel⟩

theorem ok_moved (F : FunD K "moved" "Store.moved" (defArgs s_moved) (defBody s_moved) (defScope s_moved) [] [] f fd) (G : S2c P w K mg base) : FnOk P w K mg base (L2.CX P w) 8 f fd ["self", "layout"] (spMoved K) := by
  refine F.ok (CX := (L2.CX P w)) sc_moved (fun vs H Q E h => ?_) (fun cdv A outer s H vs Q E hr h => ?_)
  · obtain ⟨_, _, _, _, _, _, _, _, _, rfl, _⟩ := h
    rfl
  · refine ⟨_, (C8.pss_cut (ps_setLc (i := 2) (own := [("text", 3)]) (g := gName 3) (tt := tYes) (by rfl) sc_moved.nd rfl rfl (sw_true rfl rfl rfl (by decide +kernel)) (pi_list (pe_fld (pv 0) rfl)) (blkOk_by (N := ["self", "layout", "pairs", "text", "row", "_", "rows", "store", "number"]) (sc := defScope s_moved) (by decide +kernel)) (fun _ _ _ _ _ => pg_name (i := 3) sc_moved.nd rfl (Or.inl rfl)) (fun _ _ _ _ _ => pts_nil) (fun _ _ _ _ _ => (pe_dget (hu_of hr) (pe_fldK (K := K) rfl (pv 0)) (pv 3) (fun _ _ => rfl))))
    (C8.pss_cut (ps_for (passes_of rfl) rfl (pi_list (pv 2)) (pg_tup rfl (pgs_cons (pg_name (i := 4) sc_moved.nd rfl (Or.inl rfl)) (pgs_cons (pg_name (i := 5) sc_moved.nd rfl (Or.inl rfl)) pgs_nil)))
      (pss_one (ps_expr (pe_fnS G.check_row (hr.mono (by decide)) (fun σ => passAt (takes_of rfl rfl rfl rfl) σ) (by rfl) (pa_cons (pv 1) (pa_cons (pv 4) pa_nil))))))
    (pss_cons (ps_set (i := 6) sc_moved.nd rfl (Or.inl rfl) pe_dnewK)
    (C8.pss_cut (ps_set (i := 7) sc_moved.nd rfl (Or.inl rfl) (pe_newS (E := fun _ => E0) G.kStore (hr.mono (by decide)) (fun σ => fun _ _ _ _ _ _ h => h.elim) (by rfl) (pa_cons (pv 1) pa_nil)))
    (pss_cons (ps_for (passes_of rfl) rfl (pi_list (pv 2)) (pg_tup rfl (pgs_cons (pg_name (i := 4) sc_moved.nd rfl (Or.inl rfl)) (pgs_cons (pg_name (i := 8) sc_moved.nd rfl (Or.inl rfl)) pgs_nil)))
      (pss_cons (ps_set (i := 3) sc_moved.nd rfl (Or.inl rfl) (pe_fnS G.row_text (hr.mono (by decide)) (fun σ => passAt (takes_of rfl rfl rfl rfl) σ) (by rfl) (pa_cons (pv 1) (pa_cons (pv 4) pa_nil))))
      (pss_cons (ps_if (pt_cmp (pc_din (hu_of hr) (pv 3) (pv 6)))
        (pss_one (ps_raise rfl (takes_of rfl rfl rfl rfl) (pmk_2 G.ecl (hr.mono (by decide)) (by rfl) (pa_cons (pe_dget (hu_of hr) (pv 6) (pv 3) (fun _ _ => rfl)) (pa_cons (pv 4) pa_nil)))))
        pss_nil)
      (pss_cons (ps_dput (hu_of hr) (pv 6) (pv 3) (pv 4) rfl)
      (pss_one (ps_expr (pe_metS G.mPut hr (pv 7) (fun σ => passAt (takes_of rfl rfl rfl rfl) σ) (pa_cons (pv 4) (pa_cons (pv 8) pa_nil)))))))))
    (pss_one (ps_ret (pv 7)))))))), ?_⟩
    obtain ⟨S, L, Tx, Kd, L2, ds, js, m, n, rfl, hS, hn, hLy, hrow, q⟩ := h
    obtain ⟨⟨dx, eS⟩, ⟨ts, eT, hTs, hl⟩, kvs, eK, hK⟩ := id hS
    obtain ⟨es, hes⟩ := ents_of hTs
    have M := q ts es hTs hes
    refine ⟨fun σ J => ∃ v3 v4 v5 v6 v7 v8 D us, σ = [some (.ref S), some (.ref L2), some (.ref D), v3, v4, v5, v6, v7, v8] ∧ Same H J ∧ J D = some (.lst us) ∧ LsIs J us ts m, ?_, ?_⟩
    · refine ⟨_, rfl, S, _, dx, _, _, rfl, eS, G.cStore.cl, G.cStore.no _ (by decide +kernel), lStore_texts, Tx, rfl, ⟨_, SqL.of eT⟩, fun D hD => ?_⟩
      refine lc_list (K := K) (a := Tx) (xs := ts.map V.str) (fun k J => ∃ us : List V, Same H J ∧ J D = some (.lst us) ∧ LsIs J us (ts.take k) m) ⟨[], same_upd hD, upd_same, ⟨rfl, fun i v t h => by cases h⟩⟩ (fun k J hk ⟨_, SJ, _⟩ => SqL.of (SJ _ _ eT)) ?_ ?_
      · rintro k x J hx ⟨us, SJ, eJ, hU⟩
        obtain ⟨t, ht, rfl⟩ : ∃ t, ts[k]? = some t ∧ V.str t = x := by
          rw [List.getElem?_map] at hx
          cases e : ts[k]? with
          | none => rw [e] at hx; cases hx
          | some t => rw [e] at hx; exact ⟨t, rfl, Option.some.inj hx⟩
        obtain ⟨e, he⟩ := Option.isSome_iff_exists.mp ((hTs.2 t).mp (List.mem_of_getElem? ht))
        obtain ⟨r, hv, hE⟩ := hK.2 t e he
        have DG : DGet J Kd (.str t) (some r) := by
          have z := DGet.k (k := Sum.inr t) (SJ _ _ eK)
          rw [hv] at z
          exact z
        have hul : us.length ≤ k := by rw [hU.1, List.length_take]; exact Nat.min_le_left _ _
        have hkl := (List.getElem?_eq_some_iff.mp ht).1
        have nl : NL J (upd J D (.lst (us ++ [r]))) := fun b o n1 n2 h => by
          rw [upd_ne (fun z => n1 us (by rw [z, eJ] at h; exact (Option.some.inj h).symm))]
          exact h
        refine ⟨rfl, _, rfl, S, _, dx, _, _, rfl, SJ _ _ eS, G.cStore.cl, G.cStore.no _ (by decide +kernel), lStore_kept, _, rfl, Kd, r, rfl, DG, us, eJ, by rw [sizeLine_eq]; omega, us ++ [r], same_put SJ hD, upd_same, ?_⟩
        rw [take_snoc ht]
        exact (hU.snoc he (hE.mono fun _ _ q => SJ _ _ q)).nl nl
      · rintro J ⟨us, SJ, eJ, hU⟩
        rw [List.length_map, List.take_length] at hU
        exact ⟨_, _, _, _, _, _, D, us, rfl, SJ, eJ, hU⟩
    rintro σ J ⟨v3, v4, v5, v6, v7, v8, D, us, rfl, SJ, eD, hU⟩
    have hul := hU.1
    have item : ∀ {k : Nat} {x : V} {J1 : Hp}, Same J J1 → us[k]? = some x → ∃ t e r rr, ts[k]? = some t ∧ es[k]? = some e ∧ m t = some e ∧ x = .ref r ∧ J1 r = some (.tup [.ref rr, .int e.2]) ∧ J1 rr = some (.tup e.1) := fun {k} {x} {J1} S1 hx => by
      have hk := (List.getElem?_eq_some_iff.mp hx).1
      obtain ⟨t, ht⟩ : ∃ t, ts[k]? = some t := ⟨_, List.getElem?_eq_getElem (by omega)⟩
      obtain ⟨e, he, r, rr, rfl, h1, h2⟩ := hU.2 k x t hx ht
      obtain ⟨e', he', hm'⟩ := hes.2 k t ht
      rw [he] at hm'
      cases hm'
      exact ⟨t, e, r, rr, ht, he', he, rfl, S1 _ _ h1, S1 _ _ h2⟩
    refine ⟨fun σ J1 => ∃ v3 v4 v5 v6 v7 v8, σ = [some (.ref S), some (.ref L2), some (.ref D), v3, v4, v5, v6, v7, v8] ∧ Same J J1 ∧ ∀ e ∈ es, rowDue ds (some e.1) = none, ?_, ?_⟩
    · refine ⟨_, rfl, D, rfl, ⟨_, SqL.of eD⟩, for_list (K := K) (a := D) (xs := us) (fun k σ J1 => ∃ v3 v4 v5 v6 v7 v8, σ = [some (.ref S), some (.ref L2), some (.ref D), v3, v4, v5, v6, v7, v8] ∧ Same J J1 ∧ ∀ e ∈ es.take k, rowDue ds (some e.1) = none) ⟨_, _, _, _, _, _, rfl, Same.refl _, fun e h => by cases h⟩ (fun k σ J1 _ ⟨_, _, _, _, _, _, _, S1, _⟩ => SqL.of (S1 _ _ eD)) ?_ ?_⟩
      · rintro k x σ J1 hx ⟨w3, w4, w5, w6, w7, w8, rfl, S1, hgd⟩
        obtain ⟨t, e, r, rr, ht, he, hm, rfl, h1, h2⟩ := item S1 hx
        obtain ⟨_, hI⟩ := hrow t e hm
        refine ⟨r, _, rfl, SqT.of h1, rfl, _, _, rfl, _, _, rfl, rfl, ?_⟩
        refine ⟨_, rfl, _, rfl, L2, ds, js, .ref rr, some e.1, rfl, hLy.same (SJ.trans S1), .tup h2, hI _, fun hd J2 S2 => ⟨_, _, _, _, _, _, rfl, S1.trans S2, fun e' h' => ?_⟩, fun z hz => M.row k e z he hz hgd J1 (SJ.trans S1)⟩
        rw [take_snoc he] at h'
        rcases List.mem_append.mp h' with h' | h'
        · exact hgd e' h'
        · rw [List.mem_singleton.mp h']
          exact hd
      · rintro σ J1 ⟨w3, w4, w5, w6, w7, w8, rfl, S1, hgd⟩
        rw [hul, ← hes.1, List.take_length] at hgd
        exact ⟨_, _, _, _, _, _, rfl, S1, hgd⟩
    rintro σ J1 ⟨w3, w4, w5, w6, w7, w8, rfl, S1, hall⟩
    refine fun R hR => ?_
    have SR : Same J1 (upd J1 R (.dK [])) := same_upd hR
    have eR : upd J1 R (.dK []) R = some (.dK []) := upd_same
    generalize upd J1 R (.dK []) = J2 at SR eR ⊢
    have S02 := S1.trans SR
    refine ⟨fun σ J3 => ∃ v3 v4 v5 v8 S2 Tx2 Kd2, σ = [some (.ref S), some (.ref L2), some (.ref D), v3, v4, v5, some (.ref R), some (.ref S2), v8] ∧ Same J2 J3 ∧ J2 S2 = none ∧ J2 Tx2 = none ∧ J2 Kd2 = none ∧ StA K J3 S2 L2 Tx2 Kd2 (fun _ => none) 0, ?_, ?_⟩
    · refine ⟨_, rfl, fun S2 dx2 hS2 hdx2 nd => ⟨S2, dx2, L2, rfl, upd_same, fun Tx2 Kd2 J3 hTx hKd B hst => ⟨rfl, ?_⟩⟩⟩
      have SN := same_new (C := SC K) (fs := []) hS2 hdx2
      refine ⟨_, _, _, _, S2, Tx2, Kd2, rfl, fun b o e => B b o (ne_of_none e hS2) (SN _ _ e), hS2, noneOf SN hTx, noneOf SN hKd, hst⟩
    rintro σ J3 ⟨u3, u4, u5, u8, S2, Tx2, Kd2, rfl, S23, hS2, hTx, hKd, hst⟩
    have S03 := S02.trans S23
    have nRT : R ≠ Tx2 := fun z => by rw [← z, eR] at hTx; cases hTx
    have nRK : R ≠ Kd2 := fun z => by rw [← z, eR] at hKd; cases hKd
    have hD2 := S02 _ _ eD
    refine ⟨_, rfl, D, rfl, ⟨_, SqL.of (S03 _ _ eD)⟩, for_list (K := K) (a := D) (xs := us) (fun k σ J4 => ∃ v3 v4 v5 v8 kvR, σ = [some (.ref S), some (.ref L2), some (.ref D), v3, v4, v5, some (.ref R), some (.ref S2), v8] ∧ Same J J4 ∧ J4 R = some (.dK kvR) ∧ kvR.length ≤ k ∧ (∀ u, (mvL (rowText ds js) (es.take k) u = none → valV kvR (.inr u) = none) ∧ ∀ e0, mvL (rowText ds js) (es.take k) u = some e0 → ∃ rr, valV kvR (.inr u) = some (.ref rr) ∧ J4 rr = some (.tup e0.1)) ∧ (∀ (j : Nat) e', j < k → es[j]? = some e' → mvL (rowText ds js) (es.take j) (rowText ds js e'.1) = none) ∧ StA K J4 S2 L2 Tx2 Kd2 (mvL (rowText ds js) (es.take k)) k)
      ⟨_, _, _, _, [], rfl, S03, S23 _ _ eR, Nat.le_refl _, fun u => ⟨fun _ => rfl, fun e0 z => by cases z⟩, fun j e' z => absurd z (Nat.not_lt_zero _), hst⟩ (fun k σ J4 _ ⟨_, _, _, _, _, _, S4, _⟩ => SqL.of (S4 _ _ eD)) ?_ ?_⟩
    · rintro k x σ J4 hx ⟨y3, y4, y5, y8, kvR, rfl, S4, eR4, hkl, hkeys, hold, hst4⟩
      obtain ⟨t, e, r, rr, ht, he, hm, rfl, h1, h2⟩ := item S4 hx
      have hd := hall e (List.mem_of_getElem? he)
      obtain ⟨hT0, hI⟩ := hrow t e hm
      have hT := hT0 hd
      have hkt := (List.getElem?_eq_some_iff.mp ht).1
      refine ⟨r, _, rfl, SqT.of h1, rfl, _, _, rfl, _, _, rfl, rfl, ?_⟩
      refine ⟨_, rfl, _, rfl, L2, ds, js, .ref rr, some e.1, rfl, hLy.same (SJ.trans S4), .tup h2, hI _, fun _ xs ex => ⟨by cases ex; exact hT, fun J5 S5 => ?_⟩, fun z hz => by rw [hd] at hz; cases hz⟩
      cases ex
      have kJ : J rr = some (.tup e.1) := by
        obtain ⟨t7, e7, r7, rr7, ht7, he7, hm7, ex7, k1, k2⟩ := item (Same.refl J) hx
        rw [ht] at ht7
        cases ht7
        rw [hm] at hm7
        cases hm7
        cases ex7
        have z1 := S4 _ _ k1
        rw [h1] at z1
        injection z1 with z1
        injection z1 with z1
        injection z1 with z1
        injection z1 with z1
        rw [z1]
        exact k2
      cases hno : mvL (rowText ds js) (es.take k) (rowText ds js e.1) with
      | some e0 =>
        obtain ⟨r0, hv1, g0⟩ := (hkeys (rowText ds js e.1)).2 e0 hno
        have DG : DGet J5 R (.str (rowText ds js e.1)) (some (.ref r0)) := by
          have z := DGet.k (k := Sum.inr (rowText ds js e.1)) (S5 _ _ eR4)
          rw [hv1] at z
          exact z
        refine ⟨_, rfl, _, rfl, R, _, rfl, DG, _, rfl, iteT ?_⟩
        exact ⟨_, rfl, _, rfl, R, _, rfl, DG, _, rfl, mkO_2 (M.clash hall k e e0 he hno (fun j e' hj => hold j e' hj) r0 rr J5 (SJ.trans (S4.trans S5)) (S5 _ _ g0) (S5 _ _ h2))⟩
      | none =>
      have hv0 := (hkeys (rowText ds js e.1)).1 hno
      have DG : DGet J5 R (.str (rowText ds js e.1)) none := by
        have z := DGet.k (k := Sum.inr (rowText ds js e.1)) (S5 _ _ eR4)
        rw [hv0] at z
        exact z
      refine ⟨_, rfl, _, rfl, R, _, rfl, DG, _, rfl, iteF ?_⟩
      refine ⟨_, rfl, _, rfl, _, rfl, R, _, rfl, DPut.k (k := .inr (rowText ds js e.1)) (S5 _ _ eR4) (by rw [sizeLine_eq]; omega), ?_⟩
      have S45 := S4.trans S5
      have S6 : Same J (upd J5 R (.dK (putK kvR (.inr (rowText ds js e.1)) (.ref rr)))) := same_put S45 (noneOf S1 hR)
      have eR6 : upd J5 R (.dK (putK kvR (.inr (rowText ds js e.1)) (.ref rr))) R = some (.dK (putK kvR (.inr (rowText ds js e.1)) (.ref rr))) := upd_same
      have h56 : ∀ r xs, J5 r = some (HO.tup xs) → upd J5 R (.dK (putK kvR (.inr (rowText ds js e.1)) (.ref rr))) r = some (.tup xs) := fun r xs z => by
        rw [upd_ne (ne_of z (S5 _ _ eR4) (fun z => by cases z))]
        exact z
      have hst6 := (hst4.same S5).put_other (o := .dK (putK kvR (.inr (rowText ds js e.1)) (.ref rr))) (S5 _ _ eR4) nRK
      generalize upd J5 R (.dK (putK kvR (.inr (rowText ds js e.1)) (.ref rr))) = J6 at S6 eR6 hst6 h56 ⊢
      obtain ⟨⟨dx6, eS6⟩, _, _⟩ := id hst6
      have hJT : J Tx2 = none := noneOf S02 hTx
      have hJK : J Kd2 = none := noneOf S02 hKd
      obtain ⟨t', e', r', rr', ht', he', hm', ex', g1, g2⟩ := item S6 hx
      rw [ht] at ht'
      cases ht'
      rw [hm] at hm'
      cases hm'
      cases ex'
      have S5r := S5 _ _ h1
      have grr : J6 rr = some (.tup e.1) := S6 _ _ kJ
      refine ⟨_, rfl, S2, dx6, _, rfl, eS6, lStore_m _ (by decide +kernel), _, rfl, _, rfl, S2, L2, Tx2, Kd2, ds, js, _, k, .ref rr, some e.1, e.2, rfl, hst6, by omega, hLy.same (SJ.trans S6), .tup grr, hI _, ?_, fun _ xs ex => ⟨by cases ex; exact hT, fun J7 B7 hst7 => ?_⟩, fun z hz => by rw [hd] at hz; cases hz⟩
      · intro z
        injection z with z
        obtain ⟨_, ⟨ts6, eT6, _⟩, _⟩ := hst6
        rw [z, eT6] at grr
        cases grr
      · cases ex
        have S7 : Same J J7 := fun b o eb => B7 b o (ne_of_none eb hJT) (ne_of_none eb hJK) (S6 _ _ eb)
        obtain ⟨_, ⟨tsx, eTx6, _⟩, kvx, eKx6, _⟩ := id hst6
        have h67 : ∀ r xs, J6 r = some (HO.tup xs) → J7 r = some (.tup xs) := fun r xs z => B7 _ _ (ne_of z eTx6 (fun z => by cases z)) (ne_of z eKx6 (fun z => by cases z)) z
        refine ⟨_, _, _, _, _, rfl, S7, B7 _ _ nRT nRK eR6, ?_, fun u => ?_, fun j e' hj he' => ?_, ?_⟩
        · have := length_putK kvR (Sum.inr (rowText ds js e.1) : Key) (.ref rr)
          omega
        · rw [take_snoc he, mvL_snoc, valV_put]
          unfold setM
          by_cases hu : u = rowText ds js e.1
          · rw [if_pos hu, if_pos (by rw [hu])]
            exact ⟨fun z => (by cases z), fun e0 z => (by cases z; exact ⟨rr, rfl, S7 _ _ kJ⟩)⟩
          · rw [if_neg hu, if_neg (fun z => hu (by injection z))]
            refine ⟨(hkeys u).1, fun e0 z => ?_⟩
            obtain ⟨r9, a1, a2⟩ := (hkeys u).2 e0 z
            exact ⟨r9, a1, h67 _ _ (h56 _ _ (S5 _ _ a2))⟩
        · by_cases hjk : j < k
          · exact hold j e' hjk he'
          · have ej : j = k := by omega
            rw [ej] at he' ⊢
            rw [he] at he'
            cases he'
            exact hno
        · rw [take_snoc he, mvL_snoc]
          exact hst7
    · rintro σ J4 ⟨y3, y4, y5, y8, kvR, rfl, S4, eR4, hkl, hkeys, hold, hst4⟩
      rw [hul, ← hes.1, List.take_length] at hst4
      refine ⟨_, rfl, M.good hall (fun j e' he' => hold j e' ?_ he') S2 Tx2 Kd2 J4 (SJ.trans S4) (noneOf SJ (noneOf S02 hS2)) (noneOf SJ (noneOf S02 hTx)) (noneOf SJ (noneOf S02 hKd)) ?_⟩
      · have := (List.getElem?_eq_some_iff.mp he').1
        have := hes.1
        omega
      · obtain ⟨a1, ⟨ts', b1, b2, b3⟩, a3⟩ := hst4
        have hel := hes.1
        exact ⟨a1, ⟨ts', b1, b2, by omega⟩, a3⟩

end
end L2.K77

set_option Elab.async false
set_option linter.all false
set_option maxRecDepth 100000
set_option maxHeartbeats 4000000
/-! What the law draws: fields, their values; all is taken. -/
namespace L2.K77
open PySem PySem.W PySem.Spec PySem.Calls PyProof.Rows L2.Jk
theorem StAt.same {H H' : Hp} {a : Addr} (h : StAt H a) (s : Same H H') : StAt H' a := by
  obtain ⟨x, y, z, e, r⟩ := h
  exact ⟨x, y, z, s _ _ e, r⟩
theorem StAt.ne {H : Hp} {a b : Addr} (h : StAt H a) (n : H b = none) : b ≠ a := by
  obtain ⟨x, y, z, e, r⟩ := h
  exact ne_new e n
theorem pick {α : Type} {xs : List α} {i : Nat} (h : i < xs.length) : ∃ v, xs[i]? = some v ∧ v ∈ xs := ⟨xs[i], List.getElem?_eq_getElem h, List.getElem_mem h⟩
theorem map_eraseIdx' {α β : Type} (g : α → β) : ∀ (xs : List α) (k : Nat), (xs.map g).eraseIdx k = (xs.eraseIdx k).map g
  | [], _ => rfl
  | _ :: _, 0 => rfl
  | x :: xs, k + 1 => by
    show g x :: (xs.map g).eraseIdx k = g x :: (xs.eraseIdx k).map g
    rw [map_eraseIdx' g xs k]
def sgT (z : Str) : List Str := z.cps.toList.map fun c => ⟨#[c]⟩
def lay (z : Str) : Nat → List Str
  | 0 => [""]
  | n + 1 => (lay z n).flatMap fun t => (sgT z).map fun s => t ++ s
def allS (z : Str) (l n : Nat) : List Str := (List.range n).flatMap fun i => if l ≤ i then lay z i else []
theorem allS_succ (z : Str) (l n : Nat) : allS z l (n + 1) = allS z l n ++ (if l ≤ n then lay z n else []) := by
  unfold allS
  rw [List.range_succ, List.flatMap_append]
  simp
theorem made_of {t z : Str} (h : ∀ c ∈ t.cps.toList, c ∈ z.cps.toList) : madeB t z = true := by
  have go : ∀ k, k < t.length → z.cps.contains (t.cps.getD k 0) = true := fun k hk => by
    have hk : k < t.cps.size := hk
    rw [Array.contains_iff]
    have e : t.cps.getD k 0 = t.cps[k] := by simp [Array.getD, hk]
    rw [e]
    have m := h t.cps[k] (by simp)
    simpa using m
  obtain ⟨l1, l2, l3⟩ := lo_facts z.cps.contains t
  have e1 : PySem.stripLo z.cps.contains true t = t.length := by
    rcases l3 with e | e
    · exact e
    · by_cases k : PySem.stripLo z.cps.contains true t < t.length
      · rw [go _ k] at e
        cases e
      · omega
  obtain ⟨h1, h2, _⟩ := hi_facts z.cps.contains t _ l1
  refine decide_eq_true ?_
  have e2 : Txt.stripChars t z = Str.empty := by
    show Txt.stripBy _ _ _ _ = _
    rw [PyProof.Rows.stripBy_eq]
    have e3 : PySem.stripHi z.cps.contains true t (PySem.stripLo z.cps.contains true t) = t.length := by rw [e1] at h1 h2 ⊢; omega
    rw [e3, e1]
    show Str.mk (t.cps.extract t.cps.size t.cps.size) = ⟨#[]⟩
    simp
  rw [e2]
  rfl
theorem lay_mem {z t : Str} {n : Nat} (h : t ∈ lay z (n + 1)) : ∃ a c, a ∈ lay z n ∧ c ∈ z.cps.toList ∧ t.cps.toList = a.cps.toList ++ [c] := by
  obtain ⟨a, ha, hb⟩ := List.mem_flatMap.mp h
  obtain ⟨s, hs, rfl⟩ := List.mem_map.mp hb
  obtain ⟨c, hc, rfl⟩ := List.mem_map.mp hs
  exact ⟨a, c, ha, hc, by show (a.cps ++ #[c]).toList = _; simp⟩
theorem lay_len {z : Str} : ∀ {n : Nat} {t : Str}, t ∈ lay z n → t.length = n
  | 0, t, h => by
    cases List.mem_singleton.mp h
    rfl
  | n + 1, t, h => by
    obtain ⟨a, c, ha, _, e⟩ := lay_mem h
    have k := lay_len ha
    have k : a.cps.size = n := k
    have e2 := congrArg List.length e
    rw [List.length_append, Array.length_toList, Array.length_toList, k] at e2
    exact e2
theorem lay_chars {z : Str} : ∀ {n : Nat} {t : Str}, t ∈ lay z n → ∀ c ∈ t.cps.toList, c ∈ z.cps.toList
  | 0, t, h, c, hc => by
    cases List.mem_singleton.mp h
    cases hc
  | n + 1, t, h, c, hc => by
    obtain ⟨a, c2, ha, h2, e⟩ := lay_mem h
    rw [e] at hc
    rcases List.mem_append.mp hc with hc | hc
    · exact lay_chars ha c hc
    · cases List.mem_singleton.mp hc
      exact h2
theorem snoc_inj {a b : Str} {c d : Nat} (h : a ++ (⟨#[c]⟩ : Str) = b ++ ⟨#[d]⟩) : a = b ∧ c = d := by
  have e : (a.cps ++ #[c]).toList = (b.cps ++ #[d]).toList := congrArg (fun s : Str => s.cps.toList) h
  rw [Array.toList_append, Array.toList_append] at e
  obtain ⟨e1, e2⟩ := List.append_inj' e rfl
  obtain ⟨x⟩ := a
  obtain ⟨y⟩ := b
  have e1 : x.toList = y.toList := e1
  cases e2
  exact ⟨by rw [Array.toList_inj.mp e1], rfl⟩
theorem lay_nodup {z : Str} (h : z.cps.toList.Nodup) : ∀ n, (lay z n).Nodup
  | 0 => List.pairwise_singleton _ _
  | n + 1 => by
    refine List.pairwise_flatMap.mpr ⟨fun a _ => List.pairwise_map.mpr (List.pairwise_map.mpr (h.imp fun {c d} k e => k (snoc_inj e).2)), (lay_nodup h n).imp fun {a b} k x hx y hy e => ?_⟩
    obtain ⟨s, hs, rfl⟩ := List.mem_map.mp hx
    obtain ⟨c, hc, rfl⟩ := List.mem_map.mp hs
    obtain ⟨s2, hs2, rfl⟩ := List.mem_map.mp hy
    obtain ⟨d, hd, rfl⟩ := List.mem_map.mp hs2
    exact k (snoc_inj e).1
theorem lay_length (z : Str) : ∀ n, (lay z n).length = z.cps.size ^ n
  | 0 => rfl
  | n + 1 => by
    show ((lay z n).flatMap fun t => (sgT z).map fun s => t ++ s).length = _
    rw [List.length_flatMap]
    have h1 : ((lay z n).map fun t => ((sgT z).map fun s => t ++ s).length).sum = (lay z n).length * (sgT z).length := by simp [List.map_const']
    have h2 : (sgT z).length = z.cps.size := by unfold sgT; rw [List.length_map, Array.length_toList]
    rw [h1, h2, lay_length z n, Nat.pow_succ]
theorem allS_sub0 (z : Str) (l : Nat) : ∀ n, (allS z l n).Sublist (allS z 0 n)
  | 0 => List.Sublist.refl _
  | n + 1 => by
    rw [allS_succ, allS_succ]
    refine (allS_sub0 z l n).append ?_
    rw [if_pos (Nat.zero_le n)]
    split
    · exact List.Sublist.refl _
    · exact List.nil_sublist _
theorem allS_sub1 (z : Str) (l n : Nat) : ∀ d, (allS z l n).Sublist (allS z l (n + d))
  | 0 => List.Sublist.refl _
  | d + 1 => (allS_sub1 z l n d).trans (by rw [← Nat.add_assoc, allS_succ]; exact List.sublist_append_left _ _)
theorem mem_allS {z t : Str} {l n : Nat} (h : t ∈ allS z l n) : ∃ i, i < n ∧ l ≤ i ∧ t ∈ lay z i := by
  obtain ⟨i, hi, k⟩ := List.mem_flatMap.mp h
  by_cases g : l ≤ i
  · rw [if_pos g] at k
    exact ⟨i, List.mem_range.mp hi, g, k⟩
  · rw [if_neg g] at k
    cases k
theorem hasV_non : ∀ d : PD, d.hasV .non = false
  | .word .. => rfl
  | .number .. => rfl
  | .fixed _ => rfl
  | .listed _ => rfl
  | .ended .. => rfl
theorem newS_all {ks : Nat → Str} : ∀ {n : Nat}, (∀ i j, i < n → j < n → ks i = ks j → i = j) → newS ks n = n
  | 0, _ => rfl
  | n + 1, h => by
    have ih := newS_all (n := n) fun i j hi hj e => h i j (by omega) (by omega) e
    unfold newS
    have no : (List.range n).any (fun j => ks j == ks n) = false := by
      refine Bool.eq_false_iff.mpr fun q => ?_
      obtain ⟨j, hj, e⟩ := List.any_eq_true.mp q
      have lt := List.mem_range.mp hj
      have := h j n (by omega) (by omega) (by simpa using e)
      omega
    rw [no, if_neg Bool.false_ne_true, ih]
theorem map_strV (ts : List Str) : (ts.map V.str).map strV = ts := by
  rw [List.map_map]
  exact List.map_id' ts
theorem lay_strs : ∀ ts : List Str, (∀ t ∈ ts, (PyData.str t).canLay0 = true) → PyData.canLayAll0 ((ts.map V.str).map dV) = true ∧ PyData.depthAll ((ts.map V.str).map dV) ≤ 1
  | [], _ => ⟨rfl, by decide⟩
  | t :: ts, h => by
    obtain ⟨h1, h2⟩ := lay_strs ts fun x hx => h x (List.mem_cons_of_mem _ hx)
    refine ⟨Bool.and_eq_true_iff.mpr ⟨h t (List.mem_cons_self ..), h1⟩, ?_⟩
    show max (PyData.str t).depth _ ≤ 1
    exact Nat.max_le.mpr ⟨by show 0 ≤ 1; decide, h2⟩
theorem erase_perm {α : Type} : ∀ (L : List α) (k : Nat) (h : k < L.length), (L[k] :: L.eraseIdx k).Perm L
  | [], _, h => absurd h (Nat.not_lt_zero _)
  | _ :: _, 0, _ => List.Perm.refl _
  | x :: xs, k + 1, h => (List.Perm.swap x (xs[k]'(Nat.lt_of_succ_lt_succ h)) _).trans ((erase_perm xs k (Nat.lt_of_succ_lt_succ h)).cons x)
theorem StAt.at {H : Hp} {s : Addr} (h : StAt H s) : ∃ xs, H s = some (.lst xs) := by
  obtain ⟨x, y, z, e, _⟩ := h
  exact ⟨_, e⟩
theorem FieldAt.but {K : Frag} {s : Addr} {H H' : Hp} {y : Addr} {xs : List V} (hs : H s = some (.lst xs)) (B : But s H H') : ∀ {d : PD}, FieldAt K H y d → FieldAt K H' y d
  | .word .., ⟨dx, h⟩ => ⟨dx, B _ _ (ne_of h hs (fun z => by cases z)) h⟩
  | .number .., ⟨dx, h⟩ => ⟨dx, B _ _ (ne_of h hs (fun z => by cases z)) h⟩
  | .fixed _, ⟨dx, h⟩ => ⟨dx, B _ _ (ne_of h hs (fun z => by cases z)) h⟩
  | .listed _, ⟨dx, t, h, ⟨o, c, d, g⟩⟩ => ⟨dx, t, B _ _ (ne_of h hs (fun z => by cases z)) h, o, c, d, B _ _ (ne_of g hs (fun z => by cases z)) g⟩
  | .ended .., ⟨dx, h⟩ => ⟨dx, B _ _ (ne_of h hs (fun z => by cases z)) h⟩
theorem FdAt.but {K : Frag} {s : Addr} {H H' : Hp} {y : Addr} (st : StAt H s) (B : But s H H') : ∀ {d : FD}, FdAt K H y d → FdAt K H' y d
  | .pl _, ⟨h, i⟩ => by
    obtain ⟨xs, hs⟩ := st.at
    exact ⟨h.but hs B, i⟩
  | .mk _ _ _, ⟨⟨dx, z, h, k⟩, i⟩ => by
    obtain ⟨xs, hs⟩ := st.at
    exact ⟨⟨dx, z, B _ _ (ne_of h hs (fun z => by cases z)) h, k.but hs B⟩, i⟩
theorem seqT_but {K : Frag} {s t : Addr} {H H' : Hp} {xs zs : List V} (hs : H s = some (.lst zs)) (B : But s H H') (h : SqT K H t xs) : SqT K H' t xs := by
  rcases h with (h | ⟨o, h⟩) | h
  · exact .inl (.inl (B _ _ (ne_of h hs (fun z => by cases z)) h))
  · exact .inl (.inr ⟨o, B _ _ (ne_of h hs (fun z => by cases z)) h⟩)
  · exact .inr h
theorem LayAt.but {K : Frag} {s : Addr} {H H' : Hp} {L : Addr} {ds : List FD} {js : List Str} (st : StAt H s) (B : But s H H') (h : LayAt K H L ds js) : LayAt K H' L ds js := by
  obtain ⟨xs, hs⟩ := st.at
  obtain ⟨⟨dx, t1, t2, ys, a, b, c, d⟩, o⟩ := h
  refine ⟨⟨dx, t1, t2, ys, B _ _ (ne_of a hs (fun z => by cases z)) a, seqT_but hs B b, ⟨c.1, fun i v d a b => ?_⟩, seqT_but hs B d⟩, o⟩
  obtain ⟨y, e, k⟩ := c.2 i v d a b
  exact ⟨y, e, k.but st B⟩
/-! ### what is drawn -/
def wordZ : List Str := ["a", "ab", "b0", "ba"]
def endZ : List Str := ["a", "ab"]
def endE : List Str := ["c", "0"]
def nines : List Str := ["", "a", "b", "ab", "aba", "0", "00", "a0", "abc"]
def numL : List Nat := [0, 1, 8, 9, 99]
def numM : List Nat := [0, 1, 3, 12]
def marks : List Str := ["N", "z"]
inductive Dr : PD → Prop
  | word {z : Str} {l j : Nat} : z ∈ wordZ → l < 2 → j < 3 → Dr (.word (.str z) (.int (l : Nat)) (.int ((l + j : Nat) : Int)))
  | number {l j : Nat} : l ∈ numL → j ∈ numM → Dr (.number (.int (l : Nat)) (.int ((l + j : Nat) : Int)))
  | fixed : Dr (.fixed (.int ((1 : Nat) : Int)))
  | listed {ts : List Str} : ts.Nodup → (∀ t ∈ ts, t ∈ nines) → ts ≠ [] → ts.length ≤ 9 → Dr (.listed (.lst (ts.map V.str)))
  | ended {z e : Str} {l j : Nat} : z ∈ endZ → e ∈ endE → l < 2 → j < 2 → Dr (.ended (.str z) (.str e) (.int (l : Nat)) (.int ((l + j : Nat) : Int)))
inductive DrF : FD → Prop
  | pl {d : PD} : Dr d → DrF (.pl d)
  | mk {n : Str} {d : PD} : n ∈ marks → Dr d → DrF (.mk (.str n) (.str "M") d)
theorem bd_due {l m : Nat} (h : l ≤ m) : bDue (.int (l : Nat)) (.int (m : Nat)) = none := by
  have h1 : decide ((l : Int) < 0) = false := decide_eq_false (by omega)
  have h2 : decide ((m : Int) < (l : Int)) = false := decide_eq_false (by omega)
  show (if (!true || decide ((l : Int) < 0)) = true then _ else if (!decide (V.int (m : Nat) = V.non) && (!true || decide ((m : Int) < (l : Int)))) = true then _ else _) = _
  rw [h1, h2]
  rfl
theorem nM_nat {n : Nat} (h : n ≤ 300) : V.int (n : Nat) ∈ nM := ⟨rfl, fun i e => by injection e with e; omega⟩
theorem word_good0 : ∀ z ∈ wordZ, sBad (.str z) = false ∧ z.length ≤ 2 := by decide +kernel
theorem end_good0 : ∀ z ∈ endZ, sBad (.str z) = false ∧ z.length ≤ 2 ∧ ∀ e ∈ endE, isSignB (.str e) = true ∧ inB e z = false := by decide +kernel
theorem end_len : ∀ e ∈ endE, e.length = 1 := by decide +kernel
theorem nines_are : ∀ t ∈ nines, areB (.str t) = true ∧ t.length ≤ 3 ∧ (PyData.str t).canLay0 = true := by decide +kernel
theorem num_le : (∀ l ∈ numL, l ≤ 99) ∧ ∀ j ∈ numM, j ≤ 12 := by decide
theorem lst_good {ts : List Str} (hn : ts.Nodup) (hs : ∀ t ∈ ts, t ∈ nines) (h0 : ts ≠ []) (hl : ts.length ≤ 9) : PD.In (.listed (.lst (ts.map V.str))) ∧ PD.due (.listed (.lst (ts.map V.str))) = none := by
  obtain ⟨l1, l2⟩ := lay_strs ts fun t ht => (nines_are t (hs t ht)).2.2
  have all : (ts.map V.str).all areB = true := by
    rw [List.all_map]
    exact List.all_eq_true.mpr fun t ht => (nines_are t (hs t ht)).1
  refine ⟨⟨.inl rfl, by show (ts.map V.str).length ≤ 20; rw [List.length_map]; omega, ?_, ?_⟩, ?_⟩
  · intro v hv
    obtain ⟨t, ht, rfl⟩ := List.mem_map.mp hv
    exact ⟨rfl, Nat.le_trans (nines_are t (hs t ht)).2.1 (by decide)⟩
  · refine Bool.and_eq_true_iff.mpr ⟨l1, decide_eq_true ?_⟩
    show PyData.depthAll ((ts.map V.str).map dV) + 1 ≤ 64
    omega
  · show (if (decide ((ts.map V.str).length = 0) || xsBad (ts.map V.str)) = true then _ else _) = _
    have e1 : decide ((ts.map V.str).length = 0) = false := decide_eq_false (by rw [List.length_map]; exact fun e => h0 (List.length_eq_zero_iff.mp e))
    have e2 : xsBad (ts.map V.str) = false := by
      unfold xsBad
      rw [all, map_strV, newS_all ?_, List.length_map]
      · show (false || decide (ts.length < ts.length)) = false
        rw [decide_eq_false (Nat.lt_irrefl _)]
        rfl
      · intro i j hi hj e
        rw [List.getD_eq_getElem?_getD, List.getD_eq_getElem?_getD, List.getElem?_eq_getElem hi, List.getElem?_eq_getElem hj] at e
        exact (List.getElem_inj hn).mp e
    rw [e1, e2]
    rfl
theorem Dr.good : ∀ {d : PD}, Dr d → d.In ∧ d.due = none
  | _, .word (z := z) (l := l) (j := j) a b c => by
    obtain ⟨g1, g2⟩ := word_good0 z a
    refine ⟨⟨⟨rfl, Nat.le_trans g2 (by decide)⟩, nM_nat (by omega), nM_nat (by omega)⟩, ?_⟩
    show oDue _ _ _ = none
    unfold oDue
    rw [g1, if_neg Bool.false_ne_true]
    exact bd_due (Nat.le_add_right _ _)
  | _, .number (l := l) (j := j) a b => by
    have h1 := num_le.1 l a
    have h2 := num_le.2 j b
    exact ⟨⟨nM_nat (by omega), nM_nat (by omega)⟩, bd_due (Nat.le_add_right _ _)⟩
  | _, .fixed => ⟨⟨_, rfl, by decide, by decide⟩, by decide +kernel⟩
  | _, .listed a b c e => lst_good a b c e
  | _, .ended (z := z) (e := e) (l := l) (j := j) a b c f => by
    obtain ⟨g1, g2, g3⟩ := end_good0 z a
    obtain ⟨g4, g5⟩ := g3 e b
    refine ⟨⟨⟨rfl, Nat.le_trans g2 (by decide)⟩, ⟨rfl, by show e.length ≤ 20; rw [end_len e b]; decide⟩, nM_nat (by omega), nM_nat (by omega)⟩, ?_⟩
    show eDue _ _ _ _ = none
    unfold eDue
    rw [g1, g4, if_neg Bool.false_ne_true]
    show (if (!true || inB e z) = true then _ else _) = _
    rw [g5]
    exact bd_due (Nat.le_add_right _ _)
def marks3 : List Str := ["N", "z", "M"]
theorem m3 : ∀ c ∈ marks3, (∀ z ∈ wordZ, inB c z = false) ∧ (∀ z ∈ endZ, inB c z = false) ∧ inB c DG = false ∧ (∀ n ∈ List.range 400, inB c (dg (n : Nat)) = false) ∧ (∀ z ∈ nines, inB c z = false) ∧ ∀ e ∈ endE, c ≠ e := by decide +kernel
theorem Dr.has {c : Str} (hc : c ∈ marks3) : ∀ {d : PD}, Dr d → d.has c = false := by
  obtain ⟨k1, k2, k3, k4, k5, k6⟩ := m3 c hc
  intro d h
  cases h with
  | @word z l j a b e =>
    show (inB c z && _) = false
    rw [k1 _ a]
    rfl
  | @number l j a b =>
    have h1 := num_le.1 l a
    have h2 := num_le.2 j b
    show (if _ then _ else _) = _
    split
    · exact k3
    · refine Bool.eq_false_iff.mpr fun q => ?_
      obtain ⟨i, hi, e⟩ := List.any_eq_true.mp q
      have hi := List.mem_range.mp hi
      have hi : i < (((l + j : Nat) : Int) + 1 - (l : Int)).toNat := hi
      have e2 : (intV (.int (l : Nat)) + (i : Int)) = ((l + i : Nat) : Int) := by show (l : Int) + (i : Int) = _; omega
      rw [e2, k4 (l + i) (List.mem_range.mpr (by omega))] at e
      cases e
  | fixed => exact k3
  | listed a b e f =>
    refine Bool.eq_false_iff.mpr fun q => ?_
    obtain ⟨v, hv, e2⟩ := List.any_eq_true.mp q
    obtain ⟨t, ht, rfl⟩ := List.mem_map.mp hv
    rw [show strV (.str t) = t from rfl, k5 t (b t ht)] at e2
    cases e2
  | @ended z e l j a b _ _ =>
    show (decide (V.str c = .str e) || (inB c z && _)) = false
    rw [k2 z a, decide_eq_false (fun q => k6 e b (by injection q))]
    rfl
theorem marks_facts : ∀ n ∈ marks, isSignB (.str n) = true ∧ n ≠ "M" ∧ n.length = 1 ∧ n ∈ marks3 := by decide +kernel
theorem M_facts : isSignB (.str "M") = true ∧ ("M" : Str) ∈ marks3 := by decide +kernel
theorem DrF.due : ∀ {n : Str} {d : PD}, n ∈ marks → Dr d → OD.due (.mk (.str n) (.str "M") (.pl d)) = none := fun {n d} hn h => by
  obtain ⟨f1, f2, f3, f4⟩ := marks_facts n hn
  show (if (!isSignB (.str n)) = true then _ else if (!isSignB (.str "M") || decide (V.str "M" = .str n)) = true then _ else _) = _
  rw [f1, M_facts.1, decide_eq_false (fun q => f2 (by injection q with q; exact q.symm))]
  show (if (d.has n || d.has "M") = true then _ else _) = _
  rw [h.has f4, h.has M_facts.2]
  rfl
/-! ### their values -/
/-- a value of a plain field, as the law lists them -/
inductive Vl : PD → V → Prop
  | word {z : Str} {l m : Nat} {e : V} {i : Nat} {t : Str} : l ≤ i → i ≤ m → t ∈ lay z i → Vl (.word (.str z) (.int (l : Nat)) (.int (m : Nat))) (.str t)
  | ended {z : Str} {l m : Nat} {e : V} {i : Nat} {t : Str} : l ≤ i → i ≤ m → t ∈ lay z i → Vl (.ended (.str z) e (.int (l : Nat)) (.int (m : Nat))) (.str t)
  | number {l m n : Nat} : l ≤ n → n ≤ m → Vl (.number (.int (l : Nat)) (.int (m : Nat))) (.int (n : Nat))
  | fixed {n : Nat} : n < 10 → Vl (.fixed (.int ((1 : Nat) : Int))) (.int (n : Nat))
  | listed {ts : List Str} {t : Str} : t ∈ ts → Vl (.listed (.lst (ts.map V.str))) (.str t)
inductive VlF : FD → V → Prop
  | pl {d : PD} {v : V} : Vl d v → VlF (.pl d) v
  | non {n m : V} {d : PD} : VlF (.mk n m d) .non
  | mk {n m : V} {d : PD} {v : V} : Vl d v → VlF (.mk n m d) v
theorem word_has {z t : Str} {l m i : Nat} (h1 : l ≤ i) (h2 : i ≤ m) (h3 : t ∈ lay z i) : wordB (.str z) (.int (l : Nat)) (.int (m : Nat)) (.str t) = true := by
  show (madeB t z && (decide ((l : Int) ≤ (t.length : Int)) && (decide (V.int (m : Nat) = .non) || decide ((t.length : Int) ≤ (m : Int))))) = true
  rw [made_of (lay_chars h3), lay_len h3, decide_eq_true (show (l : Int) ≤ (i : Int) by omega), decide_eq_true (show (i : Int) ≤ (m : Int) by omega), Bool.or_true]
  rfl
theorem great1 : great (.int ((1 : Nat) : Int)) = 9 := by decide +kernel
theorem dg_len : ∀ n ∈ List.range 400, (dg (n : Nat)).length ≤ 3 := by decide +kernel
theorem zf_len : ∀ n ∈ List.range 10, (Txt.zfill (dg (n : Nat)) 1).length ≤ 3 := by decide +kernel
/-- what is known of them -/
structure VOk (hv : Bool) (tx : Str) (v : V) : Prop where
  has : hv = true
  flat : flatV v = true
  len : lenV v ≤ 10
  va : vaOk v = true
  tx : tx.length ≤ 20
theorem Vl.ok {d : PD} {v : V} (hd : Dr d) (h : Vl d v) : VOk (d.hasV v) (d.textF v) v := by
  cases h with
  | @word z l m e i t h1 h2 h3 =>
    have hl := lay_len h3
    have hm : m ≤ 4 := by
      generalize em : (V.int (m : Nat)) = M at hd
      cases hd with
      | @word z l j a b c => injection em with em; omega
    refine ⟨word_has h1 h2 h3, rfl, by show t.length ≤ 10; omega, decide_eq_true (show t.length ≤ 900 by omega), by show t.length ≤ 20; omega⟩
  | @ended z l m e i t h1 h2 h3 =>
    have hl := lay_len h3
    generalize em : (V.int (m : Nat)) = M at hd
    cases hd with
    | @ended z e l j a b c f =>
      have hm : m ≤ 4 := by injection em with em; omega
      have he := end_len e b
      refine ⟨em ▸ word_has h1 h2 h3, rfl, by show t.length ≤ 10; omega, decide_eq_true (show t.length ≤ 900 by omega), ?_⟩
      show (t ++ e).length ≤ 20
      rw [append_len]
      omega
  | @number l m n h1 h2 =>
    have hm : m ≤ 150 := by
      generalize em : (V.int (m : Nat)) = M at hd
      cases hd with
      | @number l j a b =>
        have h1 := num_le.1 l a
        have h2 := num_le.2 j b
        injection em with em
        omega
    refine ⟨?_, rfl, by show 0 ≤ 10; decide, ?_, Nat.le_trans (dg_len n (List.mem_range.mpr (by omega))) (by decide)⟩
    · show (true && (decide ((l : Int) ≤ (n : Int)) && (decide (V.int (m : Nat) = .non) || decide ((n : Int) ≤ (m : Int))))) = true
      rw [decide_eq_true (show (l : Int) ≤ (n : Int) by omega), decide_eq_true (show (n : Int) ≤ (m : Int) by omega), Bool.or_true]
      rfl
    · show (decide ((0 : Int) ≤ (n : Int)) && decide ((n : Int) < 400)) = true
      rw [decide_eq_true (by omega), decide_eq_true (by omega)]
      rfl
  | @fixed n h =>
    refine ⟨?_, rfl, by show 0 ≤ 10; decide, ?_, Nat.le_trans (zf_len n (List.mem_range.mpr h)) (by decide)⟩
    · show (true && (decide ((0 : Int) ≤ (n : Int)) && decide ((n : Int) ≤ great (.int ((1 : Nat) : Int))))) = true
      rw [great1, decide_eq_true (show (0 : Int) ≤ (n : Int) by omega), decide_eq_true (show (n : Int) ≤ 9 by omega)]
      rfl
    · show (decide ((0 : Int) ≤ (n : Int)) && decide ((n : Int) < 400)) = true
      rw [decide_eq_true (by omega), decide_eq_true (by omega)]
      rfl
  | @listed ts t h =>
    generalize ex : (LX.lst (ts.map V.str)) = X at hd
    cases hd with
    | @listed ts2 a b c e =>
      injection ex with ex
      have ht : t ∈ ts2 := by
        have z : V.str t ∈ ts2.map V.str := ex ▸ List.mem_map.mpr ⟨t, h, rfl⟩
        obtain ⟨u, hu, e⟩ := List.mem_map.mp z
        injection e with e
        exact e ▸ hu
      have h3 := (nines_are t (b t ht)).2.1
      refine ⟨?_, rfl, by show t.length ≤ 10; omega, decide_eq_true (show t.length ≤ 900 by omega), by show t.length ≤ 20; omega⟩
      show inV (.str t) (ts2.map V.str) = true
      refine List.any_eq_true.mpr ⟨_, List.mem_map.mpr ⟨t, ht, rfl⟩, ?_⟩
      simp [eqV]
structure VFOk (d : FD) (v : V) : Prop where
  has : d.hasV v = true
  flat : flatV v = true
  len : lenV v ≤ 10
  va : vaOk v = true
  tx : (d.textF v).length ≤ 30
  tf : d.tfOk v = true
theorem VlF.ok {d : FD} {v : V} (hd : DrF d) (h : VlF d v) : VFOk d v := by
  cases h with
  | pl h =>
    cases hd with
    | pl hd =>
      obtain ⟨a, b, c, d, e⟩ := h.ok hd
      exact ⟨a, b, c, d, Nat.le_trans e (by decide), rfl⟩
  | @non n m d =>
    cases hd with
    | @mk n d hn hd =>
      obtain ⟨_, _, k, _⟩ := marks_facts n hn
      refine ⟨rfl, rfl, by show 0 ≤ 10; decide, rfl, by show n.length ≤ 30; omega, ?_⟩
      refine decide_eq_true ?_
      cases hd with
      | word a b c => exact Nat.zero_le _
      | number a b => exact Nat.le_trans (dg_len 0 (by decide)) (by decide)
      | fixed => exact Nat.le_trans (zf_len 0 (by decide)) (by decide)
      | listed a b c e => exact Nat.zero_le _
      | @ended z e l j a b _ _ =>
        show (("" : Str) ++ e).length ≤ 900
        rw [append_len, end_len e b]
        decide
  | @mk n m d v h =>
    cases hd with
    | @mk n d hn hd =>
      obtain ⟨a, b, c, e, g⟩ := h.ok hd
      refine ⟨?_, b, c, e, ?_, decide_eq_true (show (d.textF v).length ≤ 900 by omega)⟩
      · show (decide (v = .non) || d.hasV v) = true
        rw [a, Bool.or_true]
      · show (if decide (v = .non) = true then n else "M" ++ d.textF v).length ≤ 30
        obtain ⟨_, _, k, _⟩ := marks_facts n hn
        split
        · omega
        · rw [append_len]
          have : ("M" : Str).length = 1 := rfl
          omega
end L2.K77

set_option Elab.async false
set_option linter.all false
set_option maxRecDepth 100000
set_option maxHeartbeats 4000000
namespace L2.K77
open PySem PySem.W PySem.Spec PySem.Calls PyProof.Rows L2.Jk
theorem itB {b : Bool} {A B : Prop} (h : b = true) (k : A) : if b = true then A else B := by
  rw [h]
  exact iteT k
theorem itC {b : Bool} {A B : Prop} (h : b = false) (k : B) : if b = true then A else B := by
  rw [h]
  exact iteF k
theorem PSs.imp {X : Cx} {st : List Stmt} {t t' : TS} (h : PSs X st t) (k : ∀ D σ H, t' D σ H → t D σ H) : PSs X st t' := ⟨fun pins s σ H D I hw => h.run pins s σ H D I (k D σ H hw)⟩
theorem op_mulStrZ {X : Cx} : OpR X (binaryOp .Mult) (fun x y H Q => ∃ (z : Str) (i : Int), x = .str z ∧ y = .int i ∧ (i = 0 ∨ repOk z i = true) ∧ Q (.str (repS z i)) H) := by
  intro pins s σ H x y v u Q I rx ry h
  obtain ⟨z, i, rfl, rfl, ok, q⟩ := h
  rcases ok with rfl | ok
  · obtain ⟨t, rfl⟩ := rx
    obtain ⟨t', rfl⟩ := ry
    exact P.mul_str_none (by decide) (by decide) ⟨.str _, H, I.tok _, ⟨_, rfl⟩, q⟩
  · exact op_mulStr pins s σ H _ _ v u Q I rx ry ⟨z, i, rfl, rfl, ok, q⟩
section
variable {X : Cx} {o e : Expr} {es : List Expr} {to : TE} {t : TA} {name : Str} {apos cpos : Pos} {T id : String} {r : V → List V → Hp → VK → Prop}
theorem pe_bmK {K : Frag} (hK : X.K = K) (pa : PlainAttrs T) (slot : Slot T name id) (hty : typeOf (.builtin id) = pure (.type "method_descriptor")) (hm : MtR X id r) (ho : PE X o to) (ha : PA X (e :: es) t)
    (hbase : attributeBase o name X.env (eval o X.env) = eval o X.env := by rfl)
    (hfew : ((backTo cpos (starEach (e :: es) X.env)).all (fun x => !x.1) && (backToKw cpos (keywordEach [] X.env)).all (fun x => x.1.isSome)
      && decide ((e :: es).length + ([] : List Keyword).length + (if ([] : List Keyword).isEmpty then 0 else 1) < 30)) = true := by rfl)
    (hline : (apos.endLine == cpos.line) = true := by rfl) (hs : starEach (e :: es) X.env = (false, eval e X.env) :: starEach es X.env := by rfl) (hplain : (backTo cpos (starEach es X.env)).any (·.1) = false := by rfl) :
    PE X (.Call (.Attribute o name apos) (e :: es) [] cpos) (tBM K T r to t) := by
  subst hK
  exact pe_bm pa slot hty hm ho ha hbase hfew hline hs hplain
def rLenK (K : Frag) : List V → Hp → VK → Prop := fun xs H Q => ∃ p ys, xs = [.ref p] ∧ (SqL K H p ys ∨ SqT K H p ys) ∧ Q (.int ys.length) H
theorem call_lenK {K : Frag} (hK : X.K = K) : CallR X (.builtin "len") (rLenK K) := by
  subst hK
  exact call_len_seq
end
end L2.K77

set_option Elab.async false
set_option linter.all false
set_option maxRecDepth 100000
set_option maxHeartbeats 4000000
/-! The law: pick, made, written. -/
namespace L2.K77
open PySem PySem.W PySem.Spec PySem.Calls PyProof.Rows L2.Jk

theorem itN {a b : Str} {A B : Prop} (h : decide (V.str a = V.str b) = false) (k : B) : if decide (V.str a = V.str b) = true then A else B := by
  rw [h]
  exact iteF k
theorem itY {a : V} {A B : Prop} (k : A) : if decide (a = a) = true then A else B := by
  rw [decide_eq_true rfl]
  exact iteT k
def PDAt (s : Addr) (H : Hp) (v : V) : PD → Prop
  | .word x l m => ∃ b, v = .ref b ∧ b ≠ s ∧ H b = some (.tup [.str "word", x, l, m])
  | .number l m => ∃ b, v = .ref b ∧ b ≠ s ∧ H b = some (.tup [.str "number", l, m])
  | .fixed u => ∃ b, v = .ref b ∧ b ≠ s ∧ H b = some (.tup [.str "fixed", u])
  | .listed x => ∃ b u, v = .ref b ∧ b ≠ s ∧ H b = some (.tup [.str "listed", u]) ∧ LXAt H u x ∧ ∀ c, u = .ref c → c ≠ s
  | .ended x e l m => ∃ b, v = .ref b ∧ b ≠ s ∧ H b = some (.tup [.str "ended", x, e, l, m])
def FIn (s : Addr) (H : Hp) (v : V) : FD → Prop
  | .pl d => PDAt s H v d
  | .mk n m d => ∃ b u, v = .ref b ∧ b ≠ s ∧ H b = some (.tup [.str "marked", n, m, u]) ∧ PDAt s H u d
def FD.good : FD → Prop
  | .pl d => d.In ∧ d.due = none
  | .mk n m d => d.In ∧ d.due = none ∧ n ∈ mQ ∧ m ∈ mQ ∧ OD.due (.mk n m (.pl d)) = none
def FD.dep : FD → Nat
  | .pl _ => 0
  | .mk .. => 1
theorem mk_due {n m : V} {i : OD} (h : OD.due (.mk n m i) = none) : isSignB n = true ∧ isSignB m = true := by
  have h : (if (!isSignB n) = true then (some "none" : Option Str) else if (!isSignB m || decide (m = n)) = true then some "mark" else iDue n m i) = none := h
  cases k : isSignB n with
  | false => rw [k] at h; cases h
  | true =>
    rw [k] at h
    cases k2 : isSignB m with
    | false => rw [k2] at h; cases h
    | true => exact ⟨rfl, rfl⟩
theorem PDAt.same {s : Addr} {H H' : Hp} {v : V} (S : Same H H') : ∀ {d : PD}, PDAt s H v d → PDAt s H' v d
  | .word .., ⟨b, e, n, h⟩ => ⟨b, e, n, S _ _ h⟩
  | .number .., ⟨b, e, n, h⟩ => ⟨b, e, n, S _ _ h⟩
  | .fixed _, ⟨b, e, n, h⟩ => ⟨b, e, n, S _ _ h⟩
  | .listed _, ⟨b, u, e, n, h, l, k⟩ => ⟨b, u, e, n, S _ _ h, l.same S, k⟩
  | .ended .., ⟨b, e, n, h⟩ => ⟨b, e, n, S _ _ h⟩
theorem LXAt.but {s : Addr} {H H' : Hp} {v : V} (B : But s H H') (k : ∀ c, v = .ref c → c ≠ s) : ∀ {x : LX}, LXAt H v x → LXAt H' v x
  | .lst _, ⟨b, e, h⟩ => ⟨b, e, B _ _ (k _ e) h⟩
  | .tup _, ⟨b, e, h⟩ => ⟨b, e, by
      obtain ⟨o, c, d, g⟩ := h
      exact ⟨o, c, d, B _ _ (k _ e) g⟩⟩
  | .val _, e => e
theorem PDAt.but {s : Addr} {H H' : Hp} {v : V} (B : But s H H') : ∀ {d : PD}, PDAt s H v d → PDAt s H' v d
  | .word .., ⟨b, e, n, h⟩ => ⟨b, e, n, B _ _ n h⟩
  | .number .., ⟨b, e, n, h⟩ => ⟨b, e, n, B _ _ n h⟩
  | .fixed _, ⟨b, e, n, h⟩ => ⟨b, e, n, B _ _ n h⟩
  | .listed _, ⟨b, u, e, n, h, l, k⟩ => ⟨b, u, e, n, B _ _ n h, l.but B k, k⟩
  | .ended .., ⟨b, e, n, h⟩ => ⟨b, e, n, B _ _ n h⟩
theorem FIn.same {s : Addr} {H H' : Hp} {v : V} (S : Same H H') : ∀ {d : FD}, FIn s H v d → FIn s H' v d
  | .pl _, h => PDAt.same S h
  | .mk .., ⟨b, u, e, n, h, k⟩ => ⟨b, u, e, n, S _ _ h, k.same S⟩
theorem FIn.but {s : Addr} {H H' : Hp} {v : V} (B : But s H H') : ∀ {d : FD}, FIn s H v d → FIn s H' v d
  | .pl _, h => PDAt.but B h
  | .mk .., ⟨b, u, e, n, h, k⟩ => ⟨b, u, e, n, B _ _ n h, k.but B⟩
theorem DrF.good : ∀ {d : FD}, DrF d → d.good
  | _, .pl h => h.good
  | _, .mk (n := n) (d := d) hn h => by
    obtain ⟨g1, g2⟩ := h.good
    obtain ⟨_, _, f4, _⟩ := marks_facts _ hn
    exact ⟨g1, g2, ⟨rfl, by show n.length ≤ 20; rw [f4]; decide⟩, ⟨rfl, by decide⟩, DrF.due hn h⟩
theorem call_str_both {X : Cx} : CallR X (.type "str") (fun xs H Q => (∃ i, xs = [.int i] ∧ i.natAbs.log2 < 1920 ∧ Q (.str (toString i)) H) ∨ ∃ a, xs = [.str a] ∧ Q (.str a) H) := by
  intro pins s σ H xs us Q I r h
  rcases h with h | h
  · exact call_str_int pins s σ H xs us Q I r h
  · exact SkE.call_str_str pins s σ H xs us Q I r h
def spPick : Sp := fun vs H Q _ => ∃ (a p : Addr) (xs : List V), vs = [.ref a, .ref p] ∧ StAt H a ∧ p ≠ a ∧ H p = some (.lst xs) ∧ xs ≠ [] ∧ xs.length ≤ 1000 ∧ ∀ v H', v ∈ xs → But a H H' → StAt H' a → Q v H'
structure GR0 (P : Program) (w : World) (K : Frag) (mg : Str → Option Value) (base : Heap) : Prop extends P9 P w K mg base where
  law_draw : FnAt P w K mg base CX0 1 "_law_draw" ["_law_source_here", "_law_many"] spDraw

structure G6 (P : Program) (w : World) (K : Frag) (mg : Str → Option Value) (base : Heap) : Prop extends GR0 P w K mg base where
  kWord : ClsAt P w K mg base (L2.CX P w) 4 "Word" (ca K 0) ["self", "signs", "least", "most"] (spWord K)
  kNumber : ClsAt P w K mg base (L2.CX P w) 4 "Number" (ca K 1) ["self", "least", "most"] (spNumber K)
  kFixed : ClsAt P w K mg base (L2.CX P w) 4 "Fixed" (ca K 2) ["self", "width"] (spFixed K)
  kListed : ClsAt P w K mg base (L2.CX P w) 4 "Listed" (ca K 3) ["self", "texts"] (spListed K)
  kEnded : ClsAt P w K mg base (L2.CX P w) 4 "Ended" (ca K 4) ["self", "signs", "sign", "least", "most"] (spEnded K)
  kMarked : ClsAt P w K mg base (L2.CX P w) 4 "Marked" (ca K 5) ["self", "none", "mark", "field"] (spMarked K)
def spMd (K : Frag) (n : Nat) : Sp := fun vs H Q _ => ∃ (s0 : Addr) (v : V) (d : FD), vs = [v] ∧ FIn s0 H v d ∧ d.good ∧ d.dep < n ∧ ∀ r H', Same H H' → FdAt K H' r d → Q (.ref r) H'
section
variable {P : Program} {w : World} {K : Frag} {mg : Str → Option Value} {base : Heap} {f : Addr} {fd : FuncData}

abbrev s_law_pick : Stmt := top 48
theorem sc_law_pick : FnScope ["_law_source_here", "_law_items"] ["_law_source_here", "_law_items"] (defScope s_law_pick) := ⟨rfl, rfl, rfl, by decide +kernel, rfl, by decide +kernel, by decide +kernel⟩

theorem ok_law_pick (F : FunD K "_law_pick" "_law_pick" (defArgs s_law_pick) (defBody s_law_pick) (defScope s_law_pick) [] [] f fd) (G : GR0 P w K mg base) : FnOk P w K mg base CX0 2 f fd ["_law_source_here", "_law_items"] spPick := by
  refine F.ok (CX := CX0) sc_law_pick (fun vs H Q E h => ?_) (fun cdv A outer s H vs Q E hr h => ?_)
  · obtain ⟨a, p, xs, rfl, _⟩ := h
    rfl
  · refine ⟨_, PSs.nox (pss_one (ps_ret (pe_ix ix_list (pv 1) (pe_fn G.law_draw hr pass0 (by rfl) (pa_cons (pv 0) (pa_cons (pe_callB call_len_seq (by rfl) G.len (by decide +kernel) (pa_cons (pv 1) pa_nil)) pa_nil))) (fun _ _ => rfl)))), ?_⟩
    obtain ⟨a, p, xs, rfl, st, hne, hp, hx, hl, q⟩ := h
    have hx0 : 0 < xs.length := List.length_pos_iff.mpr hx
    refine ⟨_, rfl, _, rfl, _, rfl, p, xs, rfl, .inl (SqL.of hp), a, (xs.length : Nat), rfl, st, by omega, by omega, fun d1 H1 h0 h1 B1 st1 => ?_⟩
    obtain ⟨i, rfl⟩ : ∃ i : Nat, d1 = (i : Int) := ⟨d1.toNat, by omega⟩
    obtain ⟨v, hv, hm⟩ := pick (xs := xs) (i := i) (by omega)
    exact ⟨p, xs, _, v, rfl, rfl, SqL.of (B1 _ _ hne hp), atI_nat (j := i) hv, q v H1 hm B1 st1⟩

abbrev s_law_made : Stmt := top 49
theorem sc_law_made : FnScope ["_law_spec"] ["_law_spec"] (defScope s_law_made) := ⟨rfl, rfl, rfl, by decide +kernel, rfl, by decide +kernel, by decide +kernel⟩

theorem ok_law_made (F : FunD K "_law_made" "_law_made" (defArgs s_law_made) (defBody s_law_made) (defScope s_law_made) [] [] f fd) (G : G6 P w K mg base) {n : Nat} (AM : FnAt P w K mg base CX0 (n + 5) "_law_made" ["_law_spec"] (spMd K n)) : FnOk P w K mg base CX0 (n + 5 + 1) f fd ["_law_spec"] (spMd K (n + 1)) := by
  refine F.ok (CX := CX0) sc_law_made (fun vs H Q E h => ?_) (fun cdv A outer s H vs Q E hr h => ?_)
  · obtain ⟨s0, v, d, rfl, _⟩ := h
    rfl
  · have hr5 : Room 5 _ := hr.mono (by omega)
    refine ⟨_, PSs.nox (pss_cons (ps_if (pt_cmpR op_eq (pe_ix ix_tup (pv 0) pe_int (fun _ _ => rfl)) pe_str (nomark _))
      (pss_one (ps_ret (pe_newS G.kWord hr5 (fun σ => passAt takes0 σ) (by rfl) (pa_cons (pe_ix ix_tup (pv 0) pe_int (fun _ _ => rfl)) (pa_cons (pe_ix ix_tup (pv 0) pe_int (fun _ _ => rfl)) (pa_cons (pe_ix ix_tup (pv 0) pe_int (fun _ _ => rfl)) pa_nil))))))
      pss_nil)
    (pss_cons (ps_if (pt_cmpR op_eq (pe_ix ix_tup (pv 0) pe_int (fun _ _ => rfl)) pe_str (nomark _))
      (pss_one (ps_ret (pe_newS G.kNumber hr5 (fun σ => passAt takes0 σ) (by rfl) (pa_cons (pe_ix ix_tup (pv 0) pe_int (fun _ _ => rfl)) (pa_cons (pe_ix ix_tup (pv 0) pe_int (fun _ _ => rfl)) pa_nil)))))
      pss_nil)
    (pss_cons (ps_if (pt_cmpR op_eq (pe_ix ix_tup (pv 0) pe_int (fun _ _ => rfl)) pe_str (nomark _))
      (pss_one (ps_ret (pe_newS G.kFixed hr5 (fun σ => passAt takes0 σ) (by rfl) (pa_cons (pe_ix ix_tup (pv 0) pe_int (fun _ _ => rfl)) pa_nil))))
      pss_nil)
    (pss_cons (ps_if (pt_cmpR op_eq (pe_ix ix_tup (pv 0) pe_int (fun _ _ => rfl)) pe_str (nomark _))
      (pss_one (ps_ret (pe_newS G.kListed hr5 (fun σ => passAt takes0 σ) (by rfl) (pa_cons (pe_ix ix_tup (pv 0) pe_int (fun _ _ => rfl)) pa_nil))))
      pss_nil)
    (pss_cons (ps_if (pt_cmpR op_eq (pe_ix ix_tup (pv 0) pe_int (fun _ _ => rfl)) pe_str (nomark _))
      (pss_one (ps_ret (pe_newS G.kEnded hr5 (fun σ => passAt takes0 σ) (by rfl) (pa_cons (pe_ix ix_tup (pv 0) pe_int (fun _ _ => rfl)) (pa_cons (pe_ix ix_tup (pv 0) pe_int (fun _ _ => rfl)) (pa_cons (pe_ix ix_tup (pv 0) pe_int (fun _ _ => rfl)) (pa_cons (pe_ix ix_tup (pv 0) pe_int (fun _ _ => rfl)) pa_nil)))))))
      pss_nil)
    (pss_one (ps_ret (pe_newS G.kMarked hr5 (fun σ => passAt takes0 σ) (by rfl) (pa_cons (pe_ix ix_tup (pv 0) pe_int (fun _ _ => rfl)) (pa_cons (pe_ix ix_tup (pv 0) pe_int (fun _ _ => rfl)) (pa_cons (pe_fn AM hr pass0 (by rfl) (pa_cons (pe_ix ix_tup (pv 0) pe_int (fun _ _ => rfl)) pa_nil)) pa_nil))))))))))), ?_⟩
    obtain ⟨s0, v, d, rfl, hP, hg, hdep, q⟩ := h
    cases d with
    | mk n m d =>
      obtain ⟨b, u, rfl, hne, hb, hI⟩ := hP
      obtain ⟨hin, hd, hn, hm, hod⟩ := hg
      obtain ⟨sn, sm⟩ := mk_due hod
      refine ⟨_, rfl, b, _, _, _, rfl, rfl, SqT.of hb, atI_nat (j := 0) rfl, rfl, _, rfl, itN (by decide +kernel) ?_⟩
      refine ⟨_, rfl, b, _, _, _, rfl, rfl, SqT.of hb, atI_nat (j := 0) rfl, rfl, _, rfl, itN (by decide +kernel) ?_⟩
      refine ⟨_, rfl, b, _, _, _, rfl, rfl, SqT.of hb, atI_nat (j := 0) rfl, rfl, _, rfl, itN (by decide +kernel) ?_⟩
      refine ⟨_, rfl, b, _, _, _, rfl, rfl, SqT.of hb, atI_nat (j := 0) rfl, rfl, _, rfl, itN (by decide +kernel) ?_⟩
      refine ⟨_, rfl, b, _, _, _, rfl, rfl, SqT.of hb, atI_nat (j := 0) rfl, rfl, _, rfl, itN (by decide +kernel) ?_⟩
      refine ⟨_, rfl, b, _, _, _, rfl, rfl, SqT.of hb, atI_nat (j := 1) rfl, _, rfl, b, _, _, _, rfl, rfl, SqT.of hb, atI_nat (j := 2) rfl, _, rfl, b, _, _, _, rfl, rfl, SqT.of hb, atI_nat (j := 3) rfl, s0, u, .pl d, rfl, hI, ⟨hin, hd⟩, Nat.lt_of_succ_lt_succ hdep, fun r H1 S1 hR => ?_⟩
      intro a dx ha hx ne
      refine ⟨a, dx, n, m, .ref r, .pl d, rfl, upd_same, hn, hm, ⟨r, rfl, hR.1.same (same_new ha hx), hin, hd⟩, fun e H2 S2 => ⟨rfl, ?_⟩, fun z e => (by have e3 := hod.symm.trans e; cases e3)⟩
      have SH : Same H1 H2 := (same_new ha hx).trans S2
      exact q _ _ (S1.trans (same_put SH ha)) ⟨⟨dx, r, upd_same, hR.1.same (same_put SH ha)⟩, hin, hd, ⟨_, (sign_one sn).1⟩, _, (sign_one sm).1⟩
    | pl d =>
    obtain ⟨hin, hd⟩ := hg
    cases d with
    | word s l m =>
      obtain ⟨b, rfl, hn, hb⟩ := hP
      have hin0 := hin
      obtain ⟨hs, hl, hm⟩ := hin
      refine ⟨_, rfl, b, _, _, _, rfl, rfl, SqT.of hb, atI_nat (j := 0) rfl, rfl, _, rfl, itY ?_⟩
      refine ⟨_, rfl, b, _, _, _, rfl, rfl, SqT.of hb, atI_nat (j := 1) rfl, _, rfl, b, _, _, _, rfl, rfl, SqT.of hb, atI_nat (j := 2) rfl, _, rfl, b, _, _, _, rfl, rfl, SqT.of hb, atI_nat (j := 3) rfl, fun a dx ha hx ne => ?_⟩
      exact ⟨a, dx, s, l, m, rfl, upd_same, hs, hl, hm, fun e => ⟨rfl, q _ _ (same_put (same_new ha hx) ha) ⟨⟨dx, upd_same⟩, hin0, hd⟩⟩, fun z e => (by have e3 := hd.symm.trans e; cases e3)⟩
    | number l m =>
      obtain ⟨b, rfl, hn, hb⟩ := hP
      have hin0 := hin
      obtain ⟨hl, hm⟩ := hin
      refine ⟨_, rfl, b, _, _, _, rfl, rfl, SqT.of hb, atI_nat (j := 0) rfl, rfl, _, rfl, itN (by decide +kernel) ?_⟩
      refine ⟨_, rfl, b, _, _, _, rfl, rfl, SqT.of hb, atI_nat (j := 0) rfl, rfl, _, rfl, itY ?_⟩
      refine ⟨_, rfl, b, _, _, _, rfl, rfl, SqT.of hb, atI_nat (j := 1) rfl, _, rfl, b, _, _, _, rfl, rfl, SqT.of hb, atI_nat (j := 2) rfl, fun a dx ha hx ne => ?_⟩
      exact ⟨a, dx, l, m, rfl, upd_same, hl, hm, fun e => ⟨rfl, q _ _ (same_put (same_new ha hx) ha) ⟨⟨dx, upd_same⟩, hin0, hd⟩⟩, fun z e => (by have e3 := hd.symm.trans e; cases e3)⟩
    | fixed w =>
      obtain ⟨b, rfl, hn, hb⟩ := hP
      have hin0 := hin
      refine ⟨_, rfl, b, _, _, _, rfl, rfl, SqT.of hb, atI_nat (j := 0) rfl, rfl, _, rfl, itN (by decide +kernel) ?_⟩
      refine ⟨_, rfl, b, _, _, _, rfl, rfl, SqT.of hb, atI_nat (j := 0) rfl, rfl, _, rfl, itN (by decide +kernel) ?_⟩
      refine ⟨_, rfl, b, _, _, _, rfl, rfl, SqT.of hb, atI_nat (j := 0) rfl, rfl, _, rfl, itY ?_⟩
      refine ⟨_, rfl, b, _, _, _, rfl, rfl, SqT.of hb, atI_nat (j := 1) rfl, fun a dx ha hx ne => ?_⟩
      exact ⟨a, dx, w, rfl, upd_same, hin, fun e => ⟨rfl, q _ _ (same_put (same_new ha hx) ha) ⟨⟨dx, upd_same⟩, hin0, hd⟩⟩, fun z e => (by have e3 := hd.symm.trans e; cases e3)⟩
    | ended s e l m =>
      obtain ⟨b, rfl, hn, hb⟩ := hP
      have hin0 := hin
      obtain ⟨hs, he, hl, hm⟩ := hin
      refine ⟨_, rfl, b, _, _, _, rfl, rfl, SqT.of hb, atI_nat (j := 0) rfl, rfl, _, rfl, itN (by decide +kernel) ?_⟩
      refine ⟨_, rfl, b, _, _, _, rfl, rfl, SqT.of hb, atI_nat (j := 0) rfl, rfl, _, rfl, itN (by decide +kernel) ?_⟩
      refine ⟨_, rfl, b, _, _, _, rfl, rfl, SqT.of hb, atI_nat (j := 0) rfl, rfl, _, rfl, itN (by decide +kernel) ?_⟩
      refine ⟨_, rfl, b, _, _, _, rfl, rfl, SqT.of hb, atI_nat (j := 0) rfl, rfl, _, rfl, itN (by decide +kernel) ?_⟩
      refine ⟨_, rfl, b, _, _, _, rfl, rfl, SqT.of hb, atI_nat (j := 0) rfl, rfl, _, rfl, itY ?_⟩
      refine ⟨_, rfl, b, _, _, _, rfl, rfl, SqT.of hb, atI_nat (j := 1) rfl, _, rfl, b, _, _, _, rfl, rfl, SqT.of hb, atI_nat (j := 2) rfl, _, rfl, b, _, _, _, rfl, rfl, SqT.of hb, atI_nat (j := 3) rfl, _, rfl, b, _, _, _, rfl, rfl, SqT.of hb, atI_nat (j := 4) rfl, fun a dx ha hx ne => ?_⟩
      exact ⟨a, dx, s, e, l, m, rfl, upd_same, hs, he, hl, hm, fun e => ⟨rfl, q _ _ (same_put (same_new ha hx) ha) ⟨⟨dx, upd_same⟩, hin0, hd⟩⟩, fun z e => (by have e3 := hd.symm.trans e; cases e3)⟩
    | listed x =>
      obtain ⟨b, u, rfl, hn, hb, hL, _⟩ := hP
      refine ⟨_, rfl, b, _, _, _, rfl, rfl, SqT.of hb, atI_nat (j := 0) rfl, rfl, _, rfl, itN (by decide +kernel) ?_⟩
      refine ⟨_, rfl, b, _, _, _, rfl, rfl, SqT.of hb, atI_nat (j := 0) rfl, rfl, _, rfl, itN (by decide +kernel) ?_⟩
      refine ⟨_, rfl, b, _, _, _, rfl, rfl, SqT.of hb, atI_nat (j := 0) rfl, rfl, _, rfl, itN (by decide +kernel) ?_⟩
      refine ⟨_, rfl, b, _, _, _, rfl, rfl, SqT.of hb, atI_nat (j := 0) rfl, rfl, _, rfl, itY ?_⟩
      refine ⟨_, rfl, b, _, _, _, rfl, rfl, SqT.of hb, atI_nat (j := 1) rfl, fun a dx ha hx ne => ?_⟩
      refine ⟨a, dx, u, x, rfl, upd_same, hin, hL.same (same_new ha hx), fun e t H2 S2 e2 => ⟨rfl, ?_⟩, fun z e => (by have e3 := hd.symm.trans e; cases e3)⟩
      have SH : Same H H2 := (same_new ha hx).trans S2
      obtain ⟨ob, c1, c2, c3⟩ := e2
      have nt : t ≠ a := ne_of c3 (S2 _ _ upd_same) (fun z => by cases z)
      exact q _ _ (same_put SH ha) ⟨⟨dx, t, upd_same, ob, c1, c2, by rw [upd_ne nt]; exact c3⟩, hin, hd⟩


end
end L2.K77

set_option Elab.async false
set_option linter.all false
set_option maxRecDepth 100000
set_option maxHeartbeats 4000000
/-! range(n) as a value; list(range(..)). -/
namespace L2.Jk
open PySem PySem.W PySem.Spec PySem.Calls PyProof.Rows
section
variable {X : Cx}
theorem cr_range1 : CallR X (.type "range") (fun vs H Q => ∃ j, vs = [V.int j] ∧ ∀ p, H p = none → Q (.ref p) (upd H p (.rng 0 j))) := by
  intro pins s σ H vs us Q I r h
  obtain ⟨j, rfl, q⟩ := h
  obtain ⟨u1, rfl, ri⟩ := vals1 r
  obtain ⟨t, rfl⟩ := ri
  refine call_range_1 ⟨.ref s.heap.objs.size, upd H s.heap.objs.size (.rng 0 j), I.laid (t' := s.toks + 1 + 1) (fun b o e => Heap.get?_push_of_some _ e) (Nat.le_refl _) ?_, rfl, q _ (I.hok.fresh (Nat.le_refl _))⟩
  exact ⟨s.toks, t, s.toks + 1, Heap.get?_push_size _ rfl⟩
def intsV (lo : Int) (n : Nat) : List V := (List.range n).map fun i : Nat => V.int (lo + (i : Int))
theorem rng_size (lo : Int) (n : Nat) : Builtin.Range.rangeSize lo (lo + n) 1 = (n : Int) := by
  unfold Builtin.Range.rangeSize
  rw [if_pos (by decide)]
  split
  · rw [Int.ediv_one]
    omega
  · omega
theorem call_list_rng (hc : X.calm = true) : CallR X (.type "list") (fun xs H Q => ∃ (p : Addr) (lo : Int) (n : Nat), xs = [.ref p] ∧ H p = some (.rng lo (lo + n)) ∧ -1000 ≤ lo ∧ lo ≤ 1000 ∧ n ≤ 1000 ∧
    ∀ l H', H l = none → Same H H' → H' l = some (.lst (intsV lo n)) → Q (.ref l) H') := by
  intro pins s σ H xs us Q I r h
  obtain ⟨p, lo, n, rfl, hp, h0, h1, hn, q⟩ := h
  obtain ⟨u, rfl, ru⟩ := vals1 r
  cases ru
  obtain ⟨t, u, v, e⟩ := (show ObjOk X.prog X.w H s.heap p (.rng lo (lo + n)) from I.hok p _ hp)
  refine call_list_range (n := n) (I.ok.hd hc) e (small_one (by omega) (by omega) (by omega) (by omega)) (rng_size lo n) (by omega) (fun h' tk acc c k hp2 ha => ?_)
  obtain ⟨al, ai⟩ := ha
  have vs : Vals (intsV lo n) acc.toList := by
    refine paired_of (show (intsV lo n).length = acc.toList.length by
      have e : acc.toList.length = acc.size := Array.length_toList
      rw [e, al]
      simp [intsV]) fun i x v hx hv => ?_
    have hi : i < n := by
      have := (List.getElem?_eq_some_iff.mp hx).1
      simpa [intsV] using this
    obtain ⟨t', e⟩ := ai i v (by rw [← Array.getElem?_toList]; exact hv)
    subst e
    have e2 : x = V.int (lo + (i : Int)) := by
      unfold intsV at hx
      rw [List.getElem?_map, List.getElem?_range hi] at hx
      exact (Option.some.inj hx).symm
    subst e2
    exact ⟨t', by rw [Int.mul_one]⟩
  have nf := I.fresh
  refine ⟨.ref s.heap.objs.size, _, I.laid (t' := tk) (h' := h') (o := .lst (intsV lo n)) k (Nat.le_refl _) ⟨?_, acc.toList, c, vs, by simpa using hp2⟩, rfl, q _ _ nf (same_upd nf) upd_same⟩
  simp only [intsV, List.length_map, List.length_range]
  rw [sizeLine_eq]
  omega
end
end L2.Jk

set_option Elab.async false
set_option linter.all false
set_option maxRecDepth 100000
set_option maxHeartbeats 4000000
/-! The law: the values of fields, in their order; rows. -/
namespace L2.K77
open PySem PySem.W PySem.Spec PySem.Calls PyProof.Rows L2.Jk
/-- the law's fields, at a list -/
def SpsAt (s0 : Addr) (H : Hp) (vs : List V) (ds : List FD) : Prop := vs.length = ds.length ∧ ∀ (i : Nat) (v : V) (d : FD), vs[i]? = some v → ds[i]? = some d → FIn s0 H v d
theorem SpsAt.same {s0 : Addr} {H H' : Hp} {vs : List V} {ds : List FD} (S : Same H H') (h : SpsAt s0 H vs ds) : SpsAt s0 H' vs ds := ⟨h.1, fun i v d a b => (h.2 i v d a b).same S⟩
theorem SpsAt.but {s0 : Addr} {H H' : Hp} {vs : List V} {ds : List FD} (B : But s0 H H') (h : SpsAt s0 H vs ds) : SpsAt s0 H' vs ds := ⟨h.1, fun i v d a b => (h.2 i v d a b).but B⟩
theorem SpsAt.get {s0 : Addr} {H : Hp} {vs : List V} {ds : List FD} (h : SpsAt s0 H vs ds) {i : Nat} {v : V} (e : vs[i]? = some v) : ∃ d, ds[i]? = some d ∧ FIn s0 H v d := by
  have hi := (List.getElem?_eq_some_iff.mp e).1
  have e2 := List.getElem?_eq_getElem (show i < ds.length by rw [← h.1]; exact hi)
  exact ⟨_, e2, h.2 i v _ e e2⟩
theorem FD.dep_lt : ∀ d : FD, d.dep < 2
  | .pl _ => by show 0 < 2; decide
  | .mk .. => by show 1 < 2; decide
/-! ### the one list of values -/
def VsP : PD → List V → Prop
  | .word z l m, xs => ∃ ys : List Str, xs = ys.map V.str ∧ ys.Perm (allS (strV z) (intV l).toNat ((intV m).toNat + 1)) ∧ sortedS ys = true
  | .number l m, xs => xs = intsV (intV l) (intV m + 1 - intV l).toNat
  | .fixed _, xs => xs = intsV 0 10
  | .listed x, xs => xs = x.els
  | .ended z _ l m, xs => ∃ ys : List Str, xs = ys.map V.str ∧ ys.Perm (allS (strV z) (intV l).toNat ((intV m).toNat + 1)) ∧ sortedS ys = true
def VsF : FD → List V → Prop
  | .pl d, xs => VsP d xs
  | .mk _ _ d, xs => ∃ ys, xs = .non :: ys ∧ VsP d ys
theorem str_anti {a b : Str} (h1 : a.cps.toList ≤ b.cps.toList) (h2 : b.cps.toList ≤ a.cps.toList) : a = b := by
  have e := List.le_antisymm h1 h2
  cases a
  cases b
  exact congrArg Str.mk (Array.toList_inj.mp e)
theorem sorted_one {xs ys zs : List Str} (p1 : xs.Perm zs) (p2 : ys.Perm zs) (s1 : sortedS xs = true) (s2 : sortedS ys = true) : xs = ys :=
  List.Perm.eq_of_pairwise (fun _ _ _ _ a b => str_anti a b) (sorted_pw s1) (sorted_pw s2) (p1.trans p2.symm)
theorem VsP.one {xs ys : List V} : ∀ {d : PD}, VsP d xs → VsP d ys → xs = ys
  | .word .., ⟨a, e1, p1, s1⟩, ⟨b, e2, p2, s2⟩ => by rw [e1, e2, sorted_one p1 p2 s1 s2]
  | .number .., h1, h2 => Eq.trans h1 (Eq.symm h2)
  | .fixed _, h1, h2 => Eq.trans h1 (Eq.symm h2)
  | .listed _, h1, h2 => Eq.trans h1 (Eq.symm h2)
  | .ended .., ⟨a, e1, p1, s1⟩, ⟨b, e2, p2, s2⟩ => by rw [e1, e2, sorted_one p1 p2 s1 s2]
theorem VsF.one {xs ys : List V} : ∀ {d : FD}, VsF d xs → VsF d ys → xs = ys
  | .pl _, h1, h2 => VsP.one h1 h2
  | .mk .., ⟨a, e1, p1⟩, ⟨b, e2, p2⟩ => by rw [e1, e2, VsP.one p1 p2]
/-- in order: what comes later is not put before, and what is not put before either way is one -/
structure Ord (bef : V → V → Bool) (xs : List V) : Prop where
  up : xs.Pairwise fun a b => bef b a = false
  irr : ∀ x ∈ xs, bef x x = false
  tot : ∀ x ∈ xs, ∀ y ∈ xs, bef x y = false → bef y x = false → x = y
theorem strs_ord (ys : List Str) (h : sortedS ys = true) (bef : V → V → Bool) (hb : ∀ v u, bef v u = decide ((strV v).cps.toList < (strV u).cps.toList)) : Ord bef (ys.map V.str) := by
  refine ⟨?_, fun x hx => ?_, fun x hx y hy e1 e2 => ?_⟩
  · refine List.pairwise_map.mpr ((sorted_pw h).imp fun {a b} z => ?_)
    rw [hb]
    exact decide_eq_false z
  · rw [hb]
    exact decide_eq_false (List.lt_irrefl _)
  · obtain ⟨a, _, rfl⟩ := List.mem_map.mp hx
    obtain ⟨b, _, rfl⟩ := List.mem_map.mp hy
    rw [hb] at e1 e2
    have h1 : b.cps.toList ≤ a.cps.toList := of_decide_eq_false e1
    have h2 : a.cps.toList ≤ b.cps.toList := of_decide_eq_false e2
    rw [str_anti h2 h1]
theorem ints_ord (lo : Int) (n : Nat) (bef : V → V → Bool) (hb : ∀ v u, bef v u = decide (intV v < intV u)) : Ord bef (intsV lo n) := by
  refine ⟨?_, fun x hx => ?_, fun x hx y hy e1 e2 => ?_⟩
  · unfold intsV
    refine List.pairwise_map.mpr ((List.pairwise_lt_range).imp fun {a b} z => ?_)
    rw [hb]
    exact decide_eq_false (show ¬ lo + (b : Int) < lo + (a : Int) by omega)
  · rw [hb]
    exact decide_eq_false (Int.lt_irrefl _)
  · obtain ⟨a, _, rfl⟩ := List.mem_map.mp hx
    obtain ⟨b, _, rfl⟩ := List.mem_map.mp hy
    rw [hb] at e1 e2
    have h1 : ¬ lo + (a : Int) < lo + (b : Int) := of_decide_eq_false e1
    have h2 : ¬ lo + (b : Int) < lo + (a : Int) := of_decide_eq_false e2
    exact congrArg V.int (by omega)
theorem idx_get {ts : List Str} (hn : ts.Nodup) {i : Nat} {t : Str} (h : ts[i]? = some t) : idx t ts = i := by
  obtain ⟨k, hk⟩ := idx_at (z := t) (List.mem_of_getElem? h)
  obtain ⟨l1, e1⟩ := List.getElem?_eq_some_iff.mp k
  obtain ⟨l2, e2⟩ := List.getElem?_eq_some_iff.mp h
  exact (List.getElem_inj hn).mp (e1.trans e2.symm)
theorem map_strV2 (ts : List Str) : (ts.map V.str).map strV = ts := by
  rw [List.map_map]
  exact List.map_id' ts
theorem list_ord {ts : List Str} (hn : ts.Nodup) (bef : V → V → Bool) (hb : ∀ v u, bef v u = decide ((idx (strV v) ts : Int) < (idx (strV u) ts : Int))) : Ord bef (ts.map V.str) := by
  refine ⟨?_, fun x hx => ?_, fun x hx y hy e1 e2 => ?_⟩
  · refine List.pairwise_iff_getElem.mpr fun i j hi hj hij => ?_
    rw [List.length_map] at hi hj
    rw [hb, List.getElem_map, List.getElem_map]
    refine decide_eq_false ?_
    show ¬ (idx ts[j] ts : Int) < (idx ts[i] ts : Int)
    rw [idx_get hn (List.getElem?_eq_getElem hi), idx_get hn (List.getElem?_eq_getElem hj)]
    omega
  · rw [hb]
    exact decide_eq_false (Int.lt_irrefl _)
  · obtain ⟨a, ha, rfl⟩ := List.mem_map.mp hx
    obtain ⟨b, hb', rfl⟩ := List.mem_map.mp hy
    rw [hb] at e1 e2
    have h1 : ¬ (idx a ts : Int) < (idx b ts : Int) := of_decide_eq_false e1
    have h2 : ¬ (idx b ts : Int) < (idx a ts : Int) := of_decide_eq_false e2
    have e : idx a ts = idx b ts := by omega
    have k1 := (idx_at ha).1
    have k2 := (idx_at hb').1
    rw [e, k2] at k1
    exact congrArg V.str (Option.some.inj k1).symm
theorem VsP.ord {xs : List V} : ∀ {d : PD}, Dr d → VsP d xs → Ord (fun v u => d.bef v u) xs
  | _, .word _ _ _, ⟨ys, e, _, s⟩ => by rw [e]; exact strs_ord ys s _ fun _ _ => rfl
  | _, .number _ _, h => by rw [show xs = _ from h]; exact ints_ord _ _ _ fun _ _ => rfl
  | _, .fixed, h => by rw [show xs = _ from h]; exact ints_ord _ _ _ fun _ _ => rfl
  | _, .listed (ts := ts) hn _ _ _, h => by
    rw [show xs = ts.map V.str from h]
    refine list_ord hn _ fun v u => ?_
    show decide ((idx (strV v) ((ts.map V.str).map strV) : Int) < (idx (strV u) ((ts.map V.str).map strV) : Int)) = _
    rw [map_strV2]
  | _, .ended _ _ _ _, ⟨ys, e, _, s⟩ => by rw [e]; exact strs_ord ys s _ fun _ _ => rfl
theorem VsP.kind {xs : List V} : ∀ {d : PD}, Dr d → VsP d xs → ∀ x ∈ xs, x ≠ .non
  | _, .word _ _ _, ⟨ys, e, _, s⟩, x, hx => by
    rw [e] at hx
    obtain ⟨a, _, rfl⟩ := List.mem_map.mp hx
    exact fun z => by cases z
  | _, .number _ _, h, x, hx => by
    rw [show xs = _ from h] at hx
    obtain ⟨a, _, rfl⟩ := List.mem_map.mp hx
    exact fun z => by cases z
  | _, .fixed, h, x, hx => by
    rw [show xs = _ from h] at hx
    obtain ⟨a, _, rfl⟩ := List.mem_map.mp hx
    exact fun z => by cases z
  | _, .listed (ts := ts) hn _ _ _, h, x, hx => by
    rw [show xs = ts.map V.str from h] at hx
    obtain ⟨a, _, rfl⟩ := List.mem_map.mp hx
    exact fun z => by cases z
  | _, .ended _ _ _ _, ⟨ys, e, _, s⟩, x, hx => by
    rw [e] at hx
    obtain ⟨a, _, rfl⟩ := List.mem_map.mp hx
    exact fun z => by cases z
theorem VsF.ord {xs : List V} {d : FD} (hd : DrF d) (h : VsF d xs) : Ord (fun v u => d.bef v u) xs := by
  cases hd with
  | pl hd => exact VsP.ord hd h
  | @mk n d hn hd =>
    obtain ⟨ys, rfl, k⟩ := h
    have o := k.ord hd
    have nn := k.kind hd
    have r : ∀ v u, FD.bef v u (.mk (.str n) (.str "M") d) = if decide (u = .non) = true then false else decide (v = .non) || d.bef v u := fun _ _ => rfl
    have r1 : ∀ v, FD.bef v .non (.mk (.str n) (.str "M") d) = false := fun v => by rw [r, if_pos (by decide)]
    have r2 : ∀ v u, v ≠ .non → u ≠ .non → FD.bef v u (.mk (.str n) (.str "M") d) = d.bef v u := fun v u a b => by
      rw [r, decide_eq_false b, decide_eq_false a]
      rfl
    have r3 : ∀ u, u ≠ .non → FD.bef .non u (.mk (.str n) (.str "M") d) = true := fun u b => by
      rw [r, decide_eq_false b]
      rfl
    refine ⟨List.pairwise_cons.mpr ⟨fun y hy => r1 y, ?_⟩, fun x hx => ?_, fun x hx y hy e1 e2 => ?_⟩
    · refine List.Pairwise.imp_of_mem (fun {a b} ha hb z => ?_) o.up
      show FD.bef b a (.mk (.str n) (.str "M") d) = false
      rw [r2 _ _ (nn b hb) (nn a ha)]
      exact z
    · rcases List.mem_cons.mp hx with rfl | hx
      · exact r1 _
      · show FD.bef x x (.mk (.str n) (.str "M") d) = false
        rw [r2 _ _ (nn x hx) (nn x hx)]
        exact o.irr x hx
    · have e1 : FD.bef x y (.mk (.str n) (.str "M") d) = false := e1
      have e2 : FD.bef y x (.mk (.str n) (.str "M") d) = false := e2
      rcases List.mem_cons.mp hx with rfl | hx
      · rcases List.mem_cons.mp hy with rfl | hy
        · rfl
        · rw [r3 _ (nn y hy)] at e1; cases e1
      · rcases List.mem_cons.mp hy with rfl | hy
        · rw [r3 _ (nn x hx)] at e2; cases e2
        · rw [r2 _ _ (nn x hx) (nn y hy)] at e1
          rw [r2 _ _ (nn y hy) (nn x hx)] at e2
          exact o.tot x hx y hy e1 e2
/-- the first place of a value -/
def pos (x : V) : List V → Nat
  | [] => 0
  | y :: ys => if y = x then 0 else pos x ys + 1
theorem pos_at {x : V} : ∀ {ys : List V}, x ∈ ys → ys[pos x ys]? = some x ∧ ∀ m z, m < pos x ys → ys[m]? = some z → z ≠ x
  | [], h => by cases h
  | y :: ys, h => by
    unfold pos
    by_cases e : y = x
    · rw [if_pos e]
      exact ⟨by rw [e]; rfl, fun m z hm => absurd hm (Nat.not_lt_zero _)⟩
    · rw [if_neg e]
      have h2 : x ∈ ys := by
        rcases List.mem_cons.mp h with k | k
        · exact absurd k.symm e
        · exact k
      obtain ⟨i1, i2⟩ := pos_at h2
      refine ⟨i1, fun m z hm hz => ?_⟩
      cases m with
      | zero => exact fun k => e ((Option.some.inj hz).trans k)
      | succ m => exact i2 m z (Nat.lt_of_succ_lt_succ hm) hz
theorem Ord.pos {bef : V → V → Bool} {xs : List V} (o : Ord bef xs) {x y : V} (hx : x ∈ xs) (hy : y ∈ xs) : decide (K77.pos x xs < K77.pos y xs) = bef x y := by
  obtain ⟨k1, m1⟩ := pos_at hx
  obtain ⟨k2, m2⟩ := pos_at hy
  have pw := List.pairwise_iff_getElem.mp o.up
  obtain ⟨l1, e1⟩ := List.getElem?_eq_some_iff.mp k1
  obtain ⟨l2, e2⟩ := List.getElem?_eq_some_iff.mp k2
  rcases Nat.lt_trichotomy (K77.pos x xs) (K77.pos y xs) with h | h | h
  · rw [decide_eq_true h]
    have z := pw _ _ l1 l2 h
    rw [e1, e2] at z
    cases q : bef x y with
    | true => rfl
    | false =>
      have e := o.tot x hx y hy q z
      rw [e] at h
      exact absurd h (Nat.lt_irrefl _)
  · rw [decide_eq_false (by omega)]
    rw [h, k2] at k1
    rw [← Option.some.inj k1]
    exact (o.irr y hy).symm
  · rw [decide_eq_false (by omega)]
    have z := pw _ _ l2 l1 h
    rw [e1, e2] at z
    exact z.symm
/-- the values of a field, at a list -/
structure VsOk (d : FD) (xs : List V) : Prop where
  ne : xs ≠ []
  few : xs.length ≤ 70 + d.dep
  all : ∀ x ∈ xs, VlF d x
  is : VsF d xs
/-- a row of the fields -/
def RwOk (ds : List FD) (xs : List V) : Prop := xs.length = ds.length ∧ ∀ (i : Nat) (d : FD) (x : V), ds[i]? = some d → xs[i]? = some x → ∃ ys, VsOk d ys ∧ x ∈ ys
theorem RwOk.vl {ds : List FD} {xs : List V} (h : RwOk ds xs) {i : Nat} {d : FD} {x : V} (h1 : ds[i]? = some d) (h2 : xs[i]? = some x) : VlF d x := by
  obtain ⟨ys, k, m⟩ := h.2 i d x h1 h2
  exact k.all x m
structure G7 (P : Program) (w : World) (K : Frag) (mg : Str → Option Value) (base : Heap) : Prop extends G6 P w K mg base where
  law_pick : FnAt P w K mg base CX0 2 "_law_pick" ["_law_source_here", "_law_items"] spPick
  law_made : FnAt P w K mg base CX0 7 "_law_made" ["_law_spec"] (spMd K 2)
end L2.K77

set_option Elab.async false
set_option linter.all false
set_option maxRecDepth 100000
set_option maxHeartbeats 4000000
/-! The law: all strings of some signs. -/
namespace L2.K77
open PySem PySem.W PySem.Spec PySem.Calls PyProof.Rows L2.Jk
theorem allS_small {z : Str} {l n m : Nat} (h : n ≤ m) (k : (allS z l m).length < 64) : (allS z l n).length < 64 := by
  obtain ⟨d, rfl⟩ := Nat.exists_eq_add_of_le h
  induction d with
  | zero => exact k
  | succ d ih =>
    refine ih (Nat.le_add_right _ _) ?_
    rw [← Nat.add_assoc, allS_succ, List.length_append] at k
    omega
theorem none_of {H H' : Hp} {p : Addr} (S : Same H H') (h : H' p = none) : H p = none := by
  cases e : H p with
  | none => rfl
  | some o => rw [S _ _ e] at h; cases h
structure GS (P : Program) (w : World) (K : Frag) (mg : Str → Option Value) (base : Heap) : Prop extends G7 P w K mg base where
  sorted : mg "sorted" = none
def spStrs : Sp := fun vs H Q _ => ∃ (z : Str) (l m : Nat), vs = [.str z, .int (l : Nat), .int (m : Nat)] ∧ z.cps.size ≤ 3 ∧ m ≤ 3 ∧ (allS z l (m + 1)).length < 64 ∧ (∀ i, i ≤ 4 → (lay z i).length ≤ 100 ∧ ∀ t ∈ lay z i, t.length ≤ 10) ∧
  ∀ p (ys : List Str) H', H p = none → ys.Perm (allS z l (m + 1)) → sortedS ys = true → Same H H' → H' p = some (.lst (ys.map V.str)) → Q (.ref p) H'
section
variable {P : Program} {w : World} {K : Frag} {mg : Str → Option Value} {base : Heap} {f : Addr} {fd : FuncData}

abbrev s_law_strings : Stmt := top 52
theorem sc_law_strings : FnScope ["_law_signs", "_law_least", "_law_most", "_law_found", "_law_last", "_law_length", "_law_longer", "_law_begin", "_law_sign"] ["_law_signs", "_law_least", "_law_most"] (defScope s_law_strings) := ⟨rfl, rfl, rfl, by decide +kernel, rfl, by decide +kernel, by decide +kernel⟩

theorem ok_law_strings (F : FunD K "_law_strings" "_law_strings" (defArgs s_law_strings) (defBody s_law_strings) (defScope s_law_strings) [] [] f fd) (G : GS P w K mg base) : FnOk P w K mg base CX0 1 f fd ["_law_signs", "_law_least", "_law_most"] spStrs := by
  refine F.ok (CX := CX0) sc_law_strings (fun vs H Q E h => ?_) (fun cdv A outer s H vs Q E hr h => ?_)
  · obtain ⟨z, l, m, rfl, _⟩ := h
    rfl
  · refine ⟨_, PSs.nox (pss_cons (ps_par (i := 3) (j := 4) (by rfl) sc_law_strings.nd rfl rfl (by decide) rfl rfl (pa_cons (pe_lstS pa_nil) (pa_cons (pe_lstS (pa_cons pe_str pa_nil)) pa_nil)) (by rfl))
    (pss_cons (ps_for PassesOwn.never rfl (pi_range1 (by rfl) G.range (pa_cons (pe_op op_add (pv 2) pe_int) pa_nil)) (pg_name (i := 5) sc_law_strings.nd rfl (Or.inl rfl))
      (pss_cons (ps_if (pt_cmpR op_ge (pv 5) (pv 1) (nomark _))
        (pss_one (ps_set (i := 3) sc_law_strings.nd rfl (Or.inl rfl) (pe_op op_catS (pv 3) (pv 4))))
        pss_nil)
      (pss_cons (ps_set (i := 6) sc_law_strings.nd rfl (Or.inl rfl) (pe_lstS pa_nil))
      (pss_cons (ps_for PassesOwn.never rfl (pi_list (pv 4)) (pg_name (i := 7) sc_law_strings.nd rfl (Or.inr rfl))
        (pss_one (ps_expr (pe_bm PySem.F.plainAttrs_list PySem.F.slot_list_extend PySem.F.type_list_extend mt_extend (pv 6) (pa_cons (pe_lc (own := [("_law_sign", 8)]) (g := gName 8) (tt := tYes) rfl sc_law_strings.nd (pi_str (pv 0)) (blkOk_by (N := ["_law_signs", "_law_least", "_law_most", "_law_found", "_law_last", "_law_length", "_law_longer", "_law_begin", "_law_sign"]) (sc := defScope s_law_strings) (by decide +kernel)) (fun _ _ _ _ _ => pg_name (i := 8) sc_law_strings.nd rfl (Or.inl rfl)) (fun _ _ _ _ _ => pts_nil) (fun _ _ _ _ _ => (pe_op op_add_str (pv 7) (pv 8)))) pa_nil)))))
      (pss_one (ps_set (i := 4) sc_law_strings.nd rfl (Or.inl rfl) (pv 6)))))))
    (pss_one (ps_ret (pe_callB cr_sortedS (by rfl) G.sorted (by decide +kernel) (pa_cons (pv 3) pa_nil)))))), ?_⟩
    obtain ⟨z, l, m, rfl, hz, hm, hs, hb, q⟩ := h
    refine ⟨by show 0 ≤ 1000; decide, fun p1 H1 hp1 S1 e1 => ⟨by show 1 ≤ 1000; decide, fun p2 H2 hp2 S2 e2 => ⟨_, _, rfl, ?_⟩⟩⟩
    refine ⟨_, rfl, _, _, rfl, rfl, (m : Int) + 1, rfl, by omega, by omega, ?_⟩
    rw [show ((m : Int) + 1).toNat = m + 1 by omega]
    refine for_range (n := m + 1) (fun i σ H' => ∃ (pf pl : Addr) (v5 v6 v7 v8 : Option V), σ = [some (.str z), some (.int (l : Nat)), some (.int (m : Nat)), some (.ref pf), some (.ref pl), v5, v6, v7, v8] ∧ Same H H' ∧ H' pf = some (.lst ((allS z l i).map V.str)) ∧ H' pl = some (.lst ((lay z i).map V.str)))
      ⟨p1, p2, _, _, _, _, rfl, S1.trans S2, S2 _ _ e1, e2⟩ ?_ ?_
    · rintro i σ H3 hi ⟨pf, pl, v5, v6, v7, v8, rfl, S3, ef, el⟩
      have hsm := allS_small (show i + 1 ≤ m + 1 by omega) hs
      refine ⟨_, rfl, _, rfl, _, _, rfl, rfl, _, rfl, ?_⟩
      refine ite2 (fun h1 => ?_) (fun h1 => ?_)
      · have hle : l ≤ i := by have := of_decide_eq_true h1; omega
        have ll := (hb i (by omega)).1
        refine ⟨_, rfl, _, rfl, pf, pl, _, _, rfl, rfl, SqL.of ef, SqL.of el, ?_, fun pg H4 hpg S34 eg => ?_⟩
        · rw [List.length_map, List.length_map, sizeLine_eq]
          have := allS_small (show i ≤ m + 1 by omega) hs
          omega
        have S4 := S3.trans S34
        have eg4 : H4 pg = some (.lst ((allS z l (i + 1)).map V.str)) := by rw [eg, allS_succ, if_pos hle, List.map_append]
        have el4 := S34 _ _ el
        refine ⟨by show 0 ≤ 1000; decide, fun pn H5 hpn S5 e5 => ?_⟩
        refine ⟨_, rfl, pl, rfl, ⟨_, SqL.of (S5 _ _ el4)⟩, for_list (K := K) (a := pl) (xs := (lay z i).map V.str) (fun j σ H' => ∃ (v7 v8 : Option V), σ = [some (.str z), some (.int (l : Nat)), some (.int (m : Nat)), some (.ref pg), some (.ref pl), some (.int (0 + (i : Int))), some (.ref pn), v7, v8] ∧ Same H4 H' ∧ H' pn = some (.lst ((((lay z i).take j).flatMap fun t => (sgT z).map fun s => t ++ s).map V.str)))
          ⟨_, _, rfl, S5, e5⟩ (fun j σ H' _ ⟨_, _, _, S, _⟩ => SqL.of (S _ _ el4)) ?_ ?_⟩
        · rintro j x0 σ H6 hx ⟨v7, v8, rfl, S6, e6⟩
          obtain ⟨t, ht, rfl⟩ : ∃ t, (lay z i)[j]? = some t ∧ x0 = .str t := by
            rw [List.getElem?_map] at hx
            obtain ⟨t, h1, h2⟩ := Option.map_eq_some_iff.mp hx
            exact ⟨t, h1, h2.symm⟩
          have tl := (hb i (by omega)).2 t (List.mem_of_getElem? ht)
          have jl := (List.getElem?_eq_some_iff.mp ht).1
          have ll := (hb i (by omega)).1
          refine ⟨_, rfl, .inl ⟨rfl, _, SqL.of e6⟩, _, rfl, z, rfl, fun D hD => ?_⟩
          refine lc_str (x := z) (LcP H6 D fun n => ((sgT z).take n).map fun s => V.str (t ++ s)) (LcP.start hD rfl) ?_ ?_
          · intro k c J hc pJ
            have hk : k < z.cps.size := (Array.getElem?_eq_some_iff.mp hc).1
            have hg : (sgT z)[k]? = some ⟨#[c]⟩ := by
              unfold sgT
              rw [List.getElem?_map]
              have e : z.cps.toList[k]? = some c := by rw [← hc]; simp
              rw [e]
              rfl
            refine ⟨rfl, _, rfl, _, rfl, t, ⟨#[c]⟩, rfl, rfl, by rw [sizeLine_eq]; show t.length + 1 ≤ 16777216; omega, pJ.put (Same.refl _) ?_ (by omega)⟩
            show ((sgT z).take (k + 1)).map _ = _
            rw [List.take_add_one, hg, List.map_append]
            rfl
          · rintro J ⟨S7, _, e7, _⟩
            have sz : (sgT z).length = z.cps.size := by unfold sgT; rw [List.length_map, Array.length_toList]
            have e7' : J D = some (.lst ((sgT z).map fun s => V.str (t ++ s))) := by
              rw [e7]
              show some (HO.lst (((sgT z).take z.cps.size).map _)) = _
              rw [← sz, List.take_length]
            refine ⟨pn, D, _, _, rfl, rfl, S7 _ _ e6, e7', ?_, _, _, rfl, same_put (S6.trans S7) hpn, ?_⟩
            · rw [List.length_map, List.length_map, sizeLine_eq, sz]
              have : (((lay z i).take j).flatMap fun t => (sgT z).map fun s => t ++ s).length ≤ 1000 := by
                rw [List.length_flatMap]
                have h1 : (((lay z i).take j).map fun t => ((sgT z).map fun s => t ++ s).length).sum = ((lay z i).take j).length * (sgT z).length := by
                  simp [List.map_const']
                have h2 : ((lay z i).take j).length ≤ 100 := by rw [List.length_take]; omega
                rw [h1, sz]
                exact Nat.le_trans (Nat.mul_le_mul h2 hz) (by decide)
              omega
            · rw [upd_same, List.take_add_one, ht, List.flatMap_append, List.map_append]
              simp
        · rintro σ H6 ⟨v7, v8, rfl, S6, e6⟩
          refine ⟨_, rfl, pg, pn, _, _, _, _, rfl, S4.trans S6, S6 _ _ eg4, ?_⟩
          rw [e6, List.length_map, List.take_length]
          rfl
      · have hle : ¬ l ≤ i := fun z => h1 (decide_eq_true (by omega))
        obtain ⟨pg, H4, S4, eg4, el4, eH⟩ : ∃ pg H4, Same H H4 ∧ H4 pg = some (.lst ((allS z l (i + 1)).map V.str)) ∧ H4 pl = some (.lst ((lay z i).map V.str)) ∧ (pg = pf ∧ H4 = H3) := ⟨pf, H3, S3, by rw [ef, allS_succ, if_neg hle, List.append_nil], el, rfl, rfl⟩
        obtain ⟨rfl, rfl⟩ := eH
        refine ⟨by show 0 ≤ 1000; decide, fun pn H5 hpn S5 e5 => ?_⟩
        refine ⟨_, rfl, pl, rfl, ⟨_, SqL.of (S5 _ _ el4)⟩, for_list (K := K) (a := pl) (xs := (lay z i).map V.str) (fun j σ H' => ∃ (v7 v8 : Option V), σ = [some (.str z), some (.int (l : Nat)), some (.int (m : Nat)), some (.ref pg), some (.ref pl), some (.int (0 + (i : Int))), some (.ref pn), v7, v8] ∧ Same H4 H' ∧ H' pn = some (.lst ((((lay z i).take j).flatMap fun t => (sgT z).map fun s => t ++ s).map V.str)))
          ⟨_, _, rfl, S5, e5⟩ (fun j σ H' _ ⟨_, _, _, S, _⟩ => SqL.of (S _ _ el4)) ?_ ?_⟩
        · rintro j x0 σ H6 hx ⟨v7, v8, rfl, S6, e6⟩
          obtain ⟨t, ht, rfl⟩ : ∃ t, (lay z i)[j]? = some t ∧ x0 = .str t := by
            rw [List.getElem?_map] at hx
            obtain ⟨t, h1, h2⟩ := Option.map_eq_some_iff.mp hx
            exact ⟨t, h1, h2.symm⟩
          have tl := (hb i (by omega)).2 t (List.mem_of_getElem? ht)
          have jl := (List.getElem?_eq_some_iff.mp ht).1
          have ll := (hb i (by omega)).1
          refine ⟨_, rfl, .inl ⟨rfl, _, SqL.of e6⟩, _, rfl, z, rfl, fun D hD => ?_⟩
          refine lc_str (x := z) (LcP H6 D fun n => ((sgT z).take n).map fun s => V.str (t ++ s)) (LcP.start hD rfl) ?_ ?_
          · intro k c J hc pJ
            have hk : k < z.cps.size := (Array.getElem?_eq_some_iff.mp hc).1
            have hg : (sgT z)[k]? = some ⟨#[c]⟩ := by
              unfold sgT
              rw [List.getElem?_map]
              have e : z.cps.toList[k]? = some c := by rw [← hc]; simp
              rw [e]
              rfl
            refine ⟨rfl, _, rfl, _, rfl, t, ⟨#[c]⟩, rfl, rfl, by rw [sizeLine_eq]; show t.length + 1 ≤ 16777216; omega, pJ.put (Same.refl _) ?_ (by omega)⟩
            show ((sgT z).take (k + 1)).map _ = _
            rw [List.take_add_one, hg, List.map_append]
            rfl
          · rintro J ⟨S7, _, e7, _⟩
            have sz : (sgT z).length = z.cps.size := by unfold sgT; rw [List.length_map, Array.length_toList]
            have e7' : J D = some (.lst ((sgT z).map fun s => V.str (t ++ s))) := by
              rw [e7]
              show some (HO.lst (((sgT z).take z.cps.size).map _)) = _
              rw [← sz, List.take_length]
            refine ⟨pn, D, _, _, rfl, rfl, S7 _ _ e6, e7', ?_, _, _, rfl, same_put (S6.trans S7) hpn, ?_⟩
            · rw [List.length_map, List.length_map, sizeLine_eq, sz]
              have : (((lay z i).take j).flatMap fun t => (sgT z).map fun s => t ++ s).length ≤ 1000 := by
                rw [List.length_flatMap]
                have h1 : (((lay z i).take j).map fun t => ((sgT z).map fun s => t ++ s).length).sum = ((lay z i).take j).length * (sgT z).length := by
                  simp [List.map_const']
                have h2 : ((lay z i).take j).length ≤ 100 := by rw [List.length_take]; omega
                rw [h1, sz]
                exact Nat.le_trans (Nat.mul_le_mul h2 hz) (by decide)
              omega
            · rw [upd_same, List.take_add_one, ht, List.flatMap_append, List.map_append]
              simp
        · rintro σ H6 ⟨v7, v8, rfl, S6, e6⟩
          refine ⟨_, rfl, pg, pn, _, _, _, _, rfl, S4.trans S6, S6 _ _ eg4, ?_⟩
          rw [e6, List.length_map, List.take_length]
          rfl
    · rintro σ H3 ⟨pf, pl, v5, v6, v7, v8, rfl, S3, ef, el⟩
      exact ⟨_, rfl, pf, _, rfl, SqL.of ef, hs, fun ys p perm srt hp => q p ys _ (none_of S3 hp) perm srt (S3.trans (same_upd hp)) upd_same⟩

end
end L2.K77

set_option Elab.async false
set_option linter.all false
set_option maxRecDepth 100000
set_option maxHeartbeats 4000000
/-! The law: all values of a field. -/
namespace L2.K77
open PySem PySem.W PySem.Spec PySem.Calls PyProof.Rows L2.Jk
theorem lay_small {z : Str} (h : z.cps.size ≤ 2) : (∀ l m, m ≤ 3 → (allS z l (m + 1)).length < 64) ∧ ∀ i, i ≤ 4 → (lay z i).length ≤ 100 ∧ ∀ t ∈ lay z i, t.length ≤ 10 := by
  have p : ∀ i, (lay z i).length ≤ 2 ^ i := fun i => by rw [lay_length]; exact Nat.pow_le_pow_left h i
  refine ⟨fun l m hm => ?_, fun i hi => ⟨Nat.le_trans (p i) (Nat.le_trans (Nat.pow_le_pow_right (by decide) hi) (by decide)), fun t ht => by rw [lay_len ht]; omega⟩⟩
  have k : ∀ n, (allS z l n).length ≤ 2 ^ n := fun n => by
    induction n with
    | zero => exact Nat.zero_le _
    | succ n ih =>
      rw [allS_succ, List.length_append, Nat.pow_succ]
      have := p n
      split
      · omega
      · show _ + 0 ≤ _
        omega
  have := k (m + 1)
  have : 2 ^ (m + 1) ≤ 2 ^ 4 := Nat.pow_le_pow_right (by decide) (by omega)
  omega
theorem word_sz : ∀ z ∈ wordZ, z.cps.size ≤ 2 ∧ 1 ≤ z.cps.size := by decide +kernel
theorem end_sz : ∀ z ∈ endZ, z.cps.size ≤ 2 ∧ 1 ≤ z.cps.size := by decide +kernel
theorem lay_pos {z : Str} (h : 1 ≤ z.cps.size) (l m : Nat) (hlm : l ≤ m) : allS z l (m + 1) ≠ [] := fun e => by
  rw [allS_succ, if_pos hlm] at e
  have e2 := (List.append_eq_nil_iff.mp e).2
  have e3 := lay_length z m
  rw [e2] at e3
  have : 0 < z.cps.size ^ m := Nat.pow_pos h
  have e3 : 0 = z.cps.size ^ m := e3
  omega
def spVals (n : Nat) : Sp := fun vs H Q _ => ∃ (s0 : Addr) (v : V) (d : FD), vs = [v] ∧ FIn s0 H v d ∧ DrF d ∧ d.dep < n ∧ ∀ p xs H', H p = none → VsOk d xs → Same H H' → H' p = some (.lst xs) → Q (.ref p) H'
structure GV (P : Program) (w : World) (K : Frag) (mg : Str → Option Value) (base : Heap) : Prop extends GS P w K mg base where
  law_strings : FnAt P w K mg base CX0 1 "_law_strings" ["_law_signs", "_law_least", "_law_most"] spStrs
theorem strs_ok {z : Str} {l m : Nat} {ys : List Str} {D : PD} (h1 : 1 ≤ z.cps.size) (h2 : z.cps.size ≤ 2) (hlm : l ≤ m) (hm : m ≤ 3) (hp : ys.Perm (allS z l (m + 1))) (hD : ∀ i t, l ≤ i → i ≤ m → t ∈ lay z i → Vl D (.str t)) (is : VsP D (ys.map V.str)) : VsOk (.pl D) (ys.map V.str) := by
  refine ⟨fun e => lay_pos h1 l m hlm ?_, ?_, fun x hx => ?_, is⟩
  · have e2 := List.map_eq_nil_iff.mp e
    rw [e2] at hp
    exact hp.symm.eq_nil
  · rw [List.length_map, hp.length_eq]
    have := (lay_small h2).1 l m hm
    show _ ≤ 70
    omega
  · obtain ⟨t, ht, rfl⟩ := List.mem_map.mp hx
    obtain ⟨i, a, b, c⟩ := mem_allS (hp.mem_iff.mp ht)
    exact .pl (hD i t b (by omega) c)
section
variable {P : Program} {w : World} {K : Frag} {mg : Str → Option Value} {base : Heap} {f : Addr} {fd : FuncData}

abbrev s_law_values : Stmt := top 53
theorem sc_law_values : FnScope ["_law_spec"] ["_law_spec"] (defScope s_law_values) := ⟨rfl, rfl, rfl, by decide +kernel, rfl, by decide +kernel, by decide +kernel⟩

theorem ok_law_values (F : FunD K "_law_values" "_law_values" (defArgs s_law_values) (defBody s_law_values) (defScope s_law_values) [] [] f fd) (G : GV P w K mg base) {n : Nat} (AM : FnAt P w K mg base CX0 (n + 1) "_law_values" ["_law_spec"] (spVals n)) : FnOk P w K mg base CX0 (n + 1 + 1) f fd ["_law_spec"] (spVals (n + 1)) := by
  refine F.ok (CX := CX0) sc_law_values (fun vs H Q E h => ?_) (fun cdv A outer s H vs Q E hr h => ?_)
  · obtain ⟨s0, v, d, rfl, _⟩ := h
    rfl
  · refine ⟨_, PSs.nox (pss_cons (ps_if (pt_cmpR op_in_seq (pe_ix ix_tup (pv 0) pe_int (fun _ _ => rfl)) (pe_tupS (pa_cons pe_str (pa_cons pe_str pa_nil))) (by rfl))
      (pss_one (ps_ret (pe_fn G.law_strings (hr.mono (by omega)) pass0 (by rfl) (pa_cons (pe_ix ix_tup (pv 0) pe_int (fun _ _ => rfl)) (pa_cons (pe_ix ix_tup (pv 0) (pe_un un_neg pe_int) (fun _ _ => rfl)) (pa_cons (pe_ix ix_tup (pv 0) (pe_un un_neg pe_int) (fun _ _ => rfl)) pa_nil))))))
      pss_nil)
    (pss_cons (ps_if (pt_cmpR op_eq (pe_ix ix_tup (pv 0) pe_int (fun _ _ => rfl)) pe_str (nomark _))
      (pss_one (ps_ret (pe_callTy (call_list_rng rfl) (by rfl) G.list (by decide +kernel) (pa_cons (pe_callTy cr_range2 (by rfl) G.range (by decide +kernel) (pa_cons (pe_ix ix_tup (pv 0) pe_int (fun _ _ => rfl)) (pa_cons (pe_op op_add (pe_ix ix_tup (pv 0) pe_int (fun _ _ => rfl)) pe_int) pa_nil))) pa_nil))))
      pss_nil)
    (pss_cons (ps_if (pt_cmpR op_eq (pe_ix ix_tup (pv 0) pe_int (fun _ _ => rfl)) pe_str (nomark _))
      (pss_one (ps_ret (pe_callTy (call_list_rng rfl) (by rfl) G.list (by decide +kernel) (pa_cons (pe_callTy cr_range1 (by rfl) G.range (by decide +kernel) (pa_cons (pe_callTy call_int_str (by rfl) G.int (by decide +kernel) (pa_cons (pe_op op_add_str pe_str (pe_op op_mulStr pe_str (pe_ix ix_tup (pv 0) pe_int (fun _ _ => rfl)))) pa_nil)) pa_nil)) pa_nil))))
      pss_nil)
    (pss_one (ps_ret (pe_ifExp (pt_cmpR op_eq (pe_ix ix_tup (pv 0) pe_int (fun _ _ => rfl)) pe_str (nomark _)) (pe_callTy call_list_of (by rfl) G.list (by decide +kernel) (pa_cons (pe_ix ix_tup (pv 0) pe_int (fun _ _ => rfl)) pa_nil)) (pe_op op_catS (pe_lstS (pa_cons pe_non pa_nil)) (pe_fn AM hr pass0 (by rfl) (pa_cons (pe_ix ix_tup (pv 0) pe_int (fun _ _ => rfl)) pa_nil))))))))), ?_⟩
    obtain ⟨s0, v, d, rfl, hP, hd, hdep, q⟩ := h
    cases hd with
    | @mk nn d hn hd =>
      obtain ⟨b, u, rfl, hne, hb, hI⟩ := hP
      refine ⟨_, rfl, b, _, _, _, rfl, rfl, SqT.of hb, atI_nat (j := 0) rfl, by show 2 ≤ 1000; decide, fun pt Ht hpt St et => ⟨pt, _, rfl, .inr (SqT.of et), rfl, rfl, _, rfl, itC (by decide +kernel) ?_⟩⟩
      replace hb := St _ _ hb
      refine ⟨_, rfl, b, _, _, _, rfl, rfl, SqT.of hb, atI_nat (j := 0) rfl, rfl, _, rfl, itN (by decide +kernel) ?_⟩
      refine ⟨_, rfl, b, _, _, _, rfl, rfl, SqT.of hb, atI_nat (j := 0) rfl, rfl, _, rfl, itN (by decide +kernel) ?_⟩
      refine ⟨_, rfl, b, _, _, _, rfl, rfl, SqT.of hb, atI_nat (j := 0) rfl, rfl, _, rfl, itN (by decide +kernel) ?_⟩
      refine ⟨by show 1 ≤ 1000; decide, fun p1 H1 hp1 S1 e1 => ?_⟩
      replace hb := S1 _ _ hb
      have S2 := St.trans S1
      refine ⟨_, rfl, b, _, _, _, rfl, rfl, SqT.of hb, atI_nat (j := 3) rfl, s0, u, .pl d, rfl, (hI.same S2), .pl hd, Nat.lt_of_succ_lt_succ hdep, fun p xs H3 hp ok S3 e3 => ?_⟩
      refine ⟨p1, p, _, _, rfl, rfl, SqL.of (S3 _ _ e1), SqL.of e3, ?_, fun p4 H4 hp4 S4 e4 => ?_⟩
      · rw [sizeLine_eq]
        have k : xs.length ≤ 70 := ok.few
        show 1 + xs.length ≤ 16777216
        omega
      have S := (S2.trans S3)
      refine q p4 _ H4 (none_of S hp4) ⟨fun e => (by cases e), ?_, fun x hx => ?_, ⟨xs, rfl, ok.is⟩⟩ (S.trans S4) e4
      · have k : xs.length ≤ 70 := ok.few
        show xs.length + 1 ≤ 71
        omega
      · rcases List.mem_cons.mp hx with rfl | hx
        · exact .non
        · cases ok.all x hx with
          | pl h => exact .mk h
    | pl hd =>
    cases hd with
    | @word z l j h1 h2 h3 =>
      obtain ⟨b, rfl, hne, hb⟩ := hP
      obtain ⟨k1, k2⟩ := word_sz z h1
      obtain ⟨k3, k4⟩ := lay_small k1
      refine ⟨_, rfl, b, _, _, _, rfl, rfl, SqT.of hb, atI_nat (j := 0) rfl, by show 2 ≤ 1000; decide, fun pt Ht hpt St et => ⟨pt, _, rfl, .inr (SqT.of et), rfl, rfl, _, rfl, itB (by decide +kernel) ?_⟩⟩
      replace hb := St _ _ hb
      refine ⟨_, rfl, b, _, _, _, rfl, rfl, SqT.of hb, atI_nat (j := 1) rfl, _, rfl, _, rfl, b, _, _, _, rfl, rfl, SqT.of hb, rfl, _, rfl, _, rfl, b, _, _, _, rfl, rfl, SqT.of hb, rfl, z, l, l + j, rfl, by omega, by omega, k3 l _ (by omega), k4, fun p ys H2 hp perm srt S2 e2 => ?_⟩
      exact q p _ H2 (none_of St hp) (strs_ok k2 k1 (Nat.le_add_right _ _) (by omega) perm (fun i t a b c => .word (e := .non) a b c) ⟨ys, rfl, perm, srt⟩) (St.trans S2) e2
    | @ended z e l j h1 h2 h3 h4 =>
      obtain ⟨b, rfl, hne, hb⟩ := hP
      obtain ⟨k1, k2⟩ := end_sz z h1
      obtain ⟨k3, k4⟩ := lay_small k1
      refine ⟨_, rfl, b, _, _, _, rfl, rfl, SqT.of hb, atI_nat (j := 0) rfl, by show 2 ≤ 1000; decide, fun pt Ht hpt St et => ⟨pt, _, rfl, .inr (SqT.of et), rfl, rfl, _, rfl, itB (by decide +kernel) ?_⟩⟩
      replace hb := St _ _ hb
      refine ⟨_, rfl, b, _, _, _, rfl, rfl, SqT.of hb, atI_nat (j := 1) rfl, _, rfl, _, rfl, b, _, _, _, rfl, rfl, SqT.of hb, rfl, _, rfl, _, rfl, b, _, _, _, rfl, rfl, SqT.of hb, rfl, z, l, l + j, rfl, by omega, by omega, k3 l _ (by omega), k4, fun p ys H2 hp perm srt S2 e2 => ?_⟩
      exact q p _ H2 (none_of St hp) (strs_ok k2 k1 (Nat.le_add_right _ _) (by omega) perm (fun i t a b c => .ended (e := .str e) a b c) ⟨ys, rfl, perm, srt⟩) (St.trans S2) e2
    | @number l j h1 h2 =>
      obtain ⟨b, rfl, hne, hb⟩ := hP
      have k1 := num_le.1 l h1
      have k2 := num_le.2 j h2
      refine ⟨_, rfl, b, _, _, _, rfl, rfl, SqT.of hb, atI_nat (j := 0) rfl, by show 2 ≤ 1000; decide, fun pt Ht hpt St et => ⟨pt, _, rfl, .inr (SqT.of et), rfl, rfl, _, rfl, itC (by decide +kernel) ?_⟩⟩
      replace hb := St _ _ hb
      refine ⟨_, rfl, b, _, _, _, rfl, rfl, SqT.of hb, atI_nat (j := 0) rfl, rfl, _, rfl, itY ?_⟩
      refine ⟨_, rfl, b, _, _, _, rfl, rfl, SqT.of hb, atI_nat (j := 1) rfl, _, rfl, b, _, _, _, rfl, rfl, SqT.of hb, atI_nat (j := 2) rfl, _, _, rfl, rfl, _, _, rfl, fun pr hpr => ?_⟩
      rw [show ((l + j : Nat) : Int) + 1 = (l : Int) + ((j + 1 : Nat) : Int) by omega]
      refine ⟨pr, (l : Int), j + 1, rfl, upd_same, by omega, by omega, by omega, fun p H2 hp S2 e2 => ?_⟩
      have S := St.trans (same_upd (o := .rng (l : Int) ((l : Int) + ((j + 1 : Nat) : Int))) hpr)
      refine q p _ H2 (none_of S hp) ⟨fun e => ?_, by unfold intsV; rw [List.length_map, List.length_range]; show _ ≤ 70; omega, fun x hx => ?_, (by show intsV _ _ = intsV _ (((l + j : Nat) : Int) + 1 - (l : Int)).toNat; rw [show (((l + j : Nat) : Int) + 1 - (l : Int)).toNat = j + 1 by omega]; rfl)⟩ (S.trans S2) e2
      · have z := congrArg List.length e
        unfold intsV at z
        rw [List.length_map, List.length_range] at z
        cases z
      · obtain ⟨i, hi, rfl⟩ := List.mem_map.mp hx
        have hi := List.mem_range.mp hi
        have z := Vl.number (l := l) (m := l + j) (n := l + i) (by omega) (by omega)
        exact .pl z
    | fixed =>
      obtain ⟨b, rfl, hne, hb⟩ := hP
      refine ⟨_, rfl, b, _, _, _, rfl, rfl, SqT.of hb, atI_nat (j := 0) rfl, by show 2 ≤ 1000; decide, fun pt Ht hpt St et => ⟨pt, _, rfl, .inr (SqT.of et), rfl, rfl, _, rfl, itC (by decide +kernel) ?_⟩⟩
      replace hb := St _ _ hb
      refine ⟨_, rfl, b, _, _, _, rfl, rfl, SqT.of hb, atI_nat (j := 0) rfl, rfl, _, rfl, itN (by decide +kernel) ?_⟩
      refine ⟨_, rfl, b, _, _, _, rfl, rfl, SqT.of hb, atI_nat (j := 0) rfl, rfl, _, rfl, itY ?_⟩
      refine ⟨_, rfl, b, _, _, _, rfl, rfl, SqT.of hb, atI_nat (j := 1) rfl, "0", 1, rfl, rfl, by decide +kernel, "1", repS "0" 1, rfl, rfl, by rw [sizeLine_eq]; decide +kernel, _, 10, rfl, by decide +kernel, by decide +kernel, _, rfl, fun pr hpr => ?_⟩
      refine ⟨pr, 0, 10, rfl, upd_same, by omega, by omega, by omega, fun p H2 hp S2 e2 => ?_⟩
      have S := St.trans (same_upd (o := .rng 0 10) hpr)
      refine q p _ H2 (none_of S hp) ⟨fun e => ?_, by unfold intsV; rw [List.length_map, List.length_range]; show _ ≤ 70; omega, fun x hx => ?_, rfl⟩ (S.trans S2) e2
      · have z := congrArg List.length e
        unfold intsV at z
        rw [List.length_map, List.length_range] at z
        cases z
      · obtain ⟨i, hi, rfl⟩ := List.mem_map.mp hx
        have hi := List.mem_range.mp hi
        have z := Vl.fixed (n := i) hi
        rw [show (0 : Int) + (i : Int) = (i : Nat) by omega]
        exact .pl z
    | @listed ts h1 h2 h3 h4 =>
      obtain ⟨b, u, rfl, hne, hb, ⟨b2, rfl, hb2⟩, hc⟩ := hP
      refine ⟨_, rfl, b, _, _, _, rfl, rfl, SqT.of hb, atI_nat (j := 0) rfl, by show 2 ≤ 1000; decide, fun pt Ht hpt St et => ⟨pt, _, rfl, .inr (SqT.of et), rfl, rfl, _, rfl, itC (by decide +kernel) ?_⟩⟩
      replace hb := St _ _ hb
      refine ⟨_, rfl, b, _, _, _, rfl, rfl, SqT.of hb, atI_nat (j := 0) rfl, rfl, _, rfl, itN (by decide +kernel) ?_⟩
      refine ⟨_, rfl, b, _, _, _, rfl, rfl, SqT.of hb, atI_nat (j := 0) rfl, rfl, _, rfl, itN (by decide +kernel) ?_⟩
      refine ⟨_, rfl, b, _, _, _, rfl, rfl, SqT.of hb, atI_nat (j := 0) rfl, rfl, _, rfl, itY ?_⟩
      refine ⟨_, rfl, b, _, _, _, rfl, rfl, SqT.of hb, atI_nat (j := 1) rfl, b2, _, rfl, .inl (SqL.of (St _ _ hb2)), fun p hp => ?_⟩
      have S := St.trans (same_upd (o := .lst (ts.map V.str)) hp)
      refine q p _ _ (none_of St hp) ⟨fun e => h3 (List.map_eq_nil_iff.mp e), by rw [List.length_map]; show _ ≤ 70; omega, fun x hx => ?_, rfl⟩ S upd_same
      obtain ⟨t, ht, rfl⟩ := List.mem_map.mp hx
      exact .pl (.listed ht)

end
end L2.K77

set_option Elab.async false
set_option linter.all false
set_option maxRecDepth 100000
set_option maxHeartbeats 4000000
/-! The law: shuffled, small. -/
namespace L2.K77
open PySem PySem.W PySem.Spec PySem.Calls PyProof.Rows L2.Jk
def spShuf : Sp := fun vs H Q _ => ∃ (a p : Addr) (ts : List Str), vs = [.ref a, .ref p] ∧ StAt H a ∧ p ≠ a ∧ H p = some (.lst (ts.map V.str)) ∧ (∀ t ∈ ts, t ∈ nines) ∧ ts.length ≤ 9 ∧
  ∀ r (ys : List Str) H', H r = none → ys.Perm ts → But a H H' → StAt H' a → H' r = some (.lst (ys.map V.str)) → Q (.ref r) H'
theorem dp_strs {K : Frag} {H : Hp} {p : Addr} {ts : List Str} (h : H p = some (.lst (ts.map V.str))) : Dp K H (.ref p) (.list ((ts.map V.str).map dV)) := .lst (SqL.of h) (dpAll_flat (by rw [List.all_map]; exact List.all_eq_true.mpr fun _ _ => rfl))
theorem sh_strs {ts : List Str} (h : ∀ t ∈ ts, t ∈ nines) : SeqAt.shaped (.list ((ts.map V.str).map dV)) = true := by
  obtain ⟨l1, l2⟩ := lay_strs ts fun t ht => (nines_are t (h t ht)).2.2
  refine Bool.and_eq_true_iff.mpr ⟨l1, decide_eq_true ?_⟩
  show PyData.depthAll ((ts.map V.str).map dV) + 1 ≤ 64
  omega
theorem eqv_nil : ∀ ts : List Str, PyData.eqv (.list ((ts.map V.str).map dV)) (.list []) = decide (ts = [])
  | [] => rfl
  | _ :: _ => rfl
theorem StAt.put {H : Hp} {a p : Addr} {o : HO} (st : StAt H a) (n : p ≠ a) : StAt (upd H p o) a := by
  obtain ⟨x, y, z, e, r⟩ := st
  exact ⟨x, y, z, by rw [upd_ne (Ne.symm n)]; exact e, r⟩
theorem but_put {H H1 : Hp} {a p : Addr} {o : HO} (B : But a H H1) (n : H p = none) : But a H (upd H1 p o) := fun b u h e => by
  rw [upd_ne (ne_of_none e n)]
  exact B b u h e
structure GZ (P : Program) (w : World) (K : Frag) (mg : Str → Option Value) (base : Heap) : Prop extends GV P w K mg base where
  law_values : FnAt P w K mg base CX0 3 "_law_values" ["_law_spec"] (spVals 2)
section
variable {P : Program} {w : World} {K : Frag} {mg : Str → Option Value} {base : Heap} {f : Addr} {fd : FuncData}

abbrev s_law_shuffled : Stmt := top 55
theorem sc_law_shuffled : FnScope ["_law_source_here", "_law_items", "_law_left", "_law_found"] ["_law_source_here", "_law_items"] (defScope s_law_shuffled) := ⟨rfl, rfl, rfl, by decide +kernel, rfl, by decide +kernel, by decide +kernel⟩

theorem ok_law_shuffled (F : FunD K "_law_shuffled" "_law_shuffled" (defArgs s_law_shuffled) (defBody s_law_shuffled) (defScope s_law_shuffled) [] [] f fd) (G : GZ P w K mg base) : FnOk P w K mg base CX0 2 f fd ["_law_source_here", "_law_items"] spShuf := by
  refine F.ok (CX := CX0) sc_law_shuffled (fun vs H Q E h => ?_) (fun cdv A outer s H vs Q E hr h => ?_)
  · obtain ⟨a, p, ts, rfl, _⟩ := h
    rfl
  · refine ⟨_, PSs.nox (pss_cons (ps_par (i := 2) (j := 3) (by rfl) sc_law_shuffled.nd rfl rfl (by decide) rfl rfl (pa_cons (pe_callTy call_list_of (by rfl) G.list (by decide +kernel) (pa_cons (pv 1) pa_nil)) (pa_cons (pe_lstS pa_nil) pa_nil)) (by rfl))
    (pss_cons (ps_while PassesOwn.never (pt_cmpR (op_neD hr.units) (pv 2) (pe_lstS pa_nil) (nomark _))
      (pss_one (ps_expr (pe_bm PySem.F.plainAttrs_list PySem.F.slot_list_append PySem.F.type_list_append mt_append (pv 3) (pa_cons (pe_bm PySem.F.plainAttrs_list PySem.F.slot_list_pop PySem.F.type_list_pop mt_popAt (pv 2) (pa_cons (pe_fn G.law_draw hr pass0 (by rfl) (pa_cons (pv 0) (pa_cons (pe_callB call_len_seq (by rfl) G.len (by decide +kernel) (pa_cons (pv 2) pa_nil)) pa_nil))) pa_nil)) pa_nil)))))
    (pss_one (ps_ret (pv 3))))), ?_⟩
    obtain ⟨a, p, ts, rfl, st, hpa, hp, hn, hl, q⟩ := h
    refine ⟨_, rfl, p, _, rfl, .inl (SqL.of hp), fun pl hpl => ?_⟩
    refine ⟨by show 0 ≤ 1000; decide, fun pf H2 hpf S2 e2 => ⟨_, _, rfl, ?_⟩⟩
    have S1 : Same H (upd H pl (.lst (ts.map V.str))) := same_upd hpl
    have npl : pl ≠ a := st.ne hpl
    have st2 : StAt H2 a := (st.same S1).same S2
    have hpf0 : H pf = none := none_of S1 hpf
    have npf : pf ≠ a := st.ne hpf0
    have nlf : pf ≠ pl := fun e => by rw [e, upd_same] at hpf; cases hpf
    refine ⟨fun m σ' H' => ∃ left found : List Str, left.length = m ∧ σ' = [some (.ref a), some (.ref p), some (.ref pl), some (.ref pf)] ∧ H' pl = some (.lst (left.map V.str)) ∧ H' pf = some (.lst (found.map V.str)) ∧ (found ++ left).Perm ts ∧ But a H H' ∧ StAt H' a,
      ⟨ts.length, ts, [], rfl, rfl, S2 _ _ upd_same, e2, List.Perm.refl _, But.of_same (S1.trans S2), st2⟩, ?_⟩
    rintro m σ' H' ⟨left, found, hm, rfl, el, ef, perm, B, st'⟩
    have hsub : ∀ t ∈ left, t ∈ nines := fun t ht => hn t (perm.mem_iff.mp (List.mem_append_right _ ht))
    have hlen := perm.length_eq
    rw [List.length_append] at hlen
    refine ⟨_, rfl, by show 0 ≤ 1000; decide, fun pe H3 hpe S3 e3 => ⟨_, _, dp_strs (S3 _ _ el), .lst (SqL.of e3) .nil, sh_strs hsub, by decide +kernel, _, rfl, ?_⟩⟩
    rw [eqv_nil]
    refine ite2 (fun c => ?_) (fun c => ?_)
    · have hne : left ≠ [] := fun e => by rw [decide_eq_true e] at c; cases c
      have hpos := List.length_pos_iff.mpr hne
      have st3 := st'.same S3
      refine ⟨fun σ2 H2 => ∃ left found : List Str, left.length < m ∧ σ2 = [some (.ref a), some (.ref p), some (.ref pl), some (.ref pf)] ∧ H2 pl = some (.lst (left.map V.str)) ∧ H2 pf = some (.lst (found.map V.str)) ∧ (found ++ left).Perm ts ∧ But a H H2 ∧ StAt H2 a,
        fun σ2 H2 ⟨l2, f2, h⟩ => ⟨l2.length, h.1, l2, f2, rfl, h.2⟩, ?_⟩
      refine ⟨_, rfl, .inl ⟨rfl, _, SqL.of (S3 _ _ ef)⟩, _, rfl, .inl ⟨rfl, _, SqL.of (S3 _ _ el)⟩, _, rfl, _, rfl, pl, _, rfl, .inl (SqL.of (S3 _ _ el)), a, _, rfl, st3, ?_, ?_, fun d H4 h0 h1 B4 st4 => ?_⟩
      · rw [List.length_map]
        omega
      · rw [List.length_map]
        omega
      obtain ⟨k, rfl⟩ : ∃ k : Nat, d = (k : Int) := ⟨d.toNat, by omega⟩
      rw [List.length_map] at h1
      have hk : k < left.length := by omega
      obtain ⟨y, hy, my⟩ := pick hk
      have el4 := B4 _ _ npl (S3 _ _ el)
      have ef4 := B4 _ _ npf (S3 _ _ ef)
      refine ⟨pl, _, _, k, .str y, rfl, rfl, el4, by omega, by omega, ?_, by rw [List.getElem?_map, hy]; rfl, pf, _, _, rfl, rfl, by rw [upd_ne nlf]; exact ef4, by rw [List.length_map, sizeLine_eq]; omega, left.eraseIdx k, found ++ [y], ?_, rfl, ?_, ?_, ?_, ?_, ?_⟩
      · refine (ixN_seq ?_).1
        unfold ixN
        rw [List.length_map, if_pos (by omega), if_pos (by omega)]
        simp
      · rw [List.length_eraseIdx_of_lt hk]
        omega
      · rw [upd_ne (Ne.symm nlf), upd_same, map_eraseIdx']
      · rw [upd_same, List.map_append]
        rfl
      · have e1 := erase_perm left k hk
        have e2 : left[k] = y := by
          have z := List.getElem?_eq_getElem hk
          rw [hy] at z
          exact (Option.some.inj z).symm
        rw [e2] at e1
        rw [List.append_assoc]
        exact (List.Perm.append_left found e1).trans perm
      · exact but_put (but_put ((B.trans (But.of_same S3)).trans B4) hpl) hpf0
      · exact (st4.put npl).put npf
    · have he : left = [] := by
        cases left with
        | nil => rfl
        | cons x xs => exact absurd rfl c
      subst he
      rw [List.append_nil] at perm
      exact ⟨_, rfl, q pf found H3 hpf0 perm (B.trans (But.of_same S3)) (st'.same S3) (S3 _ _ ef)⟩

end
end L2.K77

set_option Elab.async false
set_option linter.all false
set_option maxRecDepth 100000
set_option maxHeartbeats 4000000
/-! The law: a drawn field. -/
namespace L2.K77
open PySem PySem.W PySem.Spec PySem.Calls PyProof.Rows L2.Jk
def spSm (n : Nat) : Sp := fun vs H Q _ => ∃ (a : Addr) (b : Bool), vs = [.ref a, .bl b] ∧ StAt H a ∧ (if b = true then 1 else 2) ≤ n ∧
  ∀ v d H', DrF d → (b = true → ∃ d', d = .pl d' ∧ Dr d') → FIn a H' v d → But a H H' → StAt H' a → Q v H'
structure GM (P : Program) (w : World) (K : Frag) (mg : Str → Option Value) (base : Heap) : Prop extends GZ P w K mg base where
  law_shuffled : FnAt P w K mg base CX0 2 "_law_shuffled" ["_law_source_here", "_law_items"] spShuf
theorem ne_lit {d : Int} {k : Nat} (h : ¬ decide (V.int d = V.int (k : Nat)) = true) : d ≠ (k : Int) := fun e => h (decide_eq_true (by rw [e]))
theorem eq_lit {d : Int} {k : Nat} (h : decide (V.int d = V.int (k : Nat)) = true) : d = (k : Int) := by
  have z := of_decide_eq_true h
  injection z
theorem cut_take {ys : List Str} {j : Nat} (h : 1 ≤ ys.length) : ∃ zs : List Str, cutV (ys.map V.str) none (some (1 + (j : Int))) = zs.map V.str ∧ zs.Sublist ys ∧ zs ≠ [] := by
  refine ⟨ys.take (HT.sIx ys.length ys.length (some (1 + (j : Int)))), ?_, List.take_sublist _ _, fun e => ?_⟩
  · unfold cutV
    rw [List.length_map, List.map_take]
    show ((ys.map V.str).drop 0).take (_ - 0) = _
    rw [List.drop_zero, Nat.sub_zero]
  · have z := congrArg List.length e
    rw [List.length_take] at z
    have k : 1 ≤ HT.sIx ys.length ys.length (some (1 + (j : Int))) := by
      rw [show 1 + (j : Int) = ((1 + j : Nat) : Int) by omega, HT.sIx_nat]
      omega
    have z : min (HT.sIx ys.length ys.length (some (1 + (j : Int)))) ys.length = 0 := z
    omega
section
variable {P : Program} {w : World} {K : Frag} {mg : Str → Option Value} {base : Heap} {f : Addr} {fd : FuncData}

abbrev s_law_small : Stmt := top 56
theorem sc_law_small : FnScope ["_law_source_here", "_law_is_inner", "_law_way", "_law_least", "_law_some", "_law_signs", "_law_sign"] ["_law_source_here", "_law_is_inner"] (defScope s_law_small) := ⟨rfl, rfl, rfl, by decide +kernel, rfl, by decide +kernel, by decide +kernel⟩

theorem ok_law_small (F : FunD K "_law_small" "_law_small" (defArgs s_law_small) (defBody s_law_small) (defScope s_law_small) [] [] f fd) (G : GM P w K mg base) {n : Nat} (AM : FnAt P w K mg base CX0 (n + 2) "_law_small" ["_law_source_here", "_law_is_inner"] (spSm n)) : FnOk P w K mg base CX0 (n + 2 + 1) f fd ["_law_source_here", "_law_is_inner"] (spSm (n + 1)) := by
  refine F.ok (CX := CX0) sc_law_small (fun vs H Q E h => ?_) (fun cdv A outer s H vs Q E hr h => ?_)
  · obtain ⟨a, b, rfl, _⟩ := h
    rfl
  · refine ⟨_, PSs.nox (pss_cons (ps_set (i := 2) sc_law_small.nd rfl (Or.inl rfl) (pe_fn G.law_draw (hr.mono (by omega)) pass0 (by rfl) (pa_cons (pv 0) (pa_cons (pe_ifExp (pt_val (pv 1)) pe_int pe_int) pa_nil))))
    (pss_cons (ps_set (i := 3) sc_law_small.nd rfl (Or.inl rfl) (pe_fn G.law_draw (hr.mono (by omega)) pass0 (by rfl) (pa_cons (pv 0) (pa_cons pe_int pa_nil))))
    (pss_cons (ps_if (pt_cmpR op_eq (pv 2) pe_int (nomark _))
      (pss_one (ps_ret (pe_tupS (pa_cons pe_str (pa_cons (pe_fn G.law_pick (hr.mono (by omega)) pass0 (by rfl) (pa_cons (pv 0) (pa_cons (pe_lstS (pa_cons pe_str (pa_cons pe_str (pa_cons pe_str (pa_cons pe_str pa_nil))))) pa_nil))) (pa_cons (pv 3) (pa_cons (pe_op op_add (pv 3) (pe_fn G.law_draw (hr.mono (by omega)) pass0 (by rfl) (pa_cons (pv 0) (pa_cons pe_int pa_nil)))) pa_nil)))))))
      pss_nil)
    (pss_cons (ps_if (pt_cmpR op_eq (pv 2) pe_int (nomark _))
      (pss_cons (ps_set (i := 3) sc_law_small.nd rfl (Or.inl rfl) (pe_fn G.law_pick (hr.mono (by omega)) pass0 (by rfl) (pa_cons (pv 0) (pa_cons (pe_lstS (pa_cons pe_int (pa_cons pe_int (pa_cons pe_int (pa_cons pe_int (pa_cons pe_int pa_nil)))))) pa_nil))))
      (pss_one (ps_ret (pe_tupS (pa_cons pe_str (pa_cons (pv 3) (pa_cons (pe_op op_add (pv 3) (pe_fn G.law_pick (hr.mono (by omega)) pass0 (by rfl) (pa_cons (pv 0) (pa_cons (pe_lstS (pa_cons pe_int (pa_cons pe_int (pa_cons pe_int (pa_cons pe_int pa_nil))))) pa_nil)))) pa_nil)))))))
      pss_nil)
    (pss_cons (ps_if (pt_cmpR op_eq (pv 2) pe_int (nomark _))
      (pss_one (ps_ret (pe_tupS (pa_cons pe_str (pa_cons pe_int pa_nil)))))
      pss_nil)
    (pss_cons (ps_if (pt_cmpR op_eq (pv 2) pe_int (nomark _))
      (pss_cons (ps_set (i := 4) sc_law_small.nd rfl (Or.inl rfl) (pe_fn G.law_shuffled (hr.mono (by omega)) pass0 (by rfl) (pa_cons (pv 0) (pa_cons (pe_lstS (pa_cons pe_str (pa_cons pe_str (pa_cons pe_str (pa_cons pe_str (pa_cons pe_str (pa_cons pe_str (pa_cons pe_str (pa_cons pe_str (pa_cons pe_str pa_nil)))))))))) pa_nil))))
      (pss_one (ps_ret (pe_tupS (pa_cons pe_str (pa_cons (pe_slice sl_listS (pv 4) po_none (po_some (pe_op op_add pe_int (pe_fn G.law_draw (hr.mono (by omega)) pass0 (by rfl) (pa_cons (pv 0) (pa_cons pe_int pa_nil)))))) pa_nil))))))
      pss_nil)
    (pss_cons (ps_if (pt_cmpR op_eq (pv 2) pe_int (nomark _))
      (pss_cons (ps_par (i := 5) (j := 6) (by rfl) sc_law_small.nd rfl rfl (by decide) rfl rfl (pa_cons (pe_fn G.law_pick (hr.mono (by omega)) pass0 (by rfl) (pa_cons (pv 0) (pa_cons (pe_lstS (pa_cons pe_str (pa_cons pe_str pa_nil))) pa_nil))) (pa_cons (pe_fn G.law_pick (hr.mono (by omega)) pass0 (by rfl) (pa_cons (pv 0) (pa_cons (pe_lstS (pa_cons pe_str (pa_cons pe_str pa_nil))) pa_nil))) pa_nil)) (by rfl))
      (pss_one (ps_ret (pe_tupS (pa_cons pe_str (pa_cons (pv 5) (pa_cons (pv 6) (pa_cons (pv 3) (pa_cons (pe_op op_add (pv 3) (pe_fn G.law_draw (hr.mono (by omega)) pass0 (by rfl) (pa_cons (pv 0) (pa_cons pe_int pa_nil)))) pa_nil)))))))))
      pss_nil)
    (pss_one (ps_ret (pe_tupS (pa_cons pe_str (pa_cons (pe_fn G.law_pick (hr.mono (by omega)) pass0 (by rfl) (pa_cons (pv 0) (pa_cons (pe_lstS (pa_cons pe_str (pa_cons pe_str pa_nil))) pa_nil))) (pa_cons pe_str (pa_cons (pe_fn AM hr pass0 (by rfl) (pa_cons (pv 0) (pa_cons pe_bl pa_nil))) pa_nil)))))))))))))), ?_⟩
    obtain ⟨a, b, rfl, st, hn, q⟩ := h
    refine ⟨_, rfl, _, rfl, _, rfl, ?_⟩
    cases b with
    | true =>
      refine iteT ⟨a, 5, rfl, st, by decide, by decide, fun d0 H0 h00 h10 B0 st0 => ⟨_, rfl, a, 2, rfl, st0, by decide, by decide, fun d1 H1 h01 h11 B1 st1 => ?_⟩⟩
      obtain ⟨l, rfl⟩ : ∃ l : Nat, d1 = (l : Int) := ⟨d1.toNat, by omega⟩
      have hl : l < 2 := by omega
      have B1 := B0.trans B1
      refine ⟨_, rfl, rfl, _, rfl, ?_⟩
      refine ite2 (fun c0 => ?_) (fun c0 => ?_)
      · refine ⟨_, rfl, by show 4 ≤ 1000; decide, fun p2 H2 hp2 S2 e2 => ⟨a, p2, wordZ.map V.str, rfl, st1.same S2, st1.ne hp2, e2, by decide, by decide, fun v2 G2 hv2 B2 st2 => ?_⟩⟩
        obtain ⟨z, hz, rfl⟩ := List.mem_map.mp hv2
        refine ⟨_, rfl, _, rfl, _, rfl, a, 3, rfl, st2, by decide, by decide, fun d4 H4 h04 h14 B4 st4 => ⟨_, _, rfl, rfl, by show 4 ≤ 1000; decide, fun t H5 ht S5 e5 => ?_⟩⟩
        obtain ⟨j, rfl⟩ : ∃ j : Nat, d4 = (j : Int) := ⟨d4.toNat, by omega⟩
        dsimp only at e5
        rw [show (l : Int) + (j : Int) = ((l + j : Nat) : Int) by omega] at e5
        exact q _ (.pl (.word (.str z) (.int (l : Nat)) (.int ((l + j : Nat) : Int)))) _ (.pl (.word hz hl (by omega))) (fun _ => ⟨_, rfl, .word hz hl (by omega)⟩) ⟨t, rfl, st4.ne ht, e5⟩ ((((B1.trans (But.of_same S2)).trans B2).trans B4).trans (But.of_same S5)) (st4.same S5)
      refine ⟨_, rfl, rfl, _, rfl, ?_⟩
      refine ite2 (fun c1 => ?_) (fun c1 => ?_)
      · refine ⟨_, rfl, by show 5 ≤ 1000; decide, fun p2 H2 hp2 S2 e2 => ⟨a, p2, (numL.map fun l : Nat => V.int (l : Int)), rfl, st1.same S2, st1.ne hp2, e2, by decide, by decide, fun v2 G2 hv2 B2 st2 => ?_⟩⟩
        obtain ⟨l2, hl2, rfl⟩ := List.mem_map.mp hv2
        refine ⟨_, rfl, _, rfl, _, rfl, by show 4 ≤ 1000; decide, fun p4 H4 hp4 S4 e4 => ⟨a, p4, (numM.map fun l : Nat => V.int (l : Int)), rfl, st2.same S4, st2.ne hp4, e4, by decide, by decide, fun v4 G4 hv4 B4 st4 => ?_⟩⟩
        obtain ⟨j, hj, rfl⟩ := List.mem_map.mp hv4
        refine ⟨_, _, rfl, rfl, by show 3 ≤ 1000; decide, fun t H5 ht S5 e5 => ?_⟩
        dsimp only at e5
        rw [show (l2 : Int) + (j : Int) = ((l2 + j : Nat) : Int) by omega] at e5
        exact q _ (.pl (.number (.int (l2 : Nat)) (.int ((l2 + j : Nat) : Int)))) _ (.pl (.number hl2 hj)) (fun _ => ⟨_, rfl, .number hl2 hj⟩) ⟨t, rfl, st4.ne ht, e5⟩ (((((B1.trans (But.of_same S2)).trans B2).trans (But.of_same S4)).trans B4).trans (But.of_same S5)) (st4.same S5)
      refine ⟨_, rfl, rfl, _, rfl, ?_⟩
      refine ite2 (fun c2 => ?_) (fun c2 => ?_)
      · refine ⟨by show 2 ≤ 1000; decide, fun t H5 ht S5 e5 => ?_⟩
        exact q _ (.pl (.fixed (.int ((1 : Nat) : Int)))) _ (.pl (.fixed)) (fun _ => ⟨_, rfl, .fixed⟩) ⟨t, rfl, st1.ne ht, e5⟩ (B1.trans (But.of_same S5)) (st1.same S5)
      refine ⟨_, rfl, rfl, _, rfl, ?_⟩
      refine ite2 (fun c3 => ?_) (fun c3 => ?_)
      · refine ⟨_, rfl, by show 9 ≤ 1000; decide, fun p2 H2 hp2 S2 e2 => ⟨a, p2, nines, rfl, st1.same S2, st1.ne hp2, e2, fun t ht => ht, by decide, fun r2 ys G2 hr2 perm B2 st2 er => ?_⟩⟩
        have nr : r2 ≠ a := (st1.same S2).ne hr2
        refine ⟨_, rfl, _, rfl, a, 4, rfl, st2, by decide, by decide, fun d4 H4 h04 h14 B4 st4 => ⟨_, _, rfl, rfl, ?_⟩⟩
        obtain ⟨j, rfl⟩ : ∃ j : Nat, d4 = (j : Int) := ⟨d4.toNat, by omega⟩
        refine ⟨_, rfl, r2, _, rfl, SqL.of (B4 _ _ nr er), fun pc Hc hpc Sc ec => ⟨by show 2 ≤ 1000; decide, fun t H5 ht S5 e5 => ?_⟩⟩
        obtain ⟨zs, ez, sub, zne⟩ := cut_take (ys := ys) (j := j) (by rw [perm.length_eq]; decide)
        rw [ez] at ec
        have nd : zs.Nodup := (perm.symm.nodup (by decide +kernel)).sublist sub
        have ztn : ∀ t ∈ zs, t ∈ nines := fun t ht => perm.mem_iff.mp (sub.subset ht)
        have zl : zs.length ≤ 9 := Nat.le_trans sub.length_le (by rw [perm.length_eq]; decide)
        have stc := st4.same Sc
        exact q _ (.pl (.listed (.lst (zs.map V.str)))) _ (.pl (.listed nd ztn zne zl)) (fun _ => ⟨_, rfl, .listed nd ztn zne zl⟩) ⟨t, .ref pc, rfl, stc.ne ht, e5, ⟨pc, rfl, S5 _ _ ec⟩, fun c hc => by cases hc; exact st4.ne hpc⟩ (((((B1.trans (But.of_same S2)).trans B2).trans B4).trans (But.of_same Sc)).trans (But.of_same S5)) (stc.same S5)
      refine ⟨_, rfl, rfl, _, rfl, ?_⟩
      refine ite2 (fun c4 => ?_) (fun c4 => ?_)
      · refine ⟨_, rfl, by show 2 ≤ 1000; decide, fun p2 H2 hp2 S2 e2 => ⟨a, p2, endZ.map V.str, rfl, st1.same S2, st1.ne hp2, e2, by decide, by decide, fun v2 G2 hv2 B2 st2 => ?_⟩⟩
        obtain ⟨z, hz, rfl⟩ := List.mem_map.mp hv2
        refine ⟨_, rfl, by show 2 ≤ 1000; decide, fun p4 H4 hp4 S4 e4 => ⟨a, p4, endE.map V.str, rfl, st2.same S4, st2.ne hp4, e4, by decide, by decide, fun v4 G4 hv4 B4 st4 => ?_⟩⟩
        obtain ⟨e, he, rfl⟩ := List.mem_map.mp hv4
        refine ⟨_, _, rfl, _, rfl, _, rfl, _, rfl, _, rfl, _, rfl, a, 2, rfl, st4, by decide, by decide, fun d6 H6 h06 h16 B6 st6 => ⟨_, _, rfl, rfl, by show 5 ≤ 1000; decide, fun t H5 ht S5 e5 => ?_⟩⟩
        obtain ⟨j, rfl⟩ : ∃ j : Nat, d6 = (j : Int) := ⟨d6.toNat, by omega⟩
        dsimp only at e5
        rw [show (l : Int) + (j : Int) = ((l + j : Nat) : Int) by omega] at e5
        exact q _ (.pl (.ended (.str z) (.str e) (.int (l : Nat)) (.int ((l + j : Nat) : Int)))) _ (.pl (.ended hz he hl (by omega))) (fun _ => ⟨_, rfl, .ended hz he hl (by omega)⟩) ⟨t, rfl, st6.ne ht, e5⟩ ((((((B1.trans (But.of_same S2)).trans B2).trans (But.of_same S4)).trans B4).trans B6).trans (But.of_same S5)) (st6.same S5)
      exfalso
      have n0 := ne_lit (k := 0) c0
      have n1 := ne_lit (k := 1) c1
      have n2 := ne_lit (k := 2) c2
      have n3 := ne_lit (k := 3) c3
      have n4 := ne_lit (k := 4) c4
      omega

    | false =>
      refine iteF ⟨a, 6, rfl, st, by decide, by decide, fun d0 H0 h00 h10 B0 st0 => ⟨_, rfl, a, 2, rfl, st0, by decide, by decide, fun d1 H1 h01 h11 B1 st1 => ?_⟩⟩
      obtain ⟨l, rfl⟩ : ∃ l : Nat, d1 = (l : Int) := ⟨d1.toNat, by omega⟩
      have hl : l < 2 := by omega
      have B1 := B0.trans B1
      refine ⟨_, rfl, rfl, _, rfl, ?_⟩
      refine ite2 (fun c0 => ?_) (fun c0 => ?_)
      · refine ⟨_, rfl, by show 4 ≤ 1000; decide, fun p2 H2 hp2 S2 e2 => ⟨a, p2, wordZ.map V.str, rfl, st1.same S2, st1.ne hp2, e2, by decide, by decide, fun v2 G2 hv2 B2 st2 => ?_⟩⟩
        obtain ⟨z, hz, rfl⟩ := List.mem_map.mp hv2
        refine ⟨_, rfl, _, rfl, _, rfl, a, 3, rfl, st2, by decide, by decide, fun d4 H4 h04 h14 B4 st4 => ⟨_, _, rfl, rfl, by show 4 ≤ 1000; decide, fun t H5 ht S5 e5 => ?_⟩⟩
        obtain ⟨j, rfl⟩ : ∃ j : Nat, d4 = (j : Int) := ⟨d4.toNat, by omega⟩
        dsimp only at e5
        rw [show (l : Int) + (j : Int) = ((l + j : Nat) : Int) by omega] at e5
        exact q _ (.pl (.word (.str z) (.int (l : Nat)) (.int ((l + j : Nat) : Int)))) _ (.pl (.word hz hl (by omega))) (fun _ => ⟨_, rfl, .word hz hl (by omega)⟩) ⟨t, rfl, st4.ne ht, e5⟩ ((((B1.trans (But.of_same S2)).trans B2).trans B4).trans (But.of_same S5)) (st4.same S5)
      refine ⟨_, rfl, rfl, _, rfl, ?_⟩
      refine ite2 (fun c1 => ?_) (fun c1 => ?_)
      · refine ⟨_, rfl, by show 5 ≤ 1000; decide, fun p2 H2 hp2 S2 e2 => ⟨a, p2, (numL.map fun l : Nat => V.int (l : Int)), rfl, st1.same S2, st1.ne hp2, e2, by decide, by decide, fun v2 G2 hv2 B2 st2 => ?_⟩⟩
        obtain ⟨l2, hl2, rfl⟩ := List.mem_map.mp hv2
        refine ⟨_, rfl, _, rfl, _, rfl, by show 4 ≤ 1000; decide, fun p4 H4 hp4 S4 e4 => ⟨a, p4, (numM.map fun l : Nat => V.int (l : Int)), rfl, st2.same S4, st2.ne hp4, e4, by decide, by decide, fun v4 G4 hv4 B4 st4 => ?_⟩⟩
        obtain ⟨j, hj, rfl⟩ := List.mem_map.mp hv4
        refine ⟨_, _, rfl, rfl, by show 3 ≤ 1000; decide, fun t H5 ht S5 e5 => ?_⟩
        dsimp only at e5
        rw [show (l2 : Int) + (j : Int) = ((l2 + j : Nat) : Int) by omega] at e5
        exact q _ (.pl (.number (.int (l2 : Nat)) (.int ((l2 + j : Nat) : Int)))) _ (.pl (.number hl2 hj)) (fun _ => ⟨_, rfl, .number hl2 hj⟩) ⟨t, rfl, st4.ne ht, e5⟩ (((((B1.trans (But.of_same S2)).trans B2).trans (But.of_same S4)).trans B4).trans (But.of_same S5)) (st4.same S5)
      refine ⟨_, rfl, rfl, _, rfl, ?_⟩
      refine ite2 (fun c2 => ?_) (fun c2 => ?_)
      · refine ⟨by show 2 ≤ 1000; decide, fun t H5 ht S5 e5 => ?_⟩
        exact q _ (.pl (.fixed (.int ((1 : Nat) : Int)))) _ (.pl (.fixed)) (fun _ => ⟨_, rfl, .fixed⟩) ⟨t, rfl, st1.ne ht, e5⟩ (B1.trans (But.of_same S5)) (st1.same S5)
      refine ⟨_, rfl, rfl, _, rfl, ?_⟩
      refine ite2 (fun c3 => ?_) (fun c3 => ?_)
      · refine ⟨_, rfl, by show 9 ≤ 1000; decide, fun p2 H2 hp2 S2 e2 => ⟨a, p2, nines, rfl, st1.same S2, st1.ne hp2, e2, fun t ht => ht, by decide, fun r2 ys G2 hr2 perm B2 st2 er => ?_⟩⟩
        have nr : r2 ≠ a := (st1.same S2).ne hr2
        refine ⟨_, rfl, _, rfl, a, 4, rfl, st2, by decide, by decide, fun d4 H4 h04 h14 B4 st4 => ⟨_, _, rfl, rfl, ?_⟩⟩
        obtain ⟨j, rfl⟩ : ∃ j : Nat, d4 = (j : Int) := ⟨d4.toNat, by omega⟩
        refine ⟨_, rfl, r2, _, rfl, SqL.of (B4 _ _ nr er), fun pc Hc hpc Sc ec => ⟨by show 2 ≤ 1000; decide, fun t H5 ht S5 e5 => ?_⟩⟩
        obtain ⟨zs, ez, sub, zne⟩ := cut_take (ys := ys) (j := j) (by rw [perm.length_eq]; decide)
        rw [ez] at ec
        have nd : zs.Nodup := (perm.symm.nodup (by decide +kernel)).sublist sub
        have ztn : ∀ t ∈ zs, t ∈ nines := fun t ht => perm.mem_iff.mp (sub.subset ht)
        have zl : zs.length ≤ 9 := Nat.le_trans sub.length_le (by rw [perm.length_eq]; decide)
        have stc := st4.same Sc
        exact q _ (.pl (.listed (.lst (zs.map V.str)))) _ (.pl (.listed nd ztn zne zl)) (fun _ => ⟨_, rfl, .listed nd ztn zne zl⟩) ⟨t, .ref pc, rfl, stc.ne ht, e5, ⟨pc, rfl, S5 _ _ ec⟩, fun c hc => by cases hc; exact st4.ne hpc⟩ (((((B1.trans (But.of_same S2)).trans B2).trans B4).trans (But.of_same Sc)).trans (But.of_same S5)) (stc.same S5)
      refine ⟨_, rfl, rfl, _, rfl, ?_⟩
      refine ite2 (fun c4 => ?_) (fun c4 => ?_)
      · refine ⟨_, rfl, by show 2 ≤ 1000; decide, fun p2 H2 hp2 S2 e2 => ⟨a, p2, endZ.map V.str, rfl, st1.same S2, st1.ne hp2, e2, by decide, by decide, fun v2 G2 hv2 B2 st2 => ?_⟩⟩
        obtain ⟨z, hz, rfl⟩ := List.mem_map.mp hv2
        refine ⟨_, rfl, by show 2 ≤ 1000; decide, fun p4 H4 hp4 S4 e4 => ⟨a, p4, endE.map V.str, rfl, st2.same S4, st2.ne hp4, e4, by decide, by decide, fun v4 G4 hv4 B4 st4 => ?_⟩⟩
        obtain ⟨e, he, rfl⟩ := List.mem_map.mp hv4
        refine ⟨_, _, rfl, _, rfl, _, rfl, _, rfl, _, rfl, _, rfl, a, 2, rfl, st4, by decide, by decide, fun d6 H6 h06 h16 B6 st6 => ⟨_, _, rfl, rfl, by show 5 ≤ 1000; decide, fun t H5 ht S5 e5 => ?_⟩⟩
        obtain ⟨j, rfl⟩ : ∃ j : Nat, d6 = (j : Int) := ⟨d6.toNat, by omega⟩
        dsimp only at e5
        rw [show (l : Int) + (j : Int) = ((l + j : Nat) : Int) by omega] at e5
        exact q _ (.pl (.ended (.str z) (.str e) (.int (l : Nat)) (.int ((l + j : Nat) : Int)))) _ (.pl (.ended hz he hl (by omega))) (fun _ => ⟨_, rfl, .ended hz he hl (by omega)⟩) ⟨t, rfl, st6.ne ht, e5⟩ ((((((B1.trans (But.of_same S2)).trans B2).trans (But.of_same S4)).trans B4).trans B6).trans (But.of_same S5)) (st6.same S5)
      refine ⟨_, rfl, by show 2 ≤ 1000; decide, fun p2 H2 hp2 S2 e2 => ⟨a, p2, marks.map V.str, rfl, st1.same S2, st1.ne hp2, e2, by decide, by decide, fun v2 G2 hv2 B2 st2 => ?_⟩⟩
      obtain ⟨nn, hnn, rfl⟩ := List.mem_map.mp hv2
      refine ⟨_, rfl, a, true, rfl, st2, by have hn : 2 ≤ n + 1 := hn; show 1 ≤ n; omega, fun v d H4 hd hpl hF B4 st4 => ?_⟩
      obtain ⟨d', rfl, hd'⟩ := hpl rfl
      refine ⟨by show 4 ≤ 1000; decide, fun t H5 ht S5 e5 => ?_⟩
      exact q _ (.mk (.str nn) (.str "M") d') _ (.mk hnn hd') (fun z => by cases z) ⟨t, v, rfl, st4.ne ht, e5, PDAt.same S5 hF⟩ ((((B1.trans (But.of_same S2)).trans B2).trans B4).trans (But.of_same S5)) (st4.same S5)


end
end L2.K77

set_option Elab.async false
set_option linter.all false
set_option maxRecDepth 100000
set_option maxHeartbeats 4000000
/-! The law: a drawn layout. -/
namespace L2.K77
open PySem PySem.W PySem.Spec PySem.Calls PyProof.Rows L2.Jk
def datP : PD → PyData
  | .word s l m => .tuple [.str "word", dV s, dV l, dV m]
  | .number l m => .tuple [.str "number", dV l, dV m]
  | .fixed w => .tuple [.str "fixed", dV w]
  | .listed x => .tuple [.str "listed", .list (x.els.map dV)]
  | .ended s e l m => .tuple [.str "ended", dV s, dV e, dV l, dV m]
def datF : FD → PyData
  | .pl d => datP d
  | .mk n m d => .tuple [.str "marked", dV n, dV m, datP d]
theorem dp_pd {K : Frag} {H : Hp} {s0 : Addr} {v : V} {d : PD} (hd : Dr d) (h : PDAt s0 H v d) : Dp K H v (datP d) := by
  cases hd with
  | word a b c =>
    obtain ⟨b, rfl, _, h⟩ := h
    exact .tup (SqT.of h) (.cons (.str _) (.cons (.str _) (.cons (.int _) (.cons (.int _) .nil))))
  | number a b =>
    obtain ⟨b, rfl, _, h⟩ := h
    exact .tup (SqT.of h) (.cons (.str _) (.cons (.int _) (.cons (.int _) .nil)))
  | fixed =>
    obtain ⟨b, rfl, _, h⟩ := h
    exact .tup (SqT.of h) (.cons (.str _) (.cons (.int _) .nil))
  | listed a b c e =>
    obtain ⟨b, u, rfl, _, h, ⟨b2, rfl, h2⟩, _⟩ := h
    exact .tup (SqT.of h) (.cons (.str _) (.cons (dp_strs h2) .nil))
  | ended a b c e =>
    obtain ⟨b, rfl, _, h⟩ := h
    exact .tup (SqT.of h) (.cons (.str _) (.cons (.str _) (.cons (.str _) (.cons (.int _) (.cons (.int _) .nil)))))
theorem dp_fd {K : Frag} {H : Hp} {s0 : Addr} {v : V} {d : FD} (hd : DrF d) (h : FIn s0 H v d) : Dp K H v (datF d) := by
  cases hd with
  | pl hd => exact dp_pd hd h
  | mk hn hd =>
    obtain ⟨b, u, rfl, _, h, hI⟩ := h
    exact .tup (SqT.of h) (.cons (.str _) (.cons (.str _) (.cons (.str _) (.cons (dp_pd hd hI) .nil))))
theorem dp_specs {K : Frag} {H : Hp} {s0 : Addr} : ∀ {vs : List V} {ds : List FD}, (∀ d ∈ ds, DrF d) → SpsAt s0 H vs ds → DpAll K H vs (ds.map datF)
  | [], [], _, _ => .nil
  | [], _ :: _, _, h => by cases h.1
  | _ :: _, [], _, h => by cases h.1
  | v :: vs, d :: ds, hd, h => .cons (dp_fd (hd d (List.mem_cons_self ..)) (h.2 0 v d rfl rfl)) (dp_specs (fun x hx => hd x (List.mem_cons_of_mem _ hx)) ⟨Nat.succ.inj h.1, fun i a b h1 h2 => h.2 (i + 1) a b h1 h2⟩)
theorem lay_menu : (∀ z ∈ wordZ, (PyData.str z).canLay0 = true) ∧ (∀ z ∈ endZ, (PyData.str z).canLay0 = true) ∧ (∀ z ∈ endE, (PyData.str z).canLay0 = true) ∧ (∀ z ∈ marks, (PyData.str z).canLay0 = true) ∧
  (PyData.str "word").canLay0 = true ∧ (PyData.str "number").canLay0 = true ∧ (PyData.str "fixed").canLay0 = true ∧ (PyData.str "listed").canLay0 = true ∧ (PyData.str "ended").canLay0 = true ∧ (PyData.str "marked").canLay0 = true ∧ (PyData.str "M").canLay0 = true := by decide +kernel
theorem and_t {a b : Bool} (h : a = true) (k : b = true) : (a && b) = true := Bool.and_eq_true_iff.mpr ⟨h, k⟩
theorem sh_pd {d : PD} (hd : Dr d) : (datP d).canLay0 = true ∧ (datP d).depth ≤ 3 := by
  obtain ⟨m1, m2, m3, m4, s1, s2, s3, s4, s5, s6, s7⟩ := lay_menu
  cases hd with
  | word a b c => exact ⟨and_t s1 (and_t (m1 _ a) rfl), by show max 0 (max 0 (max 0 (max 0 0))) + 1 ≤ 3; decide⟩
  | number a b => exact ⟨and_t s2 rfl, by show max 0 (max 0 (max 0 0)) + 1 ≤ 3; decide⟩
  | fixed => exact ⟨and_t s3 rfl, by show max 0 (max 0 0) + 1 ≤ 3; decide⟩
  | @listed ts a b c e =>
    obtain ⟨l1, l2⟩ := lay_strs ts fun t ht => (nines_are t (b t ht)).2.2
    refine ⟨and_t s4 (and_t l1 rfl), ?_⟩
    show max 0 (max (PyData.depthAll ((ts.map V.str).map dV) + 1) 0) + 1 ≤ 3
    omega
  | ended a b c e => exact ⟨and_t s5 (and_t (m2 _ a) (and_t (m3 _ b) rfl)), by show max 0 (max 0 (max 0 (max 0 (max 0 0)))) + 1 ≤ 3; decide⟩
theorem sh_fd {d : FD} (hd : DrF d) : (datF d).canLay0 = true ∧ (datF d).depth ≤ 4 := by
  obtain ⟨m1, m2, m3, m4, s1, s2, s3, s4, s5, s6, s7⟩ := lay_menu
  cases hd with
  | pl hd =>
    obtain ⟨h1, h2⟩ := sh_pd hd
    exact ⟨h1, Nat.le_trans h2 (by decide)⟩
  | @mk n d hn hd =>
    obtain ⟨h1, h2⟩ := sh_pd hd
    refine ⟨and_t s6 (and_t (m4 _ hn) (and_t s7 (and_t h1 rfl))), ?_⟩
    show max 0 (max 0 (max 0 (max (datP d).depth 0))) + 1 ≤ 4
    omega
theorem sh_all : ∀ ds : List FD, (∀ d ∈ ds, DrF d) → PyData.canLayAll0 (ds.map datF) = true ∧ PyData.depthAll (ds.map datF) ≤ 4
  | [], _ => ⟨rfl, by decide⟩
  | d :: ds, h => by
    obtain ⟨h1, h2⟩ := sh_all ds fun x hx => h x (List.mem_cons_of_mem _ hx)
    obtain ⟨h3, h4⟩ := sh_fd (h d (List.mem_cons_self ..))
    exact ⟨and_t h3 h1, Nat.max_le.mpr ⟨h4, h2⟩⟩
theorem sh_specs {ds : List FD} (h : ∀ d ∈ ds, DrF d) : SeqAt.shaped (.list (ds.map datF)) = true := by
  obtain ⟨l1, l2⟩ := sh_all ds h
  refine Bool.and_eq_true_iff.mpr ⟨l1, decide_eq_true ?_⟩
  show PyData.depthAll (ds.map datF) + 1 ≤ 64
  omega
theorem eqv_nilF : ∀ ds : List FD, PyData.eqv (.list (ds.map datF)) (.list []) = decide (ds.length = 0)
  | [] => rfl
  | _ :: _ => rfl
theorem FIn.ref {s : Addr} {H : Hp} {v : V} : ∀ {d : FD}, FIn s H v d → ∃ b, v = .ref b
  | .pl (.word ..), ⟨b, e, _⟩ => ⟨b, e⟩
  | .pl (.number ..), ⟨b, e, _⟩ => ⟨b, e⟩
  | .pl (.fixed _), ⟨b, e, _⟩ => ⟨b, e⟩
  | .pl (.listed _), ⟨b, _, e, _⟩ => ⟨b, e⟩
  | .pl (.ended ..), ⟨b, e, _⟩ => ⟨b, e⟩
  | .mk .., ⟨b, _, e, _⟩ => ⟨b, e⟩
theorem upd_but {H : Hp} {p c : Addr} {o u : HO} {vsp : List V} (hp : H p = some (.lst vsp)) (hc : H c = some u) (n : u ≠ .lst vsp) : upd H p o c = some u := by
  rw [upd_ne (fun e => ?_)]
  · exact hc
  · rw [e, hp] at hc
    exact n (Option.some.inj hc).symm
theorem PDAt.put {s p : Addr} {H : Hp} {o : HO} {vsp : List V} {v : V} (hp : H p = some (.lst vsp)) (hr : ∀ x ∈ vsp, ∃ b, x = .ref b) : ∀ {d : PD}, Dr d → PDAt s H v d → PDAt s (upd H p o) v d
  | _, .word .., ⟨b, e, n, h⟩ => ⟨b, e, n, upd_but hp h (by intro z; cases z)⟩
  | _, .number .., ⟨b, e, n, h⟩ => ⟨b, e, n, upd_but hp h (by intro z; cases z)⟩
  | _, .fixed, ⟨b, e, n, h⟩ => ⟨b, e, n, upd_but hp h (by intro z; cases z)⟩
  | _, .listed (ts := ts) _ _ hne _, ⟨b, u, e, n, h, ⟨b2, e2, l⟩, k⟩ => ⟨b, u, e, n, upd_but hp h (by intro z; cases z), ⟨b2, e2, upd_but hp l (fun z => by
      injection z with z
      cases ts with
      | nil => exact hne rfl
      | cons t ts =>
        obtain ⟨c, hc⟩ := hr (.str t) (z ▸ List.mem_cons_self ..)
        cases hc)⟩, k⟩
  | _, .ended .., ⟨b, e, n, h⟩ => ⟨b, e, n, upd_but hp h (by intro z; cases z)⟩
theorem FIn.put2 {s p : Addr} {H H6 : Hp} {o : HO} {vsp : List V} {v : V} {d : FD} (h : FIn s H v d) (S : Same H H6) (hp : H6 p = some (.lst vsp)) (hr : ∀ x ∈ vsp, ∃ b, x = .ref b) (hd : DrF d) : FIn s (upd H6 p o) v d := by
  cases hd with
  | pl hd => exact PDAt.put hp hr hd (PDAt.same S h)
  | mk hn hd =>
    obtain ⟨b, u, e, n, h, k⟩ := h
    exact ⟨b, u, e, n, upd_but hp (S _ _ h) (by intro z; cases z), PDAt.put hp hr hd (PDAt.same S k)⟩
theorem SpsAt.put2 {s p : Addr} {H H6 : Hp} {o : HO} {vsp : List V} {vs : List V} {ds : List FD} (h : SpsAt s H vs ds) (S : Same H H6) (hp : H6 p = some (.lst vsp)) (hr : ∀ x ∈ vsp, ∃ b, x = .ref b) (hd : ∀ d ∈ ds, DrF d) : SpsAt s (upd H6 p o) vs ds :=
  ⟨h.1, fun i v d a b => (h.2 i v d a b).put2 S hp hr (hd d (List.mem_of_getElem? b))⟩
theorem SpsAt.snoc {s : Addr} {H : Hp} {vs : List V} {ds : List FD} {v : V} {d : FD} (h : SpsAt s H vs ds) (k : FIn s H v d) : SpsAt s H (vs ++ [v]) (ds ++ [d]) := by
  refine ⟨by rw [List.length_append, List.length_append, h.1]; rfl, fun i x y hx hy => ?_⟩
  have hl := h.1
  by_cases hi : i < vs.length
  · rw [List.getElem?_append_left hi] at hx
    rw [List.getElem?_append_left (by omega)] at hy
    exact h.2 i x y hx hy
  · rw [List.getElem?_append_right (by omega)] at hx
    rw [List.getElem?_append_right (by omega)] at hy
    have e : i - vs.length = 0 := by
      have := (List.getElem?_eq_some_iff.mp hx).1
      have : i - vs.length < 1 := this
      omega
    rw [← hl, e] at hy
    rw [e] at hx
    cases hx
    cases hy
    exact k
theorem VsOk.len {d : FD} {xs : List V} (ok : VsOk d xs) : 1 ≤ xs.length ∧ xs.length ≤ 71 := ⟨List.length_pos_iff.mpr ok.ne, by
  have := ok.few
  have := d.dep_lt
  omega⟩
theorem but_put0 {H H1 : Hp} {a p : Addr} {o : HO} (B : But a H H1) (n : H p = none) : But a H (upd H1 p o) := but_put B n
theorem joints_jn : ∀ j ∈ (["", "", "", "!", "~"] : List Str), j ∈ JN := by decide +kernel
theorem cut_tail (vs : List V) : (cutV vs (some 1) none).length = vs.length - 1 := by
  unfold cutV
  have e : HT.sIx vs.length 0 (some 1) = min 1 vs.length := HT.sIx_nat vs.length 0 1
  rw [e, HT.sIx_none, List.length_take, List.length_drop]
  omega
/-- what a layout is made of, as the law holds it: specs at ps, joints at pj, not at the law's numbers -/
structure LyAt (a : Addr) (H : Hp) (ps pj : Addr) (vsp : List V) (ds : List FD) (js : List Str) : Prop where
  ns : ps ≠ a
  nj : pj ≠ a
  sp : H ps = some (.lst vsp)
  sps : SpsAt a H vsp ds
  jt : H pj = some (.lst (js.map V.str))
  dr : ∀ d ∈ ds, DrF d
  ok : LyOk ds js
theorem LyAt.same {a : Addr} {H H' : Hp} {ps pj : Addr} {vsp : List V} {ds : List FD} {js : List Str} (S : Same H H') (h : LyAt a H ps pj vsp ds js) : LyAt a H' ps pj vsp ds js := ⟨h.ns, h.nj, S _ _ h.sp, h.sps.same S, S _ _ h.jt, h.dr, h.ok⟩
theorem LyAt.but {a : Addr} {H H' : Hp} {ps pj : Addr} {vsp : List V} {ds : List FD} {js : List Str} (B : But a H H') (h : LyAt a H ps pj vsp ds js) : LyAt a H' ps pj vsp ds js := ⟨h.ns, h.nj, B _ _ h.ns h.sp, h.sps.but B, B _ _ h.nj h.jt, h.dr, h.ok⟩
theorem none_but {a D : Addr} {H H' : Hp} (n : D ≠ a) (B : But a H H') (h : H' D = none) : H D = none := by
  cases e : H D with
  | none => rfl
  | some o => rw [B _ _ n e] at h; cases h
def spLy : Sp := fun vs H Q _ => ∃ a : Addr, vs = [.ref a, .int 3, .int 300] ∧ StAt H a ∧ ∀ T ps pj vsp ds js H', T ≠ a → H ps = none → H pj = none → LyAt a H' ps pj vsp ds js → ds.length ≤ 3 → H' T = some (.tup [.ref ps, .ref pj]) → But a H H' → StAt H' a → Q (.ref T) H'
structure GL (P : Program) (w : World) (K : Frag) (mg : Str → Option Value) (base : Heap) : Prop extends GM P w K mg base where
  law_small : FnAt P w K mg base CX0 4 "_law_small" ["_law_source_here", "_law_is_inner"] (spSm 2)
section
variable {P : Program} {w : World} {K : Frag} {mg : Str → Option Value} {base : Heap} {f : Addr} {fd : FuncData}

abbrev s_law_layout : Stmt := top 57
theorem sc_law_layout : FnScope ["_law_source_here", "_law_most", "_law_limit", "_law_specs", "_law_many", "_law_turn", "_law_spec"] ["_law_source_here", "_law_most", "_law_limit"] (defScope s_law_layout) := ⟨rfl, rfl, rfl, by decide +kernel, rfl, by decide +kernel, by decide +kernel⟩

theorem ok_law_layout (F : FunD K "_law_layout" "_law_layout" (defArgs s_law_layout) (defBody s_law_layout) (defScope s_law_layout) [] [] f fd) (G : GL P w K mg base) : FnOk P w K mg base CX0 5 f fd ["_law_source_here", "_law_most", "_law_limit"] spLy := by
  refine F.ok (CX := CX0) sc_law_layout (fun vs H Q E h => ?_) (fun cdv A outer s H vs Q E hr h => ?_)
  · obtain ⟨a, rfl, _⟩ := h
    rfl
  · refine ⟨_, PSs.nox (pss_cons (ps_par (i := 3) (j := 4) (by rfl) sc_law_layout.nd rfl rfl (by decide) rfl rfl (pa_cons (pe_lstS pa_nil) (pa_cons pe_int pa_nil)) (by rfl))
    (pss_cons (ps_for PassesOwn.never rfl (pi_range1 (by rfl) G.range (pa_cons (pe_op op_add pe_int (pe_fn G.law_draw (hr.mono (by decide)) pass0 (by rfl) (pa_cons (pv 0) (pa_cons (pv 1) pa_nil)))) pa_nil)) (pg_name (i := 5) sc_law_layout.nd rfl (Or.inl rfl))
      (pss_cons (ps_set (i := 6) sc_law_layout.nd rfl (Or.inl rfl) (pe_fn G.law_small hr pass0 (by rfl) (pa_cons (pv 0) (pa_cons pe_bl pa_nil))))
      (pss_one (ps_if (PW.pt (pw_or (pt_cmpR (op_eqD hr.units) (pv 3) (pe_lstS pa_nil) (nomark _)) (pw_or1 (pt_cmpR op_le (pe_op op_mul (pv 4) (pe_callB call_len_seq (by rfl) G.len (by decide +kernel) (pa_cons (pe_fn G.law_values (hr.mono (by decide)) pass0 (by rfl) (pa_cons (pv 6) pa_nil)) pa_nil))) (pv 2) (nomark _)))))
        (pss_cons (ps_expr (pe_bm PySem.F.plainAttrs_list PySem.F.slot_list_append PySem.F.type_list_append mt_append (pv 3) (pa_cons (pv 6) pa_nil)))
        (pss_one (ps_set (i := 4) sc_law_layout.nd rfl (Or.inl rfl) (pe_op op_mul (pv 4) (pe_callB call_len_seq (by rfl) G.len (by decide +kernel) (pa_cons (pe_fn G.law_values (hr.mono (by decide)) pass0 (by rfl) (pa_cons (pv 6) pa_nil)) pa_nil))))))
        pss_nil))))
    (pss_one (ps_ret (pe_tupS (pa_cons (pv 3) (pa_cons (pe_lc (own := [("_law_spec", 6)]) (g := gName 6) (tt := tYes) rfl sc_law_layout.nd (pi_list (pe_slice sl_listS (pv 3) (po_some pe_int) po_none)) (blkOk_by (N := ["_law_source_here", "_law_most", "_law_limit", "_law_specs", "_law_many", "_law_turn", "_law_spec"]) (sc := defScope s_law_layout) (by decide +kernel)) (fun _ _ _ _ _ => pg_name (i := 6) sc_law_layout.nd rfl (Or.inl rfl)) (fun _ _ _ _ _ => pts_nil) (fun _ _ _ _ _ => (pe_fn G.law_pick (hr.mono (by decide)) pass0 (by rfl) (pa_cons (pv 0) (pa_cons (pe_lstS (pa_cons pe_str (pa_cons pe_str (pa_cons pe_str (pa_cons pe_str (pa_cons pe_str pa_nil)))))) pa_nil))))) pa_nil))))))), ?_⟩
    obtain ⟨a, rfl, st, q⟩ := h
    refine ⟨by show 0 ≤ 1000; decide, fun ps H1 hps S1 e1 => ⟨_, _, rfl, ?_⟩⟩
    have nps : ps ≠ a := st.ne hps
    refine ⟨_, rfl, _, rfl, a, 3, rfl, st.same S1, by decide, by decide, fun d0 H2 h00 h10 B2 st2 => ⟨_, _, rfl, rfl, ?_⟩⟩
    obtain ⟨m, rfl⟩ : ∃ m : Nat, d0 = (m : Int) := ⟨d0.toNat, by omega⟩
    have hm : m < 3 := by omega
    refine ⟨_, rfl, by omega, by omega, ?_⟩
    rw [show ((fun i j : Int => i + j) 1 (m : Int)).toNat = m + 1 by dsimp only; omega]
    refine for_range (n := m + 1) (fun i σ H' => ∃ (v5 v6 : Option V) (vsp : List V) (ds : List FD) (mn : Nat), σ = [some (.ref a), some (.int 3), some (.int 300), some (.ref ps), some (.int (mn : Nat)), v5, v6] ∧ H' ps = some (.lst vsp) ∧ SpsAt a H' vsp ds ∧ (∀ d ∈ ds, DrF d) ∧ ds.length ≤ i ∧ (i ≠ 0 → ds ≠ []) ∧ 1 ≤ mn ∧ mn ≤ 71 ^ i ∧ But a H H' ∧ StAt H' a)
      ⟨_, _, [], [], 1, rfl, B2 _ _ nps e1, ⟨rfl, fun i v d h => (by cases h)⟩, (fun d hd => (by cases hd)), Nat.zero_le _, fun z => absurd rfl z, by decide, by decide, (But.of_same S1).trans B2, st2⟩ ?_ ?_
    · rintro i σ H3 hi ⟨v5, v6, vsp, ds, mn, rfl, es, hS, hD, hl, hne, hm1, hm2, B3, st3⟩
      refine ⟨_, rfl, a, false, rfl, st3, by decide, fun v d H4 hd _ hF B4 st4 => ?_⟩
      have es4 := B4 _ _ nps es
      have hS4 := hS.but B4
      refine ⟨_, rfl, by show 0 ≤ 1000; decide, fun pe H5 hpe S5 e5 => ⟨_, _, .lst (SqL.of (S5 _ _ es4)) (dp_specs hD (hS4.same S5)), .lst (SqL.of e5) .nil, sh_specs hD, by decide +kernel, _, rfl, ?_⟩⟩
      have st5 := st4.same S5
      have hF5 := hF.same S5
      have es5 := S5 _ _ es4
      have hS5 := hS4.same S5
      have p71 : 71 ^ i ≤ 71 ^ 3 := Nat.pow_le_pow_right (by decide) (by omega)
      have p71e : 71 ^ (i + 1) = 71 ^ i * 71 := Nat.pow_succ ..
      have href : ∀ x ∈ vsp, ∃ b, x = .ref b := fun x hx => by
        obtain ⟨k, hk, e⟩ := List.mem_iff_getElem.mp hx
        obtain ⟨d', _, h'⟩ := hS.get (show vsp[k]? = some x by rw [List.getElem?_eq_getElem hk, e])
        exact h'.ref
      have hps0 : H ps = none := hps
      have mulok : ∀ {xs : List V}, VsOk d xs → -(2 ^ 64) < (xs.length : Int) ∧ (xs.length : Int) < 2 ^ 64 := fun ok => by
        have := VsOk.len ok
        omega
      refine ite2 (fun c1 => ?_) (fun c1 => ?_)
      · refine iteT ⟨_, rfl, .inl ⟨rfl, _, SqL.of (es5)⟩, _, rfl, ps, vsp, v, rfl, rfl, es5, by rw [sizeLine_eq, hS.1]; omega, _, rfl, _, rfl, a, v, d, rfl, hF5.put2 (Same.refl _) (es5) href hd, hd, d.dep_lt, fun p2 xs2 H8 hp2 ok2 S8 e8 => ⟨p2, xs2, rfl, .inl (SqL.of e8), _, _, rfl, rfl, .inr (mulok ok2), ?_⟩⟩
        have l2 := VsOk.len ok2
        refine ⟨_, _, vsp ++ [v], ds ++ [d], mn * xs2.length, rfl, S8 _ _ upd_same, ?_, fun x hx => ?_, ?_, fun _ z => ?_, ?_, ?_, ?_, ?_⟩
        · exact ((hS5.put2 (Same.refl _) (es5) href hD).snoc (hF5.put2 (Same.refl _) (es5) href hd)).same S8
        · rcases List.mem_append.mp hx with h | h
          · exact hD x h
          · cases List.mem_singleton.mp h
            exact hd
        · rw [List.length_append]
          exact Nat.succ_le_succ hl
        · have := congrArg List.length z
          rw [List.length_append] at this
          cases this
        · exact Nat.mul_pos hm1 (by omega)
        · rw [p71e]
          exact Nat.mul_le_mul hm2 l2.2
        · exact (but_put0 ((B3.trans B4).trans (But.of_same (S5.trans (Same.refl _)))) hps0).trans (But.of_same S8)
        · exact ((st5.same (Same.refl _)).put nps).same S8
      · have hdne : ds ≠ [] := fun e => by
          rw [e] at c1
          exact c1 rfl
        refine ⟨_, rfl, _, rfl, a, v, d, rfl, hF5, hd, d.dep_lt, fun p xs H6 hp ok S6 e6 => ⟨p, xs, rfl, .inl (SqL.of e6), _, _, rfl, rfl, .inr (mulok ok), _, rfl, _, _, rfl, rfl, _, rfl, ?_⟩⟩
        refine ite2 (fun c2 => ?_) (fun c2 => ?_)
        · refine ⟨_, rfl, .inl ⟨rfl, _, SqL.of (S6 _ _ es5)⟩, _, rfl, ps, vsp, v, rfl, rfl, S6 _ _ es5, by rw [sizeLine_eq, hS.1]; omega, _, rfl, _, rfl, a, v, d, rfl, hF5.put2 (S6) (S6 _ _ es5) href hd, hd, d.dep_lt, fun p2 xs2 H8 hp2 ok2 S8 e8 => ⟨p2, xs2, rfl, .inl (SqL.of e8), _, _, rfl, rfl, .inr (mulok ok2), ?_⟩⟩
          have l2 := VsOk.len ok2
          refine ⟨_, _, vsp ++ [v], ds ++ [d], mn * xs2.length, rfl, S8 _ _ upd_same, ?_, fun x hx => ?_, ?_, fun _ z => ?_, ?_, ?_, ?_, ?_⟩
          · exact ((hS5.put2 (S6) (S6 _ _ es5) href hD).snoc (hF5.put2 (S6) (S6 _ _ es5) href hd)).same S8
          · rcases List.mem_append.mp hx with h | h
            · exact hD x h
            · cases List.mem_singleton.mp h
              exact hd
          · rw [List.length_append]
            exact Nat.succ_le_succ hl
          · have := congrArg List.length z
            rw [List.length_append] at this
            cases this
          · exact Nat.mul_pos hm1 (by omega)
          · rw [p71e]
            exact Nat.mul_le_mul hm2 l2.2
          · exact (but_put0 ((B3.trans B4).trans (But.of_same (S5.trans (S6)))) hps0).trans (But.of_same S8)
          · exact ((st5.same (S6)).put nps).same S8
        · exact ⟨_, _, vsp, ds, mn, rfl, S6 _ _ es5, hS5.same S6, hD, Nat.le_succ_of_le hl, fun _ => hdne, hm1, Nat.le_trans hm2 (by rw [p71e]; exact Nat.le_mul_of_pos_right _ (by decide)), (B3.trans B4).trans (But.of_same (S5.trans S6)), st5.same S6⟩
    · rintro σ H3 ⟨v5, v6, vsp, ds, mn, rfl, es, hS, hD, hl, hne, hm1, hm2, B3, st3⟩
      have hdne := hne (Nat.succ_ne_zero m)
      have hd1 := List.length_pos_iff.mpr hdne
      refine ⟨_, rfl, _, rfl, _, rfl, ps, vsp, rfl, SqL.of es, fun pc Hc hpc Sc ec => ⟨pc, rfl, ⟨_, SqL.of ec⟩, fun D hD2 => ?_⟩⟩
      have npc : pc ≠ a := st3.ne hpc
      have stc := st3.same Sc
      have nD : D ≠ a := stc.ne hD2
      refine lc_list (K := K) (a := pc) (xs := cutV vsp (some 1) none) (fun n J => ∃ js : List Str, js.length = n ∧ (∀ j ∈ js, j ∈ JN) ∧ J D = some (.lst (js.map V.str)) ∧ But a Hc J ∧ StAt J a) ⟨[], rfl, (fun j h => by cases h), upd_same, but_put (But.refl _ _) hD2, stc.put nD⟩ (fun i J hi ⟨_, _, _, _, B, _⟩ => SqL.of (B _ _ npc ec)) ?_ ?_
      · rintro i x J hx ⟨js, hjl, hj, eD, B, stJ⟩
        have hi := (List.getElem?_eq_some_iff.mp hx).1
        have hcl := cutV_length vsp (some 1) none
        have hvl : vsp.length = ds.length := hS.1
        refine ⟨rfl, _, rfl, by show 5 ≤ 1000; decide, fun p5 H5 hp5 S5 e5 => ⟨a, p5, (["", "", "", "!", "~"] : List Str).map V.str, rfl, stJ.same S5, stJ.ne hp5, e5, by decide, by decide, fun v G hv BG stG => ?_⟩⟩
        obtain ⟨j, hjm, rfl⟩ := List.mem_map.mp hv
        have eG := BG _ _ nD (S5 _ _ eD)
        refine ⟨_, eG, by rw [List.length_map, sizeLine_eq]; omega, js ++ [j], by rw [List.length_append, hjl]; rfl, fun k hk => ?_, by rw [upd_same, List.map_append]; rfl, but_put ((B.trans (But.of_same S5)).trans BG) hD2, stG.put nD⟩
        rcases List.mem_append.mp hk with h | h
        · exact hj k h
        · cases List.mem_singleton.mp h
          exact joints_jn j hjm
      · rintro J ⟨js, hjl, hj, eD, B, stJ⟩
        refine ⟨by show 2 ≤ 1000; decide, fun T HT hT ST eT => ?_⟩
        have hcl : (cutV vsp (some 1) none).length = ds.length - 1 := by rw [cut_tail, hS.1]
        rw [hcl] at hjl
        have BT := B.trans (But.of_same ST)
        exact q T ps D vsp ds js HT (stJ.ne hT) hps (none_but nD (B3.trans (But.of_same Sc)) hD2) ⟨nps, nD, BT _ _ nps (Sc _ _ es), (hS.same Sc).but BT, ST _ _ eD, hD, ⟨by omega, hdne, by omega, hj⟩⟩ (by omega) eT ((B3.trans (But.of_same Sc)).trans BT) (stJ.same ST)

end
end L2.K77

set_option Elab.async false
set_option linter.all false
set_option maxRecDepth 100000
set_option maxHeartbeats 4000000
/-! The law: what is written, texts of rows. -/
namespace L2.K77
open PySem PySem.W PySem.Spec PySem.Calls PyProof.Rows L2.Jk
def spWr (n : Nat) : Sp := fun vs H Q _ => ∃ (s0 : Addr) (v x : V) (d : FD), vs = [v, x] ∧ FIn s0 H v d ∧ DrF d ∧ VlF d x ∧ d.dep < n ∧ Q (.str (d.textF x)) H
theorem add_empty (a : Str) : a ++ ("" : Str) = a := by
  obtain ⟨x⟩ := a
  show Str.mk (x ++ #[]) = _
  simp
theorem empty_add (a : Str) : ("" : Str) ++ a = a := by
  obtain ⟨x⟩ := a
  show Str.mk (#[] ++ x) = _
  simp
theorem add_assoc (a b c : Str) : a ++ (b ++ c) = (a ++ b) ++ c := by
  show Str.mk (a.cps ++ (b.cps ++ c.cps)) = Str.mk ((a.cps ++ b.cps) ++ c.cps)
  rw [Array.append_assoc]
theorem glue_snoc (l : List Str) (a : Str) : Txt.join "" (l ++ [a]) = Txt.join "" l ++ a := by
  show Builtin.Str.glued _ _ = Builtin.Str.glued _ _ ++ a
  rw [PySem.StrLaws.glued_eq_join, PySem.StrLaws.glued_eq_join, PyProof.Rows.FinIter.join_snoc]
  by_cases h : l = []
  · subst h
    rw [if_pos rfl]
    exact (empty_add a).symm
  · rw [if_neg h, add_empty]
section
variable {P : Program} {w : World} {K : Frag} {mg : Str → Option Value} {base : Heap} {f : Addr} {fd : FuncData}
theorem nat_log : ∀ n ∈ List.range 400, (n : Int).natAbs.log2 < 1920 := by decide +kernel
theorem nat_dg : ∀ n ∈ List.range 400, dg (n : Nat) = (toString (n : Int) : Str) := by decide +kernel
theorem nat_fix : ∀ n ∈ List.range 10, (toString (n : Int) : Str).length = 1 ∧ repS "0" 0 ++ (toString (n : Int) : Str) = Txt.zfill (dg (n : Nat)) 1 := by decide +kernel

abbrev s_law_written : Stmt := top 50
theorem sc_law_written : FnScope ["_law_spec", "_law_value"] ["_law_spec", "_law_value"] (defScope s_law_written) := ⟨rfl, rfl, rfl, by decide +kernel, rfl, by decide +kernel, by decide +kernel⟩

theorem ok_law_written (F : FunD K "_law_written" "_law_written" (defArgs s_law_written) (defBody s_law_written) (defScope s_law_written) [] [] f fd) (G : G6 P w K mg base) {n : Nat} (AM : FnAt P w K mg base CX0 n "_law_written" ["_law_spec", "_law_value"] (spWr n)) : FnOk P w K mg base CX0 (n + 1) f fd ["_law_spec", "_law_value"] (spWr (n + 1)) := by
  refine F.ok (CX := CX0) sc_law_written (fun vs H Q E h => ?_) (fun cdv A outer s H vs Q E hr h => ?_)
  · obtain ⟨s0, v, x, d, rfl, _⟩ := h
    rfl
  · refine ⟨_, PSs.nox (pss_cons (ps_if (pt_cmpR op_eq (pe_ix ix_tup (pv 0) pe_int (fun _ _ => rfl)) pe_str (nomark _))
      (pss_one (ps_ret (pe_ifExp (pt_cmpR op_isN (pv 1) pe_non (nomark _)) (pe_ix ix_tup (pv 0) pe_int (fun _ _ => rfl)) (pe_op op_add_str (pe_ix ix_tup (pv 0) pe_int (fun _ _ => rfl)) (pe_fn AM hr pass0 (by rfl) (pa_cons (pe_ix ix_tup (pv 0) pe_int (fun _ _ => rfl)) (pa_cons (pv 1) pa_nil)))))))
      pss_nil)
    (pss_cons (ps_if (pt_cmpR op_eq (pe_ix ix_tup (pv 0) pe_int (fun _ _ => rfl)) pe_str (nomark _))
      (pss_one (ps_ret (pe_op op_add_str (pv 1) (pe_ix ix_tup (pv 0) pe_int (fun _ _ => rfl)))))
      pss_nil)
    (pss_one (ps_ret (pe_ifExp (pt_cmpR op_eq (pe_ix ix_tup (pv 0) pe_int (fun _ _ => rfl)) pe_str (nomark _)) (pe_op op_add_str (pe_op op_mulStrZ pe_str (pe_op op_sub (pe_ix ix_tup (pv 0) pe_int (fun _ _ => rfl)) (pe_callB call_len_str (by rfl) G.len (by decide +kernel) (pa_cons (pe_callTy call_str_both (by rfl) G.str (by decide +kernel) (pa_cons (pv 1) pa_nil)) pa_nil)))) (pe_callTy call_str_both (by rfl) G.str (by decide +kernel) (pa_cons (pv 1) pa_nil))) (pe_callTy call_str_both (by rfl) G.str (by decide +kernel) (pa_cons (pv 1) pa_nil))))))), ?_⟩
    obtain ⟨s0, v, x, d, rfl, hP, hd, hv, hdep, q⟩ := h
    cases hv with
    | @non n m d =>
      cases hd with
      | mk hn hd =>
      obtain ⟨b, u, rfl, hne, hb, hI⟩ := hP
      refine ⟨_, rfl, b, _, _, _, rfl, rfl, SqT.of hb, atI_nat (j := 0) rfl, rfl, _, rfl, itY ?_⟩
      refine ⟨_, rfl, rfl, _, rfl, itY ?_⟩
      exact ⟨_, rfl, b, _, _, _, rfl, rfl, SqT.of hb, atI_nat (j := 1) rfl, q⟩
    | @mk n m d x hv =>
      cases hd with
      | @mk n d hn hd =>
      obtain ⟨b, u, rfl, hne, hb, hI⟩ := hP
      have ok := hv.ok hd
      have hx : x ≠ .non := fun e => by
        have z := ok.has
        rw [e, hasV_non] at z
        cases z
      refine ⟨_, rfl, b, _, _, _, rfl, rfl, SqT.of hb, atI_nat (j := 0) rfl, rfl, _, rfl, itY ?_⟩
      refine ⟨_, rfl, rfl, _, rfl, ?_⟩
      rw [decide_eq_false hx]
      have q : Q (.str (if decide (x = .non) = true then n else "M" ++ d.textF x)) H := q
      rw [if_neg (by rw [decide_eq_false hx]; decide)] at q
      have ht := ok.tx
      exact iteF ⟨_, rfl, b, _, _, _, rfl, rfl, SqT.of hb, atI_nat (j := 2) rfl, _, rfl, b, _, _, _, rfl, rfl, SqT.of hb, atI_nat (j := 3) rfl, _, rfl, s0, u, x, .pl d, rfl, hI, .pl hd, .pl hv, Nat.lt_of_succ_lt_succ hdep, _, _, rfl, rfl, by rw [sizeLine_eq]; show 1 + (d.textF x).length ≤ 16777216; omega, q⟩
    | @pl d x hv =>
    cases hd with
    | pl hd =>
    have ok := hv.ok hd
    cases hv with
    | word h1 h2 h3 =>
      obtain ⟨b, rfl, hn, hb⟩ := hP
      refine ⟨_, rfl, b, _, _, _, rfl, rfl, SqT.of hb, atI_nat (j := 0) rfl, rfl, _, rfl, itN (by decide +kernel) ?_⟩
      refine ⟨_, rfl, b, _, _, _, rfl, rfl, SqT.of hb, atI_nat (j := 0) rfl, rfl, _, rfl, itN (by decide +kernel) ?_⟩
      refine ⟨_, rfl, b, _, _, _, rfl, rfl, SqT.of hb, atI_nat (j := 0) rfl, rfl, _, rfl, itN (by decide +kernel) ?_⟩
      exact ⟨_, rfl, .inr ⟨_, rfl, q⟩⟩
    | listed h1 =>
      obtain ⟨b, u, rfl, hn, hb, hL, _⟩ := hP
      refine ⟨_, rfl, b, _, _, _, rfl, rfl, SqT.of hb, atI_nat (j := 0) rfl, rfl, _, rfl, itN (by decide +kernel) ?_⟩
      refine ⟨_, rfl, b, _, _, _, rfl, rfl, SqT.of hb, atI_nat (j := 0) rfl, rfl, _, rfl, itN (by decide +kernel) ?_⟩
      refine ⟨_, rfl, b, _, _, _, rfl, rfl, SqT.of hb, atI_nat (j := 0) rfl, rfl, _, rfl, itN (by decide +kernel) ?_⟩
      exact ⟨_, rfl, .inr ⟨_, rfl, q⟩⟩
    | @number l m n h1 h2 =>
      obtain ⟨b, rfl, hn, hb⟩ := hP
      have hm : m ≤ 150 := by
        generalize em : (V.int (m : Nat)) = M at hd
        cases hd with
        | @number l j a b =>
          have h1 := num_le.1 l a
          have h2 := num_le.2 j b
          injection em with em
          omega
      have hr := List.mem_range.mpr (show n < 400 by omega)
      refine ⟨_, rfl, b, _, _, _, rfl, rfl, SqT.of hb, atI_nat (j := 0) rfl, rfl, _, rfl, itN (by decide +kernel) ?_⟩
      refine ⟨_, rfl, b, _, _, _, rfl, rfl, SqT.of hb, atI_nat (j := 0) rfl, rfl, _, rfl, itN (by decide +kernel) ?_⟩
      refine ⟨_, rfl, b, _, _, _, rfl, rfl, SqT.of hb, atI_nat (j := 0) rfl, rfl, _, rfl, itN (by decide +kernel) ?_⟩
      have q : Q (.str (dg (n : Nat))) H := q
      rw [nat_dg n hr] at q
      exact ⟨_, rfl, .inl ⟨_, rfl, nat_log n hr, q⟩⟩
    | @fixed n h1 =>
      obtain ⟨b, rfl, hn, hb⟩ := hP
      have hr := List.mem_range.mpr (show n < 400 by omega)
      obtain ⟨f1, f2⟩ := nat_fix n (List.mem_range.mpr h1)
      refine ⟨_, rfl, b, _, _, _, rfl, rfl, SqT.of hb, atI_nat (j := 0) rfl, rfl, _, rfl, itN (by decide +kernel) ?_⟩
      refine ⟨_, rfl, b, _, _, _, rfl, rfl, SqT.of hb, atI_nat (j := 0) rfl, rfl, _, rfl, itN (by decide +kernel) ?_⟩
      refine ⟨_, rfl, b, _, _, _, rfl, rfl, SqT.of hb, atI_nat (j := 0) rfl, rfl, _, rfl, itY ?_⟩
      have q : Q (.str (Txt.zfill (dg (n : Nat)) 1)) H := q
      rw [← f2] at q
      refine ⟨_, rfl, b, _, _, _, rfl, rfl, SqT.of hb, atI_nat (j := 1) rfl, _, rfl, .inl ⟨_, rfl, nat_log n hr, _, rfl, by rw [f1, sizeLine_eq]; decide, _, _, rfl, rfl, "0", _, rfl, rfl, .inl (by rw [f1]; rfl), _, rfl, .inl ⟨_, rfl, nat_log n hr, _, _, rfl, rfl, ?_, ?_⟩⟩⟩
      · rw [f1, sizeLine_eq]
        show (repS "0" 0).length + 1 ≤ _
        decide
      · rw [f1]
        exact q
    | ended h1 h2 h3 =>
      generalize eT : PD.ended _ _ _ _ = D at hd
      cases hd with
      | word _ _ _ => cases eT
      | number _ _ => cases eT
      | fixed => cases eT
      | listed _ _ _ _ => cases eT
      | @ended z e l j a b _ _ =>
      injection eT with e1 e2 e3 e4
      subst e2
      obtain ⟨b, rfl, hn, hb⟩ := hP
      refine ⟨_, rfl, b, _, _, _, rfl, rfl, SqT.of hb, atI_nat (j := 0) rfl, rfl, _, rfl, itN (by decide +kernel) ?_⟩
      refine ⟨_, rfl, b, _, _, _, rfl, rfl, SqT.of hb, atI_nat (j := 0) rfl, rfl, _, rfl, itY ?_⟩
      have ht := ok.tx
      refine ⟨_, rfl, _, rfl, b, _, _, _, rfl, rfl, SqT.of hb, atI_nat (j := 2) rfl, _, _, rfl, rfl, ?_, q⟩
      have z : ∀ t : Str, (t ++ e).length ≤ 20 → t.length + e.length ≤ sizeLine := fun t h => by rw [append_len] at h; rw [sizeLine_eq]; omega
      exact z _ ht

end
/-- a row of the fields -/
def RwV (ds : List FD) (xs : List V) : Prop := xs.length = ds.length ∧ ∀ (i : Nat) (d : FD) (x : V), ds[i]? = some d → xs[i]? = some x → VlF d x
def spText (K : Frag) : Sp := fun vs H Q _ => ∃ (s0 ps pj r : Addr) (vsp xs : List V) (ds : List FD) (js : List Str), vs = [.ref ps, .ref pj, .ref r] ∧ H ps = some (.lst vsp) ∧ SpsAt s0 H vsp ds ∧ H pj = some (.lst (js.map V.str)) ∧ LyOk ds js ∧ (∀ d ∈ ds, DrF d) ∧ SqT K H r xs ∧ RwV ds xs ∧
  ∀ H', Same H H' → Q (.str (rowText ds js xs)) H'
structure GWr (P : Program) (w : World) (K : Frag) (mg : Str → Option Value) (base : Heap) : Prop extends G6 P w K mg base where
  law_written : FnAt P w K mg base CX0 2 "_law_written" ["_law_spec", "_law_value"] (spWr 2)
  enumerate : mg "enumerate" = none
theorem glue_len {ds : List FD} {js : List Str} {xs : List V} (ok : LyOk ds js) (hT : RowT ds xs) : ∀ n, (Txt.join "" ((List.range n).map (piece ds js xs))).length ≤ n * 901
  | 0 => Nat.zero_le _
  | n + 1 => by
    rw [List.range_succ, List.map_append]
    show (Txt.join "" (_ ++ [piece ds js xs n])).length ≤ _
    rw [glue_snoc, append_len, Nat.succ_mul]
    have h1 := glue_len ok hT n
    have h2 := piece_len ok hT (xs := xs) n
    omega
theorem RwV.rowT {ds : List FD} {xs : List V} (hd : ∀ d ∈ ds, DrF d) (h : RwV ds xs) : RowT ds xs := fun i d x e1 e2 => by
  have ok := (h.2 i d x e1 e2).ok (hd d (List.mem_of_getElem? e1))
  have := ok.tx
  exact ⟨ok.va, ok.tf, by omega⟩
section
variable {P : Program} {w : World} {K : Frag} {mg : Str → Option Value} {base : Heap} {f : Addr} {fd : FuncData}

abbrev s_law_text : Stmt := top 51
theorem sc_law_text : FnScope ["_law_specs", "_law_joints", "_law_row", "_law_found", "_law_k", "_law_value"] ["_law_specs", "_law_joints", "_law_row"] (defScope s_law_text) := ⟨rfl, rfl, rfl, by decide +kernel, rfl, by decide +kernel, by decide +kernel⟩

theorem ok_law_text (F : FunD K "_law_text" "_law_text" (defArgs s_law_text) (defBody s_law_text) (defScope s_law_text) [] [] f fd) (G : GWr P w K mg base) : FnOk P w K mg base CX0 3 f fd ["_law_specs", "_law_joints", "_law_row"] (spText K) := by
  refine F.ok (CX := CX0) sc_law_text (fun vs H Q E h => ?_) (fun cdv A outer s H vs Q E hr h => ?_)
  · obtain ⟨s0, ps, pj, r, vsp, xs, ds, js, rfl, _⟩ := h
    rfl
  · refine ⟨_, PSs.nox (pss_cons (ps_set (i := 3) sc_law_text.nd rfl (Or.inl rfl) pe_str)
    (pss_cons (ps_for PassesOwn.never rfl (pi_enumT (by rfl) G.enumerate (pa_cons (pv 2) pa_nil)) (pg_tup rfl (pgs_cons (pg_name (i := 4) sc_law_text.nd rfl (Or.inl rfl)) (pgs_cons (pg_name (i := 5) sc_law_text.nd rfl (Or.inl rfl)) pgs_nil)))
      (pss_one (ps_set (i := 3) sc_law_text.nd rfl (Or.inl rfl) (pe_op op_add_str (pe_op op_add_str (pv 3) (pe_fn G.law_written (hr.mono (by decide)) pass0 (by rfl) (pa_cons (pe_ix ix_list (pv 0) (pv 4) (fun _ _ => rfl)) (pa_cons (pv 5) pa_nil)))) (pe_ix ix_list (pe_op op_catS (pe_callTy call_list_of (by rfl) G.list (by decide +kernel) (pa_cons (pv 1) pa_nil)) (pe_lstS (pa_cons pe_str pa_nil))) (pv 4) (fun _ _ => rfl))))))
    (pss_one (ps_ret (pv 3))))), ?_⟩
    obtain ⟨s0, ps, pj, r, vsp, xs, ds, js, rfl, hps, hS, hpj, ok, hd, hr0, hR, q⟩ := h
    obtain ⟨hxl, hvl⟩ := hR
    have hfew := ok.few
    have hjl := ok.len
    have hT : RowT ds xs := RwV.rowT hd ⟨hxl, hvl⟩
    refine ⟨_, rfl, r, xs, rfl, hr0, for_it (walk_enumT (xs := xs)) (fun i σ H' => ∃ v4 v5, σ = [some (.ref ps), some (.ref pj), some (.ref r), some (.str (Txt.join "" ((List.range i).map (piece ds js xs)))), v4, v5] ∧ Same H H')
      ⟨_, _, rfl, Same.refl _⟩ (fun i σ H' _ ⟨_, _, _, S⟩ => Z3.seqT_same S hr0) ?_ ?_⟩
    · rintro i z σ J1 J2 hi ⟨v4, v5, rfl, S1⟩ ⟨tt, zi, x, rfl, ht, rfl, ei, ev⟩
      cases ei
      replace ev : xs[i]? = some x := ev
      have S2 := same_upd (o := .tup [V.int (i : Nat), x]) ht
      have r2 : upd J1 tt (.tup [V.int (i : Nat), x]) tt = some (.tup [V.int (i : Nat), x]) := upd_same
      generalize upd J1 tt (.tup [V.int (i : Nat), x]) = J2 at S2 r2 ⊢
      have S3 := S1.trans S2
      obtain ⟨d, hdi⟩ : ∃ d, ds[i]? = some d := ⟨_, List.getElem?_eq_getElem (by omega)⟩
      obtain ⟨v, hvi⟩ : ∃ v, vsp[i]? = some v := ⟨_, List.getElem?_eq_getElem (by have := hS.1; omega)⟩
      obtain ⟨j, hji⟩ : ∃ j, (js ++ [("" : Str)])[i]? = some j := ⟨_, List.getElem?_eq_getElem (by rw [List.length_append]; show i < js.length + 1; omega)⟩
      have hF := (hS.same S3).2 i v d hvi hdi
      have hx := hvl i d x hdi ev
      have hdd := hd d (List.mem_of_getElem? hdi)
      have okx := hx.ok hdd
      have hj1 := mem_joint ok hji
      have hg := glue_len ok hT i
      have htx := okx.tx
      have ep : piece ds js xs i = d.textF x ++ j := by
        unfold piece
        rw [hdi, ev, hji]
      refine ⟨tt, _, rfl, SqT.of r2, rfl, _, _, rfl, _, _, rfl, rfl, ?_⟩
      have hi30 : i ≤ 30 := by omega
      have ej : Txt.join "" ((List.range (i + 1)).map (piece ds js xs)) = (Txt.join "" ((List.range i).map (piece ds js xs)) ++ d.textF x) ++ j := by
        rw [List.range_succ, List.map_append]
        show Txt.join "" (_ ++ [piece ds js xs i]) = _
        rw [glue_snoc, ep, add_assoc]
      refine ⟨_, rfl, _, rfl, _, rfl, ps, vsp, _, v, rfl, rfl, SqL.of (S3 _ _ hps), atI_nat (j := i) hvi, _, rfl, s0, v, x, d, rfl, hF, hdd, hx, d.dep_lt, _, _, rfl, rfl, by rw [sizeLine_eq]; omega, ?_⟩
      refine ⟨_, rfl, pj, _, rfl, .inl (SqL.of (S3 _ _ hpj)), fun pl hpl => ?_⟩
      have S4 := same_upd (o := .lst (js.map V.str)) hpl
      have r4 : upd J2 pl (.lst (js.map V.str)) pl = some (.lst (js.map V.str)) := upd_same
      generalize upd J2 pl (.lst (js.map V.str)) = J4 at S4 r4 ⊢
      refine ⟨by show 1 ≤ 1000; decide, fun pe J5 hpe S5 e5 => ⟨pl, pe, _, _, rfl, rfl, SqL.of (S5 _ _ r4), SqL.of e5, by rw [List.length_map, sizeLine_eq]; show js.length + 1 ≤ 16777216; omega, fun pc J6 hpc S6 e6 => ?_⟩⟩
      have hjv : (js.map V.str ++ [V.str ""])[i]? = some (.str j) := by
        have z : ((js ++ [("" : Str)]).map V.str)[i]? = some (.str j) := by rw [List.getElem?_map, hji]; rfl
        rw [List.map_append] at z
        exact z
      refine ⟨_, rfl, pc, _, _, .str j, rfl, rfl, SqL.of e6, atI_nat (j := i) hjv, _, j, rfl, rfl, ?_, some (.int (i : Nat)), some x, ?_, ((S3.trans S4).trans S5).trans S6⟩
      · rw [append_len, sizeLine_eq]
        omega
      · rw [ej]
        rfl
    · rintro σ J ⟨v4, v5, rfl, S1⟩
      refine ⟨_, rfl, ?_⟩
      have z := q J S1
      unfold rowText pieces at z
      rw [← hxl] at z
      exact z

end
end L2.K77

set_option Elab.async false
set_option linter.all false
set_option maxRecDepth 100000
set_option maxHeartbeats 4000000
/-! list < list, of whole numbers. -/
namespace L2.Jk
open PySem PySem.W PySem.Spec PySem.Calls PyProof.Rows L2
def rLtL (K : Frag) : R2 := fun x y H Q => ∃ a b ns ms, x = .ref a ∧ y = .ref b ∧ SqL K H a (ns.map V.int) ∧ SqL K H b (ms.map V.int) ∧ Q (.bl (listLt ns ms)) H
theorem dp_ints {K : Frag} {H : Hp} : ∀ ns : List Int, DpAll K H (ns.map V.int) (ns.map PyData.int)
  | [] => .nil
  | n :: ns => .cons (.int n) (dp_ints ns)
theorem op_ltL {X : Cx} (hu : X.A.units + 64 < cLine) : OpR X (compareOp .Lt) (rLtL X.K) := by
  intro pins s σ H x y v u Q I rx ry h
  obtain ⟨a, b, ns, ms, rfl, rfl, ha, hb, q⟩ := h
  obtain ⟨as, r1⟩ := Dp.reads I (.list (ns.map PyData.int)) _ v (.lst ha (dp_ints ns)) rx
  obtain ⟨bs, r2⟩ := Dp.reads I (.list (ms.map PyData.int)) _ u (.lst hb (dp_ints ms)) ry
  exact PySem.W.lt_datum (x := ns) (y := ms) ⟨as, r1⟩ ⟨bs, r2⟩ (by
    have : Datum.depth (List Int) ≤ 64 := by decide
    omega) ⟨.bl (listLt ns ms), H, I, rfl, q⟩
/-! tuples: a slice, a sum, told by their items -/
def rSlTS : V → Option Int → Option Int → Hp → VK → Prop := fun x lo hi H Q => ∃ a xs, x = .ref a ∧ H a = some (.tup xs) ∧ ∀ p H', (∀ b o, H b = some o → H' b = some o) → H' p = some (.tup (cutV xs lo hi)) → Q (.ref p) H'
theorem sl_tupTS {X : Cx} : SlR X rSlTS := by
  intro pins s σ H x v vl vu lo hi sl Q I rx hs pl pu h
  obtain ⟨a, xs, rfl, hx, q⟩ := h
  refine sl_tupA pins s σ H _ v vl vu lo hi sl Q I rx hs pl pu ⟨a, xs, rfl, SqT.of hx, fun hw => q a H (fun _ _ e => e) ?_, fun hw p hp => q p _ (fun b o e => ?_) upd_same⟩
  · have e : cutV xs lo hi = xs := by
      unfold cutV
      rw [hw.1, hw.2, List.drop_zero, Nat.sub_zero, List.take_length]
    rw [e]
    exact hx
  · rw [upd_ne (ne_of_none e hp)]
    exact e
def rCatTS : R2 := fun x y H Q => ∃ a b xs ys, x = .ref a ∧ y = .ref b ∧ H a = some (.tup xs) ∧ H b = some (.tup ys) ∧ xs.length + ys.length ≤ sizeLine ∧ ∀ p H', (∀ b o, H b = some o → H' b = some o) → H' p = some (.tup (xs ++ ys)) → Q (.ref p) H'
theorem op_catTS {X : Cx} : OpR X (binaryOp .Add) rCatTS := by
  intro pins s σ H x y v u Q I rx ry h
  obtain ⟨a, b, xs, ys, rfl, rfl, ha, hb, hz, q⟩ := h
  refine op_catA pins s σ H _ _ v u Q I rx ry ⟨a, b, xs, ys, rfl, rfl, SqT.of ha, SqT.of hb, hz, fun e => q b H (fun _ _ e => e) ?_, fun _ e => q a H (fun _ _ e => e) ?_, fun _ _ p hp => q p _ (fun c o e => ?_) upd_same⟩
  · rw [e, List.nil_append]
    exact hb
  · rw [e, List.append_nil]
    exact ha
  · rw [upd_ne (ne_of_none e hp)]
    exact e
theorem call_ieK {X : Cx} {K : Frag} (h : X.K = K) : CallR X (.builtin "isinstance") (rIe K) := by
  subst h
  exact call_ie
theorem mt_indexK {X : Cx} {K : Frag} (h : X.K = K) : MtR X "list.index" (rIndex K) := by
  subst h
  exact mt_index
end L2.Jk

set_option Elab.async false
set_option linter.all false
set_option maxRecDepth 100000
set_option maxHeartbeats 4000000
/-! The law: all rows of some fields. -/
namespace L2.K77
open PySem PySem.W PySem.Spec PySem.Calls PyProof.Rows L2.Jk
/-- rows, by their places -/
def Rws (J : Hp) (ds : List FD) (rr : List Addr) : Prop := ∀ r ∈ rr, ∃ xs, J r = some (.tup xs) ∧ RwV ds xs
theorem Rws.nl {J J' : Hp} {ds : List FD} {rr : List Addr} (h : Rws J ds rr) (N : NL J J') : Rws J' ds rr := fun r hr => by
  obtain ⟨xs, a, b⟩ := h r hr
  exact ⟨xs, N.tup a, b⟩
theorem Rws.app {J : Hp} {ds : List FD} {rr ss : List Addr} (h : Rws J ds rr) (k : Rws J ds ss) : Rws J ds (rr ++ ss) := fun r hr => (List.mem_append.mp hr).elim (h r) (k r)
def spRows : Sp := fun vs H Q _ => ∃ (s0 ps : Addr) (vsp : List V) (ds : List FD), vs = [.ref ps] ∧ H ps = some (.lst vsp) ∧ SpsAt s0 H vsp ds ∧ (∀ d ∈ ds, DrF d) ∧ ds.length ≤ 3 ∧
  ∀ p (rr : List Addr) H', H p = none → Same H H' → H' p = some (.lst (rr.map V.ref)) → (∀ r ∈ rr, ∃ xs, H' r = some (.tup xs) ∧ RwV ds xs) → rr ≠ [] → rr.length ≤ 71 ^ 3 → Q (.ref p) H'
theorem SpsAt.take {s : Addr} {H : Hp} {vs : List V} {ds : List FD} (h : SpsAt s H vs ds) (k : Nat) : SpsAt s H (vs.take k) (ds.take k) := by
  refine ⟨by rw [List.length_take, List.length_take, h.1], fun i v d a b => ?_⟩
  have h1 := (List.getElem?_eq_some_iff.mp a).1
  rw [List.length_take] at h1
  rw [List.getElem?_take_of_lt (by omega)] at a b
  exact h.2 i v d a b
theorem RwV.snoc {ds : List FD} {xs : List V} {d : FD} {x : V} (h : RwV ds xs) (k : VlF d x) : RwV (ds ++ [d]) (xs ++ [x]) := by
  refine ⟨by rw [List.length_append, List.length_append, h.1]; rfl, fun i d' x' h1 h2 => ?_⟩
  have hl := h.1
  by_cases hi : i < ds.length
  · rw [List.getElem?_append_left hi] at h1
    rw [List.getElem?_append_left (by omega)] at h2
    exact h.2 i d' x' h1 h2
  · rw [List.getElem?_append_right (by omega)] at h1
    rw [List.getElem?_append_right (by omega)] at h2
    have := (List.getElem?_eq_some_iff.mp h1).1
    have : i - ds.length < 1 := this
    have e : i - ds.length = 0 := by omega
    rw [hl, e] at h2
    rw [e] at h1
    cases h1
    cases h2
    exact k
theorem nl_lst {H : Hp} {p : Addr} {us : List V} {o : HO} (hp : H p = some (.lst us)) : NL H (upd H p o) := fun b u n1 n2 e => by
  rw [upd_ne (fun z => n1 us (by rw [z, hp] at e; exact (Option.some.inj e).symm))]
  exact e
section
variable {P : Program} {w : World} {K : Frag} {mg : Str → Option Value} {base : Heap} {f : Addr} {fd : FuncData}

abbrev s_rows : Stmt := top 54
theorem sc_rows : FnScope ["_law_specs", "_law_found", "_law_spec", "_law_longer", "_law_row", "_law_value"] ["_law_specs"] (defScope s_rows) := ⟨rfl, rfl, rfl, by decide +kernel, rfl, by decide +kernel, by decide +kernel⟩

theorem ok_rows (F : FunD K "_law_rows" "_law_rows" (defArgs s_rows) (defBody s_rows) (defScope s_rows) [] [] f fd) (G : GL P w K mg base) : FnOk P w K mg base CX0 4 f fd ["_law_specs"] spRows := by
  refine F.ok (CX := CX0) sc_rows (fun vs H Q E h => ?_) (fun cdv A outer s H vs Q E hr h => ?_)
  · obtain ⟨_, _, _, _, rfl, _⟩ := h
    rfl
  · refine ⟨_, PSs.nox (pss_cons (ps_set (i := 1) sc_rows.nd rfl (Or.inl rfl) (pe_lstS (pa_cons (pe_tupS pa_nil) pa_nil)))
    (pss_cons (ps_for PassesOwn.never rfl (pi_list (pv 0)) (pg_name (i := 2) sc_rows.nd rfl (Or.inl rfl))
      (pss_cons (ps_set (i := 3) sc_rows.nd rfl (Or.inl rfl) (pe_lstS pa_nil))
      (pss_cons (ps_for PassesOwn.never rfl (pi_list (pv 1)) (pg_name (i := 4) sc_rows.nd rfl (Or.inr rfl))
        (pss_one (ps_expr (pe_bm PySem.F.plainAttrs_list PySem.F.slot_list_extend PySem.F.type_list_extend mt_extend (pv 3) (pa_cons (pe_lc (own := [("_law_value", 5)]) (g := gName 5) (tt := tYes) rfl sc_rows.nd (pi_list (pe_fn G.law_values (hr.mono (by decide)) pass0 (by rfl) (pa_cons (pv 2) pa_nil))) (blkOk_by (N := ["_law_specs", "_law_found", "_law_spec", "_law_longer", "_law_row", "_law_value"]) (sc := defScope s_rows) (by decide +kernel)) (fun _ _ _ _ _ => pg_name (i := 5) sc_rows.nd rfl (Or.inl rfl)) (fun _ _ _ _ _ => pts_nil) (fun _ _ _ _ _ => (pe_op op_catTS (pv 4) (pe_tupS (pa_cons (pv 5) pa_nil))))) pa_nil)))))
      (pss_one (ps_set (i := 1) sc_rows.nd rfl (Or.inl rfl) (pv 3))))))
    (pss_one (ps_ret (pv 1))))), ?_⟩
    obtain ⟨s0, ps, vsp, ds, rfl, hps, hS, hD, hfew, q⟩ := h
    refine ⟨by show 0 ≤ 1000; decide, fun p1 H1 hp1 S1 e1 => ⟨by show 1 ≤ 1000; decide, fun p2 H2 hp2 S2 e2 => ?_⟩⟩
    have S02 := S1.trans S2
    have hp2' := noneOf S1 hp2
    have dl : vsp.length = ds.length := hS.1
    refine ⟨_, rfl, ps, rfl, ⟨_, SqL.of (S02 _ _ hps)⟩, for_list (K := K) (a := ps) (xs := vsp) (fun k σ J => ∃ v2 v3 v4 v5 pf rr, σ = [some (.ref ps), some (.ref pf), v2, v3, v4, v5] ∧ Same H J ∧ H pf = none ∧ J pf = some (.lst (rr.map V.ref)) ∧ Rws J (ds.take k) rr ∧ rr ≠ [] ∧ rr.length ≤ 71 ^ k)
      ⟨_, _, _, _, p2, [p1], rfl, S02, hp2', e2, fun r hr => ?_, (fun z => by cases z), by show 1 ≤ 1; decide⟩ (fun k σ J _ ⟨_, _, _, _, _, _, _, S, _⟩ => SqL.of (S _ _ hps)) ?_ ?_⟩
    · rw [List.mem_singleton.mp hr]
      exact ⟨[], S2 _ _ e1, rfl, fun i d x h1 h2 => by cases h2⟩
    · rintro k v σ J hv ⟨v2, v3, v4, v5, pf, rr, rfl, SJ, hpf, ef, hR, hne, hlen⟩
      have hk := (List.getElem?_eq_some_iff.mp hv).1
      obtain ⟨d, hd, hF⟩ := hS.get hv
      have hdd := hD d (List.mem_of_getElem? hd)
      have p71 : 71 ^ k ≤ 71 ^ 2 := Nat.pow_le_pow_right (by decide) (by omega)
      refine ⟨by show 0 ≤ 1000; decide, fun pn J1 hpn SJ1 en => ?_⟩
      have S1' := SJ.trans SJ1
      have hpn' := noneOf SJ hpn
      have nfn : pf ≠ pn := ne_of_none ef hpn
      refine ⟨_, rfl, pf, rfl, ⟨_, SqL.of (SJ1 _ _ ef)⟩, for_list (K := K) (a := pf) (xs := rr.map V.ref) (fun j σ J' => ∃ v4 v5 ss, σ = [some (.ref ps), some (.ref pf), some v, some (.ref pn), v4, v5] ∧ Same H J' ∧ J' pf = some (.lst (rr.map V.ref)) ∧ J' pn = some (.lst (ss.map V.ref)) ∧ Rws J' (ds.take (k + 1)) ss ∧ Rws J' (ds.take k) rr ∧ ss.length ≤ j * 71 ∧ (j ≠ 0 → ss ≠ []))
        ⟨_, _, [], rfl, S1', SJ1 _ _ ef, en, (fun r hr => by cases hr), hR.nl (NL.of_same SJ1), Nat.zero_le _, fun z => absurd rfl z⟩ (fun j σ J' _ ⟨_, _, _, _, _, e, _⟩ => SqL.of e) ?_ ?_⟩
      · rintro j x σ J2 hx ⟨w4, w5, ss, rfl, S2', ef2, en2, hss, hrr, hsl, _⟩
        have hj := (List.getElem?_eq_some_iff.mp hx).1
        rw [List.length_map] at hj
        obtain ⟨r, hr, rfl⟩ : ∃ r, rr[j]? = some r ∧ V.ref r = x := by
          rw [List.getElem?_map] at hx
          cases e : rr[j]? with
          | none => rw [e] at hx; cases hx
          | some r => rw [e] at hx; exact ⟨r, rfl, Option.some.inj hx⟩
        obtain ⟨xs, er, hxs⟩ := hrr r (List.mem_of_getElem? hr)
        have hxl := hxs.1
        rw [List.length_take] at hxl
        refine ⟨_, rfl, .inl ⟨rfl, _, SqL.of en2⟩, _, rfl, s0, v, d, rfl, hF.same S2', hdd, d.dep_lt, fun pv vals J3 hpv ok S23 ev => ⟨pv, rfl, ⟨_, SqL.of ev⟩, fun D hDn => ?_⟩⟩
        have hvl : 1 ≤ vals.length ∧ vals.length ≤ 71 := ⟨List.length_pos_iff.mpr ok.ne, by have := ok.few; have := d.dep_lt; omega⟩
        refine lc_list (K := K) (a := pv) (xs := vals) (fun n J => ∃ ts : List Addr, ts.length = n ∧ Same J3 J ∧ J D = some (.lst (ts.map V.ref)) ∧ Rws J (ds.take (k + 1)) ts) ⟨[], rfl, same_upd hDn, upd_same, fun r hr => by cases hr⟩ (fun n J _ ⟨_, _, S, _⟩ => SqL.of (S _ _ ev)) ?_ ?_
        · rintro n y J4 hy ⟨ts, htl, S34, eD, hts⟩
          have hn := (List.getElem?_eq_some_iff.mp hy).1
          have er4 := S34 _ _ (S23 _ _ er)
          refine ⟨rfl, _, rfl, _, rfl, by show 1 ≤ 1000; decide, fun p6 J5 hp6 S45 e6 => ?_⟩
          refine ⟨r, p6, xs, [y], rfl, rfl, S45 _ _ er4, e6, by rw [sizeLine_eq]; show xs.length + 1 ≤ 16777216; omega, fun p7 J6 (S56 : Same J5 J6) e7 => ?_⟩
          have S46 := S45.trans S56
          have eD6 := S46 _ _ eD
          have N := nl_lst (o := .lst (ts.map V.ref ++ [V.ref p7])) eD6
          refine ⟨_, eD6, by rw [List.length_map, sizeLine_eq]; omega, ts ++ [p7], by rw [List.length_append, htl]; rfl, same_put (S34.trans S46) hDn, by rw [upd_same, List.map_append]; rfl, ?_⟩
          refine ((hts.nl (NL.of_same S46)).nl N).app fun r' hr' => ?_
          rw [List.mem_singleton.mp hr']
          refine ⟨_, N.tup e7, ?_⟩
          rw [take_snoc hd]
          exact hxs.snoc (ok.all y (List.mem_of_getElem? hy))
        · rintro J4 ⟨ts, htl, S34, eD, hts⟩
          have S24 := S23.trans S34
          have en4 := S24 _ _ en2
          have N := nl_lst (o := .lst (ss.map V.ref ++ ts.map V.ref)) en4
          refine ⟨pn, D, _, _, rfl, rfl, en4, eD, ?_, _, _, ss ++ ts, rfl, same_put (S2'.trans S24) hpn', by rw [upd_ne nfn]; exact S24 _ _ ef2, by rw [upd_same, List.map_append], ((hss.nl (NL.of_same S24)).nl N).app (hts.nl N), (hrr.nl (NL.of_same S24)).nl N, by rw [List.length_append]; omega, fun _ z => ?_⟩
          · rw [List.length_map, List.length_map, sizeLine_eq]
            omega
          · have z2 := (List.append_eq_nil_iff.mp z).2
            rw [z2] at htl
            have htl : 0 = vals.length := htl
            omega
      · rintro σ J2 ⟨w4, w5, ss, rfl, S2', ef2, en2, hss, hrr, hsl, hsn⟩
        rw [List.length_map] at hsl hsn
        refine ⟨_, rfl, _, _, _, _, pn, ss, rfl, S2', hpn', en2, hss, hsn (fun z => hne (List.length_eq_zero_iff.mp z)), ?_⟩
        rw [Nat.pow_succ]
        exact Nat.le_trans hsl (Nat.mul_le_mul_right _ hlen)
    · rintro σ J ⟨v2, v3, v4, v5, pf, rr, rfl, SJ, hpf, ef, hR, hne, hlen⟩
      rw [dl, List.take_length] at hR
      exact ⟨_, rfl, q pf rr J hpf SJ ef hR hne (Nat.le_trans hlen (Nat.pow_le_pow_right (by decide) (by omega)))⟩

end
end L2.K77

set_option Elab.async false
set_option linter.all false
set_option maxRecDepth 100000
set_option maxHeartbeats 4000000
/-! A field has what stands in its list of values, of all that any drawn field has. -/
namespace L2.K77
open PySem PySem.W PySem.Spec PySem.Calls PyProof.Rows L2.Jk
def allU : List Str := (wordZ ++ endZ).flatMap (fun z => (List.range 4).flatMap (lay z)) ++ nines
theorem made_menu : ∀ t ∈ allU, ∀ z ∈ wordZ ++ endZ, madeB t z = true → t ∈ lay z t.length := by decide +kernel
/-- what some drawn field has -/
def Some (v : V) : Prop := v = .non ∨ (∃ n : Nat, v = .int (n : Nat)) ∨ ∃ t, v = .str t ∧ t ∈ allU
theorem in_allU {z t : Str} {i : Nat} (hz : z ∈ wordZ ++ endZ) (hi : i ≤ 3) (h : t ∈ lay z i) : t ∈ allU :=
  List.mem_append.mpr (.inl (List.mem_flatMap.mpr ⟨z, hz, List.mem_flatMap.mpr ⟨i, List.mem_range.mpr (by omega), h⟩⟩))
theorem vl_some {d : PD} {v : V} (hd : Dr d) (h : Vl d v) : Some v := by
  cases h with
  | number _ _ => exact .inr (.inl ⟨_, rfl⟩)
  | fixed _ => exact .inr (.inl ⟨_, rfl⟩)
  | @word z l m e i t h1 h2 h3 =>
    generalize em : (V.int (m : Nat)) = M at hd
    cases hd with
    | @word z l j a b c => exact .inr (.inr ⟨t, rfl, in_allU (List.mem_append.mpr (.inl a)) (by injection em with em; omega) h3⟩)
  | @ended z l m e i t h1 h2 h3 =>
    generalize em : (V.int (m : Nat)) = M at hd
    cases hd with
    | @ended z e l j a b c f => exact .inr (.inr ⟨t, rfl, in_allU (List.mem_append.mpr (.inr a)) (by injection em with em; omega) h3⟩)
  | @listed ts t h =>
    generalize ex : (LX.lst (ts.map V.str)) = X at hd
    cases hd with
    | @listed ts2 a b c e =>
      injection ex with ex
      have z : V.str t ∈ ts2.map V.str := ex ▸ List.mem_map.mpr ⟨t, h, rfl⟩
      obtain ⟨u, hu, e⟩ := List.mem_map.mp z
      injection e with e
      exact .inr (.inr ⟨t, rfl, List.mem_append.mpr (.inr (e ▸ b u hu))⟩)
theorem vf_some {d : FD} {v : V} (hd : DrF d) (h : VlF d v) : Some v := by
  cases h with
  | non => exact .inl rfl
  | pl h => cases hd with | pl hd => exact vl_some hd h
  | mk h => cases hd with | mk hn hd => exact vl_some hd h
theorem allS_in {z t : Str} {l n i : Nat} (h1 : l ≤ i) (h2 : i < n) (h3 : t ∈ lay z i) : t ∈ allS z l n :=
  List.mem_flatMap.mpr ⟨i, List.mem_range.mpr h2, by rw [if_pos h1]; exact h3⟩
theorem word_in {z t : Str} {l m : Nat} {ys : List Str} (hz : z ∈ wordZ ++ endZ) (ht : t ∈ allU) (hp : ys.Perm (allS z l (m + 1))) (h : wordB (.str z) (.int (l : Nat)) (.int (m : Nat)) (.str t) = true) : V.str t ∈ ys.map V.str := by
  have h : (madeB t z && (decide ((l : Int) ≤ (t.length : Int)) && (decide (V.int (m : Nat) = .non) || decide ((t.length : Int) ≤ (m : Int))))) = true := h
  obtain ⟨a, b⟩ := Bool.and_eq_true_iff.mp h
  obtain ⟨b, c⟩ := Bool.and_eq_true_iff.mp b
  have b := of_decide_eq_true b
  rw [decide_eq_false (fun z => by cases z), Bool.false_or] at c
  have c := of_decide_eq_true c
  exact List.mem_map.mpr ⟨t, hp.mem_iff.mpr (allS_in (by omega) (by omega) (made_menu t ht z hz a)), rfl⟩
theorem has_inP {d : PD} {vs : List V} {v : V} (hd : Dr d) (is : VsP d vs) (hv : Some v) (h : d.hasV v = true) : v ∈ vs := by
  rcases hv with rfl | ⟨n, rfl⟩ | ⟨t, rfl, ht⟩
  · cases hd <;> cases h
  · cases hd with
    | word a b c => cases h
    | @number l j a b =>
      have is : vs = intsV (l : Int) (((l + j : Nat) : Int) + 1 - (l : Int)).toNat := is
      have h : (true && (decide ((l : Int) ≤ (n : Int)) && (decide (V.int ((l + j : Nat) : Int) = .non) || decide ((n : Int) ≤ ((l + j : Nat) : Int))))) = true := h
      rw [Bool.true_and] at h
      obtain ⟨b, c⟩ := Bool.and_eq_true_iff.mp h
      have b := of_decide_eq_true b
      rw [decide_eq_false (fun z => by cases z), Bool.false_or] at c
      have c := of_decide_eq_true c
      rw [is]
      exact List.mem_map.mpr ⟨n - l, List.mem_range.mpr (by omega), by congr 1; omega⟩
    | fixed =>
      have is : vs = intsV 0 10 := is
      have h : (true && (decide (0 ≤ (n : Int)) && decide ((n : Int) ≤ great (.int ((1 : Nat) : Int))))) = true := h
      obtain ⟨_, h⟩ := Bool.and_eq_true_iff.mp h
      obtain ⟨_, c⟩ := Bool.and_eq_true_iff.mp h
      have g9 : great (.int ((1 : Nat) : Int)) = 9 := by decide +kernel
      rw [g9] at c
      have c := of_decide_eq_true c
      rw [is]
      exact List.mem_map.mpr ⟨n, List.mem_range.mpr (by omega), by congr 1; omega⟩
    | listed a b c e => cases h
    | ended a b c e => cases h
  · cases hd with
    | @word z l j a b c =>
      obtain ⟨ys, rfl, hp, _⟩ := is
      exact word_in (m := l + j) (List.mem_append.mpr (.inl a)) ht hp h
    | number a b => cases h
    | fixed => cases h
    | @listed ts a b c e =>
      have is : vs = ts.map V.str := is
      obtain ⟨y, hy, ey⟩ := List.any_eq_true.mp (show inV (.str t) (ts.map V.str) = true from h)
      obtain ⟨u, hu, rfl⟩ := List.mem_map.mp hy
      have e2 : u = t := by simpa [eqV] using ey
      rw [is, ← e2]
      exact hy
    | @ended z e l j a b c f =>
      obtain ⟨ys, rfl, hp, _⟩ := is
      exact word_in (m := l + j) (List.mem_append.mpr (.inr a)) ht hp h
theorem has_in {d : FD} {vs : List V} {v : V} (hd : DrF d) (is : VsF d vs) (hv : Some v) (h : d.hasV v = true) : v ∈ vs := by
  cases hd with
  | pl hd => exact has_inP hd is hv h
  | mk hn hd =>
    obtain ⟨ys, rfl, is⟩ := is
    have h : (decide (v = .non) || _) = true := h
    rcases Bool.or_eq_true_iff.mp h with z | z
    · rw [of_decide_eq_true z]
      exact List.mem_cons_self ..
    · exact List.mem_cons_of_mem _ (has_inP hd is hv z)
theorem has_iff {d : FD} {vs : List V} {v : V} (hd : DrF d) (ok : VsOk d vs) (hv : Some v) : d.hasV v = true ↔ v ∈ vs :=
  ⟨has_in hd ok.is hv, fun h => ((ok.all v h).ok hd).has⟩
end L2.K77

set_option Elab.async false
set_option linter.all false
set_option maxRecDepth 100000
set_option maxHeartbeats 4000000
/-! What a field has, of all that drawn fields have, is a value of it. -/
namespace L2.K77
open PySem PySem.W PySem.Spec PySem.Calls PyProof.Rows L2.Jk
theorem has_vlP {d : PD} {v : V} (hd : Dr d) (hv : Some v) (h : d.hasV v = true) : Vl d v := by
  rcases hv with rfl | ⟨n, rfl⟩ | ⟨t, rfl, ht⟩
  · cases hd <;> cases h
  · cases hd with
    | word a b c => cases h
    | @number l j a b =>
      have h : (true && (decide ((l : Int) ≤ (n : Int)) && (decide (V.int ((l + j : Nat) : Int) = .non) || decide ((n : Int) ≤ ((l + j : Nat) : Int))))) = true := h
      rw [Bool.true_and] at h
      obtain ⟨b, c⟩ := Bool.and_eq_true_iff.mp h
      have b := of_decide_eq_true b
      rw [decide_eq_false (fun z => by cases z), Bool.false_or] at c
      have c := of_decide_eq_true c
      exact .number (by omega) (by omega)
    | fixed =>
      have h : (true && (decide (0 ≤ (n : Int)) && decide ((n : Int) ≤ great (.int ((1 : Nat) : Int))))) = true := h
      obtain ⟨_, h⟩ := Bool.and_eq_true_iff.mp h
      obtain ⟨_, c⟩ := Bool.and_eq_true_iff.mp h
      have g9 : great (.int ((1 : Nat) : Int)) = 9 := by decide +kernel
      rw [g9] at c
      have c := of_decide_eq_true c
      exact .fixed (by omega)
    | listed a b c e => cases h
    | ended a b c e => cases h
  · have word : ∀ {z : Str} {l m : Nat}, z ∈ wordZ ++ endZ → wordB (.str z) (.int (l : Nat)) (.int (m : Nat)) (.str t) = true → l ≤ t.length ∧ t.length ≤ m ∧ t ∈ lay z t.length := fun {z l m} hz h => by
      have h : (madeB t z && (decide ((l : Int) ≤ (t.length : Int)) && (decide (V.int (m : Nat) = .non) || decide ((t.length : Int) ≤ (m : Int))))) = true := h
      obtain ⟨a, b⟩ := Bool.and_eq_true_iff.mp h
      obtain ⟨b, c⟩ := Bool.and_eq_true_iff.mp b
      have b := of_decide_eq_true b
      rw [decide_eq_false (fun z => by cases z), Bool.false_or] at c
      have c := of_decide_eq_true c
      exact ⟨by omega, by omega, made_menu t ht z hz a⟩
    cases hd with
    | @word z l j a b c =>
      obtain ⟨x, y, w⟩ := word (m := l + j) (List.mem_append.mpr (.inl a)) h
      exact .word (e := .non) x y w
    | number a b => cases h
    | fixed => cases h
    | @listed ts a b c e =>
      obtain ⟨y, hy, ey⟩ := List.any_eq_true.mp (show inV (.str t) (ts.map V.str) = true from h)
      obtain ⟨u, hu, rfl⟩ := List.mem_map.mp hy
      have e2 : u = t := by simpa [eqV] using ey
      exact .listed (e2 ▸ hu)
    | @ended z e l j a b c f =>
      obtain ⟨x, y, w⟩ := word (m := l + j) (List.mem_append.mpr (.inr a)) h
      exact .ended (e := .str e) x y w
theorem has_vl {d : FD} {v : V} (hd : DrF d) (hv : Some v) (h : d.hasV v = true) : VlF d v := by
  cases hd with
  | pl hd => exact .pl (has_vlP hd hv h)
  | mk hn hd =>
    have h : (decide (v = .non) || _) = true := h
    rcases Bool.or_eq_true_iff.mp h with z | z
    · rw [of_decide_eq_true z]
      exact .non
    · exact .mk (has_vlP hd hv z)
/-- a row that fits is a row of the fields -/
theorem fit_rwv {ds : List FD} {xs : List V} (hd : ∀ d ∈ ds, DrF d) (hs : ∀ x ∈ xs, Some x) (h : rowDue ds (some xs) = none) : RwV ds xs := by
  obtain ⟨ys, ey, hl, ha⟩ := due_none h
  cases ey
  exact ⟨hl, fun i d x h1 h2 => has_vl (hd d (List.mem_of_getElem? h1)) (hs x (List.mem_of_getElem? h2)) (ha i d x h1 h2)⟩
end L2.K77

set_option Elab.async false
set_option linter.all false
set_option maxRecDepth 100000
set_option maxHeartbeats 4000000
/-! Rows with a separator at each joint have texts of their own; data that are equal are the same. -/
namespace L2.K77
open PySem PySem.W PySem.Spec PySem.Calls PyProof.Rows L2.Jk
/-! ### texts of values -/
def noB (t : Str) : Prop := (33 : Nat) ∉ t.cps.toList
instance (t : Str) : Decidable (noB t) := inferInstanceAs (Decidable (¬ _))
theorem dg_facts : ∀ n ∈ List.range 400, noB (dg (n : Nat)) ∧ PySem.intText? (dg (n : Nat)) = some ((n : Nat) : Int) := by decide +kernel
theorem zf_facts : ∀ n ∈ List.range 10, noB (Txt.zfill (dg (n : Nat)) 1) ∧ PySem.intText? (Txt.zfill (dg (n : Nat)) 1) = some ((n : Nat) : Int) := by decide +kernel
theorem z_facts : (∀ z ∈ wordZ, noB z ∧ ∀ c ∈ z.cps.toList, c < 200) ∧ (∀ z ∈ endZ, noB z ∧ ∀ c ∈ z.cps.toList, c < 200) ∧ (∀ e ∈ endE, noB e) ∧ (∀ t ∈ nines, noB t ∧ ∀ c ∈ t.cps.toList, c < 200) ∧ (∀ n ∈ marks, noB n) ∧ noB "M" := by decide +kernel
theorem noB_app {a b : Str} (h : noB a) (k : noB b) : noB (a ++ b) := fun z => by
  have e : (a ++ b).cps.toList = a.cps.toList ++ b.cps.toList := by
    show (a.cps ++ b.cps).toList = _
    simp
  rw [e] at z
  exact (List.mem_append.mp z).elim h k
theorem noB_lay {z t : Str} {i : Nat} (h : noB z) (m : t ∈ lay z i) : noB t := fun k => h (lay_chars m _ k)
theorem app_list (a b : Str) : (a ++ b).cps.toList = a.cps.toList ++ b.cps.toList := by
  show (a.cps ++ b.cps).toList = _
  simp
theorem app_inj {a b c : Str} (h : a ++ c = b ++ c) : a = b := by
  have e := congrArg (fun s : Str => s.cps.toList) h
  simp only [app_list] at e
  exact str_ext (List.append_cancel_right e)
theorem app_inj2 {a b c : Str} (h : c ++ a = c ++ b) : a = b := by
  have e := congrArg (fun s : Str => s.cps.toList) h
  simp only [app_list] at e
  exact str_ext (List.append_cancel_left e)
theorem num_small {l m n : Nat} (hd : Dr (.number (.int (l : Nat)) (.int (m : Nat)))) (h : n ≤ m) : n < 400 := by
  generalize em : (V.int (m : Nat)) = M at hd
  cases hd with
  | @number l j a b =>
    have h1 := num_le.1 l a
    have h2 := num_le.2 j b
    injection em with em
    omega
theorem lst_mem {ts ts2 : List Str} {t : Str} (e : LX.lst (ts.map V.str) = LX.lst (ts2.map V.str)) (h : t ∈ ts) : t ∈ ts2 := by
  injection e with e
  have z : V.str t ∈ ts2.map V.str := e ▸ List.mem_map.mpr ⟨t, h, rfl⟩
  obtain ⟨u, hu, e⟩ := List.mem_map.mp z
  injection e with e
  exact e ▸ hu
theorem Vl.noB {d : PD} {v : V} (hd : Dr d) (h : Vl d v) : noB (d.textF v) := by
  obtain ⟨z1, z2, z3, z4, z5, z6⟩ := z_facts
  cases h with
  | @word z l m e i t h1 h2 h3 =>
    generalize em : (V.int (m : Nat)) = M at hd
    cases hd with
    | word a b c => exact noB_lay (z1 _ a).1 h3
  | @ended z l m e i t h1 h2 h3 =>
    generalize em : (V.int (m : Nat)) = M at hd
    cases hd with
    | ended a b c f => exact noB_app (noB_lay (z2 _ a).1 h3) (z3 _ b)
  | @number l m n h1 h2 => exact (dg_facts n (List.mem_range.mpr (num_small hd h2))).1
  | @fixed n h => exact (zf_facts n (List.mem_range.mpr h)).1
  | @listed ts t h =>
    generalize ex : (LX.lst (ts.map V.str)) = X at hd
    cases hd with
    | @listed ts2 a b c e => exact (z4 t (b t (lst_mem ex h))).1
theorem Vl.inj {d : PD} {v u : V} (hd : Dr d) (h : Vl d v) (k : Vl d u) (e : d.textF v = d.textF u) : v = u := by
  cases h with
  | @word z l m e0 i t h1 h2 h3 =>
    generalize em : (V.int (m : Nat)) = M at k
    cases k with
    | word => exact congrArg V.str e
  | @ended z l m e0 i t h1 h2 h3 =>
    generalize em : (V.int (m : Nat)) = M at k
    cases k with
    | ended => exact congrArg V.str (app_inj e)
  | @number l m n h1 h2 =>
    generalize em : (V.int (m : Nat)) = M at k hd
    generalize el : (V.int (l : Nat)) = L at k hd
    cases k with
    | @number l' m' n' k1 k2 =>
      injection em with em
      injection el with el
      obtain rfl : m = m' := by omega
      obtain rfl : l = l' := by omega
      have e1 := (dg_facts n (List.mem_range.mpr (num_small hd h2))).2
      have e2 := (dg_facts n' (List.mem_range.mpr (num_small hd k2))).2
      have e3 : dg (n : Nat) = dg (n' : Nat) := e
      rw [e3, e2] at e1
      injection e1 with e1
      exact congrArg V.int e1.symm
  | @fixed n h =>
    cases k with
    | @fixed n' k =>
      have e1 := (zf_facts n (List.mem_range.mpr h)).2
      have e2 := (zf_facts n' (List.mem_range.mpr k)).2
      have e3 : Txt.zfill (dg (n : Nat)) 1 = Txt.zfill (dg (n' : Nat)) 1 := e
      rw [e3, e2] at e1
      injection e1 with e1
      exact congrArg V.int e1.symm
  | @listed ts t h =>
    generalize ex : (LX.lst (ts.map V.str)) = X at k
    cases k with
    | listed => exact congrArg V.str e
theorem Vl.ne_non {d : PD} {v : V} (h : Vl d v) : v ≠ .non := by
  cases h <;> exact fun z => by cases z
theorem mk_text {n m : V} {d : PD} {v : V} (h : v ≠ .non) : FD.textF v (.mk n m d) = strV m ++ d.textF v := by
  show (if decide (v = .non) = true then strV n else strV m ++ d.textF v) = _
  rw [decide_eq_false h]
  rfl
theorem VlF.noB {d : FD} {v : V} (hd : DrF d) (h : VlF d v) : noB (d.textF v) := by
  obtain ⟨z1, z2, z3, z4, z5, z6⟩ := z_facts
  cases h with
  | pl h =>
    cases hd with
    | pl hd => exact h.noB hd
  | @non n m d =>
    cases hd with
    | @mk n d hn hd => exact z5 n hn
  | @mk n m d v h =>
    cases hd with
    | @mk n d hn hd =>
      rw [mk_text h.ne_non]
      exact noB_app z6 (h.noB hd)
theorem mark_ne : ∀ n ∈ marks, ∃ c, n.cps.toList = [c] ∧ c ≠ 77 := by
  have z : ∀ n ∈ marks, n.cps.toList = [n.cps.getD 0 0] ∧ n.cps.getD 0 0 ≠ 77 := by decide +kernel
  exact fun n h => ⟨_, z n h⟩
theorem VlF.inj {d : FD} {v u : V} (hd : DrF d) (h : VlF d v) (k : VlF d u) (e : d.textF v = d.textF u) : v = u := by
  have cross : ∀ {n : Str} {d : PD} {v : V}, n ∈ marks → Vl d v → n ≠ ("M" : Str) ++ d.textF v := fun {n d v} hn hv z => by
    obtain ⟨c, e1, e2⟩ := mark_ne n hn
    have e3 := congrArg (fun s : Str => s.cps.toList) z
    simp only [app_list] at e3
    rw [e1, show ("M" : Str).cps.toList = [77] by decide +kernel] at e3
    injection e3 with e3
    exact e2 e3
  cases h with
  | pl h =>
    cases hd with
    | pl hd =>
      cases k with
      | pl k => exact h.inj hd k e
  | @non n m d =>
    cases hd with
    | @mk n d hn hd =>
      cases k with
      | non => rfl
      | mk k =>
        rw [mk_text k.ne_non] at e
        exact absurd e (cross hn k)
  | @mk n m d v h =>
    cases hd with
    | @mk n d hn hd =>
      cases k with
      | non =>
        rw [mk_text h.ne_non] at e
        exact absurd e.symm (cross hn h)
      | mk k =>
        rw [mk_text h.ne_non, mk_text k.ne_non] at e
        exact h.inj hd k (app_inj2 e)
/-! ### rows -/
theorem split33 : ∀ (u v a b : List Nat), 33 ∉ u → 33 ∉ v → u ++ 33 :: a = v ++ 33 :: b → u = v ∧ a = b
  | [], [], a, b, _, _, h => by
    injection h with _ h
    exact ⟨rfl, h⟩
  | [], y :: v, a, b, _, k, h => by
    injection h with h _
    exact absurd (List.mem_cons.mpr (.inl h)) k
  | x :: u, [], a, b, k, _, h => by
    injection h with h _
    exact absurd (List.mem_cons.mpr (.inl h.symm)) k
  | x :: u, y :: v, a, b, k1, k2, h => by
    injection h with h1 h2
    obtain ⟨e1, e2⟩ := split33 u v a b (fun z => k1 (List.mem_cons_of_mem _ z)) (fun z => k2 (List.mem_cons_of_mem _ z)) h2
    exact ⟨by rw [h1, e1], e2⟩
theorem split33r {u v a b : List Nat} (hu : 33 ∉ u) (hv : 33 ∉ v) (h : (a ++ [33]) ++ u = (b ++ [33]) ++ v) : u = v ∧ a = b := by
  have h2 := congrArg List.reverse h
  simp only [List.reverse_append, List.reverse_cons, List.reverse_nil, List.nil_append, List.append_assoc, List.cons_append] at h2
  obtain ⟨e1, e2⟩ := split33 u.reverse v.reverse a.reverse b.reverse (fun z => hu (List.mem_reverse.mp z)) (fun z => hv (List.mem_reverse.mp z)) h2
  exact ⟨List.reverse_inj.mp e1, List.reverse_inj.mp e2⟩
theorem join_list (f : Nat → Str) : ∀ n, (Txt.join "" ((List.range n).map f)).cps.toList = ((List.range n).map fun i => (f i).cps.toList).flatten
  | 0 => rfl
  | n + 1 => by
    rw [List.range_succ, List.map_append, List.map_append, List.flatten_append]
    show (Txt.join "" (_ ++ [f n])).cps.toList = _
    rw [glue_snoc, app_list, join_list f n]
    simp
/-- with a separator behind each but the last -/
theorem bang_inj (f g : Nat → List Nat) : ∀ (n : Nat) (u v : List Nat), (∀ i, i < n → 33 ∉ f i) → (∀ i, i < n → 33 ∉ g i) → 33 ∉ u → 33 ∉ v →
    ((List.range n).map fun i => f i ++ [33]).flatten ++ u = ((List.range n).map fun i => g i ++ [33]).flatten ++ v → u = v ∧ ∀ i, i < n → f i = g i
  | 0, u, v, _, _, _, _, h => ⟨by simpa using h, fun i hi => absurd hi (Nat.not_lt_zero _)⟩
  | n + 1, u, v, hf, hg, hu, hv, h => by
    rw [List.range_succ, List.map_append, List.map_append, List.flatten_append, List.flatten_append] at h
    simp only [List.map_cons, List.map_nil, List.flatten_cons, List.flatten_nil, List.append_nil, ← List.append_assoc] at h
    obtain ⟨e1, e2⟩ := split33r hu hv h
    obtain ⟨e3, e4⟩ := bang_inj f g n _ _ (fun i hi => hf i (by omega)) (fun i hi => hg i (by omega)) (hf n (by omega)) (hg n (by omega)) e2
    refine ⟨e1, fun i hi => ?_⟩
    rcases Nat.lt_or_ge i n with k | k
    · exact e4 i k
    · rw [show i = n by omega]
      exact e3
theorem row_inj {ds : List FD} {xs ys : List V} (hd : ∀ d ∈ ds, DrF d) (h0 : ds ≠ []) (hx : RwV ds xs) (hy : RwV ds ys) (e : rowText ds (List.replicate (ds.length - 1) "!") xs = rowText ds (List.replicate (ds.length - 1) "!") ys) : xs = ys := by
  have hp := List.length_pos_iff.mpr h0
  obtain ⟨n, hn⟩ : ∃ n, ds.length = n + 1 := ⟨ds.length - 1, by omega⟩
  have hjs : (List.replicate (ds.length - 1) ("!" : Str) ++ [("" : Str)]).length = ds.length := by rw [List.length_append, List.length_replicate]; show ds.length - 1 + 1 = _; omega
  let T (zs : List V) (i : Nat) : List Nat := match ds[i]?, zs[i]? with
    | some d, some x => (d.textF x).cps.toList
    | _, _ => []
  have pc : ∀ zs, RwV ds zs → ∀ i, i < n → (piece ds (List.replicate (ds.length - 1) "!") zs i).cps.toList = T zs i ++ [33] := fun zs hz i hi => by
    obtain ⟨d, hdd⟩ : ∃ d, ds[i]? = some d := ⟨_, List.getElem?_eq_getElem (by omega)⟩
    obtain ⟨x, hxx⟩ : ∃ x, zs[i]? = some x := ⟨_, List.getElem?_eq_getElem (by rw [hz.1]; omega)⟩
    have hj : (List.replicate (ds.length - 1) ("!" : Str) ++ [("" : Str)])[i]? = some ("!" : Str) := by
      rw [List.getElem?_append_left (by rw [List.length_replicate]; omega), List.getElem?_replicate, if_pos (by omega)]
    unfold piece
    show _ = (match ds[i]?, zs[i]? with
      | some d, some x => (d.textF x).cps.toList
      | _, _ => []) ++ [33]
    rw [hdd, hxx, hj]
    show (d.textF x ++ "!").cps.toList = _
    rw [app_list]
    rfl
  have pl : ∀ zs, RwV ds zs → (piece ds (List.replicate (ds.length - 1) "!") zs n).cps.toList = T zs n := fun zs hz => by
    obtain ⟨d, hdd⟩ : ∃ d, ds[n]? = some d := ⟨_, List.getElem?_eq_getElem (by omega)⟩
    obtain ⟨x, hxx⟩ : ∃ x, zs[n]? = some x := ⟨_, List.getElem?_eq_getElem (by rw [hz.1]; omega)⟩
    have hj : (List.replicate (ds.length - 1) ("!" : Str) ++ [("" : Str)])[n]? = some ("" : Str) := by
      rw [List.getElem?_append_right (by rw [List.length_replicate]; omega), List.length_replicate, show n - (ds.length - 1) = 0 by omega]
      rfl
    unfold piece
    show _ = (match ds[n]?, zs[n]? with
      | some d, some x => (d.textF x).cps.toList
      | _, _ => [])
    rw [hdd, hxx, hj]
    show (d.textF x ++ "").cps.toList = _
    rw [add_empty]
  have rt : ∀ zs, RwV ds zs → (rowText ds (List.replicate (ds.length - 1) "!") zs).cps.toList = ((List.range n).map fun i => T zs i ++ [33]).flatten ++ T zs n := fun zs hz => by
    show (Txt.join "" ((List.range ds.length).map (piece ds _ zs))).cps.toList = _
    rw [join_list, hn, List.range_succ, List.map_append, List.flatten_append]
    have e1 : (List.range n).map (fun i => (piece ds (List.replicate (n + 1 - 1) "!") zs i).cps.toList) = (List.range n).map fun i => T zs i ++ [33] := List.map_congr_left fun i hi => by
      have z := pc zs hz i (List.mem_range.mp hi)
      rw [hn] at z
      exact z
    have e2 := pl zs hz
    rw [hn] at e2
    rw [e1]
    show _ ++ ([(piece ds (List.replicate (n + 1 - 1) "!") zs n).cps.toList]).flatten = _
    rw [e2]
    simp
  have nb : ∀ zs, RwV ds zs → ∀ i, 33 ∉ T zs i := fun zs hz i => by
    show 33 ∉ (match ds[i]?, zs[i]? with
      | some d, some x => (d.textF x).cps.toList
      | _, _ => [])
    cases e1 : ds[i]? with
    | none => exact List.not_mem_nil
    | some d =>
      cases e2 : zs[i]? with
      | none => exact List.not_mem_nil
      | some x => exact (hz.2 i d x e1 e2).noB (hd d (List.mem_of_getElem? e1))
  have el := congrArg (fun s : Str => s.cps.toList) e
  simp only [rt xs hx, rt ys hy] at el
  obtain ⟨l1, l2⟩ := bang_inj (T xs) (T ys) n _ _ (fun i _ => nb xs hx i) (fun i _ => nb ys hy i) (nb xs hx n) (nb ys hy n) el
  refine List.ext_getElem? fun i => ?_
  rcases Nat.lt_or_ge i (n + 1) with k | k
  · obtain ⟨d, hdd⟩ : ∃ d, ds[i]? = some d := ⟨_, List.getElem?_eq_getElem (by omega)⟩
    obtain ⟨x, hxx⟩ : ∃ x, xs[i]? = some x := ⟨_, List.getElem?_eq_getElem (by rw [hx.1]; omega)⟩
    obtain ⟨y, hyy⟩ : ∃ x, ys[i]? = some x := ⟨_, List.getElem?_eq_getElem (by rw [hy.1]; omega)⟩
    have et : T xs i = T ys i := by
      rcases Nat.lt_or_ge i n with k2 | k2
      · exact l2 i k2
      · rw [show i = n by omega]
        exact l1
    have et2 : (match ds[i]?, xs[i]? with
      | some d, some x => (d.textF x).cps.toList
      | _, _ => []) = (match ds[i]?, ys[i]? with
      | some d, some x => (d.textF x).cps.toList
      | _, _ => []) := et
    rw [hdd, hxx, hyy] at et2
    rw [hxx, hyy, (hx.2 i d x hdd hxx).inj (hd d (List.mem_of_getElem? hdd)) (hy.2 i d y hdd hyy) (str_ext et2)]
  · rw [List.getElem?_eq_none (by rw [hx.1]; omega), List.getElem?_eq_none (by rw [hy.1]; omega)]
/-! ### data without truth values -/
mutual
def nbD : PyData → Bool
  | .bool _ => false
  | .dict _ => false
  | .list xs => nbA xs
  | .tuple xs => nbA xs
  | _ => true
def nbA : List PyData → Bool
  | [] => true
  | x :: xs => nbD x && nbA xs
end
mutual
theorem eqv_eq : ∀ (a b : PyData), nbD a = true → nbD b = true → PyData.eqv a b = true → a = b
  | .none, .none, _, _, _ => rfl
  | .int i, .int j, _, _, h => by
    have h : (i == j) = true := by simpa [PyData.eqv] using h
    rw [beq_iff_eq.mp h]
  | .str x, .str y, _, _, h => by
    have h : (x == y) = true := by simpa [PyData.eqv] using h
    rw [beq_iff_eq.mp h]
  | .list xs, .list ys, k1, k2, h => by rw [eqvAll_eq xs ys (by simpa [nbD] using k1) (by simpa [nbD] using k2) (by simpa [PyData.eqv] using h)]
  | .tuple xs, .tuple ys, k1, k2, h => by rw [eqvAll_eq xs ys (by simpa [nbD] using k1) (by simpa [nbD] using k2) (by simpa [PyData.eqv] using h)]
  | .bool _, _, k, _, _ => by simp [nbD] at k
  | .dict _, _, k, _, _ => by simp [nbD] at k
  | .none, .bool _, _, k, _ => by simp [nbD] at k
  | .none, .int _, _, _, h => by simp [PyData.eqv] at h
  | .none, .str _, _, _, h => by simp [PyData.eqv] at h
  | .none, .list _, _, _, h => by simp [PyData.eqv] at h
  | .none, .tuple _, _, _, h => by simp [PyData.eqv] at h
  | .none, .dict _, _, k, _ => by simp [nbD] at k
  | .int _, .none, _, _, h => by simp [PyData.eqv] at h
  | .int _, .bool _, _, k, _ => by simp [nbD] at k
  | .int _, .str _, _, _, h => by simp [PyData.eqv] at h
  | .int _, .list _, _, _, h => by simp [PyData.eqv] at h
  | .int _, .tuple _, _, _, h => by simp [PyData.eqv] at h
  | .int _, .dict _, _, k, _ => by simp [nbD] at k
  | .str _, .none, _, _, h => by simp [PyData.eqv] at h
  | .str _, .bool _, _, k, _ => by simp [nbD] at k
  | .str _, .int _, _, _, h => by simp [PyData.eqv] at h
  | .str _, .list _, _, _, h => by simp [PyData.eqv] at h
  | .str _, .tuple _, _, _, h => by simp [PyData.eqv] at h
  | .str _, .dict _, _, k, _ => by simp [nbD] at k
  | .list _, .none, _, _, h => by simp [PyData.eqv] at h
  | .list _, .bool _, _, k, _ => by simp [nbD] at k
  | .list _, .int _, _, _, h => by simp [PyData.eqv] at h
  | .list _, .str _, _, _, h => by simp [PyData.eqv] at h
  | .list _, .tuple _, _, _, h => by simp [PyData.eqv] at h
  | .list _, .dict _, _, k, _ => by simp [nbD] at k
  | .tuple _, .none, _, _, h => by simp [PyData.eqv] at h
  | .tuple _, .bool _, _, k, _ => by simp [nbD] at k
  | .tuple _, .int _, _, _, h => by simp [PyData.eqv] at h
  | .tuple _, .str _, _, _, h => by simp [PyData.eqv] at h
  | .tuple _, .list _, _, _, h => by simp [PyData.eqv] at h
  | .tuple _, .dict _, _, k, _ => by simp [nbD] at k
theorem eqvAll_eq : ∀ (xs ys : List PyData), nbA xs = true → nbA ys = true → PyData.eqvAll xs ys = true → xs = ys
  | [], [], _, _, _ => rfl
  | [], _ :: _, _, _, h => by simp [PyData.eqvAll] at h
  | _ :: _, [], _, _, h => by simp [PyData.eqvAll] at h
  | x :: xs, y :: ys, k1, k2, h => by
    have a1 : nbD x = true ∧ nbA xs = true := by simpa [nbA] using k1
    have a2 : nbD y = true ∧ nbA ys = true := by simpa [nbA] using k2
    have a3 : PyData.eqv x y = true ∧ PyData.eqvAll xs ys = true := by simpa [PyData.eqvAll] using h
    rw [eqv_eq x y a1.1 a2.1 a3.1, eqvAll_eq xs ys a1.2 a2.2 a3.2]
end
end L2.K77

set_option Elab.async false
set_option linter.all false
set_option maxRecDepth 100000
set_option maxHeartbeats 4000000
/-! The law's plans: a store, and what the law itself keeps. -/
namespace L2.K77
open PySem PySem.W PySem.Spec PySem.Calls PyProof.Rows L2.Jk
/-! ### data of fields and rows -/
def unV : PyData → V
  | .str z => .str z
  | _ => .non
def undP : PyData → Option PD
  | .tuple [.str _, .str z, .int l, .int m] => some (.word (.str z) (.int l) (.int m))
  | .tuple [.str _, .int l, .int m] => some (.number (.int l) (.int m))
  | .tuple [.str _, .int w] => some (.fixed (.int w))
  | .tuple [.str _, .list xs] => some (.listed (.lst (xs.map unV)))
  | .tuple [.str _, .str z, .str e, .int l, .int m] => some (.ended (.str z) (.str e) (.int l) (.int m))
  | _ => none
def undF : PyData → Option FD
  | .tuple [.str _, .str n, .str m, .tuple xs] => (undP (.tuple xs)).map (FD.mk (.str n) (.str m))
  | d => (undP d).map FD.pl
theorem undP_ok {d : PD} (h : Dr d) : undP (datP d) = some d := by
  cases h with
  | word a b c => rfl
  | number a b => rfl
  | fixed => rfl
  | @listed ts a b c e =>
    show some (PD.listed (.lst (((ts.map V.str).map dV).map unV))) = _
    rw [List.map_map, List.map_map]
    rfl
  | ended a b c e => rfl
theorem undF_ok {d : FD} (h : DrF d) : undF (datF d) = some d := by
  cases h with
  | pl h =>
    have z := undP_ok h
    cases h with
    | word a b c => rfl
    | number a b => rfl
    | fixed => rfl
    | @listed ts a b c e =>
      show (undP (datP (.listed (.lst (ts.map V.str))))).map FD.pl = _
      rw [z]
      rfl
    | ended a b c e => rfl
  | @mk n d hn h =>
    have z := undP_ok h
    obtain ⟨xs, e⟩ : ∃ xs, datP d = .tuple xs := by cases d <;> exact ⟨_, rfl⟩
    show undF (.tuple [.str "marked", .str n, .str "M", datP d]) = _
    rw [e] at z ⊢
    show (undP (.tuple xs)).map _ = _
    rw [z]
    rfl
theorem specs_inj : ∀ {ds es : List FD}, (∀ d ∈ ds, DrF d) → (∀ d ∈ es, DrF d) → ds.map datF = es.map datF → ds = es
  | [], [], _, _, _ => rfl
  | [], _ :: _, _, _, h => by cases h
  | _ :: _, [], _, _, h => by cases h
  | d :: ds, e :: es, h1, h2, h => by
    rw [List.map_cons, List.map_cons] at h
    injection h with h3 h4
    have z := congrArg undF h3
    rw [undF_ok (h1 d (List.mem_cons_self ..)), undF_ok (h2 e (List.mem_cons_self ..))] at z
    rw [Option.some.inj z, specs_inj (fun x hx => h1 x (List.mem_cons_of_mem _ hx)) (fun x hx => h2 x (List.mem_cons_of_mem _ hx)) h4]
theorem nb_strs : ∀ ts : List Str, nbA ((ts.map V.str).map dV) = true
  | [] => rfl
  | _ :: ts => by
    show (true && nbA ((ts.map V.str).map dV)) = true
    rw [nb_strs ts]
    rfl
theorem nb_pd {d : PD} (h : Dr d) : nbD (datP d) = true := by
  cases h with
  | word a b c => rfl
  | number a b => rfl
  | fixed => rfl
  | @listed ts a b c e =>
    show (true && (nbA ((ts.map V.str).map dV) && true)) = true
    rw [nb_strs]
    rfl
  | ended a b c e => rfl
theorem nb_fd {d : FD} (h : DrF d) : nbD (datF d) = true := by
  cases h with
  | pl h => exact nb_pd h
  | @mk n d hn h =>
    show (true && (true && (true && (nbD (datP d) && true)))) = true
    rw [nb_pd h]
    rfl
theorem nb_specs : ∀ {ds : List FD}, (∀ d ∈ ds, DrF d) → nbA (ds.map datF) = true
  | [], _ => rfl
  | d :: ds, h => by
    show (nbD (datF d) && nbA (ds.map datF)) = true
    rw [nb_fd (h d (List.mem_cons_self ..)), nb_specs fun x hx => h x (List.mem_cons_of_mem _ hx)]
    rfl
theorem specs_eqv {ds es : List FD} (h1 : ∀ d ∈ ds, DrF d) (h2 : ∀ d ∈ es, DrF d) (h : PyData.eqv (.list (ds.map datF)) (.list (es.map datF)) = true) : ds = es := by
  have z := eqv_eq _ _ (show nbD (.list (ds.map datF)) = true from nb_specs h1) (show nbD (.list (es.map datF)) = true from nb_specs h2) h
  injection z with z
  exact specs_inj h1 h2 z
theorem strOk_of {t : Str} (h : ∀ c ∈ t.cps.toList, c < 200) : (PyData.str t).canLay0 = true := by
  show PySem.PyData.canLay0 (.str t) = true
  unfold PyData.canLay0
  show (t.cps.all (· < 0x110000)) = true
  rw [Array.all_eq_true]
  intro i hi
  have z := h t.cps[i] (by simp)
  exact decide_eq_true (by omega)
theorem Vl.lay {d : PD} {v : V} (hd : Dr d) (h : Vl d v) : (dV v).canLay0 = true ∧ (dV v).depth = 0 := by
  obtain ⟨z1, z2, z3, z4, z5, z6⟩ := z_facts
  cases h with
  | @word z l m e i t h1 h2 h3 =>
    generalize em : (V.int (m : Nat)) = M at hd
    cases hd with
    | word a b c => exact ⟨strOk_of fun c hc => (z1 _ a).2 c (lay_chars h3 c hc), rfl⟩
  | @ended z l m e i t h1 h2 h3 =>
    generalize em : (V.int (m : Nat)) = M at hd
    cases hd with
    | ended a b c f => exact ⟨strOk_of fun c hc => (z2 _ a).2 c (lay_chars h3 c hc), rfl⟩
  | number h1 h2 => exact ⟨rfl, rfl⟩
  | fixed h => exact ⟨rfl, rfl⟩
  | @listed ts t h =>
    generalize ex : (LX.lst (ts.map V.str)) = X at hd
    cases hd with
    | @listed ts2 a b c e => exact ⟨strOk_of (z4 t (b t (lst_mem ex h))).2, rfl⟩
theorem VlF.lay {d : FD} {v : V} (hd : DrF d) (h : VlF d v) : (dV v).canLay0 = true ∧ (dV v).depth = 0 := by
  cases h with
  | pl h =>
    cases hd with
    | pl hd => exact h.lay hd
  | non => exact ⟨rfl, rfl⟩
  | mk h =>
    cases hd with
    | mk hn hd => exact h.lay hd
theorem RwV.mem {ds : List FD} {xs : List V} (h : RwV ds xs) {x : V} (hx : x ∈ xs) : ∃ d ∈ ds, VlF d x := by
  obtain ⟨i, hi, e⟩ := List.mem_iff_getElem.mp hx
  have ed := List.getElem?_eq_getElem (show i < ds.length by rw [← h.1]; exact hi)
  exact ⟨_, List.mem_of_getElem? ed, h.2 i _ x ed (by rw [List.getElem?_eq_getElem hi, e])⟩
theorem lay_flats : ∀ {xs : List V}, (∀ x ∈ xs, (dV x).canLay0 = true ∧ (dV x).depth = 0) → PyData.canLayAll0 (xs.map dV) = true ∧ PyData.depthAll (xs.map dV) = 0
  | [], _ => ⟨rfl, rfl⟩
  | x :: xs, h => by
    obtain ⟨a, b⟩ := lay_flats fun y hy => h y (List.mem_cons_of_mem _ hy)
    obtain ⟨c, d⟩ := h x (List.mem_cons_self ..)
    refine ⟨and_t c a, ?_⟩
    show max (dV x).depth (PyData.depthAll (xs.map dV)) = 0
    rw [b, d]
    rfl
def dE (e : List V × Int) : PyData := .tuple [.tuple (e.1.map dV), .int e.2]
theorem lay_ents {ds : List FD} (hd : ∀ d ∈ ds, DrF d) : ∀ {es : List (List V × Int)}, (∀ e ∈ es, RwV ds e.1) → PyData.canLayAll0 (es.map dE) = true ∧ PyData.depthAll (es.map dE) ≤ 2
  | [], _ => ⟨rfl, by decide⟩
  | e :: es, h => by
    obtain ⟨a, b⟩ := lay_ents hd fun y hy => h y (List.mem_cons_of_mem _ hy)
    obtain ⟨c1, c2⟩ := lay_flats (xs := e.1) fun x hx => by
      obtain ⟨d, hdm, hv⟩ := (h e (List.mem_cons_self ..)).mem hx
      exact hv.lay (hd d hdm)
    refine ⟨and_t (and_t c1 rfl) a, Nat.max_le.mpr ⟨?_, b⟩⟩
    show max (PyData.depthAll (e.1.map dV) + 1) (max 0 0) + 1 ≤ 2
    rw [c2]
    decide
theorem sh_ents {ds : List FD} (hd : ∀ d ∈ ds, DrF d) {es : List (List V × Int)} (h : ∀ e ∈ es, RwV ds e.1) : SeqAt.shaped (.list (es.map dE)) = true := by
  obtain ⟨a, b⟩ := lay_ents hd h
  refine Bool.and_eq_true_iff.mpr ⟨a, decide_eq_true ?_⟩
  show PyData.depthAll (es.map dE) + 1 ≤ 64
  omega
theorem dp_flats {K : Frag} {H : Hp} : ∀ {xs : List V}, (∀ x ∈ xs, flatV x = true) → DpAll K H xs (xs.map dV)
  | [], _ => .nil
  | x :: xs, h => .cons (dp_flat (h x (List.mem_cons_self ..))) (dp_flats fun y hy => h y (List.mem_cons_of_mem _ hy))
theorem Ent.dp {K : Frag} {H : Hp} {v : V} {e : List V × Int} (h : Ent H v e) (hf : ∀ x ∈ e.1, flatV x = true) : Dp K H v (dE e) := by
  obtain ⟨r, rr, rfl, a, b⟩ := h
  exact .tup (SqT.of a) (.cons (.tup (SqT.of b) (dp_flats hf)) (.cons (.int _) .nil))
theorem dp_ents {K : Frag} {H : Hp} : ∀ {us : List V} {es : List (List V × Int)}, us.length = es.length → (∀ (k : Nat) v e, us[k]? = some v → es[k]? = some e → Ent H v e ∧ ∀ x ∈ e.1, flatV x = true) → DpAll K H us (es.map dE)
  | [], [], _, _ => .nil
  | [], _ :: _, h, _ => by cases h
  | _ :: _, [], h, _ => by cases h
  | u :: us, e :: es, hl, h => .cons ((h 0 u e rfl rfl).1.dp (h 0 u e rfl rfl).2) (dp_ents (Nat.succ.inj hl) fun k v x a b => h (k + 1) v x a b)
theorem LsIs.dp {K : Frag} {H : Hp} {us : List V} {ts : List Str} {es : List (List V × Int)} {m : Mp} {ds : List FD} (h : LsIs H us ts m) (he : Ents m ts es) (hd : ∀ d ∈ ds, DrF d) (hr : ∀ e ∈ es, RwV ds e.1) : DpAll K H us (es.map dE) := by
  refine dp_ents (by rw [h.1, he.1]) fun k v e hv hk => ?_
  obtain ⟨t, ht⟩ : ∃ t, ts[k]? = some t := ⟨_, List.getElem?_eq_getElem (by have := (List.getElem?_eq_some_iff.mp hv).1; have := h.1; omega)⟩
  obtain ⟨e', he', hm⟩ := he.2 k t ht
  rw [hk] at he'
  cases he'
  obtain ⟨e2, hm2, hE⟩ := h.2 k v t hv ht
  rw [hm] at hm2
  cases hm2
  refine ⟨hE, fun x hx => ?_⟩
  obtain ⟨d, hdm, hvl⟩ := (hr e (List.mem_of_getElem? hk)).mem hx
  exact (hvl.ok (hd d hdm)).flat
/-- a good row -/
theorem row_due {ds : List FD} {xs : List V} (hd : ∀ d ∈ ds, DrF d) (h : RwV ds xs) : rowDue ds (some xs) = none := by
  show ((List.range (max xs.length ds.length)).find? (badAt ds xs)).map _ = none
  rw [List.find?_eq_none.mpr]
  · rfl
  · intro i hi
    rw [List.mem_range, h.1, Nat.max_self] at hi
    obtain ⟨d, hdd⟩ : ∃ d, ds[i]? = some d := ⟨_, List.getElem?_eq_getElem hi⟩
    obtain ⟨x, hxx⟩ : ∃ x, xs[i]? = some x := ⟨_, List.getElem?_eq_getElem (by rw [h.1]; exact hi)⟩
    have hv := (h.2 i d x hdd hxx).ok (hd d (List.mem_of_getElem? hdd))
    unfold badAt
    rw [hdd, hxx]
    show ¬ (!d.hasV x) = true
    rw [hv.has]
    decide
theorem row_inn {ds : List FD} {xs : List V} (hd : ∀ d ∈ ds, DrF d) (hf : ds.length ≤ 30) (h : RwV ds xs) (J : Hp) : RowIn J (some xs) := ⟨by have := h.1; omega, fun x hx => by
  obtain ⟨d, hdm, hv⟩ := h.mem hx
  have ok := hv.ok (hd d hdm)
  exact ⟨.inl ok.flat, by have := ok.len; omega⟩⟩
end L2.K77

set_option Elab.async false
set_option linter.all false
set_option maxRecDepth 100000
set_option maxHeartbeats 4000000
/-! The law: whether a field has a value. -/
namespace L2.K77
open PySem PySem.W PySem.Spec PySem.Calls PyProof.Rows L2.Jk
theorem reps : ∀ j : Nat, PyData.canLayAll0 (List.replicate j (.int 1)) = true ∧ PyData.depthAll (List.replicate j (.int 1)) = 0
  | 0 => ⟨rfl, rfl⟩
  | j + 1 => by
    obtain ⟨a, b⟩ := reps j
    refine ⟨and_t rfl a, ?_⟩
    show max 0 (PyData.depthAll (List.replicate j (.int 1))) = 0
    rw [b]
    rfl
theorem sh_reps (j : Nat) : SeqAt.shaped (.list (List.replicate j (.int 1))) = true := by
  obtain ⟨a, b⟩ := reps j
  refine Bool.and_eq_true_iff.mpr ⟨a, decide_eq_true ?_⟩
  show PyData.depthAll (List.replicate j (.int 1)) + 1 ≤ 64
  omega
theorem dp_reps {K : Frag} {H : Hp} : ∀ j : Nat, DpAll K H (List.replicate j (.int 1)) (List.replicate j (.int 1))
  | 0 => .nil
  | j + 1 => .cons (.int 1) (dp_reps j)
theorem eqv_reps : ∀ j : Nat, PyData.eqv (.list (List.replicate j (.int 1))) (.list []) = decide (j = 0)
  | 0 => rfl
  | _ + 1 => rfl
def spHas : Sp := fun vs H Q _ => ∃ (s0 : Addr) (sp v : V) (d : FD), vs = [sp, v] ∧ FIn s0 H sp d ∧ DrF d ∧ Some v ∧ ∀ H', Same H H' → Q (.bl (d.hasV v)) H'
section
variable {P : Program} {w : World} {K : Frag} {mg : Str → Option Value} {base : Heap} {f : Addr} {fd : FuncData}

abbrev s_has : Stmt := top 58
theorem sc_has : FnScope ["_law_spec", "_law_value", "_law_one"] ["_law_spec", "_law_value"] (defScope s_has) := ⟨rfl, rfl, rfl, by decide +kernel, rfl, by decide +kernel, by decide +kernel⟩

theorem ok_has (F : FunD K "_law_has" "_law_has" (defArgs s_has) (defBody s_has) (defScope s_has) [] [] f fd) (G : GL P w K mg base) : FnOk P w K mg base CX0 4 f fd ["_law_spec", "_law_value"] spHas := by
  refine F.ok (CX := CX0) sc_has (fun vs H Q E h => ?_) (fun cdv A outer s H vs Q E hr h => ?_)
  · obtain ⟨_, _, _, _, rfl, _⟩ := h
    rfl
  · refine ⟨_, PSs.nox (pss_one (ps_ret (pe_cmpR (op_neD hr.units) (pe_lc (own := [("_law_one", 2)]) (g := gName 2) (tt := _) rfl sc_has.nd (pi_list (pe_fn G.law_values (hr.mono (by decide)) pass0 (by rfl) (pa_cons (pv 0) pa_nil))) (blkOk_by (N := ["_law_spec", "_law_value", "_law_one"]) (sc := defScope s_has) (by decide +kernel)) (fun _ _ _ _ _ => pg_name (i := 2) sc_has.nd rfl (Or.inl rfl)) (fun _ _ _ _ _ => pts_one (PW.pt (pw_and (pt_cmpR op_eq (pv 2) (pv 1) (nomark _)) (pw_and1 (pt_cmpR op_eq (pe_callB (call_ieK (K := K) rfl) (by rfl) G.isinstance (by decide +kernel) (pa_cons (pv 2) (pa_cons (pe_bty (n := "str") (by rfl) G.str (by decide +kernel)) pa_nil))) (pe_callB (call_ieK (K := K) rfl) (by rfl) G.isinstance (by decide +kernel) (pa_cons (pv 1) (pa_cons (pe_bty (n := "str") (by rfl) G.str (by decide +kernel)) pa_nil))) (nomark _)))))) (fun _ _ _ _ _ => pe_int)) (pe_lstS pa_nil) (nomark _)))), ?_⟩
    obtain ⟨s0, sp, v, d, rfl, hF, hd, hv, q⟩ := h
    refine ⟨_, rfl, s0, sp, d, rfl, hF, hd, d.dep_lt, fun p vs H1 hp ok S1 e1 => ⟨p, rfl, ⟨_, SqL.of e1⟩, fun D hD => ?_⟩⟩
    have hv2 : flatV v = true ∧ ∀ y, Some y → scal y v = true := by
      rcases hv with rfl | ⟨n, rfl⟩ | ⟨t, rfl, ht⟩
      · exact ⟨rfl, fun y hy => by rcases hy with rfl | ⟨n, rfl⟩ | ⟨t, rfl, ht⟩ <;> rfl⟩
      · exact ⟨rfl, fun y hy => by rcases hy with rfl | ⟨n, rfl⟩ | ⟨t, rfl, ht⟩ <;> rfl⟩
      · exact ⟨rfl, fun y hy => by rcases hy with rfl | ⟨n, rfl⟩ | ⟨t, rfl, ht⟩ <;> rfl⟩
    have hvl : vs.length ≤ 71 := by
      have := ok.few
      have := d.dep_lt
      omega
    refine lc_list (K := K) (a := p) (xs := vs) (fun n J => ∃ j : Nat, Same H1 J ∧ J D = some (.lst (List.replicate j (.int 1))) ∧ j ≤ n ∧ (j = 0 ↔ v ∉ vs.take n)) ⟨0, same_upd hD, upd_same, Nat.le_refl _, by simp⟩ (fun n J _ ⟨_, S, _⟩ => SqL.of (S _ _ e1)) ?_ ?_
    · rintro n y J hy ⟨j, SJ, eD, hl, hiff⟩
      have hn := (List.getElem?_eq_some_iff.mp hy).1
      have hyv := ok.all y (List.mem_of_getElem? hy)
      have hys := vf_some hd hyv
      have hyf := (hyv.ok hd).flat
      refine ⟨rfl, _, rfl, _, rfl, hv2.2 y hys, _, rfl, ?_⟩
      refine ite2 (fun c => ?_) (fun c => ?_)
      · have e := of_decide_eq_true c
        subst e
        refine ⟨_, rfl, _, _, _, _, _, rfl, .ty _, flat_ty hyf, kit_ty (kit_str hyf), ?_⟩
        refine ⟨_, rfl, _, _, _, _, _, rfl, .ty _, flat_ty hyf, kit_ty (kit_str hyf), ?_⟩
        refine ⟨rfl, _, rfl, ?_⟩
        rw [decide_eq_true rfl]
        refine iteT ?_
        refine ⟨_, eD, by rw [List.length_replicate, sizeLine_eq]; omega, j + 1, same_put SJ hD, by rw [upd_same, List.replicate_succ'], by omega, fun z => by omega, fun z => absurd ?_ z⟩
        rw [take_snoc hy]
        exact List.mem_append.mpr (.inr (List.mem_singleton.mpr rfl))
      · refine ⟨j, SJ, eD, Nat.le_succ_of_le hl, ?_⟩
        have nc : y ≠ v := fun z => c (decide_eq_true z)
        rw [hiff, take_snoc hy, List.mem_append, List.mem_singleton]
        exact ⟨fun a b => b.elim a fun z => nc z.symm, fun a b => a (.inl b)⟩
    · rintro J ⟨j, SJ, eD, hl, hiff⟩
      rw [List.take_length] at hiff
      refine ⟨by show 0 ≤ 1000; decide, fun pe H5 hpe S5 e5 => ?_⟩
      refine ⟨.list (List.replicate j (.int 1)), .list [], .lst (SqL.of (S5 _ _ eD)) (dp_reps j), .lst (SqL.of e5) .nil, sh_reps j, by decide +kernel, ?_⟩
      have z := q H5 ((S1.trans SJ).trans S5)
      have e : (!PyData.eqv (.list (List.replicate j (.int 1))) (.list [])) = d.hasV v := by
        rw [eqv_reps, Bool.eq_iff_iff, has_iff hd ok hv]
        have hk : j ≠ 0 ↔ v ∈ vs := by rw [Ne, hiff, Classical.not_not]
        simpa using hk
      rw [e]
      exact z

end
end L2.K77

set_option Elab.async false
set_option linter.all false
set_option maxRecDepth 100000
set_option maxHeartbeats 4000000
/-! repr of flat values. -/
namespace L2.Jk
open PySem PySem.W PySem.Spec PySem.Calls PyProof.Rows
def reprV : V → Str
  | .non => "None"
  | .bl b => if b then "True" else "False"
  | .int i => (toString i : Str)
  | .str z => reprText z
  | _ => ""
def reprOk : V → Bool
  | .int i => decide (i.natAbs.log2 < 1920)
  | .str z => decide ((reprText z).length ≤ 16777216)
  | _ => true
theorem call_reprV {X : Cx} : CallR X (.builtin "repr") (fun xs H Q => ∃ v, xs = [v] ∧ flatV v = true ∧ reprOk v = true ∧ Q (.str (reprV v)) H) := by
  intro pins s σ H xs us Q I r h
  obtain ⟨v, rfl, hf, hz, q⟩ := h
  obtain ⟨u, rfl, ru⟩ := vals1 r
  cases v with
  | non =>
    cases ru
    exact P.repr_of_none ⟨.str _, H, I.tok _, ⟨_, rfl⟩, q⟩
  | bl b =>
    cases ru
    exact P.repr_of_bool ⟨.str _, H, I.tok _, ⟨_, by cases b <;> rfl⟩, q⟩
  | int i =>
    obtain ⟨t, rfl⟩ := ru
    exact P.repr_of_int (of_decide_eq_true hz) ⟨.str _, H, I.tok _, ⟨_, rfl⟩, q⟩
  | str z =>
    obtain ⟨t, rfl⟩ := ru
    exact P.repr_of_str ⟨.str _, H, I.tok _, ⟨_, rfl⟩, q⟩ (by rw [sizeLine_eq]; exact of_decide_eq_true hz)
  | _ => cases hf
end L2.Jk

set_option Elab.async false
set_option linter.all false
set_option maxRecDepth 100000
set_option maxHeartbeats 4000000
/-! try: several clauses, some with a name, some without, put together clause by clause. -/
namespace L2.Jk
open PySem PySem.W PySem.Spec PySem.Calls PyProof.Rows

section
variable {X : Cx}
/-- an error that was caught here: all that is known where the clauses are looked at -/
structure Hit (X : Cx) (pins : List (Addr × Obj)) (σ : St) (H : Hp) (s' : Shared) (a : Addr) (cls : Value) (d : Option Addr) (B : Heap) (sI : Shared) (h3 : Heap) : Prop where
  hs : X.stack = X.env :: X.outer
  hf : X.env.frame = some X.env.locals
  J : Inv X pins σ H sI
  nb : ∀ b o, sI.heap.get? b = some o → b ∉ frs X.stack → B.get? b = some o
  up : sI.heap.UpToSlots h3
  fl : HandSPX.FlyingZ B (X.env :: X.outer) a (Zc cls d) h3
  na : H a = none
  os : s'.os = sI.os
  ag : AllBare s'.gens
/-- the clauses hds keep the wish w -/
def Hnd (X : Cx) (hds : List ExceptHandler) (w : Ends → WX) : Prop := ∀ (D : Ends) (pins : List (Addr × Obj)) (σ : St) (H : Hp) (s' : Shared) (a : Addr) (cls : Value) (d : Option Addr) (B : Heap) (sI : Shared) (h3 : Heap),
  Hit X pins σ H s' a cls d B sI h3 → w D cls d σ H → wpAny (model X.prog X.w) X.A (handleBy (.ref a) X.env hds) (SP X pins D) X.xe { s' with heap := h3 }
section
variable {pins : List (Addr × Obj)} {σ : St} {H : Hp} {s' : Shared} {a : Addr} {cls : Value} {d : Option Addr} {B : Heap} {sI : Shared} {h3 : Heap}
theorem Hit.inv (t : Hit X pins σ H s' a cls d B sI h3) : Inv X pins σ H { s' with heap := h3 } :=
  t.J.landed t.nb t.fl.1 t.up t.os t.ag
theorem Hit.apart (t : Hit X pins σ H s' a cls d B sI h3) : a ≠ X.env.locals ∧ a ∉ X.fs := by
  obtain ⟨oe, vs, he, hz, hd⟩ := t.fl.there
  have nfr : a ∉ frs (X.env :: X.outer) := fun hm => by
    obtain ⟨_, o', e', hnf⟩ := t.fl.2.2.1.mem hm
    rw [he] at e'
    cases e'
    exact hnf _ hd
  refine ⟨fun z => nfr (List.mem_filterMap.mpr ⟨X.env, List.mem_cons_self, by rw [t.hf, z]⟩), fun hm => ?_⟩
  obtain ⟨e, he, q⟩ := List.mem_filterMap.mp hm
  exact nfr (List.mem_filterMap.mpr ⟨e, List.mem_cons_of_mem _ he, q⟩)
end
theorem hnd_nil {Wout : WX} (tk : Takes X Wout) : Hnd X [] (fun _ => Wout) := by
  intro D pins σ H s' a cls d B sI h3 t w
  refine wpAny_handleBy_nil ?_
  obtain ⟨_, _, _, oe, vs, T, oT, ts', he, hz, hd, h1, hr⟩ := id t.fl
  unfold PySem.passOn
  refine wpAny_bind (wpAny_field he hd h1 ?_)
  have nn : ¬ ((Value.ref T == Value.none) = true) := by simp
  rw [if_neg nn]
  have fin : wpAny (model X.prog X.w) X.A (setFlight (.ref a) X.env.frame) (fun _ s4 => wpAny (model X.prog X.w) X.A (throw (.ref a) : Sem Flow) (SP X pins D) X.xe s4) X.xe { s' with heap := h3 } := by
    rw [t.hf]
    exact HandSPX.setFlight_upZ t.fl fun h4 hh4 up4 => wpAny_throw (tk _ _ ⟨a, B, sI, pins, σ, H, cls, d, rfl, t.J, t.nb, t.up.trans up4, .inr (.inr (by rw [t.hs]; exact hh4)), t.na, t.os, t.ag, w⟩)
  first
    | exact wpAny_bind (wpAny_pure (wpAny_bind fin))
    | exact wpAny_bind fin
section
variable {x n : Str} {c : Value} {np cp : Pos} {pins : List (Addr × Obj)} {σ : St} {H : Hp} {s' : Shared} {a : Addr} {cls : Value} {d : Option Addr} {B : Heap} {sI : Shared} {h3 : Heap} {b₀ : Stmt} {suite : List Stmt} {hds : List ExceptHandler} {w : Ends → WX} {ts : Addr → Value → Option Addr → TS} {i : Nat}
/-- there is an object there, and the suite of a clause may run -/
theorem Hit.go (t : Hit X pins σ H s' a cls d B sI h3) : ∃ oe : Obj, h3.get? a = some oe ∧ Zc cls d oe ∧ (∃ vs, oe.data = .fields vs) ∧ Inv (X.suite a ((a, oe) :: (X.pn ++ pins))) [] σ H { s' with heap := h3 } := by
  obtain ⟨oe, vs, he, hz, hd⟩ := t.fl.there
  exact ⟨oe, he, hz, ⟨vs, hd⟩, t.inv.suite he hd t.na t.apart.1 t.apart.2⟩
theorem Hit.again (t : Hit X pins σ H s' a cls d B sI h3) {h4 : Heap} (fl4 : HandSPX.FlyingZ B (X.env :: X.outer) a (Zc cls d) h4) (up4 : h3.UpToSlots h4) : Hit X pins σ H s' a cls d B sI h4 :=
  ⟨t.hs, t.hf, t.J, t.nb, t.up.trans up4, fl4, t.na, t.os, t.ag⟩
/-- what a clause asks first: whether the error is one of its class -/
theorem hit_test {b : Bool} {Q : Bool → Shared → Prop} {E E2 : Value → Shared → Prop}
    (t : Hit X pins σ H s' a cls d B sI h3) (hc : Names X x c) (hb : exmOne X.K cls c = some b) (q : Q b { s' with heap := h3 }) :
    wpAny (model X.prog X.w) (X.A.mark (some (.ref a))) (eval (.Name x np) X.env) (fun c' s1 => wpAny (model X.prog X.w) (X.A.mark (some (.ref a))) (excMatches (.ref a) c') Q E s1) E2 { s' with heap := h3 } := by
  obtain ⟨oe, he, hz, hd, S3⟩ := t.go
  have LT : Looks (model X.prog X.w) h3 (typeOf (.ref a)) cls := fun A Q E s k q => wpAny_typeOf_ref (k _ _ he) (by rw [hz.1]; exact q)
  have LM := exm_one (M := model X.prog X.w) t.inv.kIn LT hb
  have fin : wpAny (model X.prog X.w) (X.A.mark (some (.ref a))) (excMatches (.ref a) c) Q E { s' with heap := h3 } := LM.here q
  obtain ⟨hg, hdbg, hm | ⟨hm, hv, hnn⟩⟩ := hc
  · exact ld_glob (X := X.suite a ((a, oe) :: (X.pn ++ pins))) S3 hg hm fin hdbg
  · exact ld_blt (X := X.suite a ((a, oe) :: (X.pn ++ pins))) S3 hg hm hv fin hnn hdbg
abbrev SuiteOk (X : Cx) (body : List Stmt) (ts : Addr → Value → Option Addr → TS) : Prop :=
  ∀ (a : Addr) (oe : Obj) (cls : Value) (d : Option Addr) (pn : List (Addr × Obj)), Zc cls d oe → (∃ vs, oe.data = .fields vs) → PSs (X.suite a ((a, oe) :: pn)) body (ts a cls d)
/-- except x: suite, and the clauses behind it -/
theorem hnd_un (hc : Names X x c) (hsu : SuiteOk X (b₀ :: suite) ts) (r : Hnd X hds w) :
    Hnd X (.ExceptHandler (some (.Name x np)) none (b₀ :: suite) cp :: hds) (fun D cls d σ H => ∃ b, exmOne X.K cls c = some b ∧ (b = true → ∀ a, H a = none → ts a cls d D σ H) ∧ (b = false → w D cls d σ H)) := by
  intro D pins σ H s' a cls d B sI h3 t ⟨b, hb, yes, no⟩
  have ok := t.J.ok
  refine wpAny_handleBy_cons (codeAny_handlers_test (hit_test t hc hb ?_)) (by intro q; cases q)
  cases b with
  | false => exact r D pins σ H s' a cls d B sI h3 t (no rfl)
  | true =>
    refine codeAny_handlers_suite (HandSPX.lands_againZ t.fl fun h4 fl4 up4 => ?_)
    obtain ⟨oe4, he4, hz4, hd4, S4⟩ := (t.again fl4 up4).go
    refine wpAny_mono ((hsu a oe4 cls d (X.pn ++ pins) hz4 hd4).run [] _ _ H _ S4 (yes rfl a t.na)) (fun f s6 hsp => ?_) (fun _ _ z => False.elim z)
    cases f with
    | ret u =>
      obtain ⟨v6, σ6, H6, S6, r6, q6⟩ := hsp
      exact ⟨_, _, _, S6.unsuite ok, r6, q6⟩
    | _ =>
      obtain ⟨σ6, H6, S6, q6⟩ := hsp
      exact ⟨_, _, S6.unsuite ok, q6⟩
/-- except x as n: suite, n in slot i, and the clauses behind it -/
theorem hnd_as (hN : X.N.Nodup) (hi : X.N[i]? = some n) (hln : X.env.kindOf n = some .local) (hc : Names X x c) (hsu : SuiteOk X (b₀ :: suite) ts) (r : Hnd X hds w) :
    Hnd X (.ExceptHandler (some (.Name x np)) (some n) (b₀ :: suite) cp :: hds) (fun D cls d σ H => ∃ b, exmOne X.K cls c = some b ∧ (b = true → ∀ a, H a = none → ts a cls d { nx := fun σ' H' => D.nx (σ'.set i none) H', rt := D.rt, bk := fun σ' H' => D.bk (σ'.set i none) H', ct := fun σ' H' => D.ct (σ'.set i none) H' } (σ.set i (some (.ref a))) H) ∧ (b = false → w D cls d σ H)) := by
  intro D pins σ H s' a cls d B sI h3 t ⟨b, hb, yes, no⟩
  have ok := t.J.ok
  refine wpAny_handleBy_cons (codeAny_handlers_test (hit_test t hc hb ?_)) (by intro q; cases q)
  cases b with
  | false => exact r D pins σ H s' a cls d B sI h3 t (no rfl)
  | true =>
    refine codeAny_handlers_suite_as (HandSPX.lands_againZ t.fl fun h4 fl4 up4 => ?_)
    obtain ⟨oe4, he4, hz4, hd4, S4⟩ := (t.again fl4 up4).go
    refine store_ok (X := X.suite a ((a, oe4) :: (X.pn ++ pins))) (v := .ref a) S4 hN hi (.inl hln) rfl (fun s5 S5 => ?_) (.inr hln)
    refine wpAny_mono ((hsu a oe4 cls d (X.pn ++ pins) hz4 hd4).run [] s5 _ H _ S5 (yes rfl a t.na)) (fun f s6 hsp => ?_) (fun _ _ z => False.elim z)
    cases f with
    | ret u =>
      obtain ⟨v6, σ6, H6, S6, r6, q6⟩ := hsp
      exact gone_ok (S6.unsuite ok) hN hi hln fun s7 J7 => ⟨_, _, _, J7, r6, q6⟩
    | _ =>
      obtain ⟨σ6, H6, S6, q6⟩ := hsp
      exact gone_ok (S6.unsuite ok) hN hi hln fun s7 J7 => ⟨_, _, J7, q6⟩
end
/-- the statement -/
theorem ps_try_hnd {body : List Stmt} {h₀ : ExceptHandler} {hds : List ExceptHandler} {w : Ends → WX} {tb : WX → TS} {pos : Pos} (hs : X.stack = X.env :: X.outer) (hf : X.env.frame = some X.env.locals)
    (hb : ∀ (W : WX) (pn : List (Addr × Obj)) (xe : Value → Shared → Prop), Takes (X.tr pn xe) W → PassesOwn (model X.prog X.w) X.A X.env xe → PSs (X.tr pn xe) body (tb W))
    (hh : Hnd X (h₀ :: hds) w) : PS X (.Try body (h₀ :: hds) [] [] pos) (fun D σ H => tb (w D) D σ H) := by
  constructor
  intro pins s σ H D I h
  have ok := I.ok
  have hfr : X.A.frames = some (X.env :: X.outer) := by rw [ok.frames, hs]
  refine wpAny_Try_except (wpAny_mono ((hb (w D) (X.pn ++ pins) (fun e s₁ => wpAny (model X.prog X.w) X.A (noteFrame e X.env) (fun _ s₂ => wpAny (model X.prog X.w) X.A (setFlight e none) (fun _ s₃ =>
    wpAny (model X.prog X.w) X.A (handleBy e X.env (h₀ :: hds)) (SP X pins D) X.xe s₃) X.xe s₂) X.xe s₁) (fun u s' xx => ?_) PassesOwn.looking).run [] s σ H D (I.toTry _) h) (fun f s1 hsp => ?_) (fun e s1 he => he))
  · obtain ⟨a, B, sI, pins', σ', H', cls, d, rfl, J', nb, up, sky, na, os, ag, wd⟩ := xx
    have sky' : Sky B (X.env :: X.outer) a (Zc cls d) X.env.locals s'.heap := by rw [← hs]; exact sky
    exact Sky.land Zc.steady hfr hf sky' fun h3 fl3 up3 => hh D pins σ' H' s' a cls d B sI h3 ⟨hs, hf, J'.ofTry ok, nb, up.trans up3, fl3, na, os, ag⟩ wd
  · cases f with
    | next =>
      obtain ⟨σ', H', J', q⟩ := hsp
      exact wpAny_execs_nil ⟨σ', H', J'.ofTry ok, q⟩
    | ret u =>
      obtain ⟨v, σ', H', J', r, q⟩ := hsp
      exact ⟨v, σ', H', J'.ofTry ok, r, q⟩
    | _ =>
      obtain ⟨σ', H', J', q⟩ := hsp
      exact ⟨σ', H', J'.ofTry ok, q⟩
end
end L2.Jk

set_option Elab.async false
set_option linter.all false
set_option maxRecDepth 100000
set_option maxHeartbeats 4000000
/-! The law: what a store says when it is moved. -/
namespace L2.K77
open PySem PySem.W PySem.Spec PySem.Calls PyProof.Rows L2.Jk
theorem begins_nil (t : Str) : begins "" t = true := by
  show (decide (0 + 0 ≤ t.length) && (t.cps.extract 0 (0 + 0) == #[])) = true
  rw [decide_eq_true (Nat.zero_le _)]
  simp
theorem head_nil {ds : List FD} {js : List Str} : headText ds js [] = "" := by
  show Txt.join "" [] = ""
  rfl
theorem scan_all {ds : List FD} {js : List Str} {ts : List Str} {i : Nat} (h : At ts (headText ds js []) i) : (ts.drop i).takeWhile (begins (headText ds js [])) = ts := by
  rw [head_nil] at h ⊢
  have hi : i = 0 := by
    rcases Nat.eq_zero_or_pos i with k | k
    · exact k
    · obtain ⟨x, hx⟩ : ∃ x, ts[0]? = some x := ⟨_, List.getElem?_eq_getElem (by have := h.1; omega)⟩
      have z := ltS_iff.mp ((h.2 0 x hx).mpr k)
      exact absurd z (List.not_lt_nil _)
  rw [hi, List.drop_zero]
  induction ts with
  | nil => rfl
  | cons t ts ih =>
    rw [List.takeWhile_cons_of_pos (begins_nil t)]
    refine congrArg (t :: ·) ?_
    have all : ∀ l : List Str, l.takeWhile (begins "") = l := fun l => by
      induction l with
      | nil => rfl
      | cons u l ih => rw [List.takeWhile_cons_of_pos (begins_nil u), ih]
    exact all ts
theorem head_due {ds : List FD} : headDue ds (some []) = none := rfl
structure SdEnd (H : Hp) (Q : VK) (ds : List FD) (js : List Str) (es : List (List V × Int)) : Prop where
  row : ∀ (k : Nat) (e : List V × Int) (z : Int), es[k]? = some e → rowDue ds (some e.1) = some z → (∀ e' ∈ es.take k, rowDue ds (some e'.1) = none) → ∀ t H', Same H H' → H' t = some (.tup [.str "row", .int z]) → Q (.ref t) H'
  clash : (∀ e ∈ es, rowDue ds (some e.1) = none) → ∀ (k : Nat) (e e0 : List V × Int), es[k]? = some e → mvL (rowText ds js) (es.take k) (rowText ds js e.1) = some e0 → (∀ (j : Nat) e', j < k → es[j]? = some e' → mvL (rowText ds js) (es.take j) (rowText ds js e'.1) = none) →
    ∀ t r1 r2 H', Same H H' → H' t = some (.tup [.str "clash", .ref r1, .ref r2]) → H' r1 = some (.tup e0.1) → H' r2 = some (.tup e.1) → Q (.ref t) H'
  good : (∀ e ∈ es, rowDue ds (some e.1) = none) → (∀ (k : Nat) e, es[k]? = some e → mvL (rowText ds js) (es.take k) (rowText ds js e.1) = none) →
    ∀ t D us ts H', Same H H' → H' t = some (.tup [.str "told", .ref D]) → H' D = some (.lst us) → TIs ts (mvL (rowText ds js) es) → LsIs H' us ts (mvL (rowText ds js) es) → Q (.ref t) H'
def spSd (K : Frag) : Sp := fun vs H Q _ => ∃ (S L Tx Kd L2 : Addr) (ds : List FD) (js : List Str) (m : Mp) (n : Nat), vs = [.ref S, .ref L2] ∧ StA K H S L Tx Kd m n ∧ n ≤ 900 ∧ LayAt K H L2 ds js ∧
  (∀ t e, m t = some e → (rowDue ds (some e.1) = none → RowT ds e.1) ∧ ∀ J, RowIn J (some e.1)) ∧ ∀ ts es, TIs ts m → Ents m ts es → SdEnd H Q ds js es
structure GSd (P : Program) (w : World) (K : Frag) (mg : Str → Option Value) (base : Heap) : Prop extends S2c P w K mg base where
  mScan : MetAt P w K mg base (L2.CX P w) 6 (SC K) "scan" ["self", "values"] (spScan K)
  mMoved : MetAt P w K mg base (L2.CX P w) 8 (SC K) "moved" ["self", "layout"] (spMoved K)
  exm : exmOne K (.ref (NR K)) (.ref (NR K)) = some true
  exmC : exmOne K (.ref (CLx K)) (.ref (CLx K)) = some true
  exmN : exmOne K (.ref (CLx K)) (.ref (NR K)) = some false
  mgJ : mg "JointError" = some (.ref (He.ga K "JointError"))
theorem place_look {z : V} : ([(("place" : Str), z)] : List (Str × V)).lookup ("place" : Str) = some z := by rw [lookup_put, if_pos rfl]
theorem one_look {u v : V} : ([(("other" : Str), u), (("one" : Str), v)] : List (Str × V)).lookup ("one" : Str) = some v := by
  rw [lookup_put, if_neg (by decide +kernel), lookup_put, if_pos rfl]
theorem other_look {u v : V} : ([(("other" : Str), u), (("one" : Str), v)] : List (Str × V)).lookup ("other" : Str) = some u := by
  rw [lookup_put, if_pos rfl]
section
variable {P : Program} {w : World} {K : Frag} {mg : Str → Option Value} {base : Heap} {f : Addr} {fd : FuncData}

abbrev s_said : Stmt := top 61
theorem sc_said : FnScope ["_law_store", "_law_layout_here", "e"] ["_law_store", "_law_layout_here"] (defScope s_said) := ⟨rfl, rfl, rfl, by decide +kernel, rfl, by decide +kernel, by decide +kernel⟩

theorem ok_said (F : FunD K "_law_said" "_law_said" (defArgs s_said) (defBody s_said) (defScope s_said) [] [] f fd) (G : GSd P w K mg base) : FnOk P w K mg base CX0 9 f fd ["_law_store", "_law_layout_here"] (spSd K) := by
  refine F.ok (CX := CX0) sc_said (fun vs H Q E h => ?_) (fun cdv A outer s H vs Q E hr h => ?_)
  · obtain ⟨_, _, _, _, _, _, _, _, _, rfl, _⟩ := h
    rfl
  · refine ⟨_, PSs.nox (pss_one (ps_try_hnd rfl rfl (fun W pn xe tk _ => pss_one (ps_ret (pe_tupS (pa_cons pe_str (pa_cons (pe_metS G.mScan (hr.mono (by decide)) (pe_metS G.mMoved hr (pv 0) (fun σ => passAt tk σ) (pa_cons (pv 1) pa_nil)) (fun σ => passAt tk σ) (pa_cons (pe_lstS pa_nil) pa_nil)) pa_nil))))) (hnd_as (i := 2) sc_said.nd rfl rfl ⟨rfl, by decide, .inl G.nr.mgC⟩ (fun a_ oe cls d_ pn hz hf => pss_one (ps_ret (pe_tupS (pa_cons pe_str (pa_cons (pe_xf G.nr.ex.ec.xf (G.nr.ex.no _ (by decide +kernel)) hz hf (pv 2)) pa_nil))))) (hnd_as (i := 2) sc_said.nd rfl rfl ⟨rfl, by decide, .inl G.ecl.mgC⟩ (fun a_ oe cls d_ pn hz hf => pss_one (ps_ret (pe_tupS (pa_cons pe_str (pa_cons (pe_xf G.ecl.ex.ec.xf (G.ecl.ex.no _ (by decide +kernel)) hz hf (pv 2)) (pa_cons (pe_xf G.ecl.ex.ec.xf (G.ecl.ex.no _ (by decide +kernel)) hz hf (pv 2)) pa_nil)))))) (hnd_un ⟨rfl, by decide, .inl G.mgJ⟩ (fun a_ oe cls d_ pn hz hf => pss_one (ps_ret (pe_tupS (pa_cons pe_str (pa_cons pe_non pa_nil))))) (hnd_nil takes0)))))), ?_⟩
    obtain ⟨S, L, Tx, Kd, L2, ds, js, m, n, rfl, hS, hn, hLy, hrow, q⟩ := h
    obtain ⟨⟨dx, eS⟩, _, _⟩ := id hS
    refine ⟨_, rfl, S, dx, _, rfl, eS, lStore_m _ (by decide +kernel), _, rfl, S, L, Tx, Kd, L2, ds, js, m, n, rfl, hS, hn, hLy, hrow, fun ts es hTs hes => ?_⟩
    have M := q ts es hTs hes
    refine ⟨fun k e z he hz hb H1 S1 dd J hdd SJ eJ => ?_, fun hall k e e0 he h0 hold r1 r2 H1 S1 g1 g2 dd J hdd SJ eJ => ?_, fun hall hno S2 Tx2 Kd2 H1 S1 hS2 hTx hKd hst => ?_⟩
    · exact ⟨true, G.exm, fun _ a0 ha0 => ⟨_, rfl, rfl, rfl, dd, _, _, rfl, eJ, place_look, by show 2 ≤ 1000; decide, fun t H3 ht S3 e3 => M.row k e z he hz hb t H3 ((S1.trans SJ).trans S3) e3⟩, fun qq => Bool.noConfusion qq⟩
    · exact ⟨false, G.exmN, fun qq => Bool.noConfusion qq, fun _ => ⟨true, G.exmC, fun _ a0 ha0 => ⟨_, rfl, rfl, rfl, dd, _, _, rfl, eJ, one_look, _, rfl, rfl, rfl, dd, _, _, rfl, eJ, other_look, by show 3 ≤ 1000; decide, fun t H3 ht S3 e3 => M.clash hall k e e0 he h0 hold t r1 r2 H3 ((S1.trans SJ).trans S3) e3 (S3 _ _ (SJ _ _ g1)) (S3 _ _ (SJ _ _ g2))⟩, fun qq => Bool.noConfusion qq⟩⟩
    · obtain ⟨⟨dx2, eS2⟩, _, _⟩ := id hst
      refine ⟨S2, dx2, _, rfl, eS2, lStore_m _ (by decide +kernel), by show 0 ≤ 1000; decide, fun p0 J hp0 SJ e0 => ?_⟩
      refine ⟨S2, L2, Tx2, Kd2, ds, js, _, n, .ref p0, some [], rfl, hst.same SJ, by omega, (hLy.same S1).same SJ, .lst e0, ⟨by decide, fun x hx => by cases hx⟩, fun _ xs ex => ⟨fun i d x _ h2 => (by cases ex; cases h2), fun D ts' i' us J2 hTs' hAt SJ2 hD eD hU => ?_⟩, fun z hz => by rw [head_due] at hz; cases hz⟩
      cases ex
      rw [scan_all hAt] at hU
      refine ⟨by show 2 ≤ 1000; decide, fun t J3 ht S3 e3 => M.good hall hno t D us ts' J3 (((S1.trans SJ).trans SJ2).trans S3) e3 (S3 _ _ eD) hTs' (hU.nl (NL.of_same S3))⟩

end
end L2.K77

set_option Elab.async false
set_option linter.all false
set_option maxRecDepth 100000
set_option maxHeartbeats 4000000
/-! The law: another layout. -/
namespace L2.K77
open PySem PySem.W PySem.Spec PySem.Calls PyProof.Rows L2.Jk
theorem SpsAt.app {s : Addr} {H : Hp} {vs ws : List V} {ds es : List FD} (h : SpsAt s H vs ds) (k : SpsAt s H ws es) : SpsAt s H (vs ++ ws) (ds ++ es) := by
  have hl := h.1
  refine ⟨by rw [List.length_append, List.length_append, h.1, k.1], fun i v d a b => ?_⟩
  by_cases hi : i < vs.length
  · rw [List.getElem?_append_left hi] at a
    rw [List.getElem?_append_left (by omega)] at b
    exact h.2 i v d a b
  · rw [List.getElem?_append_right (by omega)] at a
    rw [List.getElem?_append_right (by omega), ← hl] at b
    exact k.2 _ v d a b
theorem SpsAt.drop {s : Addr} {H : Hp} {vs : List V} {ds : List FD} (h : SpsAt s H vs ds) (k : Nat) : SpsAt s H (vs.drop k) (ds.drop k) := by
  refine ⟨by rw [List.length_drop, List.length_drop, h.1], fun i v d a b => ?_⟩
  rw [List.getElem?_drop] at a b
  exact h.2 _ v d a b
theorem sps_one {s : Addr} {H : Hp} {v : V} {d : FD} (h : FIn s H v d) : SpsAt s H [v] [d] := by
  refine ⟨rfl, fun i x y a b => ?_⟩
  have := (List.getElem?_eq_some_iff.mp a).1
  have : i < 1 := this
  have e : i = 0 := by omega
  rw [e] at a b
  cases a
  cases b
  exact h
theorem cut_to {xs : List V} {k : Nat} : cutV xs none (some (k : Int)) = xs.take k := by
  unfold cutV
  rw [HT.sIx_none, HT.sIx_nat, List.drop_zero, Nat.sub_zero]
  rcases Nat.le_total k xs.length with z | z
  · rw [Nat.min_eq_left z]
  · rw [Nat.min_eq_right z, List.take_length, List.take_of_length_le z]
theorem cut_from {xs : List V} {k : Nat} : cutV xs (some (k : Int)) none = xs.drop k := by
  unfold cutV
  rw [HT.sIx_none, HT.sIx_nat]
  rcases Nat.le_total k xs.length with z | z
  · rw [Nat.min_eq_left z, List.take_of_length_le (by rw [List.length_drop]; omega)]
  · rw [Nat.min_eq_right z, List.drop_length, List.drop_of_length_le z, List.take_nil]
theorem cut_m1 {xs : List V} : cutV xs none (some (-1)) = xs.take (xs.length - 1) := by
  unfold cutV
  rw [HT.sIx_none, List.drop_zero, Nat.sub_zero]
  have e : HT.sIx xs.length xs.length (some (-1)) = xs.length - 1 := by
    show (if (-1 : Int) < 0 then ((-1) + (xs.length : Int)).toNat else min (-1 : Int).toNat xs.length) = _
    rw [if_pos (by decide)]
    omega
  rw [e]
theorem dr_mem {ds es : List FD} (h : ∀ d ∈ ds, DrF d) (k : ∀ d ∈ es, DrF d) : ∀ d ∈ ds ++ es, DrF d := fun d hd => (List.mem_append.mp hd).elim (h d) (k d)
def spOt : Sp := fun vs H Q _ => ∃ (a ps pj : Addr) (vsp : List V) (ds : List FD) (js : List Str), vs = [.ref a, .ref ps, .ref pj] ∧ StAt H a ∧ LyAt a H ps pj vsp ds js ∧ ds.length ≤ 3 ∧
  ∀ T ps2 pj2 vsp2 ds2 js2 H', T ≠ a → LyAt a H' ps2 pj2 vsp2 ds2 js2 → ds2.length ≤ 4 → H' T = some (.tup [.ref ps2, .ref pj2]) → But a H H' → StAt H' a → Q (.ref T) H'
structure GOt (P : Program) (w : World) (K : Frag) (mg : Str → Option Value) (base : Heap) : Prop extends GL P w K mg base where
section
variable {P : Program} {w : World} {K : Frag} {mg : Str → Option Value} {base : Heap} {f : Addr} {fd : FuncData}

abbrev s_ot : Stmt := top 62
theorem sc_ot : FnScope ["_law_source_here", "_law_specs", "_law_joints", "_law_way", "_law_at", "_law_joint"] ["_law_source_here", "_law_specs", "_law_joints"] (defScope s_ot) := ⟨rfl, rfl, rfl, by decide +kernel, rfl, by decide +kernel, by decide +kernel⟩

theorem ok_ot (F : FunD K "_law_other" "_law_other" (defArgs s_ot) (defBody s_ot) (defScope s_ot) [] [] f fd) (G : GL P w K mg base) : FnOk P w K mg base CX0 6 f fd ["_law_source_here", "_law_specs", "_law_joints"] spOt := by
  refine F.ok (CX := CX0) sc_ot (fun vs H Q E h => ?_) (fun cdv A outer s H vs Q E hr h => ?_)
  · obtain ⟨_, _, _, _, _, _, rfl, _⟩ := h
    rfl
  · refine ⟨_, PSs.nox (pss_cons (ps_par (i := 3) (j := 4) (by rfl) sc_ot.nd rfl rfl (by decide) rfl rfl (pa_cons (pe_fn G.law_draw (hr.mono (by decide)) pass0 (by rfl) (pa_cons (pv 0) (pa_cons pe_int pa_nil))) (pa_cons (pe_fn G.law_draw (hr.mono (by decide)) pass0 (by rfl) (pa_cons (pv 0) (pa_cons (pe_callB call_len_seq (by rfl) G.len (by decide +kernel) (pa_cons (pv 1) pa_nil)) pa_nil))) pa_nil)) (by rfl))
    (pss_cons (ps_if (pt_cmpR op_eq (pv 3) pe_int (nomark _))
      (pss_one (ps_ret (pe_tupS (pa_cons (pe_op op_catS (pe_op op_catS (pe_slice sl_listS (pv 1) po_none (po_some (pv 4))) (pe_lstS (pa_cons (pe_fn G.law_small (hr.mono (by decide)) pass0 (by rfl) (pa_cons (pv 0) (pa_cons pe_bl pa_nil))) pa_nil))) (pe_slice sl_listS (pv 1) (po_some (pe_op op_add (pv 4) pe_int)) po_none)) (pa_cons (pv 2) pa_nil)))))
      pss_nil)
    (pss_cons (ps_if (pt_cmpR op_eq (pv 3) pe_int (nomark _))
      (pss_one (ps_ret (pe_tupS (pa_cons (pe_op op_catS (pv 1) (pe_lstS (pa_cons (pe_tupS (pa_cons pe_str (pa_cons pe_str (pa_cons pe_int (pa_cons pe_int pa_nil))))) pa_nil))) (pa_cons (pe_op op_catS (pv 2) (pe_lstS (pa_cons pe_str pa_nil))) pa_nil)))))
      pss_nil)
    (C8.pss_cut (ps_if (PW.pt (pw_and (pt_cmpR op_eq (pv 3) pe_int (nomark _)) (pw_and1 (pt_cmpR op_gt (pe_callB call_len_seq (by rfl) G.len (by decide +kernel) (pa_cons (pv 1) pa_nil)) pe_int (nomark _)))))
      (pss_one (ps_ret (pe_tupS (pa_cons (pe_slice sl_listS (pv 1) po_none (po_some (pe_un un_neg pe_int))) (pa_cons (pe_slice sl_listS (pv 2) po_none (po_some (pe_un un_neg pe_int))) pa_nil)))))
      pss_nil)
    (pss_one (ps_ret (pe_tupS (pa_cons (pv 1) (pa_cons (pe_lc (own := [("_law_joint", 5)]) (g := gName 5) (tt := tYes) rfl sc_ot.nd (pi_list (pv 2)) (blkOk_by (N := ["_law_source_here", "_law_specs", "_law_joints", "_law_way", "_law_at", "_law_joint"]) (sc := defScope s_ot) (by decide +kernel)) (fun _ _ _ _ _ => pg_name (i := 5) sc_ot.nd rfl (Or.inl rfl)) (fun _ _ _ _ _ => pts_nil) (fun _ _ _ _ _ => (pe_fn G.law_pick (hr.mono (by decide)) pass0 (by rfl) (pa_cons (pv 0) (pa_cons (pe_lstS (pa_cons pe_str (pa_cons pe_str (pa_cons pe_str (pa_cons pe_str pa_nil))))) pa_nil))))) pa_nil))))))))), ?_⟩
    obtain ⟨a, ps, pj, vsp, ds, js, rfl, st, hY, hl3, q⟩ := h
    have dl : vsp.length = ds.length := hY.sps.1
    have d1 := List.length_pos_iff.mpr hY.ok.some
    have jl := hY.ok.len
    refine ⟨_, rfl, a, 5, rfl, st, by decide, by decide, fun d0 H1 h00 h01 B1 st1 => ?_⟩
    have hY1 := hY.but B1
    refine ⟨_, rfl, _, rfl, ps, _, rfl, .inl (SqL.of hY1.sp), a, (vsp.length : Nat), rfl, st1, by omega, by omega, fun d2 H2 h10 h11 B2 st2 => ⟨_, _, rfl, ?_⟩⟩
    obtain ⟨kk, rfl⟩ : ∃ kk : Nat, d2 = (kk : Int) := ⟨d2.toNat, by omega⟩
    have hY2 := hY1.but B2
    have B02 := B1.trans B2
    refine ⟨_, rfl, rfl, _, rfl, ?_⟩
    refine ite2 (fun c0 => ?_) (fun c0 => ?_)
    · refine ⟨_, rfl, _, rfl, (kk : Int), rfl, ps, vsp, rfl, SqL.of hY2.sp, fun p1 G3 hp1 (S23 : Same H2 G3) w1 => ?_⟩
      have st3 := st2.same S23
      rw [cut_to] at w1
      refine ⟨_, rfl, a, false, rfl, st3, by decide, fun v d G4 hd _ hF B4 st4 => ?_⟩
      refine ⟨by show 1 ≤ 1000; decide, fun p2 G5 hp2 (S45 : Same G4 G5) w2 => ?_⟩
      have n1 : p1 ≠ a := st2.ne hp1
      refine ⟨p1, p2, _, _, rfl, rfl, SqL.of (S45 _ _ (B4 _ _ n1 w1)), SqL.of w2, by rw [List.length_take, sizeLine_eq]; show _ + 1 ≤ 16777216; omega, fun p3 G6 hp3 (S56 : Same G5 G6) w3 => ?_⟩
      have hY4 := (hY2.same S23).but B4
      have S46 := S45.trans S56
      refine ⟨_, rfl, _, rfl, _, _, rfl, rfl, (kk : Int) + 1, rfl, ps, vsp, rfl, SqL.of (S46 _ _ hY4.sp), fun p4 G7 hp4 (S67 : Same G6 G7) w4 => ?_⟩
      rw [show (kk : Int) + 1 = ((kk + 1 : Nat) : Int) by omega, cut_from] at w4
      refine ⟨p3, p4, _, _, rfl, rfl, SqL.of (S67 _ _ w3), SqL.of w4, by rw [List.length_append, List.length_take, List.length_drop, sizeLine_eq]; show _ + 1 + _ ≤ 16777216; omega, fun p5 G8 hp5 (S78 : Same G7 G8) w5 => ?_⟩
      refine ⟨_, rfl, by show 2 ≤ 1000; decide, fun T G9 hT (S89 : Same G8 G9) eT => ?_⟩
      have S48 := (S46.trans S67).trans S78
      have S49 := S48.trans S89
      have st9 := st4.same S49
      have hY9 := hY4.same S49
      have n5 : p5 ≠ a := (st4.same (S46.trans S67)).ne hp5
      have nT : T ≠ a := (st4.same S48).ne hT
      have sps := (((hY9.sps.take kk).app (sps_one (hF.same S49))).app (hY9.sps.drop (kk + 1)))
      have dsl : ((ds.take kk ++ [d]) ++ ds.drop (kk + 1)).length = ds.length := by
        rw [List.length_append, List.length_append, List.length_take, List.length_drop]
        show _ + 1 + _ = _
        omega
      refine q T p5 pj _ _ js G9 nT ⟨n5, hY9.nj, S89 _ _ w5, sps, hY9.jt, dr_mem (dr_mem (fun x hx => hY.dr x (List.mem_of_mem_take hx)) fun x hx => by rw [List.mem_singleton.mp hx]; exact hd) (fun x hx => hY.dr x (List.mem_of_mem_drop hx)), ⟨by rw [dsl]; omega, fun z => by rw [z] at dsl; have dsl : 0 = ds.length := dsl; omega, by rw [dsl]; exact jl, hY.ok.jn⟩⟩ (by rw [dsl]; omega) eT ((B02.trans (But.of_same S23)).trans (B4.trans (But.of_same S49))) st9
    refine ⟨_, rfl, rfl, _, rfl, ?_⟩
    refine ite2 (fun c1 => ?_) (fun c1 => ?_)
    · refine ⟨_, rfl, by show 4 ≤ 1000; decide, fun p1 G3 hp1 (S23 : Same H2 G3) w1 => ?_⟩
      refine ⟨by show 1 ≤ 1000; decide, fun p2 G4 hp2 (S34 : Same G3 G4) w2 => ?_⟩
      refine ⟨ps, p2, _, _, rfl, rfl, SqL.of (S34 _ _ (S23 _ _ hY2.sp)), SqL.of w2, by rw [sizeLine_eq]; show vsp.length + 1 ≤ 16777216; omega, fun p3 G5 hp3 (S45 : Same G4 G5) w3 => ?_⟩
      refine ⟨_, rfl, by show 1 ≤ 1000; decide, fun p4 G6 hp4 (S56 : Same G5 G6) w4 => ?_⟩
      have S26 := ((S23.trans S34).trans S45).trans S56
      refine ⟨pj, p4, _, _, rfl, rfl, SqL.of (S26 _ _ hY2.jt), SqL.of w4, by rw [List.length_map, sizeLine_eq]; show js.length + 1 ≤ 16777216; omega, fun p5 G7 hp5 (S67 : Same G6 G7) w5 => ?_⟩
      refine ⟨by show 2 ≤ 1000; decide, fun T G8 hT (S78 : Same G7 G8) eT => ?_⟩
      have S28 := (S26.trans S67).trans S78
      have st8 := st2.same S28
      have hY8 := hY2.same S28
      have w18 := S78 _ _ (S67 _ _ (S56 _ _ (S45 _ _ (S34 _ _ w1))))
      have n1 : p1 ≠ a := st2.ne hp1
      have n3 : p3 ≠ a := (st2.same (S23.trans S34)).ne hp3
      have n5 : p5 ≠ a := (st2.same S26).ne hp5
      have nT : T ≠ a := (st2.same (S26.trans S67)).ne hT
      have hF : FIn a G8 (.ref p1) (.pl (.word (.str "a") (.int ((0 : Nat) : Int)) (.int ((0 + 1 : Nat) : Int)))) := ⟨p1, rfl, n1, w18⟩
      have hdF : DrF (.pl (.word (.str "a") (.int ((0 : Nat) : Int)) (.int ((0 + 1 : Nat) : Int)))) := .pl (.word (List.mem_cons_self ..) (by decide) (by decide))
      refine q T p3 p5 _ _ (js ++ [("" : Str)]) G8 nT ⟨n3, n5, S78 _ _ (S67 _ _ (S56 _ _ w3)), hY8.sps.app (sps_one hF), by rw [S78 _ _ w5, List.map_append]; rfl, dr_mem hY.dr fun d hd => by rw [List.mem_singleton.mp hd]; exact hdF, ⟨?_, (fun z => by cases (List.append_eq_nil_iff.mp z).2), ?_, fun j hj => ?_⟩⟩ ?_ eT (B02.trans (But.of_same S28)) st8
      · rw [List.length_append]; show ds.length + 1 ≤ 30; omega
      · rw [List.length_append, List.length_append]; show js.length + 1 + 1 = ds.length + 1; omega
      · rcases List.mem_append.mp hj with hj | hj
        · exact hY.ok.jn j hj
        · rw [List.mem_singleton.mp hj]; exact joints_jn _ (List.mem_cons_self ..)
      · rw [List.length_append]; show ds.length + 1 ≤ 4; omega
    refine ⟨fun σ J => (∃ v5, σ = [some (.ref a), some (.ref ps), some (.ref pj), some (.int d0), some (.int ((kk : Nat) : Int)), v5]) ∧ J = H2, ?_, ?_⟩
    · refine ⟨_, rfl, rfl, _, rfl, ?_⟩
      refine ite2 (fun c2 => ?_) (fun c2 => ⟨⟨_, rfl⟩, rfl⟩)
      refine ⟨_, rfl, ps, _, rfl, .inl (SqL.of hY2.sp), _, _, rfl, rfl, _, rfl, ?_⟩
      refine ite2 (fun c3 => ?_) (fun c3 => ⟨⟨_, rfl⟩, rfl⟩)
      have h2 : 1 < vsp.length := by have z := of_decide_eq_true c3; omega
      refine ⟨_, rfl, 1, rfl, -1, rfl, ps, vsp, rfl, SqL.of hY2.sp, fun p1 G3 hp1 (S23 : Same H2 G3) w1 => ?_⟩
      rw [cut_m1] at w1
      refine ⟨_, rfl, 1, rfl, -1, rfl, pj, _, rfl, SqL.of (S23 _ _ hY2.jt), fun p2 G4 hp2 (S34 : Same G3 G4) w2 => ?_⟩
      rw [cut_m1, List.length_map, ← List.map_take] at w2
      refine ⟨by show 2 ≤ 1000; decide, fun T G5 hT (S45 : Same G4 G5) eT => ?_⟩
      have S24 := S23.trans S34
      have S25 := S24.trans S45
      have st5 := st2.same S25
      have hY5 := hY2.same S25
      have sps := hY5.sps.take (vsp.length - 1)
      refine q T p1 p2 _ _ (js.take (js.length - 1)) G5 ((st2.same S24).ne hT) ⟨st2.ne hp1, (st2.same S23).ne hp2, S45 _ _ (S34 _ _ w1), sps, S45 _ _ w2, fun x hx => hY.dr x (List.mem_of_mem_take hx), ⟨by rw [List.length_take]; omega, fun z => ?_, by rw [List.length_take, List.length_take]; omega, fun j hj => hY.ok.jn j (List.mem_of_mem_take hj)⟩⟩ (by rw [List.length_take]; omega) eT (B02.trans (But.of_same S25)) st5
      have z := congrArg List.length z
      rw [List.length_take] at z
      have z : min (vsp.length - 1) ds.length = 0 := z
      omega
    rintro σ J ⟨⟨v5, rfl⟩, rfl⟩
    refine ⟨_, rfl, _, rfl, pj, rfl, ⟨_, SqL.of hY2.jt⟩, fun D hD2 => ?_⟩
    have nD : D ≠ a := st2.ne hD2
    refine lc_list (K := K) (a := pj) (xs := js.map V.str) (fun n J1 => ∃ js2 : List Str, js2.length = n ∧ (∀ j ∈ js2, j ∈ JN) ∧ J1 D = some (.lst (js2.map V.str)) ∧ But a J J1 ∧ StAt J1 a) ⟨[], rfl, (fun j h => by cases h), upd_same, but_put (But.refl _ _) hD2, st2.put nD⟩ (fun i J1 hi ⟨_, _, _, _, B, _⟩ => SqL.of (B _ _ hY2.nj hY2.jt)) ?_ ?_
    · rintro i x J1 hx ⟨js2, hjl, hj, eD, B, stJ⟩
      have hi := (List.getElem?_eq_some_iff.mp hx).1
      rw [List.length_map] at hi
      refine ⟨rfl, _, rfl, by show 4 ≤ 1000; decide, fun p5 H5 hp5 S5 e5 => ⟨a, p5, (["", "", "!", "~"] : List Str).map V.str, rfl, stJ.same S5, stJ.ne hp5, e5, (fun z => by cases z), by decide, fun v G hv BG stG => ?_⟩⟩
      obtain ⟨j, hjm, rfl⟩ := List.mem_map.mp hv
      have eG := BG _ _ nD (S5 _ _ eD)
      refine ⟨_, eG, by rw [List.length_map, sizeLine_eq]; omega, js2 ++ [j], by rw [List.length_append, hjl]; rfl, fun k hk => ?_, by rw [upd_same, List.map_append]; rfl, but_put ((B.trans (But.of_same S5)).trans BG) hD2, stG.put nD⟩
      rcases List.mem_append.mp hk with h | h
      · exact hj k h
      · cases List.mem_singleton.mp h
        exact joints_jn j (List.mem_cons_of_mem _ hjm)
    · rintro J1 ⟨js2, hjl, hj, eD, B, stJ⟩
      rw [List.length_map] at hjl
      refine ⟨by show 2 ≤ 1000; decide, fun T HT hT ST eT => ?_⟩
      have BT := B.trans (But.of_same ST)
      have hY3 := hY2.but BT
      exact q T ps D vsp ds js2 HT (stJ.ne hT) ⟨hY3.ns, nD, hY3.sp, hY3.sps, ST _ _ eD, hY.dr, ⟨hY.ok.few, hY.ok.some, by omega, hj⟩⟩ (by omega) eT (B02.trans BT) (stJ.same ST)

end
end L2.K77

set_option Elab.async false
set_option linter.all false
set_option maxRecDepth 100000
set_option maxHeartbeats 4000000
/-! The law: what is due when a store is moved. -/
namespace L2.K77
open PySem PySem.W PySem.Spec PySem.Calls PyProof.Rows L2.Jk
theorem tis_of {ys : List Str} {kvs : List (Key × V)} {ks : List Str} {m : Mp} {H : Hp} (e : kvs.map (·.1) = ks.map Sum.inr) (k : DIs H kvs m) (p : ys.Perm ks) (s : sortedS ys = true) : TIs ys m := by
  obtain ⟨⟨ks', e', n, i⟩, _⟩ := k
  have ek : ks = ks' := by
    have z : ks.map (Sum.inr : Str → Key) = ks'.map Sum.inr := e.symm.trans e'
    exact (List.map_inj_right fun a b q => by injection q).mp z
  subst ek
  have ny : ys.Nodup := p.nodup_iff.mpr n
  refine ⟨List.Pairwise.imp (fun {a b} h => ltS_iff.mpr ?_) ((sorted_pw s).and ny), fun t => p.mem_iff.trans (i t)⟩
  exact Decidable.byContradiction fun q => h.2 (str_ext (List.le_antisymm h.1 q))
def misV : Option Int → V
  | none => .non
  | some z => .int z
def spMis (K : Frag) : Sp := fun vs H Q _ => ∃ (s0 ps r : Addr) (vsp : List V) (ds : List FD) (xs : List V), vs = [.ref ps, .ref r] ∧ H ps = some (.lst vsp) ∧ SpsAt s0 H vsp ds ∧ (∀ d ∈ ds, DrF d) ∧ SqT K H r xs ∧ (∀ x ∈ xs, Some x) ∧ xs.length ≤ 10 ∧ ds.length ≤ 10 ∧
  ∀ H', Same H H' → Q (misV (rowDue ds (some xs))) H'
structure GDu (P : Program) (w : World) (K : Frag) (mg : Str → Option Value) (base : Heap) : Prop extends GL P w K mg base where
  law_misfit : FnAt P w K mg base CX0 5 "_law_misfit" ["_law_specs", "_law_row"] (spMis K)
  law_text : FnAt P w K mg base CX0 3 "_law_text" ["_law_specs", "_law_joints", "_law_row"] (spText K)
def spDue (K : Frag) : Sp := fun vs H Q _ => ∃ (s0 ps pj kp : Addr) (vsp us : List V) (ds : List FD) (js : List Str) (es : List (List V × Int)), vs = [.ref ps, .ref pj, .ref kp] ∧ H ps = some (.lst vsp) ∧ SpsAt s0 H vsp ds ∧ H pj = some (.lst (js.map V.str)) ∧ LyOk ds js ∧ (∀ d ∈ ds, DrF d) ∧ ds.length ≤ 10 ∧
  H kp = some (.lst us) ∧ us.length = es.length ∧ us.length ≤ 60 ∧ (∀ (k : Nat) v, us[k]? = some v → ∃ e, es[k]? = some e ∧ Ent H v e ∧ (∀ x ∈ e.1, Some x) ∧ e.1.length ≤ 10) ∧ SdEnd H Q ds js es
section
variable {P : Program} {w : World} {K : Frag} {mg : Str → Option Value} {base : Heap} {f : Addr} {fd : FuncData}

abbrev s_due : Stmt := top 60
theorem sc_due : FnScope ["_law_specs", "_law_joints", "_law_kept", "_law_found", "_law_row", "_law_number", "_law_text_here"] ["_law_specs", "_law_joints", "_law_kept"] (defScope s_due) := ⟨rfl, rfl, rfl, by decide +kernel, rfl, by decide +kernel, by decide +kernel⟩

theorem ok_due (F : FunD K "_law_due" "_law_due" (defArgs s_due) (defBody s_due) (defScope s_due) [] [] f fd) (G : GDu P w K mg base) : FnOk P w K mg base CX0 6 f fd ["_law_specs", "_law_joints", "_law_kept"] (spDue K) := by
  refine F.ok (CX := CX0) sc_due (fun vs H Q E h => ?_) (fun cdv A outer s H vs Q E hr h => ?_)
  · obtain ⟨_, _, _, _, _, _, _, _, _, rfl, _⟩ := h
    rfl
  · refine ⟨_, PSs.nox (pss_cons (ps_set (i := 3) sc_due.nd rfl (Or.inr rfl) pe_dnewK)
    (C8.pss_cut (ps_for PassesOwn.never rfl (pi_list (pv 2)) (pg_tup rfl (pgs_cons (pg_name (i := 4) sc_due.nd rfl (Or.inl rfl)) (pgs_cons (pg_name (i := 5) sc_due.nd rfl (Or.inl rfl)) pgs_nil)))
      (pss_one (ps_if (pt_cmpR op_notN (pe_fn G.law_misfit (hr.mono (by decide)) pass0 (by rfl) (pa_cons (pv 0) (pa_cons (pv 4) pa_nil))) pe_non (nomark _))
        (pss_one (ps_ret (pe_tupS (pa_cons pe_str (pa_cons (pe_fn G.law_misfit (hr.mono (by decide)) pass0 (by rfl) (pa_cons (pv 0) (pa_cons (pv 4) pa_nil))) pa_nil)))))
        pss_nil)))
    (C8.pss_cut (ps_for PassesOwn.never rfl (pi_list (pv 2)) (pg_tup rfl (pgs_cons (pg_name (i := 4) sc_due.nd rfl (Or.inl rfl)) (pgs_cons (pg_name (i := 5) sc_due.nd rfl (Or.inl rfl)) pgs_nil)))
      (pss_cons (ps_set (i := 6) sc_due.nd rfl (Or.inl rfl) (pe_fn G.law_text (hr.mono (by decide)) pass0 (by rfl) (pa_cons (pv 0) (pa_cons (pv 1) (pa_cons (pv 4) pa_nil)))))
      (pss_cons (ps_if (pt_cmp (pc_din (hu_of hr) (pv 6) (pv 3)))
        (pss_one (ps_ret (pe_tupS (pa_cons pe_str (pa_cons (pe_ix ix_tup (pe_dget (hu_of hr) (pv 3) (pv 6) (fun _ _ => rfl)) pe_int (fun _ _ => rfl)) (pa_cons (pv 4) pa_nil))))))
        pss_nil)
      (pss_one (ps_dput (hu_of hr) (pv 3) (pv 6) (pe_tupS (pa_cons (pv 4) (pa_cons (pv 5) pa_nil))) rfl)))))
    (pss_one (ps_ret (pe_tupS (pa_cons pe_str (pa_cons (pe_lc (own := [("_law_text_here", 6)]) (g := gName 6) (tt := tYes) rfl sc_due.nd (pi_list (pe_callB (call_sortedD rfl) (by rfl) G.sorted (by decide +kernel) (pa_cons (pv 3) pa_nil))) (blkOk_by (N := ["_law_specs", "_law_joints", "_law_kept", "_law_found", "_law_row", "_law_number", "_law_text_here"]) (sc := defScope s_due) (by decide +kernel)) (fun _ _ _ _ _ => pg_name (i := 6) sc_due.nd rfl (Or.inl rfl)) (fun _ _ _ _ _ => pts_nil) (fun _ _ _ _ _ => (pe_dget (hu_of hr) (pv 3) (pv 6) (fun _ _ => rfl)))) pa_nil)))))))), ?_⟩
    obtain ⟨s0, ps, pj, kp, vsp, us, ds, js, es, rfl, hps, hS, hpj, hok, hD, hd10, hkp, hul, h60, hent, M⟩ := h
    refine fun R hR => ?_
    have SR : Same H (upd H R (.dK [])) := same_upd hR
    have eR : upd H R (.dK []) R = some (.dK []) := upd_same
    generalize upd H R (.dK []) = H1 at SR eR ⊢
    have item : ∀ {k : Nat} {x : V} {J : Hp}, Same H J → us[k]? = some x → ∃ e r rr, es[k]? = some e ∧ x = .ref r ∧ J r = some (.tup [.ref rr, .int e.2]) ∧ J rr = some (.tup e.1) ∧ (∀ y ∈ e.1, Some y) ∧ e.1.length ≤ 10 := fun {k} {x} {J} S1 hx => by
      obtain ⟨e, he, ⟨r, rr, rfl, h1, h2⟩, h3, h4⟩ := hent k x hx
      exact ⟨e, r, rr, he, rfl, S1 _ _ h1, S1 _ _ h2, h3, h4⟩
    refine ⟨fun σ J => ∃ v4 v5 v6, σ = [some (.ref ps), some (.ref pj), some (.ref kp), some (.ref R), v4, v5, v6] ∧ Same H1 J ∧ ∀ e ∈ es, rowDue ds (some e.1) = none, ?_, ?_⟩
    · refine ⟨_, rfl, kp, rfl, ⟨_, SqL.of (SR _ _ hkp)⟩, for_list (K := K) (a := kp) (xs := us) (fun k σ J => ∃ v4 v5 v6, σ = [some (.ref ps), some (.ref pj), some (.ref kp), some (.ref R), v4, v5, v6] ∧ Same H1 J ∧ ∀ e ∈ es.take k, rowDue ds (some e.1) = none) ⟨_, _, _, rfl, Same.refl _, fun e h => by cases h⟩ (fun k σ J _ ⟨_, _, _, _, S, _⟩ => SqL.of (S _ _ (SR _ _ hkp))) ?_ ?_⟩
      · rintro k x σ J hx ⟨v4, v5, v6, rfl, SJ, hgd⟩
        have S0J := SR.trans SJ
        obtain ⟨e, r, rr, he, rfl, h1, h2, h3, h4⟩ := item S0J hx
        refine ⟨r, _, rfl, SqT.of h1, rfl, _, _, rfl, _, _, rfl, rfl, ?_⟩
        refine ⟨_, rfl, _, rfl, s0, ps, rr, vsp, ds, e.1, rfl, S0J _ _ hps, hS.same S0J, hD, SqT.of h2, h3, h4, hd10, fun J1 S1 => ?_⟩
        have S01 := S0J.trans S1
        cases hdu : rowDue ds (some e.1) with
        | none =>
          refine ⟨rfl, _, rfl, ?_⟩
          rw [show (!decide (misV none = V.non)) = false by rw [show misV none = V.non from rfl, decide_eq_true rfl]; rfl]
          refine iteF ⟨_, _, _, rfl, SJ.trans S1, fun e' h' => ?_⟩
          rw [take_snoc he] at h'
          rcases List.mem_append.mp h' with h' | h'
          · exact hgd e' h'
          · rw [List.mem_singleton.mp h']
            exact hdu
        | some z =>
          refine ⟨rfl, _, rfl, ?_⟩
          rw [show (!decide (misV (some z) = V.non)) = true by rw [decide_eq_false (fun z => by cases z)]; rfl]
          refine iteT ?_
          refine ⟨_, rfl, _, rfl, s0, ps, rr, vsp, ds, e.1, rfl, S01 _ _ hps, hS.same S01, hD, SqT.of (S1 _ _ h2), h3, h4, hd10, fun J2 S2 => ?_⟩
          rw [hdu]
          refine ⟨by show 2 ≤ 1000; decide, fun t J3 ht S3 e3 => M.row k e z he hdu hgd t J3 ((S01.trans S2).trans S3) e3⟩
      · rintro σ J ⟨v4, v5, v6, rfl, SJ, hgd⟩
        rw [hul, List.take_length] at hgd
        exact ⟨_, _, _, rfl, SJ, hgd⟩
    rintro σ J ⟨v4, v5, v6, rfl, SJ, hall⟩
    have S0J := SR.trans SJ
    refine ⟨fun σ J => ∃ v4 v5 v6 kvs, σ = [some (.ref ps), some (.ref pj), some (.ref kp), some (.ref R), v4, v5, v6] ∧ Same H J ∧ J R = some (.dK kvs) ∧ kvs.length ≤ 60 ∧ DIs J kvs (mvL (rowText ds js) es) ∧ (∀ (j : Nat) e', es[j]? = some e' → mvL (rowText ds js) (es.take j) (rowText ds js e'.1) = none), ?_, ?_⟩
    · refine ⟨_, rfl, kp, rfl, ⟨_, SqL.of (S0J _ _ hkp)⟩, for_list (K := K) (a := kp) (xs := us) (fun k σ J => ∃ v4 v5 v6 kvs, σ = [some (.ref ps), some (.ref pj), some (.ref kp), some (.ref R), v4, v5, v6] ∧ Same H J ∧ J R = some (.dK kvs) ∧ kvs.length ≤ k ∧ DIs J kvs (mvL (rowText ds js) (es.take k)) ∧ ∀ (j : Nat) e', j < k → es[j]? = some e' → mvL (rowText ds js) (es.take j) (rowText ds js e'.1) = none)
        ⟨_, _, _, [], rfl, S0J, SJ _ _ eR, Nat.zero_le _, dIs_nil _, fun j e' z => absurd z (Nat.not_lt_zero _)⟩ (fun k σ J _ ⟨_, _, _, _, _, S, _⟩ => SqL.of (S _ _ hkp)) ?_ ?_⟩
      · rintro k x σ J1 hx ⟨w4, w5, w6, kvs, rfl, S1, eR1, hkl, hK, hold⟩
        have hk := (List.getElem?_eq_some_iff.mp hx).1
        obtain ⟨e, r, rr, he, rfl, h1, h2, h3, h4⟩ := item S1 hx
        have hRv := fit_rwv hD h3 (hall e (List.mem_of_getElem? he))
        refine ⟨r, _, rfl, SqT.of h1, rfl, _, _, rfl, _, _, rfl, rfl, ?_⟩
        refine ⟨_, rfl, _, rfl, _, rfl, s0, ps, pj, rr, vsp, e.1, ds, js, rfl, S1 _ _ hps, hS.same S1, S1 _ _ hpj, hok, hD, SqT.of h2, hRv, fun J2 S12 => ?_⟩
        have S2 := S1.trans S12
        have eR2 := S12 _ _ eR1
        have hK2 := hK.nl (NL.of_same S12)
        cases hno : mvL (rowText ds js) (es.take k) (rowText ds js e.1) with
        | some e0 =>
          obtain ⟨v0, hv0, q0, rr0, rfl, g1, g2⟩ := hK2.2 _ e0 hno
          have DG : DGet J2 R (.str (rowText ds js e.1)) (some (.ref q0)) := by
            have z := DGet.k (k := Sum.inr (rowText ds js e.1)) eR2
            rw [hv0] at z
            exact z
          refine ⟨_, rfl, _, rfl, R, _, rfl, DG, _, rfl, iteT ?_⟩
          exact ⟨_, rfl, _, rfl, R, _, rfl, DG, q0, _, _, _, rfl, rfl, SqT.of g1, atI_nat (j := 0) rfl, _, rfl, by show 3 ≤ 1000; decide, fun t J3 ht S3 e3 => M.clash hall k e e0 he hno hold t rr0 rr J3 (S2.trans S3) e3 (S3 _ _ g2) (S3 _ _ (S12 _ _ h2))⟩
        | none =>
          have DG : DGet J2 R (.str (rowText ds js e.1)) none := by
            have z := DGet.k (k := Sum.inr (rowText ds js e.1)) eR2
            rw [hK2.none hno] at z
            exact z
          refine ⟨_, rfl, _, rfl, R, _, rfl, DG, _, rfl, iteF ?_⟩
          refine ⟨_, rfl, _, rfl, by show 2 ≤ 1000; decide, fun pe J3 hpe S3 e3 => ?_⟩
          have eR3 := S3 _ _ eR2
          refine ⟨_, rfl, _, rfl, R, _, rfl, DPut.k (k := .inr (rowText ds js e.1)) eR3 (by rw [sizeLine_eq]; omega), ?_⟩
          have hE : Ent J3 (.ref pe) e := ⟨pe, rr, rfl, e3, S3 _ _ (S12 _ _ h2)⟩
          have N6 : NL J3 (upd J3 R (.dK (putK kvs (.inr (rowText ds js e.1)) (.ref pe)))) := fun b o n1 n2 z => by
            rw [upd_ne (fun w => n2 kvs (by rw [w, eR3] at z; exact (Option.some.inj z).symm))]
            exact z
          refine ⟨_, _, _, _, rfl, same_put (S2.trans S3) hR, upd_same, ?_, ?_, fun j e' hj he' => ?_⟩
          · have := length_putK kvs (Sum.inr (rowText ds js e.1) : Key) (.ref pe)
            omega
          · rw [take_snoc he, mvL_snoc]
            exact ((hK2.nl (NL.of_same S3)).put hE).nl N6
          · by_cases hjk : j < k
            · exact hold j e' hjk he'
            · have ej : j = k := by omega
              rw [ej] at he' ⊢
              rw [he] at he'
              cases he'
              exact hno
      · rintro σ J1 ⟨w4, w5, w6, kvs, rfl, S1, eR1, hkl, hK, hold⟩
        rw [hul, List.take_length] at hK
        exact ⟨_, _, _, kvs, rfl, S1, eR1, by omega, hK, fun j e' he' => hold j e' (by rw [hul]; exact (List.getElem?_eq_some_iff.mp he').1) he'⟩
    rintro σ J1 ⟨w4, w5, w6, kvs, rfl, S1, eR1, hk60, hK, hno⟩
    obtain ⟨⟨ks, ek, nk, ik⟩, hv⟩ := id hK
    have hkl2 := congrArg List.length ek
    rw [List.length_map, List.length_map] at hkl2
    refine ⟨_, rfl, R, kvs, ks, rfl, .inl eR1, ek, by omega, fun ys p perm srt hp => ?_⟩
    have hTs := tis_of ek hK perm srt
    have yl : ys.length ≤ 60 := by have := perm.length_eq; omega
    have Sp : Same J1 (upd J1 p (.lst (ys.map V.str))) := same_upd hp
    have e1 : upd J1 p (.lst (ys.map V.str)) p = some (.lst (ys.map V.str)) := upd_same
    generalize upd J1 p (.lst (ys.map V.str)) = J2 at Sp e1 ⊢
    refine ⟨p, rfl, ⟨_, SqL.of e1⟩, fun D hDn => ?_⟩
    refine lc_list (K := K) (a := p) (xs := ys.map V.str) (fun k J => ∃ vs : List V, Same J2 J ∧ J D = some (.lst vs) ∧ LsIs J vs (ys.take k) (mvL (rowText ds js) es)) ⟨[], same_upd hDn, upd_same, ⟨rfl, fun i v t h => by cases h⟩⟩ (fun k J hk ⟨_, SJ, _⟩ => SqL.of (SJ _ _ e1)) ?_ ?_
    · rintro k x J3 hx ⟨vs, S23, eJ, hU⟩
      obtain ⟨t, ht, rfl⟩ : ∃ t, ys[k]? = some t ∧ V.str t = x := by
        rw [List.getElem?_map] at hx
        cases e : ys[k]? with
        | none => rw [e] at hx; cases hx
        | some t => rw [e] at hx; exact ⟨t, rfl, Option.some.inj hx⟩
      have T1 := Sp.trans S23
      obtain ⟨e, he⟩ := Option.isSome_iff_exists.mp ((hTs.2 t).mp (List.mem_of_getElem? ht))
      obtain ⟨r, hr1, hE⟩ := hv t e he
      have DGt : DGet J3 R (.str t) (some r) := by
        have z := DGet.k (k := Sum.inr t) (T1 _ _ eR1)
        rw [hr1] at z
        exact z
      have hvl : vs.length ≤ k := by rw [hU.1, List.length_take]; exact Nat.min_le_left _ _
      have hkl3 := (List.getElem?_eq_some_iff.mp ht).1
      refine ⟨rfl, _, rfl, _, rfl, R, r, rfl, DGt, vs, eJ, by rw [sizeLine_eq]; omega, vs ++ [r], same_put S23 hDn, upd_same, ?_⟩
      rw [take_snoc ht]
      exact (hU.snoc he (hE.mono fun _ _ q => T1 _ _ q)).nl (nl_lst eJ)
    · rintro J3 ⟨vs, S23, eJ, hU⟩
      rw [List.length_map, List.take_length] at hU
      refine ⟨by show 2 ≤ 1000; decide, fun t J4 ht S34 e4 => M.good hall hno t D vs ys J4 (((S1.trans Sp).trans S23).trans S34) e4 (S34 _ _ eJ) hTs (hU.nl (NL.of_same S34))⟩

end
end L2.K77

set_option Elab.async false
set_option linter.all false
set_option maxRecDepth 100000
set_option maxHeartbeats 4000000
/-! zip of two sequences, each a list or a tuple. -/
namespace L2.Jk.Z2
open PySem
open PySem.Sem (wp)
open L2.Jk.Z3 (Sq)
abbrev IsTw (h : Heap) (T : Addr) (a b : Value) : Prop := h.get? T = some { cls := .type "tuple", data := .seq #[a, b] }
structure Ap (z TI TO i1 i2 l1 l2 : Addr) : Prop where
  ti : TI ≠ z ∧ TI ≠ TO ∧ TI ≠ i1 ∧ TI ≠ i2
  to : TO ≠ z ∧ TO ≠ i1 ∧ TO ≠ i2
  iz : i1 ≠ z ∧ i2 ≠ z
  ii : i1 ≠ i2
  a1 : l1 ≠ z ∧ l1 ≠ TO ∧ l1 ≠ i1 ∧ l1 ≠ i2
  a2 : l2 ≠ z ∧ l2 ≠ TO ∧ l2 ≠ i1 ∧ l2 ≠ i2
section
variable {prog : Program} {w : World} {A : Around} {E : Value → Shared → Prop} {s : Shared}
theorem updateSeq_tw {T : Addr} {a b x : Value} {k : Nat} {Q : Unit → Shared → Prop} (hT : IsTw s.heap T a b)
    (h : ∀ h', h'.get? T = some { cls := .type "tuple", data := .seq ((#[a, b] : Array Value).setIfInBounds k x) } → Heap.SameBut T s.heap h' → Q () { s with heap := h' }) :
    wpAny (model prog w) A (updateSeq T (·.setIfInBounds k x)) Q E s := by
  refine wpAny_updateSeq hT rfl (h _ ?_ (Heap.SameBut.update ..))
  rw [Heap.get?_update_self _ hT rfl]
  simp [Obj.mapSeq]
variable {z TI TO i1 i2 l1 l2 : Addr} {k : Nat} {b1 b2 : Bool} {xs ys : Array Value} {a b : Value}
def Kp (z TO i1 i2 : Addr) (h h' : Heap) : Prop := ∀ c o, c ≠ z → c ≠ TO → c ≠ i1 → c ≠ i2 → h.get? c = some o → h'.get? c = some o
theorem zip_item {x y : Value} {Q : Value → Shared → Prop} (D : Ap z TI TO i1 i2 l1 l2)
    (hz : IsZip s.heap z TI TO .none) (hTI : IsTw s.heap TI (.ref i1) (.ref i2)) (hTO : IsTw s.heap TO a b)
    (h1 : Z3.It b1 s.heap i1 l1 k) (h2 : Z3.It b2 s.heap i2 l2 k) (q1 : Sq b1 s.heap l1 xs) (q2 : Sq b2 s.heap l2 ys)
    (hx : xs[k]? = some x) (hy : ys[k]? = some y)
    (hQ : ∀ h', IsZip h' z TI TO (rawInt s.heap.objs.size) → IsTw h' TO x y → Z3.It b1 h' i1 l1 (k + 1) → Z3.It b2 h' i2 l2 (k + 1) → IsTw h' s.heap.objs.size x y → h'.objs.size = s.heap.objs.size + 1 →
      Kp z TO i1 i2 s.heap h' → Q (.ref s.heap.objs.size) { s with heap := h' }) :
    wpAny (model prog w) A (Builtin.«zip.__next__» ⟨[.ref z], []⟩) (fun fin s' => ∃ v, fin = .done (.ret v) ∧ Q v s') E s := by
  obtain ⟨⟨ti1, ti2, ti3, ti4⟩, ⟨to1, to2, to3⟩, ⟨iz1, iz2⟩, ii1, ⟨x1, x2, x3, x4⟩, ⟨y1, y2, y3, y4⟩⟩ := D
  show wpAny _ _ (field (.ref z) 2 >>= _) _ _ _
  refine wpAny_bind (wpAny_field hz rfl (x := .bool false) rfl ?_)
  show wpAny _ _ (field (.ref z) 3 >>= _) _ _ _
  refine wpAny_bind (wpAny_field hz rfl (x := .ref TI) rfl ?_)
  refine wpAny_bind (wpAny_seqItems hTI rfl ?_)
  show wpAny _ _ (Builtin.SmallTypes.ownedTupleIsFree (.ref z) >>= _) _ _ _
  refine wpAny_bind ?_
  unfold Builtin.SmallTypes.ownedTupleIsFree
  refine wpAny_bind (wpAny_field hz rfl (x := .none) rfl (wpAny_pure ?_))
  simp only [if_true]
  refine wpAny_bind (wpAny_rule ?_)
  refine wpAny_bind (wpAny_field hz rfl (x := .ref TO) rfl ?_)
  refine wpAny_bind (wpAny_setField_rec hz (by simp) fun h₁ hz₁ hs₁ => ?_)
  replace hz₁ : IsZip h₁ z TI TO .ellipsis := hz₁
  refine wpAny_bind ?_
  simp only [List.zipIdx_cons, List.zipIdx_nil, List.forIn_cons, List.forIn_nil]
  have e1 := hs₁.extBut
  have hTO₁ : IsTw h₁ TO a b := e1 _ _ to1 hTO
  refine wpAny_bind (wpAny_bind (wpAny_onRaise ?_))
  show wpAny _ _ (Builtin.SmallTypes.nextOf (.ref i1) >>= _) _ _ _
  refine wpAny_bind (Z3.next_item (h1.ext e1 iz1) (q1.ext e1 x1) hx fun h₂ n1 hs₂ => wpAny_pure ?_)
  have e2 := hs₂.extBut
  have hTO₂ : IsTw h₂ TO a b := e2 _ _ to2 hTO₁
  refine wpAny_bind (wpAny_seqItems hTO₂ rfl ?_)
  refine wpAny_bind (updateSeq_tw hTO₂ fun h₃ hTO₃ hs₃ => ?_)
  have e3 := hs₃.extBut
  replace hTO₃ : IsTw h₃ TO x b := hTO₃
  refine wpAny_bind (wpAny_letGo (wpAny_pure ?_))
  refine wpAny_bind (wpAny_bind (wpAny_onRaise ?_))
  show wpAny _ _ (Builtin.SmallTypes.nextOf (.ref i2) >>= _) _ _ _
  refine wpAny_bind (Z3.next_item (((h2.ext e1 iz2).ext e2 ii1.symm).ext e3 to3.symm) (((q2.ext e1 y1).ext e2 y3).ext e3 y2) hy fun h₄ n2 hs₄ => wpAny_pure ?_)
  have e4 := hs₄.extBut
  have hTO₄ : IsTw h₄ TO x b := e4 _ _ to3 hTO₃
  refine wpAny_bind (wpAny_seqItems hTO₄ rfl ?_)
  refine wpAny_bind (updateSeq_tw hTO₄ fun h₇ hTO₇ hs₇ => ?_)
  have e7 := hs₇.extBut
  replace hTO₇ : IsTw h₇ TO x y := hTO₇
  refine wpAny_bind (wpAny_letGo (wpAny_pure (wpAny_pure ?_)))
  refine wpAny_bind (wpAny_seqItems hTO₇ rfl ?_)
  refine wpAny_bind (wpAny_newTuple ?_)
  have hsz : h₇.objs.size = s.heap.objs.size := by rw [hs₇.1, hs₄.1, hs₃.1, hs₂.1, hs₁.1]
  have hz₇ : IsZip h₇ z TI TO .ellipsis := e7 _ _ to1.symm (e4 _ _ iz2.symm (e3 _ _ to1.symm (e2 _ _ iz1.symm hz₁)))
  have hk₇ : Kp z TO i1 i2 s.heap h₇ := fun c o c1 c2 c3 c4 e =>
    e7 _ _ c2 (e4 _ _ c4 (e3 _ _ c2 (e2 _ _ c3 (e1 _ _ c1 e))))
  have m1 : Z3.It b1 h₇ i1 l1 (k + 1) := ((n1.ext e3 to2.symm).ext e4 ii1).ext e7 to2.symm
  have m2 : Z3.It b2 h₇ i2 l2 (k + 1) := n2.ext e7 to3.symm
  have hzlt : z < h₇.objs.size := Heap.lt_size hz₇
  show wpAny _ _ (Builtin.SmallTypes.ownedTupleHandOut (.ref z) (.ref h₇.objs.size) >>= _) _ _ _
  refine wpAny_bind ?_
  unfold Builtin.SmallTypes.ownedTupleHandOut
  have hz₈ : IsZip (h₇.push { cls := .type "tuple", data := .seq #[x, y] }) z TI TO .ellipsis := Heap.get?_push_of_some _ hz₇
  refine wpAny_bind (wpAny_setField_rec hz₈ (by simp) fun h₉ hz₉ hs₉ => ?_)
  replace hz₉ : IsZip h₉ z TI TO (rawInt h₇.objs.size) := hz₉
  refine wpAny_setField_rec hz₉ (by simp) fun ha hza hsa => ?_
  replace hza : IsZip ha z TI TO (rawInt h₇.objs.size) := hza
  have up : ∀ c o, c ≠ z → h₇.get? c = some o → ha.get? c = some o := fun c o c1 e => hsa.extBut _ _ c1 (hs₉.extBut _ _ c1 (Heap.get?_push_of_some _ e))
  have hTa : IsTw ha h₇.objs.size x y := hsa.extBut _ _ (Nat.ne_of_gt hzlt) (hs₉.extBut _ _ (Nat.ne_of_gt hzlt) (Heap.get?_push_size _ rfl))
  have hza8 : ha.objs.size = h₇.objs.size + 1 := by rw [hsa.1, hs₉.1, Heap.size_push]
  rw [hsz] at hza hTa hza8
  refine wpAny_pure ⟨_, rfl, ?_⟩
  show Q (.ref h₇.objs.size) _
  rw [hsz]
  exact hQ ha hza (up _ _ to1 hTO₇) (m1.at fun o e => up _ o iz1 e) (m2.at fun o e => up _ o iz2 e) hTa hza8 fun c o c1 c2 c3 c4 e => up c o c1 (hk₇ c o c1 c2 c3 c4 e)
theorem zip_end {Q : Fin → Shared → Prop} (hh : A.handled = none) (D : Ap z TI TO i1 i2 l1 l2)
    (hz : IsZip s.heap z TI TO .none) (hTI : IsTw s.heap TI (.ref i1) (.ref i2)) (hTO : IsTw s.heap TO a b)
    (h1 : Z3.It b1 s.heap i1 l1 k) (h2 : Z3.It b2 s.heap i2 l2 k) (q1 : Sq b1 s.heap l1 xs) (q2 : Sq b2 s.heap l2 ys)
    (hend : xs[k]? = none ∨ ys[k]? = none)
    (hE : ∀ h' e, Kp z TO i1 i2 s.heap h' → (∃ o, h'.get? e = some o ∧ o.cls = .type "StopIteration") → E (.ref e) { s with heap := h' }) :
    wpAny (model prog w) A (Builtin.«zip.__next__» ⟨[.ref z], []⟩) Q E s := by
  obtain ⟨⟨ti1, ti2, ti3, ti4⟩, ⟨to1, to2, to3⟩, ⟨iz1, iz2⟩, ii1, ⟨x1, x2, x3, x4⟩, ⟨y1, y2, y3, y4⟩⟩ := D
  show wpAny _ _ (field (.ref z) 2 >>= _) _ _ _
  refine wpAny_bind (wpAny_field hz rfl (x := .bool false) rfl ?_)
  show wpAny _ _ (field (.ref z) 3 >>= _) _ _ _
  refine wpAny_bind (wpAny_field hz rfl (x := .ref TI) rfl ?_)
  refine wpAny_bind (wpAny_seqItems hTI rfl ?_)
  show wpAny _ _ (Builtin.SmallTypes.ownedTupleIsFree (.ref z) >>= _) _ _ _
  refine wpAny_bind ?_
  unfold Builtin.SmallTypes.ownedTupleIsFree
  refine wpAny_bind (wpAny_field hz rfl (x := .none) rfl (wpAny_pure ?_))
  simp only [if_true]
  refine wpAny_bind (wpAny_rule ?_)
  refine wpAny_bind (wpAny_field hz rfl (x := .ref TO) rfl ?_)
  refine wpAny_bind (wpAny_setField_rec hz (by simp) fun h₁ hz₁ hs₁ => ?_)
  replace hz₁ : IsZip h₁ z TI TO .ellipsis := hz₁
  refine wpAny_bind ?_
  simp only [List.zipIdx_cons, List.zipIdx_nil, List.forIn_cons, List.forIn_nil]
  have e1 := hs₁.extBut
  have hTO₁ : IsTw h₁ TO a b := e1 _ _ to1 hTO
  refine wpAny_bind (wpAny_bind (wpAny_onRaise ?_))
  show wpAny _ _ (Builtin.SmallTypes.nextOf (.ref i1) >>= _) _ _ _
  cases hx : xs[k]? with
  | none =>
    refine wpAny_bind (Z3.next_end hh (h1.ext e1 iz1) (q1.ext e1 x1) hx fun h₂ e e2 he => ?_)
    obtain ⟨oe, hoe, hce⟩ := he
    have hz₂ : IsZip h₂ z TI TO .ellipsis := e2 _ _ iz1.symm hz₁
    have hez : e ≠ z := fun x => by subst x; rw [hz₂] at hoe; cases hoe; simp at hce
    refine wpAny_setField_rec hz₂ (by simp) fun h₃ _ hs₃ => hE h₃ e (fun c o c1 _ c3 _ x => hs₃.extBut _ _ c1 (e2 _ _ c3 (e1 _ _ c1 x))) ⟨oe, hs₃.extBut _ _ hez hoe, hce⟩
  | some x =>
    have hy : ys[k]? = none := by
      rcases hend with h | h
      · rw [hx] at h; cases h
      · exact h
    refine wpAny_bind (Z3.next_item (h1.ext e1 iz1) (q1.ext e1 x1) hx fun h₂ n1 hs₂ => wpAny_pure ?_)
    have e2 := hs₂.extBut
    have hTO₂ : IsTw h₂ TO a b := e2 _ _ to2 hTO₁
    refine wpAny_bind (wpAny_seqItems hTO₂ rfl ?_)
    refine wpAny_bind (updateSeq_tw hTO₂ fun h₃ hTO₃ hs₃ => ?_)
    have e3 := hs₃.extBut
    replace hTO₃ : IsTw h₃ TO x b := hTO₃
    refine wpAny_bind (wpAny_letGo (wpAny_pure ?_))
    refine wpAny_bind (wpAny_bind (wpAny_onRaise ?_))
    show wpAny _ _ (Builtin.SmallTypes.nextOf (.ref i2) >>= _) _ _ _
    have hz₃ : IsZip h₃ z TI TO .ellipsis := e3 _ _ to1.symm (e2 _ _ iz1.symm hz₁)
    refine wpAny_bind (Z3.next_end hh (((h2.ext e1 iz2).ext e2 ii1.symm).ext e3 to3.symm) (((q2.ext e1 y1).ext e2 y3).ext e3 y2) hy fun h₄ e e4 he => ?_)
    obtain ⟨oe, hoe, hce⟩ := he
    have hz₄ : IsZip h₄ z TI TO .ellipsis := e4 _ _ iz2.symm hz₃
    have hez : e ≠ z := fun x => by subst x; rw [hz₄] at hoe; cases hoe; simp at hce
    refine wpAny_setField_rec hz₄ (by simp) fun h₅ _ hs₅ => hE h₅ e (fun c o c1 c2 c3 c4 x => hs₅.extBut _ _ c1 (e4 _ _ c4 (e3 _ _ c2 (e2 _ _ c3 (e1 _ _ c1 x))))) ⟨oe, hs₅.extBut _ _ hez hoe, hce⟩
theorem pyNext_item {x y : Value} {Q : Option Value → Shared → Prop} (D : Ap z TI TO i1 i2 l1 l2)
    (hz : IsZip s.heap z TI TO .none) (hTI : IsTw s.heap TI (.ref i1) (.ref i2)) (hTO : IsTw s.heap TO a b)
    (h1 : Z3.It b1 s.heap i1 l1 k) (h2 : Z3.It b2 s.heap i2 l2 k) (q1 : Sq b1 s.heap l1 xs) (q2 : Sq b2 s.heap l2 ys)
    (hx : xs[k]? = some x) (hy : ys[k]? = some y)
    (hQ : ∀ h', IsZip h' z TI TO (rawInt s.heap.objs.size) → IsTw h' TO x y → Z3.It b1 h' i1 l1 (k + 1) → Z3.It b2 h' i2 l2 (k + 1) → IsTw h' s.heap.objs.size x y → h'.objs.size = s.heap.objs.size + 1 →
      Kp z TO i1 i2 s.heap h' → Q (some (.ref s.heap.objs.size)) { s with heap := h' }) : wpAny (model prog w) A (pyNext (.ref z)) Q E s := by
  have hT : s.TypeIs (.ref z) "zip" := ⟨_, hz, rfl⟩
  unfold pyNext
  exact wpAny_bind (wpAny_attempt (wpAny_callSpecial?_slot (name := Str.ofString "__next__") hT F.slot_zip_next
    (wpAny_call_entry F.slot_zip_next hT F.entry_zip_next
      (zip_item D hz hTI hTO h1 h2 q1 q2 hx hy fun h' a1 a2 a3 a4 a6 a7 a8 => wpAny_pure (hQ h' a1 a2 a3 a4 a6 a7 a8)) (F.args_zip_next_1 _))))
theorem pyNext_end {Q : Option Value → Shared → Prop} (hh : A.handled = none) (D : Ap z TI TO i1 i2 l1 l2)
    (hz : IsZip s.heap z TI TO .none) (hTI : IsTw s.heap TI (.ref i1) (.ref i2)) (hTO : IsTw s.heap TO a b)
    (h1 : Z3.It b1 s.heap i1 l1 k) (h2 : Z3.It b2 s.heap i2 l2 k) (q1 : Sq b1 s.heap l1 xs) (q2 : Sq b2 s.heap l2 ys)
    (hend : xs[k]? = none ∨ ys[k]? = none)
    (hQ : ∀ h', Kp z TO i1 i2 s.heap h' → Q none { s with heap := h' }) : wpAny (model prog w) A (pyNext (.ref z)) Q E s := by
  have hT : s.TypeIs (.ref z) "zip" := ⟨_, hz, rfl⟩
  unfold pyNext
  refine wpAny_bind (wpAny_attempt (wpAny_callSpecial?_slot (name := Str.ofString "__next__") hT F.slot_zip_next
    (wpAny_call_entry F.slot_zip_next hT F.entry_zip_next (zip_end hh D hz hTI hTO h1 h2 q1 q2 hend fun h' e hk he => ?_) (F.args_zip_next_1 _))))
  obtain ⟨o, ho, hc⟩ := he
  refine wpAny_bind (wpAny_isInstance (T := "StopIteration") (b := true) ⟨o, ho, hc⟩ isSubtype_stop ?_)
  exact wpAny_pure (hQ _ hk)
end
end L2.Jk.Z2
namespace L2.Jk.Z2
open PySem PySem.W PySem.Spec PySem.Calls PyProof.Rows L2 L2.Jk
open L2.Jk.Z3 (Sq SqB itO it_new pyIter_sq inv_seq inv_inj seqT_same)
theorem typeCall_zip_2 (a b : Value) : checkTypeCall "zip" ⟨[a, b], []⟩ = pure () := by kernel_rfl
theorem newCall_zip_2 (a b : Value) : checkBuiltinCall "zip.__new__" ⟨[.type "zip", a, b], []⟩ = pure () := by kernel_rfl
theorem args_object_init_3' (a b c : Value) : argsOk "object.__init__" ⟨[a, b, c], []⟩ := by
  unfold argsOk; rw [signature?_of (id := "object.__init__") (n := ['_', '_', 't', 'i', 'n', 'i', '_', '_']) (o := ['t', 'c', 'e', 'j', 'b', 'o']) (by kernel_rfl) PySem.F.owner_object]; kernel_rfl
section
variable {prog : Program} {w : World} {A : Around} {E : Value → Shared → Prop} {s : Shared}
abbrev g1 (h : Heap) (b1 : Bool) (l1 : Addr) : Heap := h.push (itO b1 l1)
abbrev g2 (h : Heap) (b1 b2 : Bool) (l1 l2 : Addr) : Heap := (g1 h b1 l1).push (itO b2 l2)
abbrev g3 (h : Heap) (b1 b2 : Bool) (l1 l2 : Addr) : Heap := (g2 h b1 b2 l1 l2).push { cls := .type "tuple", data := .seq #[.ref h.objs.size, .ref (g1 h b1 l1).objs.size] }
abbrev g4 (h : Heap) (b1 b2 : Bool) (l1 l2 : Addr) : Heap := (g3 h b1 b2 l1 l2).push { cls := .type "tuple", data := .seq #[.none, .none] }
abbrev g5 (h : Heap) (b1 b2 : Bool) (l1 l2 : Addr) : Heap := (g4 h b1 b2 l1 l2).push { cls := .type "zip", data := .fields #[.none, .bool false, .bool false, .ref (g2 h b1 b2 l1 l2).objs.size, .ref (g3 h b1 b2 l1 l2).objs.size] }
theorem meets_zip2_new (b1 b2 : Bool) (l1 l2 : Addr) (xs ys : Array Value) :
    Meets (Builtin.«zip.__new__» ⟨[.type "zip", .ref l1, .ref l2], []⟩) (fun _ R s => Sq b1 s.heap l1 xs ∧ Sq b2 s.heap l2 ys ∧
      R (.ok (.ret (.ref (g4 s.heap b1 b2 l1 l2).objs.size))) { s with heap := g5 s.heap b1 b2 l1 l2 }) :=
  .of_wp fun prog w A R s h => by
    obtain ⟨hp, g, d, tk, os⟩ := s; obtain ⟨hl1, hl2, h⟩ := h
    have hsub := sub_zip
    have hL1 : Sq b1 (Shared.heap ⟨hp, g, d, tk, os⟩) l1 xs := hl1
    have hL2 : Sq b2 (Shared.heap ⟨hp.push (itO b1 l1), g, d, tk, os⟩) l2 ys := Z3.Sq.push hl2 _
    wp_walk using pyIter_sq hL1, pyIter_sq hL2
    exact ⟨_, rfl, h⟩
theorem call_zip2 {b1 b2 : Bool} {l1 l2 : Addr} {xs ys : Array Value} {Q : Value → Shared → Prop} (hl1 : Sq b1 s.heap l1 xs) (hl2 : Sq b2 s.heap l2 ys)
    (h : ∀ h', IsZip h' (s.heap.objs.size + 4) (s.heap.objs.size + 2) (s.heap.objs.size + 3) .none → IsTw h' (s.heap.objs.size + 2) (.ref s.heap.objs.size) (.ref (s.heap.objs.size + 1)) →
      IsTw h' (s.heap.objs.size + 3) .none .none → Z3.It b1 h' s.heap.objs.size l1 0 → Z3.It b2 h' (s.heap.objs.size + 1) l2 0 → h'.objs.size = s.heap.objs.size + 5 →
      (∀ c o, s.heap.get? c = some o → h'.get? c = some o) → Q (.ref (s.heap.objs.size + 4)) { s with heap := h' }) :
    wpAny (model prog w) A (call (.type "zip") [.ref l1, .ref l2]) Q E s := by
  refine callType_new PySem.F.called_zip (by decide) (typeCall_zip_2 _ _) (newCall_zip_2 _ _) (fun obj => args_object_init_3' obj _ _) PySem.F.entry_zip_new
    (meets_zip2_new b1 b2 l1 l2 xs ys) ⟨hl1, hl2, ?_⟩
  have z1 : (g1 s.heap b1 l1).objs.size = s.heap.objs.size + 1 := Heap.size_push ..
  have z2 : (g2 s.heap b1 b2 l1 l2).objs.size = s.heap.objs.size + 2 := by rw [Heap.size_push, z1]
  have z3 : (g3 s.heap b1 b2 l1 l2).objs.size = s.heap.objs.size + 3 := by rw [Heap.size_push, z2]
  have z4 : (g4 s.heap b1 b2 l1 l2).objs.size = s.heap.objs.size + 4 := by rw [Heap.size_push, z3]
  have z5 : (g5 s.heap b1 b2 l1 l2).objs.size = s.heap.objs.size + 5 := by rw [Heap.size_push, z4]
  have p {h : Heap} {a : Addr} {o : Obj} (q : Obj) : h.get? a = some o → (h.push q).get? a = some o := Heap.get?_push_of_some _
  have nf : ∀ b l, (itO b l).isFreed = false := fun b l => by cases b <;> rfl
  have e5 : (g5 s.heap b1 b2 l1 l2).get? (g4 s.heap b1 b2 l1 l2).objs.size = some _ := Heap.get?_push_size _ rfl
  have e4 : (g5 s.heap b1 b2 l1 l2).get? (g3 s.heap b1 b2 l1 l2).objs.size = some _ := p _ (Heap.get?_push_size _ rfl)
  have e3 : (g5 s.heap b1 b2 l1 l2).get? (g2 s.heap b1 b2 l1 l2).objs.size = some _ := p _ (p _ (Heap.get?_push_size _ rfl))
  have e2 : (g5 s.heap b1 b2 l1 l2).get? (g1 s.heap b1 l1).objs.size = some (itO b2 l2) := p _ (p _ (p _ (Heap.get?_push_size _ (nf _ _))))
  have e1 : (g5 s.heap b1 b2 l1 l2).get? s.heap.objs.size = some (itO b1 l1) := p _ (p _ (p _ (p _ (Heap.get?_push_size _ (nf _ _)))))
  show _ ∧ _
  rw [z2, z3, z4] at e5
  rw [z1, z2] at e3
  rw [z3] at e4
  rw [z1] at e2
  rw [z4]
  exact ⟨⟨_, e5, rfl⟩, h _ e5 e3 e4 (it_new e1) (it_new e2) z5 fun c o x => p _ (p _ (p _ (p _ (p _ x))))⟩
end
theorem ap_new (I l1 l2 : Nat) (h1 : l1 < I) (h2 : l2 < I) : Ap (I + 4) (I + 2) (I + 3) I (I + 1) l1 l2 := by
  have ne : ∀ {a b : Nat}, (a < b ∨ b < a) → a ≠ b := fun h e => by omega
  exact ⟨⟨ne (by omega), ne (by omega), ne (by omega), ne (by omega)⟩, ⟨ne (by omega), ne (by omega), ne (by omega)⟩, ⟨ne (by omega), ne (by omega)⟩, ne (by omega),
    ⟨ne (by omega), ne (by omega), ne (by omega), ne (by omega)⟩, ⟨ne (by omega), ne (by omega), ne (by omega), ne (by omega)⟩⟩
section
variable {X : Cx} {pins : List (Addr × Obj)} {σ : St} {H : Hp} {s : Shared}
end
def Itz2 (K : Frag) (b1 b2 : Bool) (a1 a2 : Addr) : L2.It :=
  ⟨fun i H => ∃ (xs ys : List V) (x y : V), SqB b1 K H a1 xs ∧ SqB b2 K H a2 ys ∧ xs[i]? = some x ∧ ys[i]? = some y,
    fun i H v H' => ∃ T x y, v = .ref T ∧ H T = none ∧ H' = upd H T (.tup [x, y]) ∧ (∀ xs, SqB b1 K H a1 xs → xs[i]? = some x) ∧ ∀ ys, SqB b2 K H a2 ys → ys[i]? = some y,
    fun i H => ∃ xs ys : List V, SqB b1 K H a1 xs ∧ SqB b2 K H a2 ys ∧ (xs.length ≤ i ∨ ys.length ≤ i)⟩
theorem turn_zip2 {P : Program} {w : World} {K : Frag} {elts : List Expr} {kk : Nat} {tpos : Pos} {b1 b2 : Bool} {a1 a2 z TI TO i1 i2 : Addr} (D : Ap z TI TO i1 i2 a1 a2) :
    Turn P w K (.Tuple elts kk tpos) (Itz2 K b1 b2 a1 a2) [z, TI, TO, i1, i2] z (fun i h => IsZip h z TI TO .none ∧ IsTw h TI (.ref i1) (.ref i2) ∧ (∃ x y, IsTw h TO x y) ∧ Z3.It b1 h i1 a1 i ∧ Z3.It b2 h i2 a2 i) where
  mem := by simp
  obj := fun i h st c hc => by
    obtain ⟨hz, hTI, ⟨x, y, hTO⟩, h1, h2⟩ := st
    have e' : c = z ∨ c = TI ∨ c = TO ∨ c = i1 ∨ c = i2 := by simpa using hc
    rcases e' with q | q | q | q | q
    · rw [q]; exact ⟨_, hz, fun v q => nomatch q⟩
    · rw [q]; exact ⟨_, hTI, fun v q => nomatch q⟩
    · rw [q]; exact ⟨_, hTO, fun v q => nomatch q⟩
    · rw [q]; exact h1.obj
    · rw [q]; exact h2.obj
  keep := fun i h h' st k => by
    obtain ⟨hz, hTI, ⟨x, y, hTO⟩, h1, h2⟩ := st
    exact ⟨k z (by simp) _ hz, k TI (by simp) _ hTI, ⟨x, y, k TO (by simp) _ hTO⟩, h1.at fun o q => k i1 (by simp) o q, h2.at fun o q => k i2 (by simp) o q⟩
  item := by
    intro X hP hw hK hc i pins s σ H E I hf st hg
    subst hP hw hK
    obtain ⟨hz, hTI, ⟨x0, y0, hTO⟩, h1, h2⟩ := st
    obtain ⟨xs, ys, x, y, hqx, hqy, hx, hy⟩ := hg
    obtain ⟨its, rv, p⟩ := inv_seq I hqx
    obtain ⟨its2, rv2, p2⟩ := inv_seq I hqy
    obtain ⟨v1, hv1, r1⟩ := rv.get hx
    obtain ⟨v2, hv2, r2⟩ := rv2.get hy
    have hzl : z < s.heap.objs.size := Heap.lt_size hz
    refine pyNext_item D hz hTI hTO h1 h2 p p2 (x := v1) (y := v2) (by simpa using hv1) (by simpa using hv2) fun h' z' TO' h1' h2' hT hsz hk => ?_
    refine ⟨_, rfl, wpAny_letOwnedTupleGo_zip (s := { s with heap := h' }) z' fun h'' z'' sb => ?_⟩
    have hT2 : h''.get? s.heap.objs.size = some { cls := .type "tuple", data := .seq #[v1, v2] } := (sb.2 _ (Nat.ne_of_gt hzl)).trans hT
    have new : ObjOk X.prog X.w (upd H s.heap.objs.size (.tup [x, y])) h'' s.heap.objs.size (.tup [x, y]) :=
      ⟨by show 2 ≤ sizeLine; decide, [v1, v2], .cons r1 (.cons r2 .nil), ⟨_, hT2, rfl, _, rfl⟩⟩
    have I1 : Inv X pins σ (upd H s.heap.objs.size (.tup [x, y])) { s with heap := h'' } :=
      I.turnedNew (t' := s.toks) (ch := [z, TI, TO, i1, i2]) (fun c o hb q => (sb.2 c (fun q' => hb (by simp [q']))).trans (hk c o (fun q' => hb (by simp [q'])) (fun q' => hb (by simp [q'])) (fun q' => hb (by simp [q'])) (fun q' => hb (by simp [q'])) q)) hf (Nat.le_refl _) new
    obtain ⟨⟨ti1, ti2, ti3, ti4⟩, ⟨to1, to2, to3⟩, ⟨iz1, iz2⟩, _⟩ := D
    refine ⟨.ref s.heap.objs.size, _, I1, rfl, ⟨_, x, y, rfl, I.hok.fresh (Nat.le_refl _), rfl, fun l hl => by rw [inv_inj I hl hqx]; exact hx, fun l hl => by rw [inv_inj I hl hqy]; exact hy⟩, ⟨z'', ?_, ⟨v1, v2, ?_⟩, ?_, ?_⟩, fun c hcm => ?_⟩
    · exact (sb.2 _ ti1).trans (hk _ _ ti1 ti2 ti3 ti4 hTI)
    · exact (sb.2 _ to1).trans TO'
    · exact h1'.at fun o q => (sb.2 _ iz1).trans q
    · exact h2'.at fun o q => (sb.2 _ iz2).trans q
    · have hlt : c < s.heap.objs.size := by
        have e' : c = z ∨ c = TI ∨ c = TO ∨ c = i1 ∨ c = i2 := by simpa using hcm
        rcases e' with q | q | q | q | q
        · rw [q]; exact hzl
        · rw [q]; exact Heap.lt_size hTI
        · rw [q]; exact Heap.lt_size hTO
        · rw [q]; exact h1.lt
        · rw [q]; exact h2.lt
      rw [upd_ne (Nat.ne_of_lt hlt)]
      exact (hf c hcm).1
  done := by
    intro X hP hw hK hc i pins s σ H E I hf st hg
    subst hP hw hK
    obtain ⟨hz, hTI, ⟨x0, y0, hTO⟩, h1, h2⟩ := st
    obtain ⟨xs, ys, hqx, hqy, hend⟩ := hg
    obtain ⟨its, rv, p⟩ := inv_seq I hqx
    obtain ⟨its2, rv2, p2⟩ := inv_seq I hqy
    have l1 := rv.length
    have l2 := rv2.length
    have he : its.toArray[i]? = none ∨ its2.toArray[i]? = none := by
      rcases hend with q | q
      · exact .inl (by simp; omega)
      · exact .inr (by simp; omega)
    exact pyNext_end (I.ok.hd hc) D hz hTI hTO h1 h2 p p2 he fun h' hk => ⟨rfl, I.turnedL (t' := s.toks) (ch := [z, TI, TO, i1, i2]) (fun c o hb q =>
      hk c o (fun q' => hb (by simp [q'])) (fun q' => hb (by simp [q'])) (fun q' => hb (by simp [q'])) (fun q' => hb (by simp [q'])) q) hf⟩
  self := fun A i s Q E st h => wpAny_pyIter_zip st.1 h
def iZip2 (K : Frag) (ta : TA) : TI := fun σ H R => ta σ H fun vs H1 => ∃ a1 a2 b1 b2 xs ys, vs = [.ref a1, .ref a2] ∧ SqB b1 K H1 a1 xs ∧ SqB b2 K H1 a2 ys ∧ R (Itz2 K b1 b2 a1 a2) H1
theorem pi_zip2 {X : Cx} {e e2 : Expr} {ta : TA} {p pos tpos : Pos} {elts : List Expr} {kk : Nat} (hg : Gl X "zip") (hm : X.mg "zip" = none) (ha : PA X [e, e2] ta)
    (hs : starEach [e, e2] X.env = (false, eval e X.env) :: starEach [e2] X.env := by rfl) (hpl : (backTo pos (starEach [e2] X.env)).any (·.1) = false := by rfl) :
    PI X (.Tuple elts kk tpos) (.Call (.Name "zip" p) [e, e2] [] pos) (iZip2 X.K ta) := by
  refine ⟨fun pins s σ H R I h => ?_⟩
  refine Call_ (ld_blt I hg hm PyProof.Rows.boot_zip (PyProof.Rows.callWith_type1 (thn (ha.run pos pins s σ H _ I h) fun us s1 ⟨vs, H1, I1, r1, q1⟩ => ?_) hs hpl))
  obtain ⟨a1, a2, b1, b2, xs, ys, ex, hqx, hqy, q⟩ := q1
  subst ex
  cases r1 with
  | cons r rr =>
    cases rr with
    | cons r' rr =>
      cases rr
      cases r
      cases r'
      have fresh5 : ∀ c, c ∈ [s1.heap.objs.size + 4, s1.heap.objs.size + 2, s1.heap.objs.size + 3, s1.heap.objs.size, s1.heap.objs.size + 1] → FpOk X pins H1 c := fun c hcm => by
        have e' : c = s1.heap.objs.size + 4 ∨ c = s1.heap.objs.size + 2 ∨ c = s1.heap.objs.size + 3 ∨ c = s1.heap.objs.size ∨ c = s1.heap.objs.size + 1 := by simpa using hcm
        have hle : s1.heap.objs.size ≤ c := by
          rcases e' with z | z | z | z | z
          · rw [z]; exact Nat.le_add_right _ _
          · rw [z]; exact Nat.le_add_right _ _
          · rw [z]; exact Nat.le_add_right _ _
          · rw [z]; exact Nat.le_refl _
          · rw [z]; exact Nat.le_add_right _ _
        exact I1.fpOk hle (I1.hok.fresh hle)
      obtain ⟨its, rv, p1⟩ := inv_seq I1 hqx
      obtain ⟨its2, rv2, p2⟩ := inv_seq I1 hqy
      refine call_zip2 p1 p2 fun h' hz hTI hTO h1 h2 hsz hk => wpAny_pyIter_zip hz ?_
      have I2 : Inv X pins σ H1 { s1 with heap := h' } := I1.kept (t' := s1.toks) hk
      exact ⟨s1.heap.objs.size + 4, [s1.heap.objs.size + 4, s1.heap.objs.size + 2, s1.heap.objs.size + 3, s1.heap.objs.size, s1.heap.objs.size + 1], _, _, H1, rfl, I2,
        turn_zip2 (ap_new s1.heap.objs.size a1 a2 p1.lt p2.lt), ⟨hz, hTI, ⟨_, _, hTO⟩, h1, h2⟩, fresh5, q⟩
theorem walk_zip2 {K : Frag} {b1 b2 : Bool} {a1 a2 : Addr} {xs ys : List V} (hl : xs.length = ys.length) : Walk (Itz2 K b1 b2 a1 a2) xs.length (fun H => SqB b1 K H a1 xs ∧ SqB b2 K H a2 ys) (YPair (fun i => xs[i]?) (fun i => ys[i]?)) := by
  refine ⟨fun i _ hi q => ?_, fun _ q => ⟨xs, ys, q.1, q.2, .inl (Nat.le_refl _)⟩, fun i H v H' _ q y => ?_⟩
  · exact ⟨xs, ys, _, _, q.1, q.2, List.getElem?_eq_getElem hi, List.getElem?_eq_getElem (by omega)⟩
  · obtain ⟨T, x, z, h1, h2, h3, h4, h5⟩ := y
    exact ⟨T, x, z, h1, h2, h3, h4 xs q.1, h5 ys q.2⟩
def YTrip (xs ys zs : Nat → Option V) : Nat → Hp → V → Hp → Prop := fun i H v H' => ∃ T x y u, v = .ref T ∧ H T = none ∧ H' = upd H T (.tup [x, y, u]) ∧ xs i = some x ∧ ys i = some y ∧ zs i = some u
theorem walk_zip3 {K : Frag} {b1 b2 b3 : Bool} {a1 a2 a3 : Addr} {xs ys zs : List V} (hl : xs.length = ys.length) (hl2 : xs.length = zs.length) :
    Walk (Z3.Itz3 K b1 b2 b3 a1 a2 a3) xs.length (fun H => SqB b1 K H a1 xs ∧ SqB b2 K H a2 ys ∧ SqB b3 K H a3 zs) (YTrip (fun i => xs[i]?) (fun i => ys[i]?) (fun i => zs[i]?)) := by
  refine ⟨fun i _ hi q => ?_, fun _ q => ⟨xs, ys, zs, q.1, q.2.1, q.2.2, .inl (Nat.le_refl _)⟩, fun i H v H' _ q y => ?_⟩
  · exact ⟨xs, ys, zs, _, _, _, q.1, q.2.1, q.2.2, List.getElem?_eq_getElem hi, List.getElem?_eq_getElem (by omega), List.getElem?_eq_getElem (by omega)⟩
  · obtain ⟨T, x, z, u, h1, h2, h3, h4, h5, h6⟩ := y
    exact ⟨T, x, z, u, h1, h2, h3, h4 xs q.1, h5 ys q.2.1, h6 zs q.2.2⟩
end L2.Jk.Z2

set_option Elab.async false
set_option linter.all false
set_option maxRecDepth 100000
set_option maxHeartbeats 4000000
/-! enumerate(zip(a, b)), each a list or a tuple. -/
namespace L2.Jk.EZ
open PySem
open PySem.Sem (wp)
open L2.Jk.Z3 (Sq)
open L2.Jk.Z2 (IsTw Ap Kp updateSeq_tw)
/-- a zip: what it knows of the tuple that it gave out -/
abbrev IsZ (h : Heap) (z TI TO : Addr) (v : Value) (f : Bool) : Prop :=
  h.get? z = some { cls := .type "zip", dict := none, data := .fields #[v, .bool f, .bool false, .ref TI, .ref TO], slots := #[] }
def ZS (h : Heap) (z TI TO : Addr) : Prop := ∃ v f, IsZ h z TI TO v f ∧ (v = .none ∨ ∃ T : Addr, v = rawInt T)
structure ZZ (b1 b2 : Bool) (z TI TO i1 i2 l1 l2 : Addr) (k : Nat) (h : Heap) : Prop where
  zs : ZS h z TI TO
  ti : IsTw h TI (.ref i1) (.ref i2)
  to : ∃ a b, IsTw h TO a b
  n1 : Z3.It b1 h i1 l1 k
  n2 : Z3.It b2 h i2 l2 k
theorem ZZ.at {b1 b2 : Bool} {z TI TO i1 i2 l1 l2 : Addr} {k : Nat} {h h' : Heap} (x : ZZ b1 b2 z TI TO i1 i2 l1 l2 k h) (q : ∀ c, c ∈ [z, TI, TO, i1, i2] → ∀ o, h.get? c = some o → h'.get? c = some o) : ZZ b1 b2 z TI TO i1 i2 l1 l2 k h' := by
  obtain ⟨⟨v, f, zs, zv⟩, ti, ⟨a, b, to⟩, n1, n2⟩ := x
  exact ⟨⟨v, f, q _ (by simp) _ zs, zv⟩, q _ (by simp) _ ti, ⟨a, b, q _ (by simp) _ to⟩, n1.at fun o e => q _ (by simp) _ e, n2.at fun o e => q _ (by simp) _ e⟩
section
variable {prog : Program} {w : World} {A : Around} {E : Value → Shared → Prop} {s : Shared}
theorem alive_none {a : Addr} {Q : Option Obj → Shared → Prop} (ho : s.heap.get? a = none) (h : Q none s) : wpAny (model prog w) A (loadIfAlive a) Q E s := by
  have h' : Q (s.heap.get? a) s := by rw [ho]; exact h
  exact fun _ _ _ => h'
theorem alive_some {a : Addr} {o : Obj} {Q : Option Obj → Shared → Prop} (ho : s.heap.get? a = some o) (h : Q (some o) s) : wpAny (model prog w) A (loadIfAlive a) Q E s := by
  have h' : Q (s.heap.get? a) s := by rw [ho]; exact h
  exact fun _ _ _ => h'
theorem free_or {z TI TO : Addr} {Q : Bool → Shared → Prop} (hz : ZS s.heap z TI TO)
    (h1 : Q true s) (h2 : ∀ h', ZS h' z TI TO → Heap.SameBut z s.heap h' → Q false { s with heap := h' }) :
    wpAny (model prog w) A (Builtin.SmallTypes.ownedTupleIsFree (.ref z)) Q E s := by
  obtain ⟨v, f, hz, hv⟩ := hz
  unfold Builtin.SmallTypes.ownedTupleIsFree
  rcases hv with rfl | ⟨T, rfl⟩
  · exact wpAny_bind (wpAny_field hz rfl (x := .none) rfl (wpAny_pure h1))
  · refine wpAny_bind (wpAny_field hz rfl (x := rawInt T) rfl ?_)
    show wpAny _ _ (loadIfAlive ((T : Int).toNat) >>= _) _ _ _
    rw [Int.toNat_natCast]
    cases hT : s.heap.get? T with
    | none =>
      refine wpAny_bind (alive_none hT ?_)
      simp only [Option.isNone_none, if_true]
      exact wpAny_pure h1
    | some oT =>
      refine wpAny_bind (alive_some hT ?_)
      simp only [Option.isNone_some, Bool.false_eq_true, if_false]
      refine wpAny_bind (wpAny_field hz rfl (x := .bool f) rfl ?_)
      cases f with
      | true =>
        rw [if_neg (show ¬ ((Value.bool true != Value.bool true) = true) from Bool.false_ne_true)]
        exact wpAny_pure (h2 s.heap ⟨_, _, hz, .inr ⟨T, rfl⟩⟩ (Heap.SameBut.refl _ _))
      | false =>
        rw [if_pos (show (Value.bool false != Value.bool true) = true from rfl)]
        exact wpAny_bind (wpAny_setField_rec hz (by simp) fun h₁ hz₁ hs₁ => wpAny_pure (h2 h₁ ⟨rawInt T, true, hz₁, .inr ⟨T, rfl⟩⟩ hs₁))
variable {z TI TO i1 i2 l1 l2 : Addr} {k : Nat} {b1 b2 : Bool} {xs ys : Array Value} {a b : Value}
theorem zip_item {x y : Value} {Q : Value → Shared → Prop} (D : Ap z TI TO i1 i2 l1 l2)
    (S : ZZ b1 b2 z TI TO i1 i2 l1 l2 k s.heap) (q1 : Sq b1 s.heap l1 xs) (q2 : Sq b2 s.heap l2 ys)
    (hx : xs[k]? = some x) (hy : ys[k]? = some y)
    (hQ : ∀ h', ZZ b1 b2 z TI TO i1 i2 l1 l2 (k + 1) h' → IsTw h' s.heap.objs.size x y → h'.objs.size = s.heap.objs.size + 1 →
      Kp z TO i1 i2 s.heap h' → Q (.ref s.heap.objs.size) { s with heap := h' }) :
    wpAny (model prog w) A (Builtin.«zip.__next__» ⟨[.ref z], []⟩) (fun fin s' => ∃ v, fin = .done (.ret v) ∧ Q v s') E s := by
  obtain ⟨⟨ti1, ti2, ti3, ti4⟩, ⟨to1, to2, to3⟩, ⟨iz1, iz2⟩, ii1, ⟨x1, x2, x3, x4⟩, ⟨y1, y2, y3, y4⟩⟩ := D
  obtain ⟨hZ, hTI, ⟨a, b, hTO⟩, h1, h2⟩ := S
  obtain ⟨v, f, hz, hv⟩ := id hZ
  show wpAny _ _ (field (.ref z) 2 >>= _) _ _ _
  refine wpAny_bind (wpAny_field hz rfl (x := .bool false) rfl ?_)
  show wpAny _ _ (field (.ref z) 3 >>= _) _ _ _
  refine wpAny_bind (wpAny_field hz rfl (x := .ref TI) rfl ?_)
  refine wpAny_bind (wpAny_seqItems hTI rfl ?_)
  show wpAny _ _ (Builtin.SmallTypes.ownedTupleIsFree (.ref z) >>= _) _ _ _
  refine wpAny_bind (free_or hZ ?_ fun h₁ hz₁ hs₁ => ?_)
  · simp only [if_true]
    refine wpAny_bind (wpAny_rule ?_)
    refine wpAny_bind (wpAny_field hz rfl (x := .ref TO) rfl ?_)
    refine wpAny_bind (wpAny_setField_rec hz (by simp) fun h₁ hz₁ hs₁ => ?_)
    replace hz₁ : IsZ h₁ z TI TO .ellipsis f := hz₁
    refine wpAny_bind ?_
    simp only [List.zipIdx_cons, List.zipIdx_nil, List.forIn_cons, List.forIn_nil]
    have e1 := hs₁.extBut
    have hTO₁ : IsTw h₁ TO a b := e1 _ _ to1 hTO
    refine wpAny_bind (wpAny_bind (wpAny_onRaise ?_))
    show wpAny _ _ (Builtin.SmallTypes.nextOf (.ref i1) >>= _) _ _ _
    refine wpAny_bind (Z3.next_item (h1.ext e1 iz1) (q1.ext e1 x1) hx fun h₂ n1 hs₂ => wpAny_pure ?_)
    have e2 := hs₂.extBut
    have hTO₂ : IsTw h₂ TO a b := e2 _ _ to2 hTO₁
    refine wpAny_bind (wpAny_seqItems hTO₂ rfl ?_)
    refine wpAny_bind (updateSeq_tw hTO₂ fun h₃ hTO₃ hs₃ => ?_)
    have e3 := hs₃.extBut
    replace hTO₃ : IsTw h₃ TO x b := hTO₃
    refine wpAny_bind (wpAny_letGo (wpAny_pure ?_))
    refine wpAny_bind (wpAny_bind (wpAny_onRaise ?_))
    show wpAny _ _ (Builtin.SmallTypes.nextOf (.ref i2) >>= _) _ _ _
    refine wpAny_bind (Z3.next_item (((h2.ext e1 iz2).ext e2 ii1.symm).ext e3 to3.symm) (((q2.ext e1 y1).ext e2 y3).ext e3 y2) hy fun h₄ n2 hs₄ => wpAny_pure ?_)
    have e4 := hs₄.extBut
    have hTO₄ : IsTw h₄ TO x b := e4 _ _ to3 hTO₃
    refine wpAny_bind (wpAny_seqItems hTO₄ rfl ?_)
    refine wpAny_bind (updateSeq_tw hTO₄ fun h₇ hTO₇ hs₇ => ?_)
    have e7 := hs₇.extBut
    replace hTO₇ : IsTw h₇ TO x y := hTO₇
    refine wpAny_bind (wpAny_letGo (wpAny_pure (wpAny_pure ?_)))
    refine wpAny_bind (wpAny_seqItems hTO₇ rfl ?_)
    refine wpAny_bind (wpAny_newTuple ?_)
    have hsz : h₇.objs.size = s.heap.objs.size := by rw [hs₇.1, hs₄.1, hs₃.1, hs₂.1, hs₁.1]
    have hz₇ : IsZ h₇ z TI TO .ellipsis f := e7 _ _ to1.symm (e4 _ _ iz2.symm (e3 _ _ to1.symm (e2 _ _ iz1.symm hz₁)))
    have hk₇ : Kp z TO i1 i2 s.heap h₇ := fun c o c1 c2 c3 c4 e =>
      e7 _ _ c2 (e4 _ _ c4 (e3 _ _ c2 (e2 _ _ c3 (e1 _ _ c1 e))))
    have m1 : Z3.It b1 h₇ i1 l1 (k + 1) := ((n1.ext e3 to2.symm).ext e4 ii1).ext e7 to2.symm
    have m2 : Z3.It b2 h₇ i2 l2 (k + 1) := n2.ext e7 to3.symm
    have hTI₇ : IsTw h₇ TI (.ref i1) (.ref i2) := hk₇ _ _ ti1 ti2 ti3 ti4 hTI
    have hzlt : z < h₇.objs.size := Heap.lt_size hz₇
    show wpAny _ _ (Builtin.SmallTypes.ownedTupleHandOut (.ref z) (.ref h₇.objs.size) >>= _) _ _ _
    refine wpAny_bind ?_
    unfold Builtin.SmallTypes.ownedTupleHandOut
    have hz₈ : IsZ (h₇.push { cls := .type "tuple", data := .seq #[x, y] }) z TI TO .ellipsis f := Heap.get?_push_of_some _ hz₇
    refine wpAny_bind (wpAny_setField_rec hz₈ (by simp) fun h₉ hz₉ hs₉ => ?_)
    replace hz₉ : IsZ h₉ z TI TO (rawInt h₇.objs.size) f := hz₉
    refine wpAny_setField_rec hz₉ (by simp) fun ha hza hsa => ?_
    replace hza : IsZ ha z TI TO (rawInt h₇.objs.size) false := hza
    have up : ∀ c o, c ≠ z → h₇.get? c = some o → ha.get? c = some o := fun c o c1 e => hsa.extBut _ _ c1 (hs₉.extBut _ _ c1 (Heap.get?_push_of_some _ e))
    have hTa : IsTw ha h₇.objs.size x y := hsa.extBut _ _ (Nat.ne_of_gt hzlt) (hs₉.extBut _ _ (Nat.ne_of_gt hzlt) (Heap.get?_push_size _ rfl))
    have hza8 : ha.objs.size = h₇.objs.size + 1 := by rw [hsa.1, hs₉.1, Heap.size_push]
    rw [hsz] at hza hTa hza8
    refine wpAny_pure ⟨_, rfl, ?_⟩
    show Q (.ref h₇.objs.size) _
    rw [hsz]
    exact hQ ha ⟨⟨_, _, hza, .inr ⟨_, rfl⟩⟩, up _ _ ti1 hTI₇, ⟨_, _, up _ _ to1 hTO₇⟩, m1.at fun o e => up _ o iz1 e, m2.at fun o e => up _ o iz2 e⟩ hTa hza8 fun c o c1 c2 c3 c4 e => up c o c1 (hk₇ c o c1 c2 c3 c4 e)
  · simp only [Bool.false_eq_true, if_false]
    refine wpAny_bind ?_
    rw [← Array.forIn_toList]
    simp only [List.forIn_cons, List.forIn_nil]
    have e1 := hs₁.extBut
    refine wpAny_bind (wpAny_bind (wpAny_holding ?_))
    show wpAny _ _ (Builtin.SmallTypes.nextOf (.ref i1) >>= _) _ _ _
    refine wpAny_bind (Z3.next_item (s := { s with heap := h₁ }) (h1.ext e1 iz1) (q1.ext e1 x1) hx fun h₂ n1 hs₂ => wpAny_pure ?_)
    have e2 := hs₂.extBut
    refine wpAny_pure ?_
    refine wpAny_bind (wpAny_bind (wpAny_holding ?_))
    show wpAny _ _ (Builtin.SmallTypes.nextOf (.ref i2) >>= _) _ _ _
    refine wpAny_bind (Z3.next_item (s := { s with heap := h₂ }) ((h2.ext e1 iz2).ext e2 ii1.symm) ((q2.ext e1 y1).ext e2 y3) hy fun h₃ n2 hs₃ => wpAny_pure ?_)
    have e3 := hs₃.extBut
    refine wpAny_pure (wpAny_pure ?_)
    show wpAny _ _ (newTuple [x, y] >>= _) _ _ _
    refine wpAny_bind (wpAny_newTuple ?_)
    have hsz : h₃.objs.size = s.heap.objs.size := by rw [hs₃.1, hs₂.1, hs₁.1]
    have hk : Kp z TO i1 i2 s.heap h₃ := fun c o c1 c2 c3 c4 e => e3 _ _ c4 (e2 _ _ c3 (e1 _ _ c1 e))
    have S₃ : ZZ b1 b2 z TI TO i1 i2 l1 l2 (k + 1) h₃ := by
      obtain ⟨v', f', hz', hv'⟩ := hz₁
      exact ⟨⟨v', f', e3 _ _ iz2.symm (e2 _ _ iz1.symm hz'), hv'⟩, hk _ _ ti1 ti2 ti3 ti4 hTI, ⟨a, b, e3 _ _ to3 (e2 _ _ to2 (e1 _ _ to1 hTO))⟩, n1.ext e3 ii1, n2⟩
    refine wpAny_pure ⟨_, rfl, ?_⟩
    show Q (.ref h₃.objs.size) _
    have hp : IsTw (h₃.push { cls := .type "tuple", data := .seq #[x, y] }) h₃.objs.size x y := Heap.get?_push_size _ rfl
    have hz4 : (h₃.push { cls := .type "tuple", data := .seq #[x, y] }).objs.size = h₃.objs.size + 1 := Heap.size_push ..
    rw [hsz] at hp hz4 ⊢
    exact hQ _ (S₃.at fun c _ o e => Heap.get?_push_of_some _ e) hp hz4 fun c o c1 c2 c3 c4 e => Heap.get?_push_of_some _ (hk c o c1 c2 c3 c4 e)
theorem zip_end {Q : Fin → Shared → Prop} (hh : A.handled = none) (D : Ap z TI TO i1 i2 l1 l2)
    (S : ZZ b1 b2 z TI TO i1 i2 l1 l2 k s.heap) (q1 : Sq b1 s.heap l1 xs) (q2 : Sq b2 s.heap l2 ys)
    (hend : xs[k]? = none ∨ ys[k]? = none)
    (hE : ∀ h' e, Kp z TO i1 i2 s.heap h' → (∃ o, h'.get? e = some o ∧ o.cls = .type "StopIteration") → E (.ref e) { s with heap := h' }) :
    wpAny (model prog w) A (Builtin.«zip.__next__» ⟨[.ref z], []⟩) Q E s := by
  obtain ⟨⟨ti1, ti2, ti3, ti4⟩, ⟨to1, to2, to3⟩, ⟨iz1, iz2⟩, ii1, ⟨x1, x2, x3, x4⟩, ⟨y1, y2, y3, y4⟩⟩ := D
  obtain ⟨hZ, hTI, ⟨a, b, hTO⟩, h1, h2⟩ := S
  obtain ⟨v, f, hz, hv⟩ := id hZ
  show wpAny _ _ (field (.ref z) 2 >>= _) _ _ _
  refine wpAny_bind (wpAny_field hz rfl (x := .bool false) rfl ?_)
  show wpAny _ _ (field (.ref z) 3 >>= _) _ _ _
  refine wpAny_bind (wpAny_field hz rfl (x := .ref TI) rfl ?_)
  refine wpAny_bind (wpAny_seqItems hTI rfl ?_)
  show wpAny _ _ (Builtin.SmallTypes.ownedTupleIsFree (.ref z) >>= _) _ _ _
  refine wpAny_bind (free_or hZ ?_ fun h₁ hz₁ hs₁ => ?_)
  · simp only [if_true]
    refine wpAny_bind (wpAny_rule ?_)
    refine wpAny_bind (wpAny_field hz rfl (x := .ref TO) rfl ?_)
    refine wpAny_bind (wpAny_setField_rec hz (by simp) fun h₁ hz₁ hs₁ => ?_)
    replace hz₁ : IsZ h₁ z TI TO .ellipsis f := hz₁
    refine wpAny_bind ?_
    simp only [List.zipIdx_cons, List.zipIdx_nil, List.forIn_cons, List.forIn_nil]
    have e1 := hs₁.extBut
    have hTO₁ : IsTw h₁ TO a b := e1 _ _ to1 hTO
    refine wpAny_bind (wpAny_bind (wpAny_onRaise ?_))
    show wpAny _ _ (Builtin.SmallTypes.nextOf (.ref i1) >>= _) _ _ _
    cases hx : xs[k]? with
    | none =>
      refine wpAny_bind (Z3.next_end hh (h1.ext e1 iz1) (q1.ext e1 x1) hx fun h₂ e e2 he => ?_)
      obtain ⟨oe, hoe, hce⟩ := he
      have hz₂ : IsZ h₂ z TI TO .ellipsis f := e2 _ _ iz1.symm hz₁
      have hez : e ≠ z := fun x => by subst x; rw [hz₂] at hoe; cases hoe; simp at hce
      refine wpAny_setField_rec hz₂ (by simp) fun h₃ _ hs₃ => hE h₃ e (fun c o c1 _ c3 _ x => hs₃.extBut _ _ c1 (e2 _ _ c3 (e1 _ _ c1 x))) ⟨oe, hs₃.extBut _ _ hez hoe, hce⟩
    | some x =>
      have hy : ys[k]? = none := by
        rcases hend with h | h
        · rw [hx] at h; cases h
        · exact h
      refine wpAny_bind (Z3.next_item (h1.ext e1 iz1) (q1.ext e1 x1) hx fun h₂ n1 hs₂ => wpAny_pure ?_)
      have e2 := hs₂.extBut
      have hTO₂ : IsTw h₂ TO a b := e2 _ _ to2 hTO₁
      refine wpAny_bind (wpAny_seqItems hTO₂ rfl ?_)
      refine wpAny_bind (updateSeq_tw hTO₂ fun h₃ hTO₃ hs₃ => ?_)
      have e3 := hs₃.extBut
      replace hTO₃ : IsTw h₃ TO x b := hTO₃
      refine wpAny_bind (wpAny_letGo (wpAny_pure ?_))
      refine wpAny_bind (wpAny_bind (wpAny_onRaise ?_))
      show wpAny _ _ (Builtin.SmallTypes.nextOf (.ref i2) >>= _) _ _ _
      have hz₃ : IsZ h₃ z TI TO .ellipsis f := e3 _ _ to1.symm (e2 _ _ iz1.symm hz₁)
      refine wpAny_bind (Z3.next_end hh (((h2.ext e1 iz2).ext e2 ii1.symm).ext e3 to3.symm) (((q2.ext e1 y1).ext e2 y3).ext e3 y2) hy fun h₄ e e4 he => ?_)
      obtain ⟨oe, hoe, hce⟩ := he
      have hz₄ : IsZ h₄ z TI TO .ellipsis f := e4 _ _ iz2.symm hz₃
      have hez : e ≠ z := fun x => by subst x; rw [hz₄] at hoe; cases hoe; simp at hce
      refine wpAny_setField_rec hz₄ (by simp) fun h₅ _ hs₅ => hE h₅ e (fun c o c1 c2 c3 c4 x => hs₅.extBut _ _ c1 (e4 _ _ c4 (e3 _ _ c2 (e2 _ _ c3 (e1 _ _ c1 x))))) ⟨oe, hs₅.extBut _ _ hez hoe, hce⟩
  · simp only [Bool.false_eq_true, if_false]
    refine wpAny_bind ?_
    rw [← Array.forIn_toList]
    simp only [List.forIn_cons, List.forIn_nil]
    have e1 := hs₁.extBut
    refine wpAny_bind (wpAny_bind (wpAny_holding ?_))
    show wpAny _ _ (Builtin.SmallTypes.nextOf (.ref i1) >>= _) _ _ _
    cases hx : xs[k]? with
    | none =>
      exact wpAny_bind (Z3.next_end (s := { s with heap := h₁ }) hh (h1.ext e1 iz1) (q1.ext e1 x1) hx fun h₂ e e2 he =>
        hE h₂ e (fun c o c1 _ c3 _ x => e2 _ _ c3 (e1 _ _ c1 x)) he)
    | some x =>
      have hy : ys[k]? = none := by
        rcases hend with h | h
        · rw [hx] at h; cases h
        · exact h
      refine wpAny_bind (Z3.next_item (s := { s with heap := h₁ }) (h1.ext e1 iz1) (q1.ext e1 x1) hx fun h₂ n1 hs₂ => wpAny_pure ?_)
      have e2 := hs₂.extBut
      refine wpAny_pure ?_
      refine wpAny_bind (wpAny_bind (wpAny_holding ?_))
      show wpAny _ _ (Builtin.SmallTypes.nextOf (.ref i2) >>= _) _ _ _
      exact wpAny_bind (Z3.next_end (s := { s with heap := h₂ }) hh ((h2.ext e1 iz2).ext e2 ii1.symm) ((q2.ext e1 y1).ext e2 y3) hy fun h₃ e e3 he =>
        hE h₃ e (fun c o c1 c2 c3 c4 x => e3 _ _ c4 (e2 _ _ c3 (e1 _ _ c1 x))) he)
theorem ZS.typeIs (h : ZS s.heap z TI TO) : s.TypeIs (.ref z) "zip" := by
  obtain ⟨v, f, hz, _⟩ := h
  exact ⟨_, hz, rfl⟩
theorem nextOf_item {x y : Value} {Q : Value → Shared → Prop} (D : Ap z TI TO i1 i2 l1 l2)
    (S : ZZ b1 b2 z TI TO i1 i2 l1 l2 k s.heap) (q1 : Sq b1 s.heap l1 xs) (q2 : Sq b2 s.heap l2 ys)
    (hx : xs[k]? = some x) (hy : ys[k]? = some y)
    (hQ : ∀ h', ZZ b1 b2 z TI TO i1 i2 l1 l2 (k + 1) h' → IsTw h' s.heap.objs.size x y → h'.objs.size = s.heap.objs.size + 1 →
      Kp z TO i1 i2 s.heap h' → Q (.ref s.heap.objs.size) { s with heap := h' }) :
    wpAny (model prog w) A (Builtin.SmallTypes.nextOf (.ref z)) Q E s := by
  have hT : s.TypeIs (.ref z) "zip" := S.zs.typeIs
  unfold Builtin.SmallTypes.nextOf
  exact wpAny_bind (wpAny_callSpecial?_slot (name := Str.ofString "__next__") hT F.slot_zip_next
    (wpAny_call_entry F.slot_zip_next hT F.entry_zip_next
      (zip_item D S q1 q2 hx hy fun h' a1 a2 a3 a4 => wpAny_pure (hQ h' a1 a2 a3 a4)) (F.args_zip_next_1 _)))
theorem nextOf_end {Q : Value → Shared → Prop} (hh : A.handled = none) (D : Ap z TI TO i1 i2 l1 l2)
    (S : ZZ b1 b2 z TI TO i1 i2 l1 l2 k s.heap) (q1 : Sq b1 s.heap l1 xs) (q2 : Sq b2 s.heap l2 ys)
    (hend : xs[k]? = none ∨ ys[k]? = none)
    (hE : ∀ h' e, Kp z TO i1 i2 s.heap h' → (∃ o, h'.get? e = some o ∧ o.cls = .type "StopIteration") → E (.ref e) { s with heap := h' }) :
    wpAny (model prog w) A (Builtin.SmallTypes.nextOf (.ref z)) Q E s := by
  have hT : s.TypeIs (.ref z) "zip" := S.zs.typeIs
  unfold Builtin.SmallTypes.nextOf
  exact wpAny_bind (wpAny_callSpecial?_slot (name := Str.ofString "__next__") hT F.slot_zip_next
    (wpAny_call_entry F.slot_zip_next hT F.entry_zip_next (zip_end hh D S q1 q2 hend hE) (F.args_zip_next_1 _)))
variable {e : Addr}
structure Ne (e z TI TO i1 i2 : Addr) : Prop where
  z : e ≠ z
  ti : e ≠ TI
  to : e ≠ TO
  n1 : e ≠ i1
  n2 : e ≠ i2
theorem Ne.all {c : Addr} (N : Ne e z TI TO i1 i2) (h : c ∈ [z, TI, TO, i1, i2]) : c ≠ e := by
  have e' : c = z ∨ c = TI ∨ c = TO ∨ c = i1 ∨ c = i2 := by simpa using h
  rcases e' with q | q | q | q | q <;> rw [q]
  · exact N.z.symm
  · exact N.ti.symm
  · exact N.to.symm
  · exact N.n1.symm
  · exact N.n2.symm
theorem enum_item {x y old : Value} {c : Int} {Q : Value → Shared → Prop} (N : Ne e z TI TO i1 i2) (D : Ap z TI TO i1 i2 l1 l2) (he : IsEnum s.heap e z c old)
    (S : ZZ b1 b2 z TI TO i1 i2 l1 l2 k s.heap) (q1 : Sq b1 s.heap l1 xs) (q2 : Sq b2 s.heap l2 ys)
    (hx : xs[k]? = some x) (hy : ys[k]? = some y)
    (hQ : ∀ h' tk h₁, IsEnumOut h' e z (c + 1) (.ref s.heap.objs.size) (s.heap.objs.size + 1) → ZZ b1 b2 z TI TO i1 i2 l1 l2 (k + 1) h' → IsTw h₁ s.heap.objs.size x y →
      IsTw h' (s.heap.objs.size + 1) (.int c tk) (.ref s.heap.objs.size) → h₁.objs.size = s.heap.objs.size + 1 →
      Kp z TO i1 i2 s.heap h₁ → (∀ b o, b ≠ e → h₁.get? b = some o → h'.get? b = some o) → Q (.ref (s.heap.objs.size + 1)) { s with heap := h', toks := tk + 1 }) :
    wpAny (model prog w) A (Builtin.«enumerate.__next__» ⟨[.ref e], []⟩) (fun fin s' => ∃ v, fin = .done (.ret v) ∧ Q v s') E s := by
  obtain ⟨hp, g, d, tk, os⟩ := s
  show wpAny _ _ (field (.ref e) 2 >>= _) _ _ _
  refine wpAny_bind (wpAny_field he rfl (x := .ref z) rfl ?_)
  refine wpAny_bind (nextOf_item D S q1 q2 hx hy fun h₁ S₁ hT₁ hz₁ hk₁ => ?_)
  replace hk₁ : Kp z TO i1 i2 hp h₁ := hk₁
  replace hz₁ : h₁.objs.size = hp.objs.size + 1 := hz₁
  replace hT₁ : IsTw h₁ hp.objs.size x y := hT₁
  have he₁ : IsEnum h₁ e z c old := hk₁ _ _ N.z N.to N.n1 N.n2 he
  show wpAny _ _ (field (.ref e) 3 >>= _) _ _ ⟨h₁, g, d, tk, os⟩
  refine wpAny_bind (wpAny_field he₁ rfl (x := rawInt c) rfl ?_)
  show wpAny _ _ (field (.ref e) 4 >>= _) _ _ ⟨h₁, g, d, tk, os⟩
  refine wpAny_bind (wpAny_field he₁ rfl (x := .none) rfl ?_)
  show wpAny _ _ (mkInt c >>= _) _ _ ⟨h₁, g, d, tk, os⟩
  refine wpAny_bind (wpAny_mkInt ?_)
  show wpAny _ _ (setField (.ref e) 3 (rawInt (c + 1)) >>= _) _ _ ⟨h₁, g, d, tk + 1, os⟩
  refine wpAny_bind (wpAny_setField_rec he₁ (by simp) fun h₂ he₂ hs₂ => ?_)
  replace hs₂ : Heap.SameBut e h₁ h₂ := hs₂
  replace he₂ : IsEnum h₂ e z (c + 1) old := he₂
  show wpAny _ _ (setField (.ref e) 4 .none >>= _) _ _ ⟨h₂, g, d, tk + 1, os⟩
  refine wpAny_bind (wpAny_setField_rec he₂ (by simp) fun h₃ he₃ hs₃ => ?_)
  replace hs₃ : Heap.SameBut e h₂ h₃ := hs₃
  replace he₃ : IsEnum h₃ e z (c + 1) old := he₃
  show wpAny _ _ (newTuple [.int c tk, .ref hp.objs.size] >>= _) _ _ ⟨h₃, g, d, tk + 1, os⟩
  refine wpAny_bind (wpAny_newTuple ?_)
  have he₄ : IsEnum (h₃.push { cls := .type "tuple", data := .seq #[.int c tk, .ref hp.objs.size] }) e z (c + 1) old := Heap.get?_push_of_some _ he₃
  generalize hh₄ : h₃.push { cls := .type "tuple", data := .seq #[.int c tk, .ref hp.objs.size] } = h₄ at he₄
  have hsz : h₃.objs.size = hp.objs.size + 1 := by rw [hs₃.1, hs₂.1, hz₁]
  have hel : e < hp.objs.size := Heap.lt_size he
  have ht₄ : IsTw h₄ (hp.objs.size + 1) (.int c tk) (.ref hp.objs.size) := by rw [← hh₄, ← hsz]; exact Heap.get?_push_size _ rfl
  have hz₄ : h₄.objs.size = hp.objs.size + 2 := by rw [← hh₄, Heap.size_push, hsz]
  have up₄ : ∀ b o, b ≠ e → h₁.get? b = some o → h₄.get? b = some o := fun b o hbe hb => by
    rw [← hh₄]; exact Heap.get?_push_of_some _ (hs₃.extBut b o hbe (hs₂.extBut b o hbe hb))
  have hn0 : hp.objs.size ≠ e := Nat.ne_of_gt hel
  have hn1 : hp.objs.size + 1 ≠ e := Nat.ne_of_gt (Nat.lt_succ_of_lt hel)
  have S₄ : ZZ b1 b2 z TI TO i1 i2 l1 l2 (k + 1) h₄ := S₁.at fun b hb o q => up₄ b o (N.all hb) q
  have hT₄ : IsTw h₄ hp.objs.size x y := up₄ _ _ hn0 hT₁
  show wpAny _ _ (Builtin.SmallTypes.ownedTupleIsFree (.ref e) >>= _) _ _ ⟨h₄, g, d, tk + 1, os⟩
  rw [hsz]
  clear hh₄ he₃ hs₃ he₂ hs₂ he₁ hsz h₃ h₂
  refine wpAny_bind ?_
  unfold Builtin.SmallTypes.ownedTupleIsFree
  refine wpAny_bind (wpAny_field he₄ rfl (x := .none) rfl (wpAny_pure ?_))
  simp only [if_true]
  refine wpAny_bind (wpAny_rule ?_)
  refine wpAny_bind (wpAny_field he₄ rfl (x := old) rfl ?_)
  refine wpAny_bind (wpAny_setField_rec he₄ (by simp) fun h₅ he₅ hs₅ => ?_)
  replace hs₅ : Heap.SameBut e h₄ h₅ := hs₅
  replace he₅ : IsEnum h₅ e z (c + 1) (.ref hp.objs.size) := he₅
  show wpAny _ _ (Builtin.SmallTypes.ownedTupleHandOut (.ref e) (.ref (hp.objs.size + 1)) >>= _) _ _ ⟨h₅, g, d, tk + 1, os⟩
  refine wpAny_bind ?_
  unfold Builtin.SmallTypes.ownedTupleHandOut
  refine wpAny_bind (wpAny_setField_rec he₅ (by simp) fun h₆ he₆ hs₆ => ?_)
  replace hs₆ : Heap.SameBut e h₅ h₆ := hs₆
  replace he₆ : IsEnumOut h₆ e z (c + 1) (.ref hp.objs.size) (hp.objs.size + 1) := he₆
  refine wpAny_setField_rec he₆ (by simp) fun h₇ he₇ hs₇ => ?_
  replace hs₇ : Heap.SameBut e h₆ h₇ := hs₇
  replace he₇ : IsEnumOut h₇ e z (c + 1) (.ref hp.objs.size) (hp.objs.size + 1) := he₇
  have up₇ : ∀ b o, b ≠ e → h₄.get? b = some o → h₇.get? b = some o := fun b o hbe hb => hs₇.extBut b o hbe (hs₆.extBut b o hbe (hs₅.extBut b o hbe hb))
  refine wpAny_bind (wpAny_letGo (wpAny_pure ⟨_, rfl, hQ h₇ tk h₁ he₇ (S₄.at fun b hb o q => up₇ b o (N.all hb) q) hT₁ (up₇ _ _ hn1 ht₄) hz₁ hk₁ fun b o hbe hb => up₇ b o hbe (up₄ b o hbe hb)⟩))
theorem pyNext_item {x y old : Value} {c : Int} {Q : Option Value → Shared → Prop} (N : Ne e z TI TO i1 i2) (D : Ap z TI TO i1 i2 l1 l2) (he : IsEnum s.heap e z c old)
    (S : ZZ b1 b2 z TI TO i1 i2 l1 l2 k s.heap) (q1 : Sq b1 s.heap l1 xs) (q2 : Sq b2 s.heap l2 ys)
    (hx : xs[k]? = some x) (hy : ys[k]? = some y)
    (hQ : ∀ h' tk h₁, IsEnumOut h' e z (c + 1) (.ref s.heap.objs.size) (s.heap.objs.size + 1) → ZZ b1 b2 z TI TO i1 i2 l1 l2 (k + 1) h' → IsTw h₁ s.heap.objs.size x y →
      IsTw h' (s.heap.objs.size + 1) (.int c tk) (.ref s.heap.objs.size) → h₁.objs.size = s.heap.objs.size + 1 →
      Kp z TO i1 i2 s.heap h₁ → (∀ b o, b ≠ e → h₁.get? b = some o → h'.get? b = some o) → Q (some (.ref (s.heap.objs.size + 1))) { s with heap := h', toks := tk + 1 }) :
    wpAny (model prog w) A (pyNext (.ref e)) Q E s := by
  have hT : s.TypeIs (.ref e) "enumerate" := ⟨_, he, rfl⟩
  unfold pyNext
  exact wpAny_bind (wpAny_attempt (wpAny_callSpecial?_slot (name := Str.ofString "__next__") hT F.slot_enumerate_next
    (wpAny_call_entry F.slot_enumerate_next hT F.entry_enumerate_next
      (enum_item N D he S q1 q2 hx hy fun h' tk h₁ a1 a2 a3 a4 a5 a6 a7 => wpAny_pure (hQ h' tk h₁ a1 a2 a3 a4 a5 a6 a7)) (F.args_enumerate_next_1 _))))
theorem pyNext_end {old : Value} {c : Int} {Q : Option Value → Shared → Prop} (hh : A.handled = none) (D : Ap z TI TO i1 i2 l1 l2) (he : IsEnum s.heap e z c old)
    (S : ZZ b1 b2 z TI TO i1 i2 l1 l2 k s.heap) (q1 : Sq b1 s.heap l1 xs) (q2 : Sq b2 s.heap l2 ys)
    (hend : xs[k]? = none ∨ ys[k]? = none)
    (hQ : ∀ h', Kp z TO i1 i2 s.heap h' → Q none { s with heap := h' }) : wpAny (model prog w) A (pyNext (.ref e)) Q E s := by
  have hT : s.TypeIs (.ref e) "enumerate" := ⟨_, he, rfl⟩
  unfold pyNext
  refine wpAny_bind (wpAny_attempt (wpAny_callSpecial?_slot (name := Str.ofString "__next__") hT F.slot_enumerate_next
    (wpAny_call_entry F.slot_enumerate_next hT F.entry_enumerate_next ?_ (F.args_enumerate_next_1 _))))
  show wpAny _ _ (field (.ref e) 2 >>= _) _ _ _
  refine wpAny_bind (wpAny_field he rfl (x := .ref z) rfl ?_)
  refine wpAny_bind (nextOf_end hh D S q1 q2 hend fun h' x hk hx' => ?_)
  obtain ⟨o, ho, hc⟩ := hx'
  refine wpAny_bind (wpAny_isInstance (T := "StopIteration") (b := true) ⟨o, ho, hc⟩ isSubtype_stop ?_)
  exact wpAny_pure (hQ _ hk)
end
end L2.Jk.EZ
namespace L2.Jk.EZ
open PySem PySem.W PySem.Spec PySem.Calls PyProof.Rows L2 L2.Jk
open L2.Jk.Z3 (Sq SqB inv_seq inv_inj seqT_same)
open L2.Jk.Z2 (IsTw Ap Kp ap_new call_zip2)
theorem meets_enumerate_newZ (z TI TO : Addr) :
    Meets (Builtin.«enumerate.__new__» ⟨[.type "enumerate", .ref z], []⟩) (fun _ R s => IsZip s.heap z TI TO .none ∧
      R (.ok (.ret (.ref s.heap.objs.size)))
        { s with heap := s.heap.push { cls := .type "enumerate", data := .fields #[.none, .bool false, .ref z, rawInt 0, .none, .none] } }) :=
  .of_wp fun prog w A R s h => by
    obtain ⟨hp, g, d, tk, os⟩ := s; obtain ⟨hl, h⟩ := h
    have hsub := sub_enumerate
    have hL : IsZip (Shared.heap ⟨hp, g, d, tk, os⟩) z TI TO .none := hl
    wp_walk using wpAny_pyIter_zip hL
    refine wpAny_stack_any fun st => wpAny_pure ?_
    split
    · rename_i c _ _ _ _ _
      cases (c == Value.type "enumerate")
      · wp_walk using wpAny_pyIter_zip hL
        exact ⟨_, rfl, h⟩
      · wp_walk using wpAny_pyIter_zip hL
        exact ⟨_, rfl, h⟩
    · wp_walk using wpAny_pyIter_zip hL
      exact ⟨_, rfl, h⟩
section
variable {prog : Program} {w : World} {A : Around} {E : Value → Shared → Prop} {s : Shared}
theorem call_enumerate_zip {z TI TO : Addr} {Q : Value → Shared → Prop} (hL : IsZip s.heap z TI TO .none)
    (h : ∀ h', IsEnum h' s.heap.objs.size z 0 .none → h'.objs.size = s.heap.objs.size + 1 →
      (∀ b o, s.heap.get? b = some o → h'.get? b = some o) → Q (.ref s.heap.objs.size) { s with heap := h' }) :
    wpAny (model prog w) A (call (.type "enumerate") [.ref z]) Q E s := by
  refine callType_new PySem.F.called_enumerate (by decide) (PySem.F.typeCall_enumerate_1 _) (PySem.F.newCall_enumerate_1 _) (fun obj => PySem.F.args_object_init_2 obj _) PySem.F.entry_enumerate_new
    (meets_enumerate_newZ z TI TO) ⟨hL, ?_⟩
  have he : IsEnum (s.heap.push { cls := .type "enumerate", data := .fields #[.none, .bool false, .ref z, rawInt 0, .none, .none] }) s.heap.objs.size z 0 .none :=
    Heap.get?_push_size s.heap (o := { cls := .type "enumerate", data := .fields #[.none, .bool false, .ref z, rawInt 0, .none, .none] }) rfl
  exact ⟨⟨_, he, rfl⟩, h _ he (by rw [Heap.size_push]) fun b o x => Heap.get?_push_of_some _ x⟩
end
/-- the two at a1, a2: each pair of items in a new pair with its number -/
def ItEZ (K : Frag) (b1 b2 : Bool) (a1 a2 : Addr) : L2.It :=
  ⟨fun i H => ∃ (xs ys : List V) (x y : V), SqB b1 K H a1 xs ∧ SqB b2 K H a2 ys ∧ xs[i]? = some x ∧ ys[i]? = some y,
    fun i H v H' => ∃ T T1 x y, v = .ref T ∧ H T1 = none ∧ T ≠ T1 ∧ H T = none ∧ H' = upd (upd H T1 (.tup [x, y])) T (.tup [.int (i : Nat), .ref T1]) ∧ (∀ xs, SqB b1 K H a1 xs → xs[i]? = some x) ∧ (∀ ys, SqB b2 K H a2 ys → ys[i]? = some y),
    fun i H => ∃ xs ys : List V, SqB b1 K H a1 xs ∧ SqB b2 K H a2 ys ∧ (xs.length ≤ i ∨ ys.length ≤ i)⟩
theorem turn_enumZ {P : Program} {w : World} {K : Frag} {elts : List Expr} {kk : Nat} {tpos : Pos} {b1 b2 : Bool} {a1 a2 e z TI TO i1 i2 : Addr} (N : Ne e z TI TO i1 i2) (D : Ap z TI TO i1 i2 a1 a2) :
    Turn P w K (.Tuple elts kk tpos) (ItEZ K b1 b2 a1 a2) [e, z, TI, TO, i1, i2] e (fun i h => (∃ old, IsEnum h e z ((i : Nat) : Int) old) ∧ ZZ b1 b2 z TI TO i1 i2 a1 a2 i h) where
  mem := by simp
  obj := fun i h st c hc => by
    obtain ⟨⟨old, he⟩, ⟨v, f, hz, _⟩, hTI, ⟨x, y, hTO⟩, h1, h2⟩ := st
    have e' : c = e ∨ c = z ∨ c = TI ∨ c = TO ∨ c = i1 ∨ c = i2 := by simpa using hc
    rcases e' with q | q | q | q | q | q
    · rw [q]; exact ⟨_, he, fun v q => nomatch q⟩
    · rw [q]; exact ⟨_, hz, fun v q => nomatch q⟩
    · rw [q]; exact ⟨_, hTI, fun v q => nomatch q⟩
    · rw [q]; exact ⟨_, hTO, fun v q => nomatch q⟩
    · rw [q]; exact h1.obj
    · rw [q]; exact h2.obj
  keep := fun i h h' st k => by
    obtain ⟨⟨old, he⟩, S⟩ := st
    exact ⟨⟨old, k e (by simp) _ he⟩, S.at fun c hc o q => k c (List.mem_cons_of_mem _ hc) o q⟩
  item := by
    intro X hP hw hK hc i pins s σ H E I hf st hg
    subst hP hw hK
    obtain ⟨⟨old, he⟩, S⟩ := st
    obtain ⟨xs, ys, x, y, hqx, hqy, hx, hy⟩ := hg
    obtain ⟨its, rv, p⟩ := inv_seq I hqx
    obtain ⟨its2, rv2, p2⟩ := inv_seq I hqy
    obtain ⟨v1, hv1, r1⟩ := rv.get hx
    obtain ⟨v2, hv2, r2⟩ := rv2.get hy
    have hel : e < s.heap.objs.size := Heap.lt_size he
    refine pyNext_item N D he S p p2 (x := v1) (y := v2) (by simpa using hv1) (by simpa using hv2) fun h' tk h₁ e' S' hT1 hT2 hsz hk hk2 => ?_
    refine ⟨_, rfl, wpAny_letOwnedTupleGo_enum (s := { s with heap := h', toks := tk + 1 }) e' fun h'' e'' sb => ?_⟩
    have n1 : s.heap.objs.size + 1 ≠ e := Nat.ne_of_gt (Nat.lt_succ_of_lt hel)
    have hT2' : h''.get? (s.heap.objs.size + 1) = some { cls := .type "tuple", data := .seq #[.int i tk, .ref s.heap.objs.size] } := (sb.2 _ n1).trans hT2
    have f0 : H s.heap.objs.size = none := I.hok.fresh (Nat.le_refl _)
    have f1 : H (s.heap.objs.size + 1) = none := I.hok.fresh (Nat.le_succ _)
    have new1 : ObjOk X.prog X.w (upd H s.heap.objs.size (.tup [x, y])) h₁ s.heap.objs.size (.tup [x, y]) :=
      ⟨by show 2 ≤ sizeLine; decide, [v1, v2], .cons r1 (.cons r2 .nil), ⟨_, hT1, rfl, _, rfl⟩⟩
    have I1 : Inv X pins σ (upd H s.heap.objs.size (.tup [x, y])) { s with heap := h₁, toks := tk } :=
      I.turnedNew (t' := tk) (ch := [z, TI, TO, i1, i2]) (fun c o hb q => hk c o (fun q' => hb (by simp [q'])) (fun q' => hb (by simp [q'])) (fun q' => hb (by simp [q'])) (fun q' => hb (by simp [q'])) q)
        (fun b hb => hf b (List.mem_cons_of_mem _ hb)) (Nat.le_refl _) new1
    have new2 : ObjOk X.prog X.w (upd (upd H s.heap.objs.size (.tup [x, y])) (s.heap.objs.size + 1) (.tup [.int (i : Nat), .ref s.heap.objs.size])) h'' (s.heap.objs.size + 1) (.tup [.int (i : Nat), .ref s.heap.objs.size]) :=
      ⟨by show 2 ≤ sizeLine; decide, [.int i tk, .ref s.heap.objs.size], .cons ⟨_, rfl⟩ (.cons rfl .nil), ⟨_, hT2', rfl, _, rfl⟩⟩
    have I2 : Inv X pins σ (upd (upd H s.heap.objs.size (.tup [x, y])) (s.heap.objs.size + 1) (.tup [.int (i : Nat), .ref s.heap.objs.size])) { s with heap := h'', toks := tk + 1 } :=
      I1.turnedNew (t' := tk + 1) (ch := [e]) (fun c o hb q => (sb.2 c (fun q' => hb (by simp [q']))).trans (hk2 c o (fun q' => hb (by simp [q'])) q))
        (fun b hb => by
          have eb : b = e := List.mem_singleton.mp hb
          subst eb
          exact ⟨by rw [upd_ne (Nat.ne_of_lt hel)]; exact (hf b (by simp)).1, (hf b (by simp)).2⟩) (by show h₁.objs.size ≤ _; rw [hsz]; exact Nat.le_refl _) new2
    refine ⟨.ref (s.heap.objs.size + 1), _, I2, rfl, ⟨_, s.heap.objs.size, x, y, rfl, f0, Nat.succ_ne_self _, f1, rfl, fun l hl => by rw [inv_inj I hl hqx]; exact hx, fun l hl => by rw [inv_inj I hl hqy]; exact hy⟩, ⟨⟨.ref s.heap.objs.size, ?_⟩, ?_⟩, fun c hcm => ?_⟩
    · have e1 : ((i + 1 : Nat) : Int) = (i : Int) + 1 := by omega
      rw [e1]; exact e''
    · exact S'.at fun c hc o q => (sb.2 c (N.all hc)).trans q
    · have hlt : c < s.heap.objs.size := by
        have hobj : ∃ o, s.heap.get? c = some o := by
          obtain ⟨⟨v, f, hz, _⟩, hTI, ⟨x, y, hTO⟩, h1, h2⟩ := S
          have e' : c = e ∨ c = z ∨ c = TI ∨ c = TO ∨ c = i1 ∨ c = i2 := by simpa using hcm
          rcases e' with q | q | q | q | q | q
          · rw [q]; exact ⟨_, he⟩
          · rw [q]; exact ⟨_, hz⟩
          · rw [q]; exact ⟨_, hTI⟩
          · rw [q]; exact ⟨_, hTO⟩
          · rw [q]; obtain ⟨o, ho, _⟩ := h1.obj; exact ⟨o, ho⟩
          · rw [q]; obtain ⟨o, ho, _⟩ := h2.obj; exact ⟨o, ho⟩
        obtain ⟨o, ho⟩ := hobj
        exact Heap.lt_size ho
      rw [upd_ne (Nat.ne_of_lt (Nat.lt_succ_of_lt hlt)), upd_ne (Nat.ne_of_lt hlt)]
      exact (hf c hcm).1
  done := by
    intro X hP hw hK hc i pins s σ H E I hf st hg
    subst hP hw hK
    obtain ⟨⟨old, he⟩, S⟩ := st
    obtain ⟨xs, ys, hqx, hqy, hend⟩ := hg
    obtain ⟨its, rv, p⟩ := inv_seq I hqx
    obtain ⟨its2, rv2, p2⟩ := inv_seq I hqy
    have l1 := rv.length
    have l2 := rv2.length
    have hn : its.toArray[i]? = none ∨ its2.toArray[i]? = none := by
      rcases hend with q | q
      · exact .inl (by simp; omega)
      · exact .inr (by simp; omega)
    exact pyNext_end (I.ok.hd hc) D he S p p2 hn fun h' hk => ⟨rfl, I.turnedL (t' := s.toks) (ch := [e, z, TI, TO, i1, i2]) (fun c o hb q =>
      hk c o (fun q' => hb (by simp [q'])) (fun q' => hb (by simp [q'])) (fun q' => hb (by simp [q'])) (fun q' => hb (by simp [q'])) q) hf⟩
  self := fun A i s Q E st h => let ⟨⟨_, he⟩, _⟩ := st; wpAny_pyIter_enum he h
def iEnumZ (K : Frag) (ta : TA) : TI := fun σ H R => ta σ H fun vs H1 => ∃ a1 a2 b1 b2 xs ys, vs = [.ref a1, .ref a2] ∧ SqB b1 K H1 a1 xs ∧ SqB b2 K H1 a2 ys ∧ R (ItEZ K b1 b2 a1 a2) H1
theorem ne_new (I : Nat) : Ne (I + 5) (I + 4) (I + 2) (I + 3) I (I + 1) := by
  have ne : ∀ {a b : Nat}, (a < b ∨ b < a) → a ≠ b := fun h e => by omega
  exact ⟨ne (by omega), ne (by omega), ne (by omega), ne (by omega), ne (by omega)⟩
theorem pi_enumZ {X : Cx} {e e2 : Expr} {ta : TA} {p pos p2 pos2 tpos : Pos} {elts : List Expr} {kk : Nat} (hg : Gl X "enumerate") (hm : X.mg "enumerate" = none) (hg2 : Gl X "zip") (hm2 : X.mg "zip" = none) (ha : PA X [e, e2] ta)
    (hs : starEach [e, e2] X.env = (false, eval e X.env) :: starEach [e2] X.env := by rfl) (hpl : (backTo pos2 (starEach [e2] X.env)).any (·.1) = false := by rfl)
    (hs2 : starEach [.Call (.Name "zip" p2) [e, e2] [] pos2] X.env = [(false, eval (.Call (.Name "zip" p2) [e, e2] [] pos2) X.env)] := by rfl) :
    PI X (.Tuple elts kk tpos) (.Call (.Name "enumerate" p) [.Call (.Name "zip" p2) [e, e2] [] pos2] [] pos) (iEnumZ X.K ta) := by
  refine ⟨fun pins s σ H R I h => ?_⟩
  refine Call_ (ld_blt I hg hm boot_enumerate (PyProof.Rows.callWith_type1 ?_ hs2 rfl))
  rw [hs2]
  refine Calls.spliced_cons ?_
  refine Call_ (ld_blt I hg2 hm2 PyProof.Rows.boot_zip (PyProof.Rows.callWith_type1 (thn (ha.run pos2 pins s σ H _ I h) fun us s1 ⟨vs, H1, I1, r1, q1⟩ => ?_) hs hpl))
  obtain ⟨a1, a2, b1, b2, xs, ys, ex, hqx, hqy, q⟩ := q1
  subst ex
  cases r1 with
  | cons r rr =>
    cases rr with
    | cons r' rr =>
      cases rr
      cases r
      cases r'
      obtain ⟨its, rv, p1⟩ := inv_seq I1 hqx
      obtain ⟨its2, rv2, p2⟩ := inv_seq I1 hqy
      refine call_zip2 p1 p2 fun h' hz hTI hTO h1 h2 hsz hk => Calls.spliced_nil (call_enumerate_zip (s := { s1 with heap := h' }) hz fun h'' he hsz2 hk2 => wpAny_pyIter_enum he ?_)
      have I2 : Inv X pins σ H1 { s1 with heap := h'' } := I1.kept (t' := s1.toks) fun b o e => hk2 b o (hk b o e)
      rw [show ({ s1 with heap := h' } : Shared).heap.objs.size = s1.heap.objs.size + 5 from hsz] at he ⊢
      have fresh6 : ∀ c, c ∈ [s1.heap.objs.size + 5, s1.heap.objs.size + 4, s1.heap.objs.size + 2, s1.heap.objs.size + 3, s1.heap.objs.size, s1.heap.objs.size + 1] → FpOk X pins H1 c := fun c hcm => by
        have e' : c = s1.heap.objs.size + 5 ∨ c = s1.heap.objs.size + 4 ∨ c = s1.heap.objs.size + 2 ∨ c = s1.heap.objs.size + 3 ∨ c = s1.heap.objs.size ∨ c = s1.heap.objs.size + 1 := by simpa using hcm
        have hle : s1.heap.objs.size ≤ c := by
          rcases e' with z | z | z | z | z | z
          · rw [z]; exact Nat.le_add_right _ _
          · rw [z]; exact Nat.le_add_right _ _
          · rw [z]; exact Nat.le_add_right _ _
          · rw [z]; exact Nat.le_add_right _ _
          · rw [z]; exact Nat.le_refl _
          · rw [z]; exact Nat.le_add_right _ _
        exact I1.fpOk hle (I1.hok.fresh hle)
      exact ⟨s1.heap.objs.size + 5, [s1.heap.objs.size + 5, s1.heap.objs.size + 4, s1.heap.objs.size + 2, s1.heap.objs.size + 3, s1.heap.objs.size, s1.heap.objs.size + 1], _, _, H1, rfl, I2,
        turn_enumZ (ne_new s1.heap.objs.size) (ap_new s1.heap.objs.size a1 a2 p1.lt p2.lt), ⟨⟨.none, he⟩, ⟨⟨.none, false, hk2 _ _ hz, .inl rfl⟩, hk2 _ _ hTI, ⟨_, _, hk2 _ _ hTO⟩, h1.at fun o e => hk2 _ _ e, h2.at fun o e => hk2 _ _ e⟩⟩, fresh6, q⟩
/-- a number and a pair, both new -/
def YEnumZ (xs ys : Nat → Option V) : Nat → Hp → V → Hp → Prop := fun i H v H' => ∃ T T1 x y, v = .ref T ∧ H T1 = none ∧ T ≠ T1 ∧ H T = none ∧ H' = upd (upd H T1 (.tup [x, y])) T (.tup [.int (i : Nat), .ref T1]) ∧ xs i = some x ∧ ys i = some y
theorem walk_enumZ {K : Frag} {b1 b2 : Bool} {a1 a2 : Addr} {xs ys : List V} {n : Nat} (hx : n ≤ xs.length) (hy : n ≤ ys.length) (hn : xs.length ≤ n ∨ ys.length ≤ n) :
    Walk (ItEZ K b1 b2 a1 a2) n (fun H => SqB b1 K H a1 xs ∧ SqB b2 K H a2 ys) (YEnumZ (fun i => xs[i]?) (fun i => ys[i]?)) := by
  refine ⟨fun i _ hi q => ?_, fun _ q => ⟨xs, ys, q.1, q.2, hn⟩, fun i H v H' _ q y => ?_⟩
  · exact ⟨xs, ys, _, _, q.1, q.2, List.getElem?_eq_getElem (by omega), List.getElem?_eq_getElem (by omega)⟩
  · obtain ⟨T, T1, x, z, h1, h2, h3, h4, h5, h6, h7⟩ := y
    exact ⟨T, T1, x, z, h1, h2, h3, h4, h5, h6 xs q.1, h7 ys q.2⟩
end L2.Jk.EZ

set_option Elab.async false
set_option linter.all false
set_option maxRecDepth 100000
set_option maxHeartbeats 4000000
/-! The law: the first place that does not fit. -/
namespace L2.K77
open PySem PySem.W PySem.Spec PySem.Calls PyProof.Rows L2.Jk
theorem due_at {ds : List FD} {xs : List V} {i : Nat} (hi : i < max xs.length ds.length) (h1 : badAt ds xs i = true) (h2 : ∀ j, j < i → badAt ds xs j = false) : rowDue ds (some xs) = some (i : Int) := by
  show ((List.range (max xs.length ds.length)).find? (badAt ds xs)).map _ = _
  rw [find_at hi h1 h2]
  rfl
theorem due_fit {ds : List FD} {xs : List V} (h : xs.length = ds.length) (h2 : ∀ j, j < xs.length → badAt ds xs j = false) : rowDue ds (some xs) = none := by
  show ((List.range (max xs.length ds.length)).find? (badAt ds xs)).map _ = _
  have e : (List.range (max xs.length ds.length)).find? (badAt ds xs) = none := by
    rw [List.find?_eq_none]
    intro j hj
    have := List.mem_range.mp hj
    rw [h2 j (by omega)]
    exact Bool.false_ne_true
  rw [e]
  rfl
theorem seqT_sm {K : Frag} {H H' : Hp} {a : Addr} {xs : List V} (S : Same H H') (h : SqT K H a xs) : SqT K H' a xs := Z3.seqT_same S h
structure GMis (P : Program) (w : World) (K : Frag) (mg : Str → Option Value) (base : Heap) : Prop extends GL P w K mg base where
  law_has : FnAt P w K mg base CX0 4 "_law_has" ["_law_spec", "_law_value"] spHas
  enumerate : mg "enumerate" = none
  min : mg "min" = none
section
variable {P : Program} {w : World} {K : Frag} {mg : Str → Option Value} {base : Heap} {f : Addr} {fd : FuncData}

abbrev s_mis : Stmt := top 59
theorem sc_mis : FnScope ["_law_specs", "_law_row", "_law_k", "_law_spec", "_law_value"] ["_law_specs", "_law_row"] (defScope s_mis) := ⟨rfl, rfl, rfl, by decide +kernel, rfl, by decide +kernel, by decide +kernel⟩

theorem ok_mis (F : FunD K "_law_misfit" "_law_misfit" (defArgs s_mis) (defBody s_mis) (defScope s_mis) [] [] f fd) (G : GMis P w K mg base) : FnOk P w K mg base CX0 5 f fd ["_law_specs", "_law_row"] (spMis K) := by
  refine F.ok (CX := CX0) sc_mis (fun vs H Q E h => ?_) (fun cdv A outer s H vs Q E hr h => ?_)
  · obtain ⟨_, _, _, _, _, _, rfl, _⟩ := h
    rfl
  · refine ⟨_, PSs.nox (pss_cons (ps_for PassesOwn.never rfl (EZ.pi_enumZ (by rfl) G.enumerate (by rfl) G.zip (pa_cons (pv 0) (pa_cons (pv 1) pa_nil))) (pg_tup rfl (pgs_cons (pg_name (i := 2) sc_mis.nd rfl (Or.inl rfl)) (pgs_cons (pg_tup rfl (pgs_cons (pg_name (i := 3) sc_mis.nd rfl (Or.inl rfl)) (pgs_cons (pg_name (i := 4) sc_mis.nd rfl (Or.inl rfl)) pgs_nil))) pgs_nil)))
      (pss_one (ps_if (pt_not (pt_val (pe_fn G.law_has (hr.mono (by decide)) pass0 (by rfl) (pa_cons (pv 3) (pa_cons (pv 4) pa_nil)))))
        (pss_one (ps_ret (pv 2)))
        pss_nil)))
    (pss_one (ps_ret (pe_ifExp (pt_cmpR op_eq (pe_callB call_len_seq (by rfl) G.len (by decide +kernel) (pa_cons (pv 1) pa_nil)) (pe_callB call_len_seq (by rfl) G.len (by decide +kernel) (pa_cons (pv 0) pa_nil)) (nomark _)) pe_non (pe_callB (call_min2 rfl) (by rfl) G.min (by decide +kernel) (pa_cons (pe_callB call_len_seq (by rfl) G.len (by decide +kernel) (pa_cons (pv 1) pa_nil)) (pa_cons (pe_callB call_len_seq (by rfl) G.len (by decide +kernel) (pa_cons (pv 0) pa_nil)) pa_nil))))))), ?_⟩
    obtain ⟨s0, ps, r, vsp, ds, xs, rfl, hps, hS, hD, hr2, hSm, hx10, hd10, q⟩ := h
    have dl : vsp.length = ds.length := hS.1
    refine ⟨_, rfl, _, rfl, ps, r, true, false, vsp, xs, rfl, SqL.of hps, hr2, ?_⟩
    refine for_it (EZ.walk_enumZ (n := min vsp.length xs.length) (Nat.min_le_left _ _) (Nat.min_le_right _ _) (by omega)) (fun k σ J => ∃ v2 v3 v4, σ = [some (.ref ps), some (.ref r), v2, v3, v4] ∧ Same H J ∧ ∀ j, j < k → badAt ds xs j = false)
      ⟨_, _, _, rfl, Same.refl _, fun j z => absurd z (Nat.not_lt_zero _)⟩ (fun k σ J _ ⟨_, _, _, _, S, _⟩ => ⟨SqL.of (S _ _ hps), seqT_sm S hr2⟩) ?_ ?_
    · rintro k x σ J J' hk ⟨v2, v3, v4, rfl, S, hgd⟩ ⟨T, T1, sp, v, rfl, hT1, nT, hT, rfl, hsp, hv⟩
      have hsp : vsp[k]? = some sp := hsp
      have hv : xs[k]? = some v := hv
      have S1 : Same J (upd J T1 (.tup [sp, v])) := same_upd hT1
      have e1 : upd J T1 (.tup [sp, v]) T1 = some (.tup [sp, v]) := upd_same
      have hTn : upd J T1 (.tup [sp, v]) T = none := by rw [upd_ne nT]; exact hT
      generalize upd J T1 (.tup [sp, v]) = J1 at S1 e1 hTn ⊢
      have S2 : Same J1 (upd J1 T (.tup [.int (k : Nat), .ref T1])) := same_upd hTn
      have e2 : upd J1 T (.tup [.int (k : Nat), .ref T1]) T = some (.tup [.int (k : Nat), .ref T1]) := upd_same
      generalize upd J1 T (.tup [.int (k : Nat), .ref T1]) = J2 at S2 e2 ⊢
      have S02 := (S.trans S1).trans S2
      obtain ⟨d, hd, hF⟩ := hS.get hsp
      have hdD := hD d (List.mem_of_getElem? hd)
      have hvS := hSm v (List.mem_of_getElem? hv)
      refine ⟨T, _, rfl, SqT.of e2, rfl, _, _, rfl, _, _, rfl, T1, _, rfl, SqT.of (S2 _ _ e1), rfl, _, _, rfl, _, _, rfl, rfl, rfl, ?_⟩
      refine ⟨_, rfl, _, rfl, s0, sp, v, d, rfl, hF.same S02, hdD, hvS, fun J3 S3 => ⟨_, rfl, ?_⟩⟩
      have hbad : badAt ds xs k = !d.hasV v := by
        unfold badAt
        rw [hd, hv]
      have S03 := S02.trans S3
      cases hh : d.hasV v with
      | true =>
        refine iteF ⟨_, _, _, rfl, S03, fun j hj => ?_⟩
        rcases Nat.lt_succ_iff_lt_or_eq.mp hj with z | z
        · exact hgd j z
        · rw [z, hbad, hh]; rfl
      | false =>
        refine iteT ⟨_, rfl, ?_⟩
        have z := q J3 S03
        rw [due_at (i := k) (by omega) (by rw [hbad, hh]; rfl) hgd] at z
        exact z
    · rintro σ J ⟨v2, v3, v4, rfl, S, hgd⟩
      refine ⟨_, rfl, r, _, rfl, .inr (seqT_sm S hr2), _, rfl, ps, _, rfl, .inl (SqL.of (S _ _ hps)), rfl, _, rfl, ?_⟩
      refine ite2 (fun c => ?_) (fun c => ?_)
      · have e := of_decide_eq_true c
        have e : xs.length = vsp.length := by have z := V.int.inj e; omega
        have z := q J S
        rw [due_fit (e.trans dl) (fun j hj => hgd j (by omega))] at z
        exact z
      · have hne : xs.length ≠ vsp.length := fun e => c (decide_eq_true (by rw [e]))
        refine ⟨_, rfl, r, _, rfl, .inr (seqT_sm S hr2), _, rfl, ps, _, rfl, .inl (SqL.of (S _ _ hps)), _, _, rfl, ?_⟩
        have z := q J S
        rw [due_at (i := min vsp.length xs.length) (by omega) (by
          unfold badAt
          rcases Nat.lt_or_gt_of_ne hne with w | w
          · have a : xs[min vsp.length xs.length]? = none := List.getElem?_eq_none_iff.mpr (by omega)
            rw [a]
            cases ds[min vsp.length xs.length]? <;> rfl
          · have a : ds[min vsp.length xs.length]? = none := List.getElem?_eq_none_iff.mpr (by omega)
            rw [a]) hgd] at z
        have e : (if (vsp.length : Int) < (xs.length : Int) then (vsp.length : Int) else (xs.length : Int)) = ((min vsp.length xs.length : Nat) : Int) := by
          split <;> omega
        show Q (.int (if (vsp.length : Int) < (xs.length : Int) then (vsp.length : Int) else (xs.length : Int))) J
        rw [e]
        exact z

end
end L2.K77

set_option Elab.async false
set_option linter.all false
set_option maxRecDepth 100000
set_option maxHeartbeats 4000000
/-! The law: what a store says when it is moved, as data; fields away from what changes. -/
namespace L2.K77
open PySem PySem.W PySem.Spec PySem.Calls PyProof.Rows L2.Jk
/-! ### the law's fields, away from all that changes -/
theorem pd_away {s : Addr} {b c : Addr} (e : V.ref b = V.ref c) (n : c ≠ b) : False := by
  injection e with e
  exact n e.symm
theorem PDAt.frm {M : Addr → Prop} {H H' : Hp} {v : V} {d : PD} (h : ∀ s, M s → PDAt s H v d) (F : ∀ b o, ¬ M b → H b = some o → H' b = some o) {s : Addr} (hs : M s) : PDAt s H' v d := by
  cases d with
  | word x l m =>
    obtain ⟨b, rfl, n, hb⟩ := h s hs
    exact ⟨b, rfl, n, F _ _ (fun z => by obtain ⟨c, e, n', _⟩ := h b z; injection e with e; exact n' e.symm) hb⟩
  | number l m =>
    obtain ⟨b, rfl, n, hb⟩ := h s hs
    exact ⟨b, rfl, n, F _ _ (fun z => by obtain ⟨c, e, n', _⟩ := h b z; injection e with e; exact n' e.symm) hb⟩
  | fixed u =>
    obtain ⟨b, rfl, n, hb⟩ := h s hs
    exact ⟨b, rfl, n, F _ _ (fun z => by obtain ⟨c, e, n', _⟩ := h b z; injection e with e; exact n' e.symm) hb⟩
  | ended x e l m =>
    obtain ⟨b, rfl, n, hb⟩ := h s hs
    exact ⟨b, rfl, n, F _ _ (fun z => by obtain ⟨c, e, n', _⟩ := h b z; injection e with e; exact n' e.symm) hb⟩
  | listed x =>
    obtain ⟨b, u, rfl, n, hb, hl, hk⟩ := h s hs
    have nb : ¬ M b := fun z => by obtain ⟨c, _, e, n', _⟩ := h b z; injection e with e; exact n' e.symm
    have nc : ∀ c, u = .ref c → ¬ M c := fun c hc z => by
      obtain ⟨b', u', e, _, hb', _, hk'⟩ := h c z
      injection e with e
      rw [← e, hb] at hb'
      injection hb' with hb'
      injection hb' with hb'
      injection hb' with _ hb'
      injection hb' with hb'
      exact hk' c (hb' ▸ hc) rfl
    refine ⟨b, u, rfl, n, F _ _ nb hb, ?_, hk⟩
    cases x with
    | lst xs =>
      obtain ⟨c, rfl, hc⟩ := hl
      exact ⟨c, rfl, F _ _ (nc c rfl) hc⟩
    | tup xs =>
      obtain ⟨c, rfl, o, k1, k2, hc⟩ := hl
      exact ⟨c, rfl, o, k1, k2, F _ _ (nc c rfl) hc⟩
    | val w => exact hl
theorem FIn.frm {M : Addr → Prop} {H H' : Hp} {v : V} {d : FD} (h : ∀ s, M s → FIn s H v d) (F : ∀ b o, ¬ M b → H b = some o → H' b = some o) {s : Addr} (hs : M s) : FIn s H' v d := by
  cases d with
  | pl d => exact PDAt.frm (d := d) h F hs
  | mk n m d =>
    obtain ⟨b, u, rfl, nb, hb, hk⟩ := h s hs
    have nM : ¬ M b := fun z => by obtain ⟨c, _, e, n', _⟩ := h b z; injection e with e; exact n' e.symm
    refine ⟨b, u, rfl, nb, F _ _ nM hb, PDAt.frm (d := d) (fun s' hs' => ?_) F hs⟩
    obtain ⟨b', u', e, _, hb', hk'⟩ := h s' hs'
    injection e with e
    rw [← e, hb] at hb'
    injection hb' with hb'
    injection hb' with hb'
    injection hb' with _ hb'
    injection hb' with _ hb'
    injection hb' with _ hb'
    injection hb' with hb'
    rw [hb']
    exact hk'
theorem SpsAt.frm {M : Addr → Prop} {H H' : Hp} {vs : List V} {ds : List FD} (h : ∀ s, M s → SpsAt s H vs ds) (F : ∀ b o, ¬ M b → H b = some o → H' b = some o) {s : Addr} (hs : M s) : SpsAt s H' vs ds :=
  ⟨(h s hs).1, fun i v d a b => FIn.frm (fun s' hs' => (h s' hs').2 i v d a b) F hs⟩
/-- what holds no text of a field, and is no field -/
def Apart (H : Hp) (s : Addr) : Prop := H s = none ∨ H s = some (.lst []) ∨ ∃ kvs, H s = some (.dK kvs)
theorem Apart.tup {H : Hp} {s b : Addr} {xs : List V} (h : Apart H s) (hb : H b = some (.tup xs)) : b ≠ s := fun z => by
  rw [z] at hb
  rcases h with h | h | ⟨_, h⟩
  · rw [h] at hb; cases hb
  · rw [h] at hb; cases hb
  · rw [h] at hb; cases hb
theorem Apart.lst {H : Hp} {s b : Addr} {xs : List V} (h : Apart H s) (n : xs ≠ []) (hb : H b = some (.lst xs)) : b ≠ s := fun z => by
  rw [z] at hb
  rcases h with h | h | ⟨_, h⟩
  · rw [h] at hb; cases hb
  · rw [h] at hb
    injection hb with hb
    injection hb with hb
    exact n hb.symm
  · rw [h] at hb; cases hb
theorem PDAt.away {a s : Addr} {H : Hp} {v : V} {d : PD} (hd : Dr d) (h : PDAt a H v d) (k : Apart H s) : PDAt s H v d := by
  cases hd with
  | word x l m => obtain ⟨b, e, n, hb⟩ := h; exact ⟨b, e, k.tup hb, hb⟩
  | number l m => obtain ⟨b, e, n, hb⟩ := h; exact ⟨b, e, k.tup hb, hb⟩
  | fixed => obtain ⟨b, e, n, hb⟩ := h; exact ⟨b, e, k.tup hb, hb⟩
  | @listed ts x y z w =>
    obtain ⟨b, u, e, n, hb, hl, hk⟩ := h
    refine ⟨b, u, e, k.tup hb, hb, hl, fun c hc => ?_⟩
    obtain ⟨c', rfl, hc'⟩ := hl
    injection hc with hc
    rw [← hc]
    refine k.lst (fun q => z ?_) hc'
    cases ts with
    | nil => rfl
    | cons _ _ => cases q
  | ended x y l m => obtain ⟨b, e, n, hb⟩ := h; exact ⟨b, e, k.tup hb, hb⟩
theorem FIn.away {a s : Addr} {H : Hp} {v : V} {d : FD} (hd : DrF d) (h : FIn a H v d) (k : Apart H s) : FIn s H v d := by
  cases hd with
  | pl hd => exact PDAt.away hd h k
  | mk hn hd =>
    obtain ⟨b, u, e, n, hb, hk⟩ := h
    exact ⟨b, u, e, k.tup hb, hb, PDAt.away hd hk k⟩
theorem SpsAt.away {a s : Addr} {H : Hp} {vs : List V} {ds : List FD} (hd : ∀ d ∈ ds, DrF d) (h : SpsAt a H vs ds) (k : Apart H s) : SpsAt s H vs ds := ⟨h.1, fun i v d x y => (h.2 i v d x y).away (hd d (List.mem_of_getElem? y)) k⟩
/-! ### what is said and what is due -/
theorem tis_uniq {ts ts' : List Str} {m : Mp} (hTs : TIs ts m) (h : TIs ts' m) : ts' = ts :=
  List.Perm.eq_of_pairwise (fun _ _ _ _ a b => str_ext (List.le_antisymm a b)) (h.1.imp fun {a b} q => Std.le_of_lt (ltS_iff.mp q)) (hTs.1.imp fun {a b} q => Std.le_of_lt (ltS_iff.mp q)) ((List.perm_ext_iff_of_nodup h.1.nodup hTs.1.nodup).mpr fun t => (h.2 t).trans (hTs.2 t).symm)
theorem ents_uniq {m : Mp} {ts : List Str} {es es' : List (List V × Int)} (h : Ents m ts es) (h' : Ents m ts es') : es' = es := by
  refine List.ext_getElem? fun k => ?_
  rcases Nat.lt_or_ge k ts.length with q | q
  · obtain ⟨e, a, b⟩ := h.2 k _ (List.getElem?_eq_getElem q)
    obtain ⟨e', a', b'⟩ := h'.2 k _ (List.getElem?_eq_getElem q)
    rw [a, a', ← b, ← b']
  · rw [List.getElem?_eq_none (by rw [h'.1]; exact q), List.getElem?_eq_none (by rw [h.1]; exact q)]
/-- all rows fit -/
def Fit (ds : List FD) (es : List (List V × Int)) : Prop := ∀ e ∈ es, rowDue ds (some e.1) = none
/-- no row has another one's text, up to the k-th -/
def NoCl (ds : List FD) (js : List Str) (es : List (List V × Int)) (k : Nat) : Prop := ∀ (j : Nat) e, j < k → es[j]? = some e → mvL (rowText ds js) (es.take j) (rowText ds js e.1) = none
inductive SdD (ds : List FD) (js : List Str) (es : List (List V × Int)) : PyData → Prop where
  | row {k : Nat} {e : List V × Int} {z : Int} : es[k]? = some e → rowDue ds (some e.1) = some z → (∀ e' ∈ es.take k, rowDue ds (some e'.1) = none) → SdD ds js es (.tuple [.str "row", .int z])
  | clash {k : Nat} {e e0 : List V × Int} : Fit ds es → es[k]? = some e → mvL (rowText ds js) (es.take k) (rowText ds js e.1) = some e0 → NoCl ds js es k → SdD ds js es (.tuple [.str "clash", .tuple (e0.1.map dV), .tuple (e.1.map dV)])
  | good {ts : List Str} {es2 : List (List V × Int)} : Fit ds es → NoCl ds js es es.length → TIs ts (mvL (rowText ds js) es) → Ents (mvL (rowText ds js) es) ts es2 → SdD ds js es (.tuple [.str "told", .list (es2.map dE)])
theorem first_uniq {P : Nat → Prop} {i j : Nat} (hi : P i) (hj : P j) (ni : ∀ k, k < i → ¬ P k) (nj : ∀ k, k < j → ¬ P k) : i = j := by
  rcases Nat.lt_trichotomy i j with h | h | h
  · exact absurd hi (nj i h)
  · exact h
  · exact absurd hj (ni j h)
theorem not_fit {ds : List FD} {es : List (List V × Int)} {k : Nat} {e : List V × Int} {z : Int} (h : es[k]? = some e) (d : rowDue ds (some e.1) = some z) (f : Fit ds es) : False := by
  rw [f e (List.mem_of_getElem? h)] at d
  cases d
theorem mem_take_of {α : Type} {l : List α} {k j : Nat} {x : α} (h : l[j]? = some x) (q : j < k) : x ∈ l.take k := List.mem_of_getElem? (i := j) (by rw [List.getElem?_take_of_lt q]; exact h)
theorem SdD.uniq {ds : List FD} {js : List Str} {es : List (List V × Int)} {d d' : PyData} (h : SdD ds js es d) (h' : SdD ds js es d') : d = d' := by
  cases h with
  | @row k e z a b c =>
    cases h' with
    | @row k' e' z' a' b' c' =>
      have ek : k = k' := first_uniq (P := fun k => ∃ e z, es[k]? = some e ∧ rowDue ds (some e.1) = some z) ⟨e, z, a, b⟩ ⟨e', z', a', b'⟩
        (fun j hj ⟨x, y, h1, h2⟩ => by rw [c x (mem_take_of h1 hj)] at h2; cases h2) (fun j hj ⟨x, y, h1, h2⟩ => by rw [c' x (mem_take_of h1 hj)] at h2; cases h2)
      subst ek
      rw [a] at a'
      cases a'
      rw [b] at b'
      cases b'
      rfl
    | clash f => exact (not_fit a b f).elim
    | good f => exact (not_fit a b f).elim
  | @clash k e e0 f a b c =>
    cases h' with
    | row a' b' => exact (not_fit a' b' f).elim
    | @clash k' e' e0' f' a' b' c' =>
      have ek : k = k' := first_uniq (P := fun k => ∃ e e0, es[k]? = some e ∧ mvL (rowText ds js) (es.take k) (rowText ds js e.1) = some e0) ⟨e, e0, a, b⟩ ⟨e', e0', a', b'⟩
        (fun j hj ⟨x, y, h1, h2⟩ => by rw [c j x hj h1] at h2; cases h2) (fun j hj ⟨x, y, h1, h2⟩ => by rw [c' j x hj h1] at h2; cases h2)
      subst ek
      rw [a] at a'
      cases a'
      rw [b] at b'
      cases b'
      rfl
    | good f' n' =>
      rw [n' k e (List.getElem?_eq_some_iff.mp a).1 a] at b
      cases b
  | @good ts es2 f n t u =>
    cases h' with
    | row a' b' => exact (not_fit a' b' f).elim
    | @clash k' e' e0' f' a' b' c' =>
      rw [n k' e' (List.getElem?_eq_some_iff.mp a').1 a'] at b'
      cases b'
    | @good ts' es2' f' n' t' u' =>
      obtain rfl := tis_uniq t t'
      rw [ents_uniq u u']
theorem mvL_mem0 {tx : List V → Str} {u : Str} {e : List V × Int} : ∀ (es : List (List V × Int)) (m : Mp), es.foldl (fun m e => setM m (tx e.1) e) m u = some e → e ∈ es ∨ m u = some e
  | [], _, h => .inr h
  | x :: es, m, h => by
    rw [List.foldl_cons] at h
    rcases mvL_mem0 es _ h with h | h
    · exact .inl (List.mem_cons_of_mem _ h)
    · have h : (if u = tx x.1 then some x else m u) = some e := h
      by_cases q : u = tx x.1
      · rw [if_pos q] at h
        cases h
        exact .inl (List.mem_cons_self ..)
      · rw [if_neg q] at h
        exact .inr h
theorem mvL_mem {tx : List V → Str} {es : List (List V × Int)} {u : Str} {e : List V × Int} (h : mvL tx es u = some e) : e ∈ es := (mvL_mem0 es _ h).elim id fun z => by cases z
theorem lay_words : (PyData.str "row").canLay0 = true ∧ (PyData.str "clash").canLay0 = true ∧ (PyData.str "told").canLay0 = true := by decide +kernel
/-- a row of some values: what is laid as data -/
def FlR (xs : List V) : Prop := ∀ x ∈ xs, flatV x = true ∧ (dV x).canLay0 = true ∧ (dV x).depth = 0
theorem rwv_flr {ds : List FD} {xs : List V} (hd : ∀ d ∈ ds, DrF d) (h : RwV ds xs) : FlR xs := fun x hx => by
  obtain ⟨d, hdm, hv⟩ := h.mem hx
  exact ⟨(hv.ok (hd d hdm)).flat, hv.lay (hd d hdm)⟩
theorem lay_fls : ∀ {es : List (List V × Int)}, (∀ e ∈ es, FlR e.1) → PyData.canLayAll0 (es.map dE) = true ∧ PyData.depthAll (es.map dE) ≤ 2
  | [], _ => ⟨rfl, by decide⟩
  | e :: es, h => by
    obtain ⟨a, b⟩ := lay_fls fun y hy => h y (List.mem_cons_of_mem _ hy)
    obtain ⟨c1, c2⟩ := lay_flats (xs := e.1) fun x hx => (h e (List.mem_cons_self ..) x hx).2
    refine ⟨and_t (and_t c1 rfl) a, Nat.max_le.mpr ⟨?_, b⟩⟩
    show max (PyData.depthAll (e.1.map dV) + 1) (max 0 0) + 1 ≤ 2
    rw [c2]
    decide
theorem sh_fls {es : List (List V × Int)} (h : ∀ e ∈ es, FlR e.1) : SeqAt.shaped (.list (es.map dE)) = true := by
  obtain ⟨a, b⟩ := lay_fls h
  refine Bool.and_eq_true_iff.mpr ⟨a, decide_eq_true ?_⟩
  show PyData.depthAll (es.map dE) + 1 ≤ 64
  omega
theorem ents_mem {m : Mp} {ts : List Str} {es2 : List (List V × Int)} (h : Ents m ts es2) {e : List V × Int} (he : e ∈ es2) : ∃ t, m t = some e := by
  obtain ⟨q, hq, eq⟩ := List.mem_iff_getElem.mp he
  obtain ⟨t, ht⟩ : ∃ t, ts[q]? = some t := ⟨_, List.getElem?_eq_getElem (by rw [← h.1]; exact hq)⟩
  obtain ⟨e', he', hm'⟩ := h.2 q t ht
  rw [List.getElem?_eq_getElem hq, eq] at he'
  cases he'
  exact ⟨t, hm'⟩
theorem SdD.sh {ds : List FD} {js : List Str} {es : List (List V × Int)} {d : PyData} (he : ∀ e ∈ es, FlR e.1) (h : SdD ds js es d) : SeqAt.shaped d = true := by
  cases h with
  | row a b c => exact Bool.and_eq_true_iff.mpr ⟨and_t lay_words.1 rfl, decide_eq_true (Nat.le_of_ble_eq_true rfl)⟩
  | @clash k e e0 f a b c =>
    obtain ⟨c1, c2⟩ := lay_flats (xs := e.1) fun x hx => (he e (List.mem_of_getElem? a) x hx).2
    obtain ⟨g1, g2⟩ := lay_flats (xs := e0.1) fun x hx => (he e0 (List.mem_of_mem_take (mvL_mem b)) x hx).2
    refine Bool.and_eq_true_iff.mpr ⟨and_t lay_words.2.1 (and_t g1 (and_t c1 rfl)), decide_eq_true ?_⟩
    show max 0 (max (PyData.depthAll (e0.1.map dV) + 1) (max (PyData.depthAll (e.1.map dV) + 1) 0)) + 1 ≤ 64
    rw [c2, g2]
    decide
  | @good ts es2 f n t u =>
    obtain ⟨a, b⟩ := lay_fls (es := es2) fun e h' => by
      obtain ⟨t, ht⟩ := ents_mem u h'
      exact he e (mvL_mem ht)
    refine Bool.and_eq_true_iff.mpr ⟨and_t lay_words.2.2 (and_t a rfl), decide_eq_true ?_⟩
    show max 0 (max (PyData.depthAll (es2.map dE) + 1) 0) + 1 ≤ 64
    omega
theorem dp_ls {K : Frag} {H : Hp} {us : List V} {ts : List Str} {es : List (List V × Int)} {m : Mp} (h : LsIs H us ts m) (he : Ents m ts es) (hr : ∀ e ∈ es, FlR e.1) : DpAll K H us (es.map dE) := by
  refine dp_ents (by rw [h.1, he.1]) fun k v e hv hk => ?_
  obtain ⟨t, ht⟩ : ∃ t, ts[k]? = some t := ⟨_, List.getElem?_eq_getElem (by have := (List.getElem?_eq_some_iff.mp hv).1; have := h.1; omega)⟩
  obtain ⟨e', he', hm⟩ := he.2 k t ht
  rw [hk] at he'
  cases he'
  obtain ⟨e2, hm2, hE⟩ := h.2 k v t hv ht
  rw [hm] at hm2
  cases hm2
  exact ⟨hE, fun x hx => (hr e (List.mem_of_getElem? hk) x hx).1⟩
/-- what stands at the tuple that is said -/
inductive SdT (ds : List FD) (js : List Str) (es : List (List V × Int)) (H : Hp) (t : Addr) : Prop where
  | row {k : Nat} {e : List V × Int} {z : Int} : es[k]? = some e → rowDue ds (some e.1) = some z → (∀ e' ∈ es.take k, rowDue ds (some e'.1) = none) → H t = some (.tup [.str "row", .int z]) → SdT ds js es H t
  | clash {k : Nat} {e e0 : List V × Int} {r1 r2 : Addr} : Fit ds es → es[k]? = some e → mvL (rowText ds js) (es.take k) (rowText ds js e.1) = some e0 → NoCl ds js es k → H t = some (.tup [.str "clash", .ref r1, .ref r2]) → H r1 = some (.tup e0.1) → H r2 = some (.tup e.1) → SdT ds js es H t
  | good {ts : List Str} {us : List V} {D : Addr} : Fit ds es → NoCl ds js es es.length → TIs ts (mvL (rowText ds js) es) → H t = some (.tup [.str "told", .ref D]) → H D = some (.lst us) → LsIs H us ts (mvL (rowText ds js) es) → SdT ds js es H t
theorem SdT.same {ds : List FD} {js : List Str} {es : List (List V × Int)} {H H' : Hp} {t : Addr} (S : Same H H') (h : SdT ds js es H t) : SdT ds js es H' t := by
  cases h with
  | row a b c d => exact .row a b c (S _ _ d)
  | clash f a b c d g1 g2 => exact .clash f a b c (S _ _ d) (S _ _ g1) (S _ _ g2)
  | good f n t d g u => exact .good f n t (S _ _ d) (S _ _ g) (u.nl (NL.of_same S))
theorem SdT.dp {K : Frag} {ds : List FD} {js : List Str} {es : List (List V × Int)} {H : Hp} {t : Addr} (he : ∀ e ∈ es, FlR e.1) (h : SdT ds js es H t) : ∃ d, Dp K H (.ref t) d ∧ SdD ds js es d := by
  cases h with
  | row a b c d => exact ⟨_, .tup (SqT.of d) (.cons (.str _) (.cons (.int _) .nil)), .row a b c⟩
  | @clash k e e0 r1 r2 f a b c d g1 g2 =>
    exact ⟨_, .tup (SqT.of d) (.cons (.str _) (.cons (.tup (SqT.of g1) (dp_flats fun x hx => (he e0 (List.mem_of_mem_take (mvL_mem b)) x hx).1)) (.cons (.tup (SqT.of g2) (dp_flats fun x hx => (he e (List.mem_of_getElem? a) x hx).1)) .nil))), .clash f a b c⟩
  | @good ts us D f n t d g u =>
    obtain ⟨es2, h2⟩ := ents_of t
    exact ⟨_, .tup (SqT.of d) (.cons (.str _) (.cons (.lst (SqL.of g) (dp_ls u h2 fun e h' => by
      obtain ⟨t, ht⟩ := ents_mem h2 h'
      exact he e (mvL_mem ht))) .nil)), .good f n t h2⟩
theorem sd_end {H : Hp} {Q : VK} {ds : List FD} {js : List Str} {es : List (List V × Int)} (q : ∀ t H', Same H H' → SdT ds js es H' t → Q (.ref t) H') : SdEnd H Q ds js es where
  row := fun k e z a b c t H' S d => q t H' S (.row a b c d)
  clash := fun f k e e0 a b c t r1 r2 H' S d g1 g2 => q t H' S (.clash f a b (fun j x hj hx => c j x hj hx) d g1 g2)
  good := fun f n t D us ts H' S d g h u => q t H' S (.good f (fun j x _ hx => n j x hx) h d g u)
end L2.K77

set_option Elab.async false
set_option linter.all false
set_option maxRecDepth 100000
set_option maxHeartbeats 4000000
/-! The law: a store is moved. -/
namespace L2.K77
open PySem PySem.W PySem.Spec PySem.Calls PyProof.Rows L2.Jk
theorem seqT_upd {K : Frag} {H : Hp} {L t C dx : Addr} {fs : List (Str × V)} {o : HO} {xs : List V} (hL : H L = some (.ins C dx fs)) (h : SqT K H t xs) : SqT K (upd H L o) t xs := by
  rcases h with (h | ⟨u, h⟩) | h
  · exact .inl (.inl (by rw [upd_ne (ne_of h hL (fun z => by cases z))]; exact h))
  · exact .inl (.inr ⟨u, by rw [upd_ne (ne_of h hL (fun z => by cases z))]; exact h⟩)
  · exact .inr h
theorem FsAt.putl {K : Frag} {H : Hp} {D r : Addr} {xs : List V} {o : HO} (hD : H D = some (.lst xs)) {d : FD} (h : FdAt K H r d) : FdAt K (upd H D o) r d := h.nl (nl_lst hD)
theorem StA.butS {K : Frag} {a : Addr} {H H' : Hp} {S L Tx Kd : Addr} {m : Mp} {n : Nat} (st : StAt H a) (nT : Tx ≠ a) (B : But a H H') (h : StA K H S L Tx Kd m n) : StA K H' S L Tx Kd m n := by
  obtain ⟨z, ez⟩ := st.at
  obtain ⟨⟨dx, a1⟩, ⟨ts, b, c⟩, kvs, d, g⟩ := h
  exact ⟨⟨dx, B _ _ (ne_of a1 ez (fun z => by cases z)) a1⟩, ⟨ts, B _ _ nT b, c⟩, kvs, B _ _ (ne_of d ez (fun z => by cases z)) d,
    g.mono fun r xs e => B _ _ (ne_of e ez (fun z => by cases z)) e⟩
theorem LsIs.butS {a : Addr} {H H' : Hp} {us : List V} {ts : List Str} {m : Mp} (st : StAt H a) (B : But a H H') (h : LsIs H us ts m) : LsIs H' us ts m := by
  obtain ⟨z, ez⟩ := st.at
  exact ⟨h.1, fun q v t a b => by
    obtain ⟨e, he, hE⟩ := h.2 q v t a b
    exact ⟨e, he, hE.mono fun r xs k => B _ _ (ne_of k ez (fun z => by cases z)) k⟩⟩
theorem Rws.butS {a : Addr} {H H' : Hp} {ds : List FD} {rr : List Addr} (st : StAt H a) (B : But a H H') (h : Rws H ds rr) : Rws H' ds rr := fun r hr => by
  obtain ⟨z, ez⟩ := st.at
  obtain ⟨xs, e, k⟩ := h r hr
  exact ⟨xs, B _ _ (ne_of e ez (fun z => by cases z)) e, k⟩
/-- what stands while one store is asked -/
structure LS (K : Frag) (sa S L Tx Kd ps pj rp : Addr) (vsp : List V) (ds : List FD) (js : List Str) (rr : List Addr) (H J : Hp) (m : Mp) (n : Nat) : Prop where
  bu : But sa H J
  st : StAt J sa
  hS : StA K J S L Tx Kd m n
  ly : LayAt K J L ds js
  sp : J ps = some (.lst vsp)
  sps : ∀ s, (s = sa ∨ s = Tx ∨ s = Kd) → SpsAt s J vsp ds
  jt : J pj = some (.lst (js.map V.str))
  rl : J rp = some (.lst (rr.map V.ref))
  rw : Rws J ds rr
  n1 : ps ≠ sa
  n2 : ps ≠ Tx
  n3 : Tx ≠ sa
  n4 : pj ≠ sa
  n5 : pj ≠ Tx
  n6 : rp ≠ sa
  n7 : rp ≠ Tx
  f2 : H Tx = none
  f3 : H Kd = none
  dr : ∀ d ∈ ds, DrF d
  mr : ∀ t e, m t = some e → RwV ds e.1
section
variable {K : Frag} {sa S L Tx Kd ps pj rp : Addr} {vsp : List V} {ds : List FD} {js : List Str} {rr : List Addr} {H J J' : Hp} {m m' : Mp} {n n' : Nat}
theorem LS.kd_ne (h : LS K sa S L Tx Kd ps pj rp vsp ds js rr H J m n) : Kd ≠ sa ∧ ps ≠ Kd ∧ pj ≠ Kd ∧ rp ≠ Kd := by
  obtain ⟨kvs, d, _⟩ := h.hS.kd
  obtain ⟨z, e⟩ := h.st.at
  exact ⟨ne_of d e (fun z => by cases z), ne_of h.sp d (fun z => by cases z), ne_of h.jt d (fun z => by cases z), ne_of h.rl d (fun z => by cases z)⟩
theorem LS.lyAt (h : LS K sa S L Tx Kd ps pj rp vsp ds js rr H J m n) : LyAt sa J ps pj vsp ds js := ⟨h.n1, h.n4, h.sp, h.sps sa (.inl rfl), h.jt, h.dr, h.ly.ok⟩
theorem LS.but (h : LS K sa S L Tx Kd ps pj rp vsp ds js rr H J m n) (B : But sa J J') (st : StAt J' sa) : LS K sa S L Tx Kd ps pj rp vsp ds js rr H J' m n :=
  ⟨h.bu.trans B, st, h.hS.butS h.st h.n3 B, h.ly.but h.st B, B _ _ h.n1 h.sp, fun s hs => SpsAt.frm (M := fun s => s = sa ∨ s = Tx ∨ s = Kd) h.sps (fun b o k e => B b o (fun z => k (.inl z)) e) hs, B _ _ h.n4 h.jt, B _ _ h.n6 h.rl, h.rw.butS h.st B, h.n1, h.n2, h.n3, h.n4, h.n5, h.n6, h.n7, h.f2, h.f3, h.dr, h.mr⟩
theorem LS.same (h : LS K sa S L Tx Kd ps pj rp vsp ds js rr H J m n) (s : Same J J') : LS K sa S L Tx Kd ps pj rp vsp ds js rr H J' m n := h.but (But.of_same s) (h.st.same s)
theorem LS.put (h : LS K sa S L Tx Kd ps pj rp vsp ds js rr H J m n) (B : But2 Tx Kd J J') (hS : StA K J' S L Tx Kd m' n') (r : ∀ t e, m' t = some e → RwV ds e.1) : LS K sa S L Tx Kd ps pj rp vsp ds js rr H J' m' n' := by
  obtain ⟨n8, n9, na, nb⟩ := h.kd_ne
  obtain ⟨ts, eT, _, _⟩ := h.hS.tx
  obtain ⟨kvs, eK, _⟩ := h.hS.kd
  have N : NL J J' := B.nl eT eK
  obtain ⟨p, q, s, es, rest⟩ := h.st
  refine ⟨fun b o k e => ?_, ⟨p, q, s, B _ _ h.n3.symm n8.symm es, rest⟩, hS, h.ly.nl N, B _ _ h.n2 n9 h.sp, fun s hs => SpsAt.frm (M := fun s => s = sa ∨ s = Tx ∨ s = Kd) h.sps (fun b o k e => B b o (fun z => k (.inr (.inl z))) (fun z => k (.inr (.inr z))) e) hs, B _ _ h.n5 na h.jt, B _ _ h.n7 nb h.rl, h.rw.nl N, h.n1, h.n2, h.n3, h.n4, h.n5, h.n6, h.n7, h.f2, h.f3, h.dr, r⟩
  exact B b o (fun z => by rw [z, h.f2] at e; cases e) (fun z => by rw [z, h.f3] at e; cases e) (h.bu b o k e)
end
theorem same_but2 {J1 J J' : Hp} {a b : Addr} (S : Same J1 J) (h : J1 a = none) (k : J1 b = none) (B : But2 a b J J') : Same J1 J' := fun c o e => B c o (ne_of_none e h) (ne_of_none e k) (S c o e)
theorem atI_m1 {us : List V} {u : V} (h0 : 0 < us.length) (h : us[us.length - 1]? = some u) : atI us (-1) = some u := by
  have e : ixN us.length (-1) = some (us.length - 1) := by
    unfold ixN
    rw [if_neg (by decide), if_pos (by omega)]
    congr 1
    omega
  unfold atI
  rw [e]
  exact h
theorem rw_set {ds : List FD} {m : Mp} {t : Str} {e : List V × Int} (h : ∀ t e, m t = some e → RwV ds e.1) (k : RwV ds e.1) : ∀ u x, setM m t e u = some x → RwV ds x.1 := fun u x hx => by
  have hx : (if u = t then some e else m u) = some x := hx
  by_cases q : u = t
  · rw [if_pos q] at hx
    cases hx
    exact k
  · rw [if_neg q] at hx
    exact h u x hx
theorem mv_end {K : Frag} {L2 : Addr} {ds : List FD} {js : List Str} {m : Mp} {n : Nat} {ts ts' : List Str} {es es' : List (List V × Int)} {H : Hp} {Q : VK} {E : XK} (hTs : TIs ts m) (hes : Ents m ts es) (h1 : TIs ts' m) (h2 : Ents m ts' es') (hF : Fit ds es) (hN : NoCl ds js es es.length)
    (q : ∀ S2 Tx2 Kd2 H', Same H H' → H S2 = none → H Tx2 = none → H Kd2 = none → StA K H' S2 L2 Tx2 Kd2 (mvL (rowText ds js) es) n → Q (.ref S2) H') : MvEnd K H Q E ds js es' n L2 := by
  obtain rfl := tis_uniq hTs h1
  obtain rfl := ents_uniq hes h2
  exact ⟨fun k e z a b c => (not_fit a b hF).elim, fun f k e e0 a b c => (by rw [hN k e (List.getElem?_eq_some_iff.mp a).1 a] at b; cases b), fun _ _ S2 Tx2 Kd2 H' S' h3 h4 h5 h6 => q S2 Tx2 Kd2 H' S' h3 h4 h5 h6⟩
def spPickW : Sp := fun vs H Q _ => ∃ (a p : Addr) (xs : List V), vs = [.ref a, .ref p] ∧ StAt H a ∧ p ≠ a ∧ H p = some (.lst xs) ∧ xs ≠ [] ∧ xs.length ≤ 1000000 ∧ ∀ v H', v ∈ xs → But a H H' → StAt H' a → Q v H'
def spRt : Sp := fun vs H Q _ => ∃ a : Addr, vs = [.ref a] ∧ StAt H a ∧ ∀ H', But a H H' → StAt H' a → Q (.bl true) H'
structure GRt (P : Program) (w : World) (K : Frag) (mg : Str → Option Value) (base : Heap) : Prop extends GSd P w K mg base, GL P w K mg base where
  kStoreL : ClsAt P w K mg base CX0 1 "Store" (SC K) ["self", "layout"] (spStI K)
  kLayoutL : ClsAt P w K mg base CX0 3 "Layout" (LA K) ["self", "fields", "joints"] (spLay K)
  law_layout : FnAt P w K mg base CX0 5 "_law_layout" ["_law_source_here", "_law_most", "_law_limit"] spLy
  law_rows : FnAt P w K mg base CX0 4 "_law_rows" ["_law_specs"] spRows
  law_pickW : FnAt P w K mg base CX0 2 "_law_pick" ["_law_source_here", "_law_items"] spPickW
  law_due : FnAt P w K mg base CX0 6 "_law_due" ["_law_specs", "_law_joints", "_law_kept"] (spDue K)
  law_other : FnAt P w K mg base CX0 6 "_law_other" ["_law_source_here", "_law_specs", "_law_joints"] spOt
  law_said : FnAt P w K mg base CX0 9 "_law_said" ["_law_store", "_law_layout_here"] (spSd K)
  mTake : MetAt P w K mg base (L2.CX P w) 7 (SC K) "take" ["self", "row"] (spTake K)
  mSize : MetAt P w K mg base CX0 1 (SC K) "size" ["self"] (spSize K)
section
variable {P : Program} {w : World} {K : Frag} {mg : Str → Option Value} {base : Heap} {f : Addr} {fd : FuncData}

theorem ok_law_pickW (F : FunD K "_law_pick" "_law_pick" (defArgs s_law_pick) (defBody s_law_pick) (defScope s_law_pick) [] [] f fd) (G : GR0 P w K mg base) : FnOk P w K mg base CX0 2 f fd ["_law_source_here", "_law_items"] spPickW := by
  refine F.ok (CX := CX0) sc_law_pick (fun vs H Q E h => ?_) (fun cdv A outer s H vs Q E hr h => ?_)
  · obtain ⟨a, p, xs, rfl, _⟩ := h
    rfl
  · refine ⟨_, PSs.nox (pss_one (ps_ret (pe_ix ix_list (pv 1) (pe_fn G.law_draw hr pass0 (by rfl) (pa_cons (pv 0) (pa_cons (pe_callB call_len_seq (by rfl) G.len (by decide +kernel) (pa_cons (pv 1) pa_nil)) pa_nil))) (fun _ _ => rfl)))), ?_⟩
    obtain ⟨a, p, xs, rfl, st, hne, hp, hx, hl, q⟩ := h
    have hx0 : 0 < xs.length := List.length_pos_iff.mpr hx
    refine ⟨_, rfl, _, rfl, _, rfl, p, xs, rfl, .inl (SqL.of hp), a, (xs.length : Nat), rfl, st, by omega, by omega, fun d1 H1 h0 h1 B1 st1 => ?_⟩
    obtain ⟨i, rfl⟩ : ∃ i : Nat, d1 = (i : Int) := ⟨d1.toNat, by omega⟩
    obtain ⟨v, hv, hm⟩ := pick (xs := xs) (i := i) (by omega)
    exact ⟨p, xs, _, v, rfl, rfl, SqL.of (B1 _ _ hne hp), atI_nat (j := i) hv, q v H1 hm B1 st1⟩


abbrev s_rt : Stmt := top 63
theorem sc_rt : FnScope ["_law_source_here", "_law_specs", "_law_joints", "_law_store", "_law_rows_here", "_law_spec", "_law_k", "_law_kept", "_law_turn", "_law_there", "_law_signs", "_law_layout_here", "_law_due_here", "_law_later"] ["_law_source_here"] (defScope s_rt) := ⟨rfl, rfl, rfl, by decide +kernel, rfl, by decide +kernel, by decide +kernel⟩

theorem ok_rt (F : FunD K "_law_right" "_law_right" (defArgs s_rt) (defBody s_rt) (defScope s_rt) [] [] f fd) (G : GRt P w K mg base) : FnOk P w K mg base CX0 10 f fd ["_law_source_here"] spRt := by
  refine F.ok (CX := CX0) sc_rt (fun vs H Q E h => ?_) (fun cdv A outer s H vs Q E hr h => ?_)
  · obtain ⟨_, rfl, _⟩ := h
    rfl
  · refine ⟨_, PSs.nox (C8.pss_cut (ps_asg (pe_fn G.law_layout (hr.mono (by decide)) pass0 (by rfl) (pa_cons (pv 0) (pa_cons pe_int (pa_cons pe_int pa_nil)))) (pg_tup rfl (pgs_cons (pg_name (i := 1) sc_rt.nd rfl (Or.inl rfl)) (pgs_cons (pg_name (i := 2) sc_rt.nd rfl (Or.inl rfl)) pgs_nil))))
    (C8.pss_cut (ps_par (i := 3) (j := 4) (by rfl) sc_rt.nd rfl rfl (by decide) rfl rfl (pa_cons (pe_newS (E := fun _ => E0) G.kStoreL (hr.mono (by decide)) (fun σ => fun _ _ _ _ _ _ h => h.elim) (by rfl) (pa_cons (pe_newS (E := fun _ => E0) G.kLayoutL (hr.mono (by decide)) (fun σ => fun _ _ _ _ _ _ h => h.elim) (by rfl) (pa_cons (pe_lc (own := [("_law_spec", 5)]) (g := gName 5) (tt := tYes) rfl sc_rt.nd (pi_list (pv 1)) (blkOk_by (N := ["_law_source_here", "_law_specs", "_law_joints", "_law_store", "_law_rows_here", "_law_spec", "_law_k", "_law_kept", "_law_turn", "_law_there", "_law_signs", "_law_layout_here", "_law_due_here", "_law_later"]) (sc := defScope s_rt) (by decide +kernel)) (fun _ _ _ _ _ => pg_name (i := 5) sc_rt.nd rfl (Or.inl rfl)) (fun _ _ _ _ _ => pts_nil) (fun _ _ _ _ _ => (pe_fn G.law_made (hr.mono (by decide)) pass0 (by rfl) (pa_cons (pv 5) pa_nil)))) (pa_cons (pv 2) pa_nil))) pa_nil)) (pa_cons (pe_fn G.law_rows (hr.mono (by decide)) pass0 (by rfl) (pa_cons (pv 1) pa_nil)) pa_nil)) (by rfl))
    (C8.pss_cut (ps_for PassesOwn.never rfl (pi_range1 (by rfl) G.range (pa_cons (pe_fn G.law_pick (hr.mono (by decide)) pass0 (by rfl) (pa_cons (pv 0) (pa_cons (pe_lstS (pa_cons pe_int (pa_cons pe_int (pa_cons pe_int (pa_cons pe_int (pa_cons pe_int pa_nil)))))) pa_nil))) pa_nil)) (pg_name (i := 6) sc_rt.nd rfl (Or.inl rfl))
      (pss_one (ps_expr (pe_metS G.mPut (hr.mono (by decide)) (pv 3) (fun σ => passAt takes0 σ) (pa_cons (pe_fn G.law_pickW (hr.mono (by decide)) pass0 (by rfl) (pa_cons (pv 0) (pa_cons (pv 4) pa_nil))) (pa_cons (pv 6) pa_nil))))))
    (pss_cons (ps_set (i := 7) sc_rt.nd rfl (Or.inl rfl) (pe_metS G.mScan (hr.mono (by decide)) (pv 3) (fun σ => passAt takes0 σ) (pa_cons (pe_lstS pa_nil) pa_nil)))
    (pss_cons (ps_for PassesOwn.never rfl (pi_range1 (by rfl) G.range (pa_cons pe_int pa_nil)) (pg_name (i := 8) sc_rt.nd rfl (Or.inl rfl))
      (C8.pss_cut (ps_asg (pe_fn G.law_other (hr.mono (by decide)) pass0 (by rfl) (pa_cons (pv 0) (pa_cons (pv 1) (pa_cons (pv 2) pa_nil)))) (pg_tup rfl (pgs_cons (pg_name (i := 9) sc_rt.nd rfl (Or.inl rfl)) (pgs_cons (pg_name (i := 10) sc_rt.nd rfl (Or.inl rfl)) pgs_nil))))
      (C8.pss_cut (ps_set (i := 11) sc_rt.nd rfl (Or.inl rfl) (pe_newS (E := fun _ => E0) G.kLayoutL (hr.mono (by decide)) (fun σ => fun _ _ _ _ _ _ h => h.elim) (by rfl) (pa_cons (pe_lc (own := [("_law_spec", 5)]) (g := gName 5) (tt := tYes) rfl sc_rt.nd (pi_list (pv 9)) (blkOk_by (N := ["_law_source_here", "_law_specs", "_law_joints", "_law_store", "_law_rows_here", "_law_spec", "_law_k", "_law_kept", "_law_turn", "_law_there", "_law_signs", "_law_layout_here", "_law_due_here", "_law_later"]) (sc := defScope s_rt) (by decide +kernel)) (fun _ _ _ _ _ => pg_name (i := 5) sc_rt.nd rfl (Or.inl rfl)) (fun _ _ _ _ _ => pts_nil) (fun _ _ _ _ _ => (pe_fn G.law_made (hr.mono (by decide)) pass0 (by rfl) (pa_cons (pv 5) pa_nil)))) (pa_cons (pv 10) pa_nil))))
      (C8.pss_cut (ps_set (i := 12) sc_rt.nd rfl (Or.inl rfl) (pe_fn G.law_due (hr.mono (by decide)) pass0 (by rfl) (pa_cons (pv 9) (pa_cons (pv 10) (pa_cons (pv 7) pa_nil)))))
      (C8.pss_cut (ps_if (PW.pt (pw_or (pt_cmpR (op_neD hr.units) (pe_fn G.law_said (hr.mono (by decide)) pass0 (by rfl) (pa_cons (pv 3) (pa_cons (pv 11) pa_nil))) (pv 12) (nomark _)) (pw_or (pt_cmpR (op_neD hr.units) (pe_fn G.law_said (hr.mono (by decide)) pass0 (by rfl) (pa_cons (pv 3) (pa_cons (pv 11) pa_nil))) (pv 12) (nomark _)) (pw_or1 (pt_cmpR (op_neD hr.units) (pe_metS G.mScan (hr.mono (by decide)) (pv 3) (fun σ => passAt takes0 σ) (pa_cons (pe_lstS pa_nil) pa_nil)) (pv 7) (nomark _))))))
        (pss_one (ps_ret pe_bl))
        pss_nil)
      (pss_one (ps_if (PW.pt (pw_and (pt_cmpR op_eq (pe_ix ix_tup (pv 12) pe_int (fun _ _ => rfl)) pe_str (nomark _)) (pw_and1 (pt_cmpR (op_neD hr.units) (pv 7) (pe_lstS pa_nil) (nomark _)))))
        (C8.pss_cut (ps_set (i := 13) sc_rt.nd rfl (Or.inl rfl) (pe_metS G.mMoved (hr.mono (by decide)) (pv 3) (fun σ => passAt takes0 σ) (pa_cons (pv 11) pa_nil)))
        (C8.pss_cut (ps_expr (pe_metS G.mTake (hr.mono (by decide)) (pv 13) (fun σ => passAt takes0 σ) (pa_cons (pe_ix ix_tup (pe_ix ix_list (pv 7) pe_int (fun _ _ => rfl)) pe_int (fun _ _ => rfl)) pa_nil)))
        (C8.pss_cut (ps_expr (pe_metS G.mPut (hr.mono (by decide)) (pv 13) (fun σ => passAt takes0 σ) (pa_cons (pe_ix ix_tup (pe_ix ix_list (pv 7) (pe_un un_neg pe_int) (fun _ _ => rfl)) pe_int (fun _ _ => rfl)) (pa_cons (pe_un un_neg pe_int) pa_nil))))
        (pss_one (ps_if (PW.pt (pw_or (pt_cmpR (op_neD hr.units) (pe_metS G.mScan (hr.mono (by decide)) (pv 3) (fun σ => passAt takes0 σ) (pa_cons (pe_lstS pa_nil) pa_nil)) (pv 7) (nomark _)) (pw_or (pt_cmpR op_ne (pe_metS0 (E := fun _ => E0) G.mSize (hr.mono (by decide)) (pv 3) pass0A) (pe_callB call_len_seq (by rfl) G.len (by decide +kernel) (pa_cons (pv 7) pa_nil)) (nomark _)) (pw_or1 (pt_cmpR (op_neD hr.units) (pe_metS G.mScan (hr.mono (by decide)) (pe_metS G.mMoved (hr.mono (by decide)) (pv 3) (fun σ => passAt takes0 σ) (pa_cons (pv 11) pa_nil)) (fun σ => passAt takes0 σ) (pa_cons (pe_lstS pa_nil) pa_nil)) (pe_ix ix_tup (pv 12) pe_int (fun _ _ => rfl)) (nomark _))))))
          (pss_one (ps_ret pe_bl))
          pss_nil)))))
        pss_nil)))))))
    (pss_one (ps_ret pe_bl))))))), ?_⟩
    obtain ⟨sa, rfl, st, q⟩ := h
    refine ⟨fun σ J => ∃ v3 v4 v5 v6 v7 v8 v9 va vb vc vd ps pj vsp ds js, σ = [some (.ref sa), some (.ref ps), some (.ref pj), v3, v4, v5, v6, v7, v8, v9, va, vb, vc, vd] ∧ But sa H J ∧ StAt J sa ∧ LyAt sa J ps pj vsp ds js ∧ ds.length ≤ 3, ?_, ?_⟩
    · refine ⟨_, rfl, sa, rfl, st, fun T ps pj vsp ds js H1 nT hps hpj hY hl3 eT B1 st1 => ?_⟩
      refine ⟨T, _, rfl, SqT.of eT, rfl, _, _, rfl, _, _, rfl, rfl, ?_⟩
      exact ⟨_, _, _, _, _, _, _, _, _, _, _, ps, pj, vsp, ds, js, rfl, B1, st1, hY, hl3⟩
    rintro σ J6 ⟨v3, v4, v5, v6, v7, v8, v9, va, vb, vc, vd, ps, pj, vsp, ds, js, rfl, B6, st6, hY, hl3⟩
    refine ⟨fun σ J => ∃ v5 S L Tx Kd rp rr, σ = [some (.ref sa), some (.ref ps), some (.ref pj), some (.ref S), some (.ref rp), v5, v6, v7, v8, v9, va, vb, vc, vd] ∧ LS K sa S L Tx Kd ps pj rp vsp ds js rr H J (fun _ => none) 0 ∧ rr ≠ [] ∧ rr.length ≤ 71 ^ 3, ?_, ?_⟩
    · refine ⟨_, rfl, ps, rfl, ⟨_, SqL.of hY.sp⟩, fun D' hD' => ?_⟩
      have nD' : D' ≠ sa := st6.ne hD'
      refine lc_list (K := K) (a := ps) (xs := vsp) (fun n J => ∃ ys : List V, ys.length = n ∧ Same J6 J ∧ J D' = some (.lst ys) ∧ ∀ (i : Nat) (y : V) (d : FD), ys[i]? = some y → ds[i]? = some d → ∃ r, y = .ref r ∧ FdAt K J r d) ⟨[], rfl, same_upd hD', upd_same, fun i y d h => (by cases h)⟩ (fun i J hi ⟨_, _, S, _⟩ => SqL.of (S _ _ hY.sp)) ?_ ?_
      · rintro m v J hv ⟨ys, hyl, SJ, eD, hy⟩
        have hm := (List.getElem?_eq_some_iff.mp hv).1
        have hvl : vsp.length = ds.length := hY.sps.1
        have hfw := hY.ok.few
        obtain ⟨d, hd, hF⟩ := hY.sps.get hv
        have hdd := hY.dr d (List.mem_of_getElem? hd)
        refine ⟨rfl, _, rfl, sa, v, d, rfl, hF.same SJ, hdd.good, d.dep_lt, fun r J2 S2 hR => ?_⟩
        refine ⟨ys, S2 _ _ eD, by rw [sizeLine_eq]; omega, ys ++ [.ref r], by rw [List.length_append, hyl]; rfl, same_put (SJ.trans S2) hD', upd_same, fun q y d' h1 h2 => ?_⟩
        by_cases hq : q < ys.length
        · rw [List.getElem?_append_left hq] at h1
          obtain ⟨r', e, h⟩ := hy q y d' h1 h2
          exact ⟨r', e, FsAt.putl (S2 _ _ eD) (h.same S2)⟩
        · rw [List.getElem?_append_right (by omega)] at h1
          have e : q = m := by
            have := (List.getElem?_eq_some_iff.mp h1).1
            have : q - ys.length < 1 := this
            omega
          subst e
          rw [hyl, Nat.sub_self] at h1
          cases h1
          rw [hd] at h2
          cases h2
          exact ⟨r, rfl, FsAt.putl (S2 _ _ eD) hR⟩
      · rintro J ⟨ys, hyl, SJ, eD, hy⟩
        refine ⟨_, rfl, fun L dx hL hdx nd => ?_⟩
        have SN := same_new (C := LA K) (fs := []) hL hdx
        have eL : upd (upd J dx (.own L)) L (.ins (LA K) dx []) L = some (.ins (LA K) dx []) := upd_same
        generalize upd (upd J dx (.own L)) L (.ins (LA K) dx []) = JN_ at SN eL ⊢
        have hFs : FsAt K J ys ds := ⟨by rw [hyl]; exact hY.sps.1, hy⟩
        refine ⟨L, dx, D', pj, ys, ds, js, rfl, eL, SN _ _ eD, hFs.same SN, SN _ _ (SJ _ _ hY.jt), hY.ok, fun J8 t1 t2 S8 q1 q2 => ⟨rfl, ?_⟩⟩
        have eL8 := S8 _ _ eL
        have SL : Same J (upd J8 L (.ins (LA K) dx (fLayout (.ref t1) (.ref t2)))) := same_put (SN.trans S8) hL
        have hLy : LayAt K (upd J8 L (.ins (LA K) dx (fLayout (.ref t1) (.ref t2)))) L ds js := ⟨⟨dx, t1, t2, ys, upd_same, seqT_upd eL8 q1, hFs.same SL, seqT_upd eL8 q2⟩, hY.ok⟩
        generalize upd J8 L (.ins (LA K) dx (fLayout (.ref t1) (.ref t2))) = J9 at SL hLy ⊢
        have S69 := SJ.trans SL
        have hY9 := hY.same S69
        refine fun S2 dx2 hS2 hdx2 nd2 => ⟨S2, dx2, L, rfl, upd_same, fun Tx2 Kd2 G3 hTx hKd B hst => ⟨rfl, ?_⟩⟩
        have SN2 := same_new (C := SC K) (fs := []) hS2 hdx2
        have S93 : Same J9 G3 := fun b o e => B b o (ne_of_none e hS2) (SN2 _ _ e)
        have hT9 := noneOf SN2 hTx
        have hK9 := noneOf SN2 hKd
        have S63 := S69.trans S93
        refine ⟨_, rfl, sa, ps, vsp, ds, rfl, S63 _ _ hY.sp, hY.sps.same S63, hY.dr, hl3, fun rp rr G4 hrp S34 erp hrr hne hrl => ⟨_, _, rfl, ?_⟩⟩
        have S64 := S63.trans S34
        have st4 := st6.same S64
        have nT := (st6.same S69).ne hT9
        refine ⟨_, S2, L, Tx2, Kd2, rp, rr, rfl, ⟨B6.trans (But.of_same S64), st4, hst.same S34, (hLy.same S93).same S34, S64 _ _ hY.sp, fun s hs => ?_, S64 _ _ hY.jt, erp, hrr, hY.ns, ne_of_none hY9.sp hT9, nT, hY.nj, ne_of_none hY9.jt hT9, (st6.same S63).ne hrp, fun z => ?_, none_but nT B6 (noneOf S69 hT9), none_but (fun z => ?_) B6 (noneOf S69 hK9), hY.dr, fun t e z => by cases z⟩, hne, hrl⟩
        · rcases hs with rfl | rfl | rfl
          · exact hY.sps.same S64
          · exact (((hY9.sps).away hY.dr (.inl hT9)).same S93).same S34
          · exact (((hY9.sps).away hY.dr (.inl hK9)).same S93).same S34
        · obtain ⟨tsx, eTx, _, _⟩ := hst.tx
          rw [z, eTx] at hrp
          cases hrp
        · obtain ⟨w, ew⟩ := (st6.same S69).at
          rw [z, ew] at hK9
          cases hK9
    clear B6 st6 hY
    rintro σ J7 ⟨v5, S, L, Tx, Kd, rp, rr, rfl, ls, hrne, hrl⟩
    have hfew := ls.ly.ok.few
    refine ⟨fun σ J => ∃ v6 m n, σ = [some (.ref sa), some (.ref ps), some (.ref pj), some (.ref S), some (.ref rp), v5, v6, v7, v8, v9, va, vb, vc, vd] ∧ LS K sa S L Tx Kd ps pj rp vsp ds js rr H J m n ∧ n ≤ 9, ?_, ?_⟩
    · refine ⟨_, rfl, by show 5 ≤ 1000; decide, fun p0 J hp0 S0 e0 => ?_⟩
      have l0 := ls.same S0
      refine ⟨sa, p0, _, rfl, l0.st, ls.st.ne hp0, e0, (fun z => by cases z), by show 5 ≤ 1000; decide, fun v J1 hv B1 st1 => ?_⟩
      have l1 := l0.but B1 st1
      obtain ⟨c, hc, rfl⟩ : ∃ c : Nat, c ≤ 9 ∧ v = .int (c : Nat) := by
        rcases List.mem_cons.mp hv with rfl | hv
        · exact ⟨0, by decide, rfl⟩
        rcases List.mem_cons.mp hv with rfl | hv
        · exact ⟨1, by decide, rfl⟩
        rcases List.mem_cons.mp hv with rfl | hv
        · exact ⟨2, by decide, rfl⟩
        rcases List.mem_cons.mp hv with rfl | hv
        · exact ⟨4, by decide, rfl⟩
        · exact ⟨9, by decide, List.mem_singleton.mp hv⟩
      refine ⟨(c : Nat), rfl, by omega, by omega, ?_⟩
      refine for_range (lo := 0) (fun j σ J => ∃ v6 m, σ = [some (.ref sa), some (.ref ps), some (.ref pj), some (.ref S), some (.ref rp), v5, v6, v7, v8, v9, va, vb, vc, vd] ∧ LS K sa S L Tx Kd ps pj rp vsp ds js rr H J m j) ⟨_, _, rfl, l1⟩ ?_ ?_
      · rintro j σ J2 hj ⟨x6, m, rfl, l2⟩
        obtain ⟨dx, eS⟩ := l2.hS.ex
        refine ⟨_, rfl, S, dx, _, rfl, eS, lStore_m _ (by decide +kernel), ?_⟩
        refine ⟨_, rfl, _, rfl, sa, rp, _, rfl, l2.st, l2.n6, l2.rl, (fun z => hrne (List.map_eq_nil_iff.mp z)), by rw [List.length_map]; exact Nat.le_trans hrl (by decide), fun v J3 hv B3 st3 => ?_⟩
        have l3 := l2.but B3 st3
        obtain ⟨r, hrm, rfl⟩ := List.mem_map.mp hv
        obtain ⟨xs, er, hR⟩ := l3.rw r hrm
        have due := row_due l3.dr hR
        obtain ⟨ts, eT, _, _⟩ := l3.hS.tx
        refine ⟨_, rfl, S, L, Tx, Kd, ds, js, m, j, .ref r, some xs, _, rfl, l3.hS, by omega, l3.ly, .tup er, row_inn l3.dr hfew hR _, (fun z => by injection z with z; rw [z, eT] at er; cases er), fun _ xs' ex => ⟨by cases ex; exact hR.rowT l3.dr, fun J4 B4 hst4 => ?_⟩, fun z hz => by rw [due] at hz; cases hz⟩
        cases ex
        exact ⟨_, _, rfl, l3.put B4 hst4 (rw_set l3.mr hR)⟩
      · rintro σ J2 ⟨x6, m, rfl, l2⟩
        exact ⟨_, m, _, rfl, l2, by omega⟩
    clear ls
    rintro σ J8 ⟨v6, m, n, rfl, ls, hn⟩
    obtain ⟨dx, eS⟩ := ls.hS.ex
    refine ⟨_, rfl, S, dx, _, rfl, eS, lStore_m _ (by decide +kernel), by show 0 ≤ 1000; decide, fun p0' J9 hp0' S9 e9 => ?_⟩
    have l9 := ls.same S9
    refine ⟨S, L, Tx, Kd, ds, js, m, n, .ref p0', some [], rfl, l9.hS, by omega, l9.ly, .lst e9, ⟨by decide, fun x hx => by cases hx⟩, fun _ xs ex => ⟨fun i d x _ h2 => (by cases ex; cases h2), fun D ts i us Ja hTs hAt Sa hD eD hU => ?_⟩, fun z hz => by rw [head_due] at hz; cases hz⟩
    cases ex
    rw [scan_all hAt] at hU
    have la := l9.same Sa
    have nD : D ≠ sa := l9.st.ne hD
    obtain ⟨es, hes⟩ := ents_of hTs
    have hrw : ∀ e ∈ es, RwV ds e.1 := fun e he => by
      obtain ⟨t, ht⟩ := ents_mem hes he
      exact ls.mr t e ht
    have hfl : ∀ e ∈ es, FlR e.1 := fun e he => rwv_flr ls.dr (hrw e he)
    have hsm : ∀ {xs}, RwV ds xs → ∀ x ∈ xs, Some x := fun {xs} h x hx => by
      obtain ⟨d, hdm, hv⟩ := h.mem hx
      exact vf_some (ls.dr d hdm) hv
    have hds : ds.length ≤ 3 := hl3
    have hmr := ls.mr
    have hdr := ls.dr
    have hle : ts.length ≤ 9 := by
      obtain ⟨ts', _, h1, h2⟩ := ls.hS.tx
      rw [tis_uniq h1 hTs]
      omega
    clear l9 ls Sa S9 e9 hp0' hD eS
    refine ⟨4, rfl, by decide, by decide, for_range (n := 4) (fun j σ J => ∃ v5 v8 v9 va vb vc vd, σ = [some (.ref sa), some (.ref ps), some (.ref pj), some (.ref S), some (.ref rp), v5, v6, some (.ref D), v8, v9, va, vb, vc, vd] ∧ LS K sa S L Tx Kd ps pj rp vsp ds js rr H J m n ∧ J D = some (.lst us) ∧ LsIs J us ts m) ⟨_, _, _, _, _, _, _, rfl, la, eD, hU⟩ ?_ ?_⟩
    · clear la hU eD
      rintro j σ Jb hj ⟨v5, v8, v9, va, vb, vc, vd, rfl, lb, eD, hU⟩
      -- another layout
      refine ⟨fun σ J => ∃ ps2 pj2 vsp2 ds2 js2, σ = [some (.ref sa), some (.ref ps), some (.ref pj), some (.ref S), some (.ref rp), v5, v6, some (.ref D), some (.int (0 + (j : Nat))), some (.ref ps2), some (.ref pj2), vb, vc, vd] ∧ LS K sa S L Tx Kd ps pj rp vsp ds js rr H J m n ∧ J D = some (.lst us) ∧ LsIs J us ts m ∧ LyAt sa J ps2 pj2 vsp2 ds2 js2 ∧ ds2.length ≤ 4, ?_, ?_⟩
      · refine ⟨_, rfl, _, rfl, _, rfl, sa, ps, pj, vsp, ds, js, rfl, lb.st, lb.lyAt, hl3, fun T ps2 pj2 vsp2 ds2 js2 Jc nT hY2 hl4 eT B stc => ?_⟩
        refine ⟨T, _, rfl, SqT.of eT, rfl, _, _, rfl, _, _, rfl, rfl, ?_⟩
        exact ⟨ps2, pj2, vsp2, ds2, js2, rfl, lb.but B stc, B _ _ nD eD, hU.butS lb.st B, hY2, hl4⟩
      clear lb eD hU
      rintro σ J6 ⟨ps2, pj2, vsp2, ds2, js2, rfl, lb, eD, hU, hY2, hl4⟩
      -- .. made
      refine ⟨fun σ J => ∃ v5 L2, σ = [some (.ref sa), some (.ref ps), some (.ref pj), some (.ref S), some (.ref rp), v5, v6, some (.ref D), some (.int (0 + (j : Nat))), some (.ref ps2), some (.ref pj2), some (.ref L2), vc, vd] ∧ LS K sa S L Tx Kd ps pj rp vsp ds js rr H J m n ∧ J D = some (.lst us) ∧ LsIs J us ts m ∧ LyAt sa J ps2 pj2 vsp2 ds2 js2 ∧ LayAt K J L2 ds2 js2, ?_, ?_⟩
      · refine ⟨_, rfl, ps2, rfl, ⟨_, SqL.of hY2.sp⟩, fun D' hD' => ?_⟩
        have nD' : D' ≠ sa := lb.st.ne hD'
        refine lc_list (K := K) (a := ps2) (xs := vsp2) (fun n J => ∃ ys : List V, ys.length = n ∧ Same J6 J ∧ J D' = some (.lst ys) ∧ ∀ (i : Nat) (y : V) (d : FD), ys[i]? = some y → ds2[i]? = some d → ∃ r, y = .ref r ∧ FdAt K J r d) ⟨[], rfl, same_upd hD', upd_same, fun i y d h => (by cases h)⟩ (fun i J hi ⟨_, _, S, _⟩ => SqL.of (S _ _ hY2.sp)) ?_ ?_
        · rintro m v J hv ⟨ys, hyl, SJ, eD, hy⟩
          have hm := (List.getElem?_eq_some_iff.mp hv).1
          have hvl : vsp2.length = ds2.length := hY2.sps.1
          have hfw := hY2.ok.few
          obtain ⟨d, hd, hF⟩ := hY2.sps.get hv
          have hdd := hY2.dr d (List.mem_of_getElem? hd)
          refine ⟨rfl, _, rfl, sa, v, d, rfl, hF.same SJ, hdd.good, d.dep_lt, fun r J2 S2 hR => ?_⟩
          refine ⟨ys, S2 _ _ eD, by rw [sizeLine_eq]; omega, ys ++ [.ref r], by rw [List.length_append, hyl]; rfl, same_put (SJ.trans S2) hD', upd_same, fun q y d' h1 h2 => ?_⟩
          by_cases hq : q < ys.length
          · rw [List.getElem?_append_left hq] at h1
            obtain ⟨r', e, h⟩ := hy q y d' h1 h2
            exact ⟨r', e, FsAt.putl (S2 _ _ eD) (h.same S2)⟩
          · rw [List.getElem?_append_right (by omega)] at h1
            have e : q = m := by
              have := (List.getElem?_eq_some_iff.mp h1).1
              have : q - ys.length < 1 := this
              omega
            subst e
            rw [hyl, Nat.sub_self] at h1
            cases h1
            rw [hd] at h2
            cases h2
            exact ⟨r, rfl, FsAt.putl (S2 _ _ eD) hR⟩
        · rintro J ⟨ys, hyl, SJ, eD2, hy⟩
          refine ⟨_, rfl, fun L dx hL hdx nd => ?_⟩
          have SN := same_new (C := LA K) (fs := []) hL hdx
          have eL : upd (upd J dx (.own L)) L (.ins (LA K) dx []) L = some (.ins (LA K) dx []) := upd_same
          generalize upd (upd J dx (.own L)) L (.ins (LA K) dx []) = JN_ at SN eL ⊢
          have hFs : FsAt K J ys ds2 := ⟨by rw [hyl]; exact hY2.sps.1, hy⟩
          refine ⟨L, dx, D', pj2, ys, ds2, js2, rfl, eL, SN _ _ eD2, hFs.same SN, SN _ _ (SJ _ _ hY2.jt), hY2.ok, fun J8 t1 t2 S8 q1 q2 => ⟨rfl, ?_⟩⟩
          have eL8 := S8 _ _ eL
          have SL : Same J (upd J8 L (.ins (LA K) dx (fLayout (.ref t1) (.ref t2)))) := same_put (SN.trans S8) hL
          have hLy : LayAt K (upd J8 L (.ins (LA K) dx (fLayout (.ref t1) (.ref t2)))) L ds2 js2 := ⟨⟨dx, t1, t2, ys, upd_same, seqT_upd eL8 q1, hFs.same SL, seqT_upd eL8 q2⟩, hY2.ok⟩
          generalize upd J8 L (.ins (LA K) dx (fLayout (.ref t1) (.ref t2))) = J9 at SL hLy ⊢
          have S69 := SJ.trans SL
          exact ⟨_, L, rfl, lb.same S69, S69 _ _ eD, hU.nl (NL.of_same S69), hY2.same S69, hLy⟩
      clear lb eD hU hY2
      rintro σ Jc ⟨v5, L2, rfl, lc, eD, hU, hY2, hLy2⟩
      have hfit : ∀ {e}, e ∈ es → rowDue ds2 (some e.1) = none → RwV ds2 e.1 := fun {e} he h => fit_rwv hY2.dr (hsm (hrw e he)) h
      have hrow : ∀ t e, m t = some e → (rowDue ds2 (some e.1) = none → RowT ds2 e.1) ∧ ∀ J, RowIn J (some e.1) := fun t e h => ⟨fun k => (fit_rwv hY2.dr (hsm (hmr t e h)) k).rowT hY2.dr, row_inn hdr hfew (hmr t e h)⟩
      have hfew2 := hY2.ok.few
      -- what is due
      refine ⟨fun σ J => ∃ t, σ = [some (.ref sa), some (.ref ps), some (.ref pj), some (.ref S), some (.ref rp), v5, v6, some (.ref D), some (.int (0 + (j : Nat))), some (.ref ps2), some (.ref pj2), some (.ref L2), some (.ref t), vd] ∧ LS K sa S L Tx Kd ps pj rp vsp ds js rr H J m n ∧ J D = some (.lst us) ∧ LsIs J us ts m ∧ LyAt sa J ps2 pj2 vsp2 ds2 js2 ∧ LayAt K J L2 ds2 js2 ∧ SdT ds2 js2 es J t, ?_, ?_⟩
      · refine ⟨_, rfl, _, rfl, _, rfl, sa, ps2, pj2, D, vsp2, us, ds2, js2, es, rfl, hY2.sp, hY2.sps, hY2.jt, hY2.ok, hY2.dr, by omega, eD, by rw [hU.1, hes.1], by rw [hU.1]; omega, fun k v hv => ?_, sd_end fun t J' SJ hT => ?_⟩
        · obtain ⟨t, ht⟩ : ∃ t, ts[k]? = some t := ⟨_, List.getElem?_eq_getElem (by have := (List.getElem?_eq_some_iff.mp hv).1; have := hU.1; omega)⟩
          obtain ⟨e, he, hm⟩ := hes.2 k t ht
          obtain ⟨e', hm', hE⟩ := hU.2 k v t hv ht
          rw [hm] at hm'
          cases hm'
          have hr := hrw e (List.mem_of_getElem? he)
          exact ⟨e, he, hE, hsm hr, by rw [hr.1]; omega⟩
        · exact ⟨t, rfl, lc.same SJ, SJ _ _ eD, hU.nl (NL.of_same SJ), hY2.same SJ, hLy2.same SJ, hT⟩
      clear lc eD hU hY2 hLy2
      rintro σ Jd ⟨t, rfl, ld, eD, hU, hY2, hLy2, hT⟩
      -- what is said, twice; the rows stay
      refine ⟨fun σ J => σ = [some (.ref sa), some (.ref ps), some (.ref pj), some (.ref S), some (.ref rp), v5, v6, some (.ref D), some (.int (0 + (j : Nat))), some (.ref ps2), some (.ref pj2), some (.ref L2), some (.ref t), vd] ∧ Same Jd J, ?_, ?_⟩
      · refine ⟨_, rfl, _, rfl, S, L, Tx, Kd, L2, ds2, js2, m, n, rfl, ld.hS, by omega, hLy2, hrow, fun ts1 es1 hTs1 hes1 => ?_⟩
        obtain rfl := (tis_uniq hTs hTs1).symm
        obtain rfl := (ents_uniq hes hes1).symm
        refine sd_end fun t1 J1 S1 hT1 => ?_
        obtain ⟨d0, hd0, hD0⟩ := hT.dp (K := K) hfl
        obtain ⟨d1, hd1, hD1⟩ := hT1.dp (K := K) hfl
        obtain rfl := hD0.uniq hD1
        have sh := hD0.sh hfl
        obtain ⟨d0', hd0', hD0'⟩ := (hT.same S1).dp (K := K) hfl
        obtain rfl := hD0.uniq hD0'
        refine ⟨_, rfl, _, _, hd1, hd0', sh, sh, _, rfl, ?_⟩
        rw [eqv_same sh]
        refine iteF ?_
        have l1 := ld.same S1
        refine ⟨_, rfl, _, rfl, S, L, Tx, Kd, L2, ds2, js2, m, n, rfl, l1.hS, by omega, hLy2.same S1, hrow, fun ts2 es2 hTs2 hes2 => ?_⟩
        obtain rfl := (tis_uniq hTs hTs2).symm
        obtain rfl := (ents_uniq hes hes2).symm
        refine sd_end fun t2 J2 S12 hT2 => ?_
        have S2 := S1.trans S12
        obtain ⟨d2, hd2, hD2⟩ := hT2.dp (K := K) hfl
        obtain rfl := hD0.uniq hD2
        obtain ⟨d3, hd3, hD3⟩ := (hT.same S2).dp (K := K) hfl
        obtain rfl := hD0.uniq hD3
        refine ⟨_, rfl, _, _, hd2, hd3, sh, sh, _, rfl, ?_⟩
        rw [eqv_same sh]
        refine iteF ?_
        have l2 := ld.same S2
        obtain ⟨dx, eS⟩ := l2.hS.ex
        refine ⟨_, rfl, S, dx, _, rfl, eS, lStore_m _ (by decide +kernel), by show 0 ≤ 1000; decide, fun p3 J3 hp3 S23 e3 => ?_⟩
        have l3 := l2.same S23
        refine ⟨S, L, Tx, Kd, ds, js, m, n, .ref p3, some [], rfl, l3.hS, by omega, l3.ly, .lst e3, ⟨by decide, fun x hx => by cases hx⟩, fun _ xs ex => ⟨fun i d x _ h2 => (by cases ex; cases h2), fun D4 ts4 i us4 J4 hTs4 hAt S34 hD4 eD4 hU4 => ?_⟩, fun z hz => by rw [head_due] at hz; cases hz⟩
        cases ex
        rw [scan_all hAt] at hU4
        obtain rfl := (tis_uniq hTs hTs4).symm
        have S4 := (S2.trans S23).trans S34
        refine ⟨_, rfl, .list (es.map dE), .list (es.map dE), .lst (SqL.of eD4) (dp_ls hU4 hes hfl), .lst (SqL.of (S4 _ _ eD)) (dp_ls (hU.nl (NL.of_same S4)) hes hfl), sh_fls hfl, sh_fls hfl, _, rfl, ?_⟩
        rw [eqv_same (sh_fls hfl)]
        exact iteF ⟨rfl, S4⟩
      rintro σ J ⟨rfl, SJ⟩
      replace ld := ld.same SJ
      replace eD := SJ _ _ eD
      replace hU := hU.nl (NL.of_same SJ)
      replace hY2 := hY2.same SJ
      replace hLy2 := hLy2.same SJ
      replace hT := hT.same SJ
      clear SJ
      have skip : ∀ {z : Str} {xs : List V} {A B : Prop}, J t = some (.tup (.str z :: xs)) → decide (V.str z = V.str "told") = false → B → if decide (V.str z = V.str "told") = true then A else B := fun _ h k => by
        rw [h]
        exact iteF k
      cases hT with
      | row h1 h2 h3 h4 => exact ⟨_, rfl, t, _, _, _, rfl, rfl, SqT.of h4, atI_nat (j := 0) rfl, rfl, _, rfl, skip h4 (by decide +kernel) ⟨_, _, _, _, _, _, _, rfl, ld, eD, hU⟩⟩
      | clash h0 h1 h2 h3 h4 => exact ⟨_, rfl, t, _, _, _, rfl, rfl, SqT.of h4, atI_nat (j := 0) rfl, rfl, _, rfl, skip h4 (by decide +kernel) ⟨_, _, _, _, _, _, _, rfl, ld, eD, hU⟩⟩
      | @good tsm usm Dm hF hN hTm eT eDm hUm =>
      refine ⟨_, rfl, t, _, _, _, rfl, rfl, SqT.of eT, atI_nat (j := 0) rfl, rfl, _, rfl, ?_⟩
      rw [decide_eq_true rfl]
      refine iteT ?_
      refine ⟨_, rfl, by show 0 ≤ 1000; decide, fun p1 J1 hp1 S1 e1 => ?_⟩
      refine ⟨.list (es.map dE), .list [], .lst (SqL.of (S1 _ _ eD)) (dp_ls (hU.nl (NL.of_same S1)) hes hfl), .lst (SqL.of e1) .nil, sh_fls hfl, by decide +kernel, _, rfl, ?_⟩
      refine ite2 (fun hne => ?_) (fun _ => ⟨_, _, _, _, _, _, _, rfl, ld.same S1, S1 _ _ eD, hU.nl (NL.of_same S1)⟩)
      have hes0 : es ≠ [] := fun z => by
        rw [z] at hne
        exact absurd hne (by decide +kernel)
      replace ld := ld.same S1
      replace eD := S1 _ _ eD
      replace hU := hU.nl (NL.of_same S1)
      replace hY2 := hY2.same S1
      replace hLy2 := hLy2.same S1
      replace eT := S1 _ _ eT
      replace eDm := S1 _ _ eDm
      replace hUm := hUm.nl (NL.of_same S1)
      clear S1 e1 hp1 skip
      have h0 : 0 < us.length := by
        have := List.length_pos_iff.mpr hes0
        have := hU.1
        have := hes.1
        omega
      have item : ∀ {k : Nat} {v : V}, us[k]? = some v → ∃ e r x, e ∈ es ∧ v = .ref r ∧ J1 r = some (.tup [.ref x, .int e.2]) ∧ J1 x = some (.tup e.1) := fun {k v} hv => by
        obtain ⟨t, ht⟩ : ∃ t, ts[k]? = some t := ⟨_, List.getElem?_eq_getElem (by have := (List.getElem?_eq_some_iff.mp hv).1; have := hU.1; omega)⟩
        obtain ⟨e, he, hm⟩ := hes.2 k t ht
        obtain ⟨e', hm', r, x, rfl, h1, h2⟩ := hU.2 k v t hv ht
        rw [hm] at hm'
        cases hm'
        exact ⟨e, r, x, List.mem_of_getElem? he, rfl, h1, h2⟩
      -- a later one
      refine ⟨fun σ J => ∃ S2 Tx2 Kd2, σ = [some (.ref sa), some (.ref ps), some (.ref pj), some (.ref S), some (.ref rp), v5, v6, some (.ref D), some (.int (0 + (j : Nat))), some (.ref ps2), some (.ref pj2), some (.ref L2), some (.ref t), some (.ref S2)] ∧ Same J1 J ∧ J1 Tx2 = none ∧ J1 Kd2 = none ∧ StA K J S2 L2 Tx2 Kd2 (mvL (rowText ds2 js2) es) n, ?_, ?_⟩
      · obtain ⟨dx, eS⟩ := ld.hS.ex
        refine ⟨_, rfl, S, dx, _, rfl, eS, lStore_m _ (by decide +kernel), _, rfl, ?_⟩
        exact ⟨S, L, Tx, Kd, L2, ds2, js2, m, n, rfl, ld.hS, by omega, hLy2, hrow, fun ts' es' h1 h2 => mv_end hTs hes h1 h2 hF hN fun S2 Tx2 Kd2 J SJ h2 hT2 hK2 hst => ⟨S2, Tx2, Kd2, rfl, SJ, hT2, hK2, hst⟩⟩
      rintro σ J ⟨S2, Tx2, Kd2, rfl, SJ, hT2, hK2, hst⟩
      refine ⟨fun σ J => σ = [some (.ref sa), some (.ref ps), some (.ref pj), some (.ref S), some (.ref rp), v5, v6, some (.ref D), some (.int (0 + (j : Nat))), some (.ref ps2), some (.ref pj2), some (.ref L2), some (.ref t), some (.ref S2)] ∧ Same J1 J ∧ ∃ m2, StA K J S2 L2 Tx2 Kd2 m2 n, ?_, ?_⟩
      · obtain ⟨u0, hu0⟩ : ∃ u, us[0]? = some u := ⟨_, List.getElem?_eq_getElem h0⟩
        obtain ⟨e, r, x, he, rfl, hr1, hr2⟩ := item hu0
        obtain ⟨dx2, eS2⟩ := hst.ex
        have hr := hfit he (hF e he)
        refine ⟨_, rfl, S2, dx2, _, rfl, eS2, lStore_m _ (by decide +kernel), ?_⟩
        refine ⟨_, rfl, D, _, _, _, rfl, rfl, SqL.of (SJ _ _ eD), atI_nat (j := 0) hu0, r, _, _, _, rfl, rfl, SqT.of (SJ _ _ hr1), atI_nat (j := 0) rfl, ?_⟩
        refine ⟨S2, L2, Tx2, Kd2, ds2, js2, _, n, .ref x, some e.1, rfl, hst, by omega, hLy2.same SJ, .tup (SJ _ _ hr2), row_inn hY2.dr hfew2 hr _, fun _ xs ex => ⟨by cases ex; exact hr.rowT hY2.dr, fun J' B' hst' => ?_⟩, fun z hz => by rw [hF e he] at hz; cases hz⟩
        exact ⟨rfl, same_but2 SJ hT2 hK2 B', _, hst'⟩
      clear hst SJ
      rintro σ J ⟨rfl, SJ, m2, hst⟩
      refine ⟨fun σ J => σ = [some (.ref sa), some (.ref ps), some (.ref pj), some (.ref S), some (.ref rp), v5, v6, some (.ref D), some (.int (0 + (j : Nat))), some (.ref ps2), some (.ref pj2), some (.ref L2), some (.ref t), some (.ref S2)] ∧ Same J1 J, ?_, ?_⟩
      · obtain ⟨u0, hu0⟩ : ∃ u, us[us.length - 1]? = some u := ⟨_, List.getElem?_eq_getElem (by omega)⟩
        obtain ⟨e, r, x, he, rfl, hr1, hr2⟩ := item hu0
        obtain ⟨dx2, eS2⟩ := hst.ex
        obtain ⟨tsx, eTx, _, _⟩ := hst.tx
        have hr := hfit he (hF e he)
        refine ⟨_, rfl, S2, dx2, _, rfl, eS2, lStore_m _ (by decide +kernel), ?_⟩
        refine ⟨_, rfl, 1, rfl, D, _, _, _, rfl, rfl, SqL.of (SJ _ _ eD), atI_m1 h0 hu0, r, _, _, _, rfl, rfl, SqT.of (SJ _ _ hr1), atI_nat (j := 0) rfl, 7, rfl, ?_⟩
        refine ⟨S2, L2, Tx2, Kd2, ds2, js2, m2, n, .ref x, some e.1, _, rfl, hst, by omega, hLy2.same SJ, .tup (SJ _ _ hr2), row_inn hY2.dr hfew2 hr _, (fun z => by injection z with z; rw [← z] at eTx; rw [SJ _ _ hr2] at eTx; cases eTx), fun _ xs ex => ⟨by cases ex; exact hr.rowT hY2.dr, fun J' B' hst' => ?_⟩, fun z hz => by rw [hF e he] at hz; cases hz⟩
        exact ⟨rfl, same_but2 SJ hT2 hK2 B'⟩
      clear hst SJ item
      rintro σ J ⟨rfl, SJ⟩
      have lj := ld.same SJ
      obtain ⟨dx, eS⟩ := lj.hS.ex
      refine ⟨_, rfl, S, dx, _, rfl, eS, lStore_m _ (by decide +kernel), by show 0 ≤ 1000; decide, fun p3 J3 hp3 S3 e3 => ?_⟩
      have l3 := lj.same S3
      refine ⟨S, L, Tx, Kd, ds, js, m, n, .ref p3, some [], rfl, l3.hS, by omega, l3.ly, .lst e3, ⟨by decide, fun x hx => by cases hx⟩, fun _ xs ex => ⟨fun i d x _ h2 => (by cases ex; cases h2), fun D4 ts4 i us4 J4 hTs4 hAt S34 hD4 eD4 hU4 => ?_⟩, fun z hz => by rw [head_due] at hz; cases hz⟩
      cases ex
      rw [scan_all hAt] at hU4
      obtain rfl := (tis_uniq hTs hTs4).symm
      have S4 := (SJ.trans S3).trans S34
      refine ⟨_, rfl, .list (es.map dE), .list (es.map dE), .lst (SqL.of eD4) (dp_ls hU4 hes hfl), .lst (SqL.of (S4 _ _ eD)) (dp_ls (hU.nl (NL.of_same S4)) hes hfl), sh_fls hfl, sh_fls hfl, _, rfl, ?_⟩
      rw [eqv_same (sh_fls hfl)]
      refine iteF ?_
      have l4 := ld.same S4
      obtain ⟨dx4, eS4⟩ := l4.hS.ex
      refine ⟨_, rfl, S, dx4, _, rfl, eS4, lStore_m _ (by decide +kernel), S, L, Tx, Kd, m, n, rfl, l4.hS, fun ts5 hTs5 hl5 => ?_⟩
      refine ⟨_, rfl, D, _, rfl, .inl (SqL.of (S4 _ _ eD)), rfl, _, rfl, ?_⟩
      obtain rfl := (tis_uniq hTs hTs5).symm
      rw [hU.1, decide_eq_true rfl]
      refine iteF ?_
      refine ⟨_, rfl, S, dx4, _, rfl, eS4, lStore_m _ (by decide +kernel), _, rfl, ?_⟩
      refine ⟨S, L, Tx, Kd, L2, ds2, js2, m, n, rfl, l4.hS, by omega, hLy2.same S4, hrow, fun ts' es' h1 h2 => mv_end hTs hes h1 h2 hF hN fun S5 Tx5 Kd5 J5 S45 _ _ _ hst5 => ?_⟩
      obtain ⟨dx5, eS5⟩ := hst5.ex
      refine ⟨S5, dx5, _, rfl, eS5, lStore_m _ (by decide +kernel), by show 0 ≤ 1000; decide, fun p6 J6 hp6 S56 e6 => ?_⟩
      refine ⟨S5, L2, Tx5, Kd5, ds2, js2, _, n, .ref p6, some [], rfl, hst5.same S56, by omega, (hLy2.same (S4.trans S45)).same S56, .lst e6, ⟨by decide, fun x hx => by cases hx⟩, fun _ xs ex => ⟨fun i d x _ h2 => (by cases ex; cases h2), fun D7 ts7 i us7 J7 hTs7 hAt S67 hD7 eD7 hU7 => ?_⟩, fun z hz => by rw [head_due] at hz; cases hz⟩
      cases ex
      rw [scan_all hAt] at hU7
      obtain rfl := (tis_uniq hTm hTs7).symm
      obtain ⟨esm, hesm⟩ := ents_of hTm
      have hflm : ∀ e ∈ esm, FlR e.1 := fun e he => by
        obtain ⟨u, hu⟩ := ents_mem hesm he
        exact hfl e (mvL_mem hu)
      have S7 := ((S4.trans S45).trans S56).trans S67
      refine ⟨_, rfl, t, _, _, _, rfl, rfl, SqT.of (S7 _ _ eT), atI_nat (j := 1) rfl, .list (esm.map dE), .list (esm.map dE), .lst (SqL.of eD7) (dp_ls hU7 hesm hflm), .lst (SqL.of (S7 _ _ eDm)) (dp_ls (hUm.nl (NL.of_same S7)) hesm hflm), sh_fls hflm, sh_fls hflm, _, rfl, ?_⟩
      rw [eqv_same (sh_fls hflm)]
      refine iteF ?_
      exact ⟨_, _, _, _, _, _, _, rfl, ld.same S7, S7 _ _ eD, hU.nl (NL.of_same S7)⟩
    · rintro σ Jb ⟨v5, v8, v9, va, vb, vc, vd, rfl, lb, _⟩
      exact q Jb lb.bu lb.st

end
end L2.K77

set_option Elab.async false
set_option linter.all false
set_option maxRecDepth 100000
set_option maxHeartbeats 4000000
/-! The law. -/
namespace L2.K77
open PySem PySem.W PySem.Spec PySem.Calls PyProof.Rows L2.Jk
structure GLW (P : Program) (w : World) (K : Frag) (mg : Str → Option Value) (base : Heap) : Prop extends GRt P w K mg base where
  law_source : FnAt P w K mg base CX0 1 "_law_source" ["_law_cell"] spSource
  law_right : FnAt P w K mg base CX0 10 "_law_right" ["_law_source_here"] spRt
  minB : mg "min" = none
def spLaw (K : Frag) : Sp := fun vs H Q _ => ∃ (a : Addr) (ns : List Int), vs = [.ref a] ∧ SqL K H a (ns.map V.int) ∧ ns.length ≤ 63 ∧ ∀ H', Q (.bl true) H'
theorem idx_lt3 {n i : Nat} (h : i < (if (if (n : Int) < 3 then (n : Int) else 3) > 1 then (if (n : Int) < 3 then (n : Int) else 3) else 1).toNat) : i < n + 1 ∧ i < 3 := by
  split at h <;> split at h <;> omega
section
variable {P : Program} {w : World} {K : Frag} {mg : Str → Option Value} {base : Heap} {f : Addr} {fd : FuncData}

abbrev s_law : Stmt := top 64
theorem sc_law : FnScope ["_law_script", "_law_index", "_law_source_here", "_law_turn"] ["_law_script"] (defScope s_law) := ⟨rfl, rfl, rfl, by decide +kernel, rfl, by decide +kernel, by decide +kernel⟩

theorem ok_law (F : FunD K "law" "law" (defArgs s_law) (defBody s_law) (defScope s_law) [] [] f fd) (G : GLW P w K mg base) : FnOk P w K mg base CX0 11 f fd ["_law_script"] (spLaw K) := by
  refine F.ok (CX := CX0) sc_law (fun vs H Q E h => ?_) (fun cdv A outer s H vs Q E hr h => ?_)
  · obtain ⟨_, _, rfl, _⟩ := h
    rfl
  · refine ⟨_, PSs.nox (pss_cons (ps_for PassesOwn.never rfl (pi_range1 (by rfl) G.range (pa_cons (pe_callB (call_max2 rfl) (by rfl) G.max (by decide +kernel) (pa_cons pe_int (pa_cons (pe_callB (call_min2 rfl) (by rfl) G.minB (by decide +kernel) (pa_cons pe_int (pa_cons (pe_callB call_len_seq (by rfl) G.len (by decide +kernel) (pa_cons (pv 0) pa_nil)) pa_nil))) pa_nil))) pa_nil)) (pg_name (i := 1) sc_law.nd rfl (Or.inl rfl))
      (pss_cons (ps_set (i := 2) sc_law.nd rfl (Or.inl rfl) (pe_fn G.law_source (hr.mono (by decide)) pass0 (by rfl) (pa_cons (pe_ix ix_list (pe_op op_catS (pv 0) (pe_lstS (pa_cons pe_int pa_nil))) (pv 1) (fun _ _ => rfl)) pa_nil)))
      (pss_one (ps_for PassesOwn.never rfl (pi_range1 (by rfl) G.range (pa_cons pe_int pa_nil)) (pg_name (i := 3) sc_law.nd rfl (Or.inl rfl))
        (pss_one (ps_if (pt_not (pt_val (pe_fn G.law_right hr pass0 (by rfl) (pa_cons (pv 2) pa_nil))))
          (pss_one (ps_ret pe_bl))
          pss_nil))))))
    (pss_one (ps_ret pe_bl))), ?_⟩
    obtain ⟨a, ns, rfl, hS, hl, k⟩ := h
    refine ⟨_, rfl, a, _, rfl, .inl hS, _, _, rfl, _, _, rfl, _, rfl, ?_, ?_, ?_⟩
    · split <;> split <;> omega
    · rw [List.length_map]
      split <;> split <;> omega
    refine for_range (lo := 0) (fun i σ J => ∃ v1 v2 v3, σ = [some (.ref a), v1, v2, v3] ∧ Same H J) ⟨_, _, _, rfl, Same.refl _⟩ ?_ ?_
    · rintro i σ H1 hi ⟨v1, v2, v3, rfl, X1⟩
      rw [List.length_map] at hi
      obtain ⟨hi1, hi3⟩ := idx_lt3 hi
      rw [Int.zero_add]
      obtain ⟨c, hc⟩ : ∃ c : Int, (ns.map V.int ++ [V.int 0])[i]? = some (.int c) := by
        obtain ⟨c, z⟩ : ∃ c, (ns ++ [(0 : Int)])[i]? = some c := ⟨_, List.getElem?_eq_getElem (by rw [List.length_append]; exact hi1)⟩
        refine ⟨c, ?_⟩
        have e : ns.map V.int ++ [V.int 0] = (ns ++ [(0 : Int)]).map V.int := by rw [List.map_append]; rfl
        rw [e, List.getElem?_map, z]
        rfl
      have hS1 := X1.seq hS
      refine ⟨_, rfl, by show 1 ≤ 1000; decide, fun p0 H0 hp0 S0 e0 => ⟨a, p0, _, _, rfl, rfl, S0.seq hS1, SqL.of e0, by rw [List.length_map, sizeLine_eq]; show ns.length + 1 ≤ 16777216; omega, fun p1 H2 hp1 S2 e1 => ⟨_, rfl, p1, _, _, _, rfl, rfl, SqL.of e1, atI_nat (j := i) hc, c, rfl, fun sa H4 hsa S4 st4 => ?_⟩⟩⟩
      have S14 := (S0.trans S2).trans S4
      have hsa1 : H1 sa = none := noneOf (S0.trans S2) hsa
      refine ⟨3, rfl, by decide, by decide, for_range (n := 3) (fun j σ J => ∃ v3, σ = [some (.ref a), some (.int (i : Nat)), some (.ref sa), v3] ∧ StAt J sa ∧ Same H1 J) ⟨_, rfl, st4, S14⟩ ?_ ?_⟩
      · rintro j σ J hj ⟨u3, rfl, stJ, SJ⟩
        refine ⟨_, rfl, sa, rfl, stJ, fun J' B st' => ⟨_, rfl, iteF ?_⟩⟩
        exact ⟨_, rfl, st', fun b o e => B b o (ne_of_none e hsa1) (SJ b o e)⟩
      · rintro σ J ⟨u3, rfl, stJ, SJ⟩
        exact ⟨_, _, _, rfl, X1.trans SJ⟩
    · rintro σ J ⟨v1, v2, v3, rfl, XJ⟩
      exact k J

end
end L2.K77

set_option Elab.async false
set_option linter.all false
set_option maxRecDepth 100000
set_option maxHeartbeats 4000000
namespace L2.K77
open PySem PySem.W PySem.Spec PySem.Calls PyProof.Rows L2.Jk

theorem facts {P : Program} {w : World} {K : Frag} {h : Heap} {mg : Str → Option Value} {base : Heap} (X : K.In h) (G : h.Ns mainGlobals mg) (c : He.SaysD fa fn K) (m : ex K = true) :
    GLW P w K mg base := by
  obtain ⟨mC, m⟩ := Bool.and_eq_true_iff.mp m
  obtain ⟨x1, mC⟩ := Bool.and_eq_true_iff.mp mC
  obtain ⟨x2, mC⟩ := Bool.and_eq_true_iff.mp mC
  obtain ⟨x3, mC⟩ := Bool.and_eq_true_iff.mp mC
  obtain ⟨x4, x5⟩ := Bool.and_eq_true_iff.mp mC
  obtain ⟨mN, m⟩ := Bool.and_eq_true_iff.mp m
  obtain ⟨y1, mN⟩ := Bool.and_eq_true_iff.mp mN
  obtain ⟨y2, mN⟩ := Bool.and_eq_true_iff.mp mN
  obtain ⟨y3, y4⟩ := Bool.and_eq_true_iff.mp mN
  obtain ⟨m0, m1⟩ := Bool.and_eq_true_iff.mp m
  obtain ⟨z1, m0⟩ := Bool.and_eq_true_iff.mp m0
  obtain ⟨z2, m0⟩ := Bool.and_eq_true_iff.mp m0
  obtain ⟨z3, m0⟩ := Bool.and_eq_true_iff.mp m0
  obtain ⟨z4, m0⟩ := Bool.and_eq_true_iff.mp m0
  obtain ⟨z5, z6⟩ := Bool.and_eq_true_iff.mp m0
  have more : ∀ i, i < 6 → KC K (ca K i) ∧ kitOne K (.type "NoneType") (.ref (ca K i)) = some false ∧ kitOne K (.type "str") (.ref (ca K i)) = some false ∧ kitOne K (.ref (ca K i)) (.type "str") = some false ∧ ∀ j, j < 6 → kitOne K (.ref (ca K i)) (.ref (ca K j)) = some (decide (i = j)) := fun i hi => by
    have y := List.all_eq_true.mp m1 i (List.mem_range.mpr hi)
    obtain ⟨y1, y⟩ := Bool.and_eq_true_iff.mp y
    obtain ⟨y2, y⟩ := Bool.and_eq_true_iff.mp y
    obtain ⟨y3, y⟩ := Bool.and_eq_true_iff.mp y
    obtain ⟨y4, y5⟩ := Bool.and_eq_true_iff.mp y
    obtain ⟨x1, y1⟩ := Bool.and_eq_true_iff.mp y1
    obtain ⟨x2, y1⟩ := Bool.and_eq_true_iff.mp y1
    obtain ⟨x3, y1⟩ := Bool.and_eq_true_iff.mp y1
    obtain ⟨x4, x5⟩ := Bool.and_eq_true_iff.mp y1
    exact ⟨⟨He.eqO_ok x1, of_decide_eq_true x2, x3, eqcB_ok x4, x5⟩, of_decide_eq_true y2, of_decide_eq_true y3, of_decide_eq_true y4, fun j hj => of_decide_eq_true (List.all_eq_true.mp y5 j (List.mem_range.mpr hj))⟩
  have X0 := errB_ok z1
  obtain ⟨fdbi, Fbi⟩ := c.def_ 0 (d := ⟨("BadField", some "__init__"), "__init__", "BadField.__init__", defArgs (inClass (top 3) 0), defBody (inClass (top 3) 0), defScope (inClass (top 3) 0), [], []⟩) rfl
  obtain ⟨fdbt, Fbt⟩ := c.def_ 1 (d := ⟨("BadField", some "told"), "told", "BadField.told", defArgs (inClass (top 3) 1), defBody (inClass (top 3) 1), defScope (inClass (top 3) 1), [], []⟩) rfl
  have eb : ErrAt P w K mg base "BadField" (BF K) ["what"] "refused badfield" := ⟨He.glo_ok X G (c.fact 1 (f := .glo "BadField") rfl), X0, ⟨He.eqO_ok z2, of_decide_eq_true z3⟩, ⟨fdbi, FunD.bindsN (ps := ["self", "what"]) Fbi (fun _ _ _ _ _ _ us hl => match us, hl with | [_, _], _ => rfl), ok_init1 Fbi (⟨rfl, rfl, rfl, by decide +kernel, rfl, by decide +kernel, by decide +kernel⟩ : FnScope ["self", "what"] ["self", "what"] (defScope (inClass (top 3) 0))) X0 rfl rfl (by decide +kernel) (by decide +kernel)⟩,
    ⟨fdbt, FunD.bindsN (ps := ["self"]) Fbt (fun _ _ _ _ _ _ us hl => match us, hl with | [_], _ => rfl), Fbt.kp, L2.Jk.ok_told Fbt (⟨rfl, rfl, rfl, by decide +kernel, rfl, by decide +kernel, by decide +kernel⟩ : FnScope ["self"] ["self"] (defScope (inClass (top 3) 1)))⟩⟩
  have X1 := errB_ok y1
  obtain ⟨fdni, Fni⟩ := c.def_ 2 (d := ⟨("NoRow", some "__init__"), "__init__", "NoRow.__init__", defArgs (inClass (top 5) 0), defBody (inClass (top 5) 0), defScope (inClass (top 5) 0), [], []⟩) rfl
  obtain ⟨fdnt, Fnt⟩ := c.def_ 3 (d := ⟨("NoRow", some "told"), "told", "NoRow.told", defArgs (inClass (top 5) 1), defBody (inClass (top 5) 1), defScope (inClass (top 5) 1), [], []⟩) rfl
  have en : ErrAt P w K mg base "NoRow" (NR K) ["place"] "refused norow" := ⟨He.glo_ok X G (c.fact 2 (f := .glo "NoRow") rfl), X1, ⟨He.eqO_ok y2, of_decide_eq_true y3⟩, ⟨fdni, FunD.bindsN (ps := ["self", "place"]) Fni (fun _ _ _ _ _ _ us hl => match us, hl with | [_, _], _ => rfl), ok_init1 Fni (⟨rfl, rfl, rfl, by decide +kernel, rfl, by decide +kernel, by decide +kernel⟩ : FnScope ["self", "place"] ["self", "place"] (defScope (inClass (top 5) 0))) X1 rfl rfl (by decide +kernel) (by decide +kernel)⟩,
    ⟨fdnt, FunD.bindsN (ps := ["self"]) Fnt (fun _ _ _ _ _ _ us hl => match us, hl with | [_], _ => rfl), Fnt.kp, L2.Jk.ok_told Fnt (⟨rfl, rfl, rfl, by decide +kernel, rfl, by decide +kernel, by decide +kernel⟩ : FnScope ["self"] ["self"] (defScope (inClass (top 5) 1)))⟩⟩
  have X2 := errB_ok x1
  obtain ⟨fdci, Fci⟩ := c.def_ 4 (d := ⟨("Clash", some "__init__"), "__init__", "Clash.__init__", defArgs (inClass (top 6) 0), defBody (inClass (top 6) 0), defScope (inClass (top 6) 0), [], []⟩) rfl
  obtain ⟨fdct, Fct⟩ := c.def_ 5 (d := ⟨("Clash", some "told"), "told", "Clash.told", defArgs (inClass (top 6) 1), defBody (inClass (top 6) 1), defScope (inClass (top 6) 1), [], []⟩) rfl
  have ec : ErrAt P w K mg base "Clash" (CLx K) ["one", "other"] "refused clash" := ⟨He.glo_ok X G (c.fact 3 (f := .glo "Clash") rfl), X2, ⟨He.eqO_ok x2, of_decide_eq_true x3⟩, ⟨fdci, FunD.bindsN (ps := ["self", "one", "other"]) Fci (fun _ _ _ _ _ _ us hl => match us, hl with | [_, _, _], _ => rfl), ok_init2 Fci (⟨rfl, rfl, rfl, by decide +kernel, rfl, by decide +kernel, by decide +kernel⟩ : FnScope ["self", "one", "other"] ["self", "one", "other"] (defScope (inClass (top 6) 0))) X2 rfl rfl (by decide +kernel) (by decide +kernel) rfl (by decide +kernel) (by decide +kernel)⟩,
    ⟨fdct, FunD.bindsN (ps := ["self"]) Fct (fun _ _ _ _ _ _ us hl => match us, hl with | [_], _ => rfl), Fct.kp, L2.Jk.ok_told Fct (⟨rfl, rfl, rfl, by decide +kernel, rfl, by decide +kernel, by decide +kernel⟩ : FnScope ["self"] ["self"] (defScope (inClass (top 6) 1)))⟩⟩
  have g0 : G0 P w K mg base := ⟨⟨He.free_ok X G (c.fact 51 (f := .free "abs") rfl), He.free_ok X G (c.fact 52 (f := .free "int") rfl), He.free_ok X G (c.fact 53 (f := .free "bool") rfl), He.free_ok X G (c.fact 54 (f := .free "isinstance") rfl), He.free_ok X G (c.fact 55 (f := .free "range") rfl), He.free_ok X G (c.fact 56 (f := .free "len") rfl), He.free_ok X G (c.fact 57 (f := .free "set") rfl), He.free_ok X G (c.fact 58 (f := .free "type") rfl), He.free_ok X G (c.fact 59 (f := .free "str") rfl), He.free_ok X G (c.fact 60 (f := .free "reversed") rfl), He.free_ok X G (c.fact 61 (f := .free "tuple") rfl), He.free_ok X G (c.fact 62 (f := .free "list") rfl), He.free_ok X G (c.fact 63 (f := .free "any") rfl), He.free_ok X G (c.fact 64 (f := .free "all") rfl)⟩, He.str_ok X G (c.fact 70 (f := .str "SIGNS" SG) rfl), He.str_ok X G (c.fact 71 (f := .str "DIGITS" DG) rfl), eb⟩
  obtain ⟨fdf1, Ff1⟩ := c.def_ 42 (d := ⟨("is_made_of", none), "is_made_of", "is_made_of", defArgs (top 12), defBody (top 12), defScope (top 12), [], []⟩) rfl
  have Af1 : FnAt P w K mg base CX0 1 "is_made_of" ["text", "signs"] _ := ⟨_, fdf1, He.glo_ok X G (c.fact 12 (f := .glo "is_made_of") rfl), Ff1.kp, ok_made_of Ff1 g0, FunD.bindsN (ps := ["text", "signs"]) Ff1 (fun _ _ _ _ _ _ us hl => match us, hl with | [_, _], _ => rfl)⟩
  obtain ⟨fdf2, Ff2⟩ := c.def_ 43 (d := ⟨("is_sign", none), "is_sign", "is_sign", defArgs (top 13), defBody (top 13), defScope (top 13), [], []⟩) rfl
  have Af2 : FnAt P w K mg base CX0 1 "is_sign" ["thing"] _ := ⟨_, fdf2, He.glo_ok X G (c.fact 13 (f := .glo "is_sign") rfl), Ff2.kp, ok_is_sign Ff2 g0, FunD.bindsN (ps := ["thing"]) Ff2 (fun _ _ _ _ _ _ us hl => match us, hl with | [_], _ => rfl)⟩
  obtain ⟨fdf3, Ff3⟩ := c.def_ 45 (d := ⟨("is_number", none), "is_number", "is_number", defArgs (top 16), defBody (top 16), defScope (top 16), [], []⟩) rfl
  have Af3 : FnAt P w K mg base CX0 1 "is_number" ["thing"] _ := ⟨_, fdf3, He.glo_ok X G (c.fact 15 (f := .glo "is_number") rfl), Ff3.kp, ok_is_number Ff3 g0, FunD.bindsN (ps := ["thing"]) Ff3 (fun _ _ _ _ _ _ us hl => match us, hl with | [_], _ => rfl)⟩
  obtain ⟨fdf4, Ff4⟩ := c.def_ 46 (d := ⟨("digits_of", none), "digits_of", "digits_of", defArgs (top 17), defBody (top 17), defScope (top 17), [], []⟩) rfl
  have Af4 : FnAt P w K mg base CX0 1 "digits_of" ["number"] _ := ⟨_, fdf4, He.glo_ok X G (c.fact 16 (f := .glo "digits_of") rfl), Ff4.kp, ok_digits_of Ff4 g0, FunD.bindsN (ps := ["number"]) Ff4 (fun _ _ _ _ _ _ us hl => match us, hl with | [_], _ => rfl)⟩
  have g1 : G1 P w K mg base := ⟨g0, Af1, Af2, Af3, Af4⟩
  obtain ⟨fdf5, Ff5⟩ := c.def_ 44 (d := ⟨("are_signs", none), "are_signs", "are_signs", defArgs (top 14), defBody (top 14), defScope (top 14), [], []⟩) rfl
  have Af5 : FnAt P w K mg base CX0 2 "are_signs" ["thing"] _ := ⟨_, fdf5, He.glo_ok X G (c.fact 14 (f := .glo "are_signs") rfl), Ff5.kp, ok_are_signs Ff5 g1, FunD.bindsN (ps := ["thing"]) Ff5 (fun _ _ _ _ _ _ us hl => match us, hl with | [_], _ => rfl)⟩
  have g2 : G2 P w K mg base := ⟨g1, Af5⟩
  obtain ⟨fdf6, Ff6⟩ := c.def_ 49 (d := ⟨("check_signs", none), "check_signs", "check_signs", defArgs (top 21), defBody (top 21), defScope (top 21), [], []⟩) rfl
  have Af6 : FnAt P w K mg base (L2.CX P w) 3 "check_signs" ["signs"] _ := ⟨_, fdf6, He.glo_ok X G (c.fact 19 (f := .glo "check_signs") rfl), Ff6.kp, ok_check_signs Ff6 g2, FunD.bindsN (ps := ["signs"]) Ff6 (fun _ _ _ _ _ _ us hl => match us, hl with | [_], _ => rfl)⟩
  obtain ⟨fdf7, Ff7⟩ := c.def_ 50 (d := ⟨("check_span", none), "check_span", "check_span", defArgs (top 22), defBody (top 22), defScope (top 22), [], []⟩) rfl
  have Af7 : FnAt P w K mg base (L2.CX P w) 3 "check_span" ["least", "most"] _ := ⟨_, fdf7, He.glo_ok X G (c.fact 20 (f := .glo "check_span") rfl), Ff7.kp, ok_check_span Ff7 g2, FunD.bindsN (ps := ["least", "most"]) Ff7 (fun _ _ _ _ _ _ us hl => match us, hl with | [_, _], _ => rfl)⟩
  obtain ⟨fdf8, Ff8⟩ := c.def_ 53 (d := ⟨("has_words_with", none), "has_words_with", "has_words_with", defArgs (top 25), defBody (top 25), defScope (top 25), [], []⟩) rfl
  have Af8 : FnAt P w K mg base CX0 1 "has_words_with" ["field", "sign"] _ := ⟨_, fdf8, He.glo_ok X G (c.fact 23 (f := .glo "has_words_with") rfl), Ff8.kp, ok_has_words Ff8 g0, FunD.bindsN (ps := ["field", "sign"]) Ff8 (fun _ _ _ _ _ _ us hl => match us, hl with | [_, _], _ => rfl)⟩
  have cWord : C0 K mg "Word" ["signs", "least", "most"] := ⟨He.glo_ok X G (c.fact 6 (f := .glo "Word") rfl), He.cls_ok (c.fact 74 (f := .cls "Word") rfl), (fun f hf => by
    rcases List.mem_cons.mp hf with rfl | hf
    · exact He.noat_ok (c.fact 76 (f := .noat "Word" "signs") rfl)
    rcases List.mem_cons.mp hf with rfl | hf
    · exact He.noat_ok (c.fact 77 (f := .noat "Word" "least") rfl)
    rcases List.mem_cons.mp hf with rfl | hf
    · exact He.noat_ok (c.fact 78 (f := .noat "Word" "most") rfl)
    cases hf)⟩
  have cNumber : C0 K mg "Number" ["least", "most"] := ⟨He.glo_ok X G (c.fact 7 (f := .glo "Number") rfl), He.cls_ok (c.fact 82 (f := .cls "Number") rfl), (fun f hf => by
    rcases List.mem_cons.mp hf with rfl | hf
    · exact He.noat_ok (c.fact 84 (f := .noat "Number" "least") rfl)
    rcases List.mem_cons.mp hf with rfl | hf
    · exact He.noat_ok (c.fact 85 (f := .noat "Number" "most") rfl)
    cases hf)⟩
  have cFixed : C0 K mg "Fixed" ["width"] := ⟨He.glo_ok X G (c.fact 8 (f := .glo "Fixed") rfl), He.cls_ok (c.fact 89 (f := .cls "Fixed") rfl), (fun f hf => by
    rcases List.mem_cons.mp hf with rfl | hf
    · exact He.noat_ok (c.fact 91 (f := .noat "Fixed" "width") rfl)
    cases hf)⟩
  have cListed : C0 K mg "Listed" ["texts"] := ⟨He.glo_ok X G (c.fact 9 (f := .glo "Listed") rfl), He.cls_ok (c.fact 95 (f := .cls "Listed") rfl), (fun f hf => by
    rcases List.mem_cons.mp hf with rfl | hf
    · exact He.noat_ok (c.fact 97 (f := .noat "Listed" "texts") rfl)
    cases hf)⟩
  have cEnded : C0 K mg "Ended" ["signs", "sign", "least", "most"] := ⟨He.glo_ok X G (c.fact 10 (f := .glo "Ended") rfl), He.cls_ok (c.fact 101 (f := .cls "Ended") rfl), (fun f hf => by
    rcases List.mem_cons.mp hf with rfl | hf
    · exact He.noat_ok (c.fact 103 (f := .noat "Ended" "signs") rfl)
    rcases List.mem_cons.mp hf with rfl | hf
    · exact He.noat_ok (c.fact 104 (f := .noat "Ended" "sign") rfl)
    rcases List.mem_cons.mp hf with rfl | hf
    · exact He.noat_ok (c.fact 105 (f := .noat "Ended" "least") rfl)
    rcases List.mem_cons.mp hf with rfl | hf
    · exact He.noat_ok (c.fact 106 (f := .noat "Ended" "most") rfl)
    cases hf)⟩
  have cMarked : C0 K mg "Marked" ["none", "mark", "field"] := ⟨He.glo_ok X G (c.fact 11 (f := .glo "Marked") rfl), He.cls_ok (c.fact 110 (f := .cls "Marked") rfl), (fun f hf => by
    rcases List.mem_cons.mp hf with rfl | hf
    · exact He.noat_ok (c.fact 112 (f := .noat "Marked" "none") rfl)
    rcases List.mem_cons.mp hf with rfl | hf
    · exact He.noat_ok (c.fact 113 (f := .noat "Marked" "mark") rfl)
    rcases List.mem_cons.mp hf with rfl | hf
    · exact He.noat_ok (c.fact 114 (f := .noat "Marked" "field") rfl)
    cases hf)⟩
  have cLayout : C0 K mg "Layout" ["fields", "joints"] := ⟨He.glo_ok X G (c.fact 4 (f := .glo "Layout") rfl), He.cls_ok (c.fact 117 (f := .cls "Layout") rfl), (fun f hf => by
    rcases List.mem_cons.mp hf with rfl | hf
    · exact He.noat_ok (c.fact 119 (f := .noat "Layout" "fields") rfl)
    rcases List.mem_cons.mp hf with rfl | hf
    · exact He.noat_ok (c.fact 120 (f := .noat "Layout" "joints") rfl)
    cases hf)⟩
  have cStore : C0 K mg "Store" ["layout", "texts", "kept"] := ⟨He.glo_ok X G (c.fact 5 (f := .glo "Store") rfl), He.cls_ok (c.fact 121 (f := .cls "Store") rfl), (fun f hf => by
    rcases List.mem_cons.mp hf with rfl | hf
    · exact He.noat_ok (c.fact 123 (f := .noat "Store" "layout") rfl)
    rcases List.mem_cons.mp hf with rfl | hf
    · exact He.noat_ok (c.fact 124 (f := .noat "Store" "texts") rfl)
    rcases List.mem_cons.mp hf with rfl | hf
    · exact He.noat_ok (c.fact 125 (f := .noat "Store" "kept") rfl)
    cases hf)⟩
  have g3 : G3 P w K mg base := ⟨g2, Af6, Af7, Af8, cWord, cNumber, cFixed, cListed, cEnded, cMarked⟩
  have g4 : G4 P w K mg base := ⟨g3, fun i hi => (more i hi).1, He.eqO_ok z5, of_decide_eq_true z6, fun i j hi hj => (more i hi).2.2.2.2 j hj, fun j hj => (more j hj).2.1, fun j hj => (more j hj).2.2.1⟩
  obtain ⟨fdhWord, FhWord⟩ := c.def_ 8 (d := ⟨("Word", some "has_sign"), "has_sign", "Word.has_sign", defArgs (inClass (top 26) 7), defBody (inClass (top 26) 7), defScope (inClass (top 26) 7), [], []⟩) rfl
  obtain ⟨fdeWord, FeWord⟩ := c.def_ 7 (d := ⟨("Word", some "__eq__"), "__eq__", "Word.__eq__", defArgs (inClass (top 26) 1), defBody (inClass (top 26) 1), defScope (inClass (top 26) 1), [], []⟩) rfl
  have hWord : HM P w K mg base 2 (ca K 0) "has_sign" ["self", "sign"] (spHasWord K) := ⟨He.meth_ok (c.fact 79 (f := .meth "Word" "has_sign") rfl), fdhWord, ok_Word_has FhWord g3, FunD.bindsN (ps := ["self", "sign"]) FhWord (fun _ _ _ _ _ _ us hl => match us, hl with | [_, _], _ => rfl)⟩
  have eWord : EQ P w K mg base (ca K 0) (spEqWord K) := ⟨fdeWord, ok_Word_eq FeWord g4, FunD.bindsN (ps := ["self", "other"]) FeWord (fun _ _ _ _ _ _ us hl => match us, hl with | [_, _], _ => rfl)⟩
  obtain ⟨fdhNumber, FhNumber⟩ := c.def_ 13 (d := ⟨("Number", some "has_sign"), "has_sign", "Number.has_sign", defArgs (inClass (top 27) 7), defBody (inClass (top 27) 7), defScope (inClass (top 27) 7), [], []⟩) rfl
  obtain ⟨fdeNumber, FeNumber⟩ := c.def_ 12 (d := ⟨("Number", some "__eq__"), "__eq__", "Number.__eq__", defArgs (inClass (top 27) 1), defBody (inClass (top 27) 1), defScope (inClass (top 27) 1), [], []⟩) rfl
  have hNumber : HM P w K mg base 2 (ca K 1) "has_sign" ["self", "sign"] (spHasNumber K) := ⟨He.meth_ok (c.fact 86 (f := .meth "Number" "has_sign") rfl), fdhNumber, ok_Number_has FhNumber g3, FunD.bindsN (ps := ["self", "sign"]) FhNumber (fun _ _ _ _ _ _ us hl => match us, hl with | [_, _], _ => rfl)⟩
  have eNumber : EQ P w K mg base (ca K 1) (spEqNumber K) := ⟨fdeNumber, ok_Number_eq FeNumber g4, FunD.bindsN (ps := ["self", "other"]) FeNumber (fun _ _ _ _ _ _ us hl => match us, hl with | [_, _], _ => rfl)⟩
  obtain ⟨fdhFixed, FhFixed⟩ := c.def_ 18 (d := ⟨("Fixed", some "has_sign"), "has_sign", "Fixed.has_sign", defArgs (inClass (top 28) 7), defBody (inClass (top 28) 7), defScope (inClass (top 28) 7), [], []⟩) rfl
  obtain ⟨fdeFixed, FeFixed⟩ := c.def_ 17 (d := ⟨("Fixed", some "__eq__"), "__eq__", "Fixed.__eq__", defArgs (inClass (top 28) 1), defBody (inClass (top 28) 1), defScope (inClass (top 28) 1), [], []⟩) rfl
  have hFixed : HM P w K mg base 2 (ca K 2) "has_sign" ["self", "sign"] (spHasFixed K) := ⟨He.meth_ok (c.fact 92 (f := .meth "Fixed" "has_sign") rfl), fdhFixed, ok_Fixed_has FhFixed g3, FunD.bindsN (ps := ["self", "sign"]) FhFixed (fun _ _ _ _ _ _ us hl => match us, hl with | [_, _], _ => rfl)⟩
  have eFixed : EQ P w K mg base (ca K 2) (spEqFixed K) := ⟨fdeFixed, ok_Fixed_eq FeFixed g4, FunD.bindsN (ps := ["self", "other"]) FeFixed (fun _ _ _ _ _ _ us hl => match us, hl with | [_, _], _ => rfl)⟩
  obtain ⟨fdhListed, FhListed⟩ := c.def_ 23 (d := ⟨("Listed", some "has_sign"), "has_sign", "Listed.has_sign", defArgs (inClass (top 29) 7), defBody (inClass (top 29) 7), defScope (inClass (top 29) 7), [], []⟩) rfl
  obtain ⟨fdeListed, FeListed⟩ := c.def_ 22 (d := ⟨("Listed", some "__eq__"), "__eq__", "Listed.__eq__", defArgs (inClass (top 29) 1), defBody (inClass (top 29) 1), defScope (inClass (top 29) 1), [], []⟩) rfl
  have hListed : HM P w K mg base 2 (ca K 3) "has_sign" ["self", "sign"] (spHasListed K) := ⟨He.meth_ok (c.fact 98 (f := .meth "Listed" "has_sign") rfl), fdhListed, ok_Listed_has FhListed g3, FunD.bindsN (ps := ["self", "sign"]) FhListed (fun _ _ _ _ _ _ us hl => match us, hl with | [_, _], _ => rfl)⟩
  have eListed : EQ P w K mg base (ca K 3) (spEqListed K) := ⟨fdeListed, ok_Listed_eq FeListed g4, FunD.bindsN (ps := ["self", "other"]) FeListed (fun _ _ _ _ _ _ us hl => match us, hl with | [_, _], _ => rfl)⟩
  obtain ⟨fdhEnded, FhEnded⟩ := c.def_ 28 (d := ⟨("Ended", some "has_sign"), "has_sign", "Ended.has_sign", defArgs (inClass (top 30) 7), defBody (inClass (top 30) 7), defScope (inClass (top 30) 7), [], []⟩) rfl
  obtain ⟨fdeEnded, FeEnded⟩ := c.def_ 27 (d := ⟨("Ended", some "__eq__"), "__eq__", "Ended.__eq__", defArgs (inClass (top 30) 1), defBody (inClass (top 30) 1), defScope (inClass (top 30) 1), [], []⟩) rfl
  have hEnded : HM P w K mg base 2 (ca K 4) "has_sign" ["self", "sign"] (spHasEnded K) := ⟨He.meth_ok (c.fact 107 (f := .meth "Ended" "has_sign") rfl), fdhEnded, ok_Ended_has FhEnded g3, FunD.bindsN (ps := ["self", "sign"]) FhEnded (fun _ _ _ _ _ _ us hl => match us, hl with | [_, _], _ => rfl)⟩
  have eEnded : EQ P w K mg base (ca K 4) (spEqEnded K) := ⟨fdeEnded, ok_Ended_eq FeEnded g4, FunD.bindsN (ps := ["self", "other"]) FeEnded (fun _ _ _ _ _ _ us hl => match us, hl with | [_, _], _ => rfl)⟩
  have g5 : G5 P w K mg base := ⟨g4, hWord, eWord, hNumber, eNumber, hFixed, eFixed, hListed, eListed, hEnded, eEnded⟩
  obtain ⟨fdp1, Fp1⟩ := c.def_ 51 (d := ⟨("is_within", none), "is_within", "is_within", defArgs (top 23), defBody (top 23), defScope (top 23), [], []⟩) rfl
  have Ap1 : FnAt P w K mg base CX0 1 "is_within" ["field", "amount"] _ := ⟨_, fdp1, He.glo_ok X G (c.fact 21 (f := .glo "is_within") rfl), Fp1.kp, ok_is_within Fp1 g0, FunD.bindsN (ps := ["field", "amount"]) Fp1 (fun _ _ _ _ _ _ us hl => match us, hl with | [_, _], _ => rfl)⟩
  obtain ⟨fdp2, Fp2⟩ := c.def_ 47 (d := ⟨("number_of", none), "number_of", "number_of", defArgs (top 18), defBody (top 18), defScope (top 18), [], []⟩) rfl
  have Ap2 : FnAt P w K mg base CX0 1 "number_of" ["digits"] _ := ⟨_, fdp2, He.glo_ok X G (c.fact 17 (f := .glo "number_of") rfl), Fp2.kp, ok_number_of Fp2 g0, FunD.bindsN (ps := ["digits"]) Fp2 (fun _ _ _ _ _ _ us hl => match us, hl with | [_], _ => rfl)⟩
  obtain ⟨fdp0, Fp0⟩ := c.def_ 45 (d := ⟨("is_number", none), "is_number", "is_number", defArgs (top 16), defBody (top 16), defScope (top 16), [], []⟩) rfl
  have Ap0 : FnAt P w K mg base CX0 1 "is_number" ["thing"] _ := ⟨_, fdp0, He.glo_ok X G (c.fact 15 (f := .glo "is_number") rfl), Fp0.kp, ok_is_numberT Fp0 g0, FunD.bindsN (ps := ["thing"]) Fp0 (fun _ _ _ _ _ _ us hl => match us, hl with | [_], _ => rfl)⟩
  have q1 : P1 P w K mg base := ⟨g5, Ap1, Ap2, Ap0⟩
  obtain ⟨fdp3, Fp3⟩ := c.def_ 48 (d := ⟨("greatest_of", none), "greatest_of", "greatest_of", defArgs (top 19), defBody (top 19), defScope (top 19), [], []⟩) rfl
  have Ap3 : FnAt P w K mg base CX0 2 "greatest_of" ["width"] _ := ⟨_, fdp3, He.glo_ok X G (c.fact 18 (f := .glo "greatest_of") rfl), Fp3.kp, ok_greatest_of Fp3 q1, FunD.bindsN (ps := ["width"]) Fp3 (fun _ _ _ _ _ _ us hl => match us, hl with | [_], _ => rfl)⟩
  obtain ⟨fdp4, Fp4⟩ := c.def_ 52 (d := ⟨("is_word_of", none), "is_word_of", "is_word_of", defArgs (top 24), defBody (top 24), defScope (top 24), [], []⟩) rfl
  have Ap4 : FnAt P w K mg base CX0 2 "is_word_of" ["field", "thing"] _ := ⟨_, fdp4, He.glo_ok X G (c.fact 22 (f := .glo "is_word_of") rfl), Fp4.kp, ok_is_word_of Fp4 q1, FunD.bindsN (ps := ["field", "thing"]) Fp4 (fun _ _ _ _ _ _ us hl => match us, hl with | [_, _], _ => rfl)⟩
  have q2 : P2 P w K mg base := ⟨q1, Ap3, Ap4⟩
  obtain ⟨fdvWord, FvWord⟩ := c.def_ 9 (d := ⟨("Word", some "has_value"), "has_value", "Word.has_value", defArgs (inClass (top 26) 2), defBody (inClass (top 26) 2), defScope (inClass (top 26) 2), [], []⟩) rfl
  have hvWord : HM P w K mg base 3 (ca K 0) "has_value" ["self", "thing"] (spHVWord K) := ⟨He.meth_ok (c.fact 80 (f := .meth "Word" "has_value") rfl), fdvWord, (ok_Word_has_value FvWord q2).mono (by decide), FunD.bindsN (ps := ["self", "thing"]) FvWord (fun _ _ _ _ _ _ us hl => match us, hl with | [_, _], _ => rfl)⟩
  obtain ⟨fdvNumber, FvNumber⟩ := c.def_ 14 (d := ⟨("Number", some "has_value"), "has_value", "Number.has_value", defArgs (inClass (top 27) 2), defBody (inClass (top 27) 2), defScope (inClass (top 27) 2), [], []⟩) rfl
  have hvNumber : HM P w K mg base 3 (ca K 1) "has_value" ["self", "thing"] (spHVNumber K) := ⟨He.meth_ok (c.fact 87 (f := .meth "Number" "has_value") rfl), fdvNumber, (ok_Number_has_value FvNumber q2).mono (by decide), FunD.bindsN (ps := ["self", "thing"]) FvNumber (fun _ _ _ _ _ _ us hl => match us, hl with | [_, _], _ => rfl)⟩
  obtain ⟨fdvFixed, FvFixed⟩ := c.def_ 19 (d := ⟨("Fixed", some "has_value"), "has_value", "Fixed.has_value", defArgs (inClass (top 28) 2), defBody (inClass (top 28) 2), defScope (inClass (top 28) 2), [], []⟩) rfl
  have hvFixed : HM P w K mg base 3 (ca K 2) "has_value" ["self", "thing"] (spHVFixed K) := ⟨He.meth_ok (c.fact 93 (f := .meth "Fixed" "has_value") rfl), fdvFixed, (ok_Fixed_has_value FvFixed q2).mono (by decide), FunD.bindsN (ps := ["self", "thing"]) FvFixed (fun _ _ _ _ _ _ us hl => match us, hl with | [_, _], _ => rfl)⟩
  obtain ⟨fdvListed, FvListed⟩ := c.def_ 24 (d := ⟨("Listed", some "has_value"), "has_value", "Listed.has_value", defArgs (inClass (top 29) 2), defBody (inClass (top 29) 2), defScope (inClass (top 29) 2), [], []⟩) rfl
  have hvListed : HM P w K mg base 3 (ca K 3) "has_value" ["self", "thing"] (spHVListed K) := ⟨He.meth_ok (c.fact 99 (f := .meth "Listed" "has_value") rfl), fdvListed, (ok_Listed_has_value FvListed q2).mono (by decide), FunD.bindsN (ps := ["self", "thing"]) FvListed (fun _ _ _ _ _ _ us hl => match us, hl with | [_, _], _ => rfl)⟩
  obtain ⟨fdvEnded, FvEnded⟩ := c.def_ 29 (d := ⟨("Ended", some "has_value"), "has_value", "Ended.has_value", defArgs (inClass (top 30) 2), defBody (inClass (top 30) 2), defScope (inClass (top 30) 2), [], []⟩) rfl
  have hvEnded : HM P w K mg base 3 (ca K 4) "has_value" ["self", "thing"] (spHVEnded K) := ⟨He.meth_ok (c.fact 108 (f := .meth "Ended" "has_value") rfl), fdvEnded, (ok_Ended_has_value FvEnded q2).mono (by decide), FunD.bindsN (ps := ["self", "thing"]) FvEnded (fun _ _ _ _ _ _ us hl => match us, hl with | [_, _], _ => rfl)⟩
  obtain ⟨fdxWord, FxWord⟩ := c.def_ 10 (d := ⟨("Word", some "text_for"), "text_for", "Word.text_for", defArgs (inClass (top 26) 3), defBody (inClass (top 26) 3), defScope (inClass (top 26) 3), [], []⟩) rfl
  have tfWord : HM P w K mg base 3 (ca K 0) "text_for" ["self", "value"] (spTFWord K) := ⟨He.meth_ok (c.fact 81 (f := .meth "Word" "text_for") rfl), fdxWord, (ok_Word_text_for FxWord q2).mono (by decide), FunD.bindsN (ps := ["self", "value"]) FxWord (fun _ _ _ _ _ _ us hl => match us, hl with | [_, _], _ => rfl)⟩
  obtain ⟨fdxNumber, FxNumber⟩ := c.def_ 15 (d := ⟨("Number", some "text_for"), "text_for", "Number.text_for", defArgs (inClass (top 27) 3), defBody (inClass (top 27) 3), defScope (inClass (top 27) 3), [], []⟩) rfl
  have tfNumber : HM P w K mg base 3 (ca K 1) "text_for" ["self", "value"] (spTFNumber K) := ⟨He.meth_ok (c.fact 88 (f := .meth "Number" "text_for") rfl), fdxNumber, (ok_Number_text_for FxNumber q2).mono (by decide), FunD.bindsN (ps := ["self", "value"]) FxNumber (fun _ _ _ _ _ _ us hl => match us, hl with | [_, _], _ => rfl)⟩
  obtain ⟨fdxFixed, FxFixed⟩ := c.def_ 20 (d := ⟨("Fixed", some "text_for"), "text_for", "Fixed.text_for", defArgs (inClass (top 28) 3), defBody (inClass (top 28) 3), defScope (inClass (top 28) 3), [], []⟩) rfl
  have tfFixed : HM P w K mg base 3 (ca K 2) "text_for" ["self", "value"] (spTFFixed K) := ⟨He.meth_ok (c.fact 94 (f := .meth "Fixed" "text_for") rfl), fdxFixed, (ok_Fixed_text_for FxFixed q2).mono (by decide), FunD.bindsN (ps := ["self", "value"]) FxFixed (fun _ _ _ _ _ _ us hl => match us, hl with | [_, _], _ => rfl)⟩
  obtain ⟨fdxListed, FxListed⟩ := c.def_ 25 (d := ⟨("Listed", some "text_for"), "text_for", "Listed.text_for", defArgs (inClass (top 29) 3), defBody (inClass (top 29) 3), defScope (inClass (top 29) 3), [], []⟩) rfl
  have tfListed : HM P w K mg base 3 (ca K 3) "text_for" ["self", "value"] (spTFListed K) := ⟨He.meth_ok (c.fact 100 (f := .meth "Listed" "text_for") rfl), fdxListed, (ok_Listed_text_for FxListed q2).mono (by decide), FunD.bindsN (ps := ["self", "value"]) FxListed (fun _ _ _ _ _ _ us hl => match us, hl with | [_, _], _ => rfl)⟩
  obtain ⟨fdxEnded, FxEnded⟩ := c.def_ 30 (d := ⟨("Ended", some "text_for"), "text_for", "Ended.text_for", defArgs (inClass (top 30) 3), defBody (inClass (top 30) 3), defScope (inClass (top 30) 3), [], []⟩) rfl
  have tfEnded : HM P w K mg base 3 (ca K 4) "text_for" ["self", "value"] (spTFEnded K) := ⟨He.meth_ok (c.fact 109 (f := .meth "Ended" "text_for") rfl), fdxEnded, (ok_Ended_text_for FxEnded q2).mono (by decide), FunD.bindsN (ps := ["self", "value"]) FxEnded (fun _ _ _ _ _ _ us hl => match us, hl with | [_, _], _ => rfl)⟩
  have q3 : P3 P w K mg base := ⟨q2, hvWord, hvNumber, hvFixed, hvListed, hvEnded, tfWord, tfNumber, tfFixed, tfListed, tfEnded⟩
  have q4 : P4 P w K mg base := ⟨q3⟩
  obtain ⟨fdvMarked, FvMarked⟩ := c.def_ 33 (d := ⟨("Marked", some "has_value"), "has_value", "Marked.has_value", defArgs (inClass (top 31) 2), defBody (inClass (top 31) 2), defScope (inClass (top 31) 2), [], []⟩) rfl
  have hvMarked : HM P w K mg base 4 (ca K 5) "has_value" ["self", "thing"] (spMHV K) := ⟨He.meth_ok (c.fact 115 (f := .meth "Marked" "has_value") rfl), fdvMarked, (ok_Marked_has_value FvMarked q4).mono (by decide), FunD.bindsN (ps := ["self", "thing"]) FvMarked (fun _ _ _ _ _ _ us hl => match us, hl with | [_, _], _ => rfl)⟩
  obtain ⟨fdxMarked, FxMarked⟩ := c.def_ 34 (d := ⟨("Marked", some "text_for"), "text_for", "Marked.text_for", defArgs (inClass (top 31) 3), defBody (inClass (top 31) 3), defScope (inClass (top 31) 3), [], []⟩) rfl
  have tfMarked : HM P w K mg base 4 (ca K 5) "text_for" ["self", "value"] (spMTF K) := ⟨He.meth_ok (c.fact 116 (f := .meth "Marked" "text_for") rfl), fdxMarked, (ok_Marked_text_for FxMarked q4).mono (by decide), FunD.bindsN (ps := ["self", "value"]) FxMarked (fun _ _ _ _ _ _ us hl => match us, hl with | [_, _], _ => rfl)⟩
  have q5 : P5 P w K mg base := ⟨q4, hvMarked, tfMarked⟩
  obtain ⟨fds1, Fs1⟩ := c.def_ 54 (d := ⟨("is_sequence", none), "is_sequence", "is_sequence", defArgs (top 33), defBody (top 33), defScope (top 33), [], []⟩) rfl
  have As1 : FnAt P w K mg base CX0 1 "is_sequence" ["thing"] _ := ⟨_, fds1, He.glo_ok X G (c.fact 24 (f := .glo "is_sequence") rfl), Fs1.kp, ok_is_sequence Fs1 q5, FunD.bindsN (ps := ["thing"]) Fs1 (fun _ _ _ _ _ _ us hl => match us, hl with | [_], _ => rfl)⟩
  have q6 : P6 P w K mg base := ⟨q5, As1, He.str_ok X G (c.fact 72 (f := .str "LOW" "!") rfl), He.str_ok X G (c.fact 73 (f := .str "HIGH" "~") rfl), cLayout, en, He.free_ok X G (c.fact 67 (f := .free "max") rfl), He.free_ok X G (c.fact 68 (f := .free "zip") rfl)⟩
  obtain ⟨fds2, Fs2⟩ := c.def_ 55 (d := ⟨("check_fields", none), "check_fields", "check_fields", defArgs (top 34), defBody (top 34), defScope (top 34), [], []⟩) rfl
  have As2 : FnAt P w K mg base CX0 2 "check_fields" ["fields"] _ := ⟨_, fds2, He.glo_ok X G (c.fact 25 (f := .glo "check_fields") rfl), Fs2.kp, ok_check_fields Fs2 q6, FunD.bindsN (ps := ["fields"]) Fs2 (fun _ _ _ _ _ _ us hl => match us, hl with | [_], _ => rfl)⟩
  obtain ⟨fds3, Fs3⟩ := c.def_ 56 (d := ⟨("is_joint", none), "is_joint", "is_joint", defArgs (top 35), defBody (top 35), defScope (top 35), [], []⟩) rfl
  have As3 : FnAt P w K mg base CX0 1 "is_joint" ["thing"] _ := ⟨_, fds3, He.glo_ok X G (c.fact 26 (f := .glo "is_joint") rfl), Fs3.kp, ok_is_joint Fs3 q6, FunD.bindsN (ps := ["thing"]) Fs3 (fun _ _ _ _ _ _ us hl => match us, hl with | [_], _ => rfl)⟩
  have q7 : P7 P w K mg base := ⟨q6, As2, As3⟩
  obtain ⟨fdiLa, FiLa⟩ := c.def_ 35 (d := ⟨("Layout", some "__init__"), "__init__", "Layout.__init__", defArgs (inClass (top 36) 0), defBody (inClass (top 36) 0), defScope (inClass (top 36) 0), [], []⟩) rfl
  have kLay : ClsAt P w K mg base CX0 3 "Layout" (LA K) ["self", "fields", "joints"] (spLay K) := ⟨cLayout.mgC, cLayout.cl, He.mkr_ok (c.fact 118 (f := .mkr "Layout") rfl), fdiLa, ok_Layout_init FiLa q7, FunD.bindsN (ps := ["self", "fields", "joints"]) FiLa (fun _ _ _ _ _ _ us hl => match us, hl with | [_, _, _], _ => rfl)⟩
  have q8 : P8 P w K mg base := ⟨q7, kLay⟩
  obtain ⟨fds4, Fs4⟩ := c.def_ 57 (d := ⟨("joints_behind", none), "joints_behind", "joints_behind", defArgs (top 37), defBody (top 37), defScope (top 37), [], []⟩) rfl
  have As4 : FnAt P w K mg base CX0 1 "joints_behind" ["layout"] _ := ⟨_, fds4, He.glo_ok X G (c.fact 27 (f := .glo "joints_behind") rfl), Fs4.kp, ok_joints_behind Fs4 q8, FunD.bindsN (ps := ["layout"]) Fs4 (fun _ _ _ _ _ _ us hl => match us, hl with | [_], _ => rfl)⟩
  obtain ⟨fds5, Fs5⟩ := c.def_ 58 (d := ⟨("check_row", none), "check_row", "check_row", defArgs (top 38), defBody (top 38), defScope (top 38), [], []⟩) rfl
  have As5 : FnAt P w K mg base (L2.CX P w) 5 "check_row" ["layout", "row"] _ := ⟨_, fds5, He.glo_ok X G (c.fact 28 (f := .glo "check_row") rfl), Fs5.kp, ok_check_row Fs5 q8, FunD.bindsN (ps := ["layout", "row"]) Fs5 (fun _ _ _ _ _ _ us hl => match us, hl with | [_, _], _ => rfl)⟩
  have q9 : P9 P w K mg base := ⟨q8, As4, As5⟩
  obtain ⟨fds6, Fs6⟩ := c.def_ 59 (d := ⟨("row_text", none), "row_text", "row_text", defArgs (top 39), defBody (top 39), defScope (top 39), [], []⟩) rfl
  have As6 : FnAt P w K mg base (L2.CX P w) 6 "row_text" ["layout", "row"] _ := ⟨_, fds6, He.glo_ok X G (c.fact 29 (f := .glo "row_text") rfl), Fs6.kp, ok_row_text Fs6 q9, FunD.bindsN (ps := ["layout", "row"]) Fs6 (fun _ _ _ _ _ _ us hl => match us, hl with | [_, _], _ => rfl)⟩
  obtain ⟨fdr1, Fr1⟩ := c.def_ 62 (d := ⟨("_law_source", none), "_law_source", "_law_source", defArgs (top 46), defBody (top 46), defScope (top 46), [], []⟩) rfl
  have Ar1 : FnAt P w K mg base CX0 1 "_law_source" ["_law_cell"] _ := ⟨_, fdr1, He.glo_ok X G (c.fact 32 (f := .glo "_law_source") rfl), Fr1.kp, ok_source Fr1 g0.toBl, FunD.bindsN (ps := ["_law_cell"]) Fr1 (fun _ _ _ _ _ _ us hl => match us, hl with | [_], _ => rfl)⟩
  obtain ⟨fdr2, Fr2⟩ := c.def_ 63 (d := ⟨("_law_draw", none), "_law_draw", "_law_draw", defArgs (top 47), defBody (top 47), defScope (top 47), [], []⟩) rfl
  have Ar2 : FnAt P w K mg base CX0 1 "_law_draw" ["_law_source_here", "_law_many"] _ := ⟨_, fdr2, He.glo_ok X G (c.fact 33 (f := .glo "_law_draw") rfl), Fr2.kp, ok_draw Fr2 g0.toBl, FunD.bindsN (ps := ["_law_source_here", "_law_many"]) Fr2 (fun _ _ _ _ _ _ us hl => match us, hl with | [_, _], _ => rfl)⟩
  have gr0 : GR0 P w K mg base := ⟨q9, Ar2⟩
  obtain ⟨fdr3, Fr3⟩ := c.def_ 64 (d := ⟨("_law_pick", none), "_law_pick", "_law_pick", defArgs (top 48), defBody (top 48), defScope (top 48), [], []⟩) rfl
  have Ar3 : FnAt P w K mg base CX0 2 "_law_pick" ["_law_source_here", "_law_items"] _ := ⟨_, fdr3, He.glo_ok X G (c.fact 34 (f := .glo "_law_pick") rfl), Fr3.kp, ok_law_pick Fr3 gr0, FunD.bindsN (ps := ["_law_source_here", "_law_items"]) Fr3 (fun _ _ _ _ _ _ us hl => match us, hl with | [_, _], _ => rfl)⟩
  obtain ⟨fdiWord, FiWord⟩ := c.def_ 6 (d := ⟨("Word", some "__init__"), "__init__", "Word.__init__", defArgs (inClass (top 26) 0), defBody (inClass (top 26) 0), defScope (inClass (top 26) 0), [], []⟩) rfl
  have kWord : ClsAt P w K mg base (L2.CX P w) 4 "Word" (ca K 0) ["self", "signs", "least", "most"] (spWord K) := ⟨cWord.mgC, cWord.cl, He.mkr_ok (c.fact 75 (f := .mkr "Word") rfl), fdiWord, ok_Word_init FiWord g3, FunD.bindsN (ps := ["self", "signs", "least", "most"]) FiWord (fun _ _ _ _ _ _ us hl => match us, hl with | [_, _, _, _], _ => rfl)⟩
  obtain ⟨fdiNumber, FiNumber⟩ := c.def_ 11 (d := ⟨("Number", some "__init__"), "__init__", "Number.__init__", defArgs (inClass (top 27) 0), defBody (inClass (top 27) 0), defScope (inClass (top 27) 0), [], []⟩) rfl
  have kNumber : ClsAt P w K mg base (L2.CX P w) 4 "Number" (ca K 1) ["self", "least", "most"] (spNumber K) := ⟨cNumber.mgC, cNumber.cl, He.mkr_ok (c.fact 83 (f := .mkr "Number") rfl), fdiNumber, ok_Number_init FiNumber g3, FunD.bindsN (ps := ["self", "least", "most"]) FiNumber (fun _ _ _ _ _ _ us hl => match us, hl with | [_, _, _], _ => rfl)⟩
  obtain ⟨fdiFixed, FiFixed⟩ := c.def_ 16 (d := ⟨("Fixed", some "__init__"), "__init__", "Fixed.__init__", defArgs (inClass (top 28) 0), defBody (inClass (top 28) 0), defScope (inClass (top 28) 0), [], []⟩) rfl
  have kFixed : ClsAt P w K mg base (L2.CX P w) 4 "Fixed" (ca K 2) ["self", "width"] (spFixed K) := ⟨cFixed.mgC, cFixed.cl, He.mkr_ok (c.fact 90 (f := .mkr "Fixed") rfl), fdiFixed, ok_Fixed_init FiFixed g3, FunD.bindsN (ps := ["self", "width"]) FiFixed (fun _ _ _ _ _ _ us hl => match us, hl with | [_, _], _ => rfl)⟩
  obtain ⟨fdiListed, FiListed⟩ := c.def_ 21 (d := ⟨("Listed", some "__init__"), "__init__", "Listed.__init__", defArgs (inClass (top 29) 0), defBody (inClass (top 29) 0), defScope (inClass (top 29) 0), [], []⟩) rfl
  have kListed : ClsAt P w K mg base (L2.CX P w) 4 "Listed" (ca K 3) ["self", "texts"] (spListed K) := ⟨cListed.mgC, cListed.cl, He.mkr_ok (c.fact 96 (f := .mkr "Listed") rfl), fdiListed, ok_Listed_init FiListed g3, FunD.bindsN (ps := ["self", "texts"]) FiListed (fun _ _ _ _ _ _ us hl => match us, hl with | [_, _], _ => rfl)⟩
  obtain ⟨fdiEnded, FiEnded⟩ := c.def_ 26 (d := ⟨("Ended", some "__init__"), "__init__", "Ended.__init__", defArgs (inClass (top 30) 0), defBody (inClass (top 30) 0), defScope (inClass (top 30) 0), [], []⟩) rfl
  have kEnded : ClsAt P w K mg base (L2.CX P w) 4 "Ended" (ca K 4) ["self", "signs", "sign", "least", "most"] (spEnded K) := ⟨cEnded.mgC, cEnded.cl, He.mkr_ok (c.fact 102 (f := .mkr "Ended") rfl), fdiEnded, ok_Ended_init FiEnded g3, FunD.bindsN (ps := ["self", "signs", "sign", "least", "most"]) FiEnded (fun _ _ _ _ _ _ us hl => match us, hl with | [_, _, _, _, _], _ => rfl)⟩
  obtain ⟨fdiMarked, FiMarked⟩ := c.def_ 31 (d := ⟨("Marked", some "__init__"), "__init__", "Marked.__init__", defArgs (inClass (top 31) 0), defBody (inClass (top 31) 0), defScope (inClass (top 31) 0), [], []⟩) rfl
  have kMarked : ClsAt P w K mg base (L2.CX P w) 4 "Marked" (ca K 5) ["self", "none", "mark", "field"] (spMarked K) := ⟨cMarked.mgC, cMarked.cl, He.mkr_ok (c.fact 111 (f := .mkr "Marked") rfl), fdiMarked, ok_Marked_init FiMarked g5, FunD.bindsN (ps := ["self", "none", "mark", "field"]) FiMarked (fun _ _ _ _ _ _ us hl => match us, hl with | [_, _, _, _], _ => rfl)⟩
  have g6 : G6 P w K mg base := ⟨gr0, kWord, kNumber, kFixed, kListed, kEnded, kMarked⟩
  obtain ⟨fdmd, Fmd⟩ := c.def_ 65 (d := ⟨("_law_made", none), "_law_made", "_law_made", defArgs (top 49), defBody (top 49), defScope (top 49), [], []⟩) rfl
  have gmd := He.glo_ok X G (c.fact 35 (f := .glo "_law_made") rfl)
  have bmd := FunD.bindsN (ps := ["_law_spec"]) Fmd (fun _ _ _ _ _ _ us hl => match us, hl with | [_], _ => rfl)
  have md0 : FnAt P w K mg base CX0 (0 + 5) "_law_made" ["_law_spec"] (spMd K 0) := ⟨_, fdmd, gmd, Fmd.kp, fn_never.imp fun vs H Q E h => (by obtain ⟨_, _, d, _, _, _, hd, _⟩ := h; exact absurd hd (Nat.not_lt_zero _)), bmd⟩
  have stepmd : ∀ n, FnAt P w K mg base CX0 (n + 5) "_law_made" ["_law_spec"] (spMd K n) → FnAt P w K mg base CX0 ((n + 1) + 5) "_law_made" ["_law_spec"] (spMd K (n + 1)) := fun n A => ⟨_, fdmd, gmd, Fmd.kp, (ok_law_made Fmd g6 A).mono (by omega), bmd⟩
  have md2 := stepmd 1 (stepmd 0 md0)
  obtain ⟨fdwr, Fwr⟩ := c.def_ 66 (d := ⟨("_law_written", none), "_law_written", "_law_written", defArgs (top 50), defBody (top 50), defScope (top 50), [], []⟩) rfl
  have gwr := He.glo_ok X G (c.fact 36 (f := .glo "_law_written") rfl)
  have bwr := FunD.bindsN (ps := ["_law_spec", "_law_value"]) Fwr (fun _ _ _ _ _ _ us hl => match us, hl with | [_, _], _ => rfl)
  have wr0 : FnAt P w K mg base CX0 (0 + 0) "_law_written" ["_law_spec", "_law_value"] (spWr 0) := ⟨_, fdwr, gwr, Fwr.kp, fn_never.imp fun vs H Q E h => (by obtain ⟨_, _, _, d, _, _, _, _, hd, _⟩ := h; exact absurd hd (Nat.not_lt_zero _)), bwr⟩
  have stepwr : ∀ n, FnAt P w K mg base CX0 (n + 0) "_law_written" ["_law_spec", "_law_value"] (spWr n) → FnAt P w K mg base CX0 ((n + 1) + 0) "_law_written" ["_law_spec", "_law_value"] (spWr (n + 1)) := fun n A => ⟨_, fdwr, gwr, Fwr.kp, (ok_law_written Fwr g6 A).mono (by omega), bwr⟩
  have wr2 := stepwr 1 (stepwr 0 wr0)
  have g7 : G7 P w K mg base := ⟨g6, Ar3, md2⟩
  have gwr : GWr P w K mg base := ⟨g6, wr2, He.free_ok X G (c.fact 69 (f := .free "enumerate") rfl)⟩
  obtain ⟨fdt1, Ft1⟩ := c.def_ 67 (d := ⟨("_law_text", none), "_law_text", "_law_text", defArgs (top 51), defBody (top 51), defScope (top 51), [], []⟩) rfl
  have At1 : FnAt P w K mg base CX0 3 "_law_text" ["_law_specs", "_law_joints", "_law_row"] _ := ⟨_, fdt1, He.glo_ok X G (c.fact 37 (f := .glo "_law_text") rfl), Ft1.kp, ok_law_text Ft1 gwr, FunD.bindsN (ps := ["_law_specs", "_law_joints", "_law_row"]) Ft1 (fun _ _ _ _ _ _ us hl => match us, hl with | [_, _, _], _ => rfl)⟩
  have gs : GS P w K mg base := ⟨g7, He.free_ok X G (c.fact 65 (f := .free "sorted") rfl)⟩
  obtain ⟨fdt2, Ft2⟩ := c.def_ 68 (d := ⟨("_law_strings", none), "_law_strings", "_law_strings", defArgs (top 52), defBody (top 52), defScope (top 52), [], []⟩) rfl
  have At2 : FnAt P w K mg base CX0 1 "_law_strings" ["_law_signs", "_law_least", "_law_most"] _ := ⟨_, fdt2, He.glo_ok X G (c.fact 38 (f := .glo "_law_strings") rfl), Ft2.kp, ok_law_strings Ft2 gs, FunD.bindsN (ps := ["_law_signs", "_law_least", "_law_most"]) Ft2 (fun _ _ _ _ _ _ us hl => match us, hl with | [_, _, _], _ => rfl)⟩
  have gv : GV P w K mg base := ⟨gs, At2⟩
  obtain ⟨fdva, Fva⟩ := c.def_ 69 (d := ⟨("_law_values", none), "_law_values", "_law_values", defArgs (top 53), defBody (top 53), defScope (top 53), [], []⟩) rfl
  have gva := He.glo_ok X G (c.fact 39 (f := .glo "_law_values") rfl)
  have bva := FunD.bindsN (ps := ["_law_spec"]) Fva (fun _ _ _ _ _ _ us hl => match us, hl with | [_], _ => rfl)
  have va0 : FnAt P w K mg base CX0 (0 + 1) "_law_values" ["_law_spec"] (spVals 0) := ⟨_, fdva, gva, Fva.kp, fn_never.imp fun vs H Q E h => (by obtain ⟨_, _, d, _, _, _, hd, _⟩ := h; exact absurd hd (Nat.not_lt_zero _)), bva⟩
  have stepva : ∀ n, FnAt P w K mg base CX0 (n + 1) "_law_values" ["_law_spec"] (spVals n) → FnAt P w K mg base CX0 ((n + 1) + 1) "_law_values" ["_law_spec"] (spVals (n + 1)) := fun n A => ⟨_, fdva, gva, Fva.kp, (ok_law_values Fva gv A).mono (by omega), bva⟩
  have va2 := stepva 1 (stepva 0 va0)
  have gz : GZ P w K mg base := ⟨gv, va2⟩
  obtain ⟨fdt3, Ft3⟩ := c.def_ 71 (d := ⟨("_law_shuffled", none), "_law_shuffled", "_law_shuffled", defArgs (top 55), defBody (top 55), defScope (top 55), [], []⟩) rfl
  have At3 : FnAt P w K mg base CX0 2 "_law_shuffled" ["_law_source_here", "_law_items"] _ := ⟨_, fdt3, He.glo_ok X G (c.fact 41 (f := .glo "_law_shuffled") rfl), Ft3.kp, ok_law_shuffled Ft3 gz, FunD.bindsN (ps := ["_law_source_here", "_law_items"]) Ft3 (fun _ _ _ _ _ _ us hl => match us, hl with | [_, _], _ => rfl)⟩
  have gm : GM P w K mg base := ⟨gz, At3⟩
  obtain ⟨fdsm, Fsm⟩ := c.def_ 72 (d := ⟨("_law_small", none), "_law_small", "_law_small", defArgs (top 56), defBody (top 56), defScope (top 56), [], []⟩) rfl
  have gsm := He.glo_ok X G (c.fact 42 (f := .glo "_law_small") rfl)
  have bsm := FunD.bindsN (ps := ["_law_source_here", "_law_is_inner"]) Fsm (fun _ _ _ _ _ _ us hl => match us, hl with | [_, _], _ => rfl)
  have sm0 : FnAt P w K mg base CX0 (0 + 2) "_law_small" ["_law_source_here", "_law_is_inner"] (spSm 0) := ⟨_, fdsm, gsm, Fsm.kp, fn_never.imp fun vs H Q E h => (by obtain ⟨_, b, _, _, hd, _⟩ := h; cases b <;> exact absurd hd (by decide)), bsm⟩
  have stepsm : ∀ n, FnAt P w K mg base CX0 (n + 2) "_law_small" ["_law_source_here", "_law_is_inner"] (spSm n) → FnAt P w K mg base CX0 ((n + 1) + 2) "_law_small" ["_law_source_here", "_law_is_inner"] (spSm (n + 1)) := fun n A => ⟨_, fdsm, gsm, Fsm.kp, (ok_law_small Fsm gm A).mono (by omega), bsm⟩
  have sm2 := stepsm 1 (stepsm 0 sm0)
  have gl : GL P w K mg base := ⟨gm, sm2⟩
  obtain ⟨fdw1, Fw1⟩ := c.def_ 60 (d := ⟨("first_from", none), "first_from", "first_from", defArgs (top 41), defBody (top 41), defScope (top 41), [], []⟩) rfl
  have Aw1 : FnAt P w K mg base CX0 1 "first_from" ["ascending", "thing"] _ := ⟨_, fdw1, He.glo_ok X G (c.fact 30 (f := .glo "first_from") rfl), Fw1.kp, ok_first_from Fw1 g0.toBl, FunD.bindsN (ps := ["ascending", "thing"]) Fw1 (fun _ _ _ _ _ _ us hl => match us, hl with | [_, _], _ => rfl)⟩
  have s0 : S0 P w K mg base := ⟨q9, As6, Aw1, cStore, He.free_ok X G (c.fact 69 (f := .free "enumerate") rfl)⟩
  obtain ⟨fdw2, Fw2⟩ := c.def_ 61 (d := ⟨("head_of", none), "head_of", "head_of", defArgs (top 43), defBody (top 43), defScope (top 43), [], []⟩) rfl
  have Aw2 : FnAt P w K mg base (L2.CX P w) 5 "head_of" ["layout", "values"] _ := ⟨_, fdw2, He.glo_ok X G (c.fact 31 (f := .glo "head_of") rfl), Fw2.kp, ok_head_of Fw2 s0, FunD.bindsN (ps := ["layout", "values"]) Fw2 (fun _ _ _ _ _ _ us hl => match us, hl with | [_, _], _ => rfl)⟩
  obtain ⟨fdiSt, FiSt⟩ := c.def_ 36 (d := ⟨("Store", some "__init__"), "__init__", "Store.__init__", defArgs (inClass (top 44) 0), defBody (inClass (top 44) 0), defScope (inClass (top 44) 0), [], []⟩) rfl
  have kSt : ClsAt P w K mg base CX0 1 "Store" (SC K) ["self", "layout"] (spStI K) := ⟨cStore.mgC, cStore.cl, He.mkr_ok (c.fact 122 (f := .mkr "Store") rfl), fdiSt, ok_StI FiSt s0, FunD.bindsN (ps := ["self", "layout"]) FiSt (fun _ _ _ _ _ _ us hl => match us, hl with | [_, _], _ => rfl)⟩
  obtain ⟨fdstput, Fstput⟩ := c.def_ 37 (d := ⟨("Store", some "put"), "put", "Store.put", defArgs (inClass (top 44) 1), defBody (inClass (top 44) 1), defScope (inClass (top 44) 1), [], []⟩) rfl
  have mput : MetAt P w K mg base (L2.CX P w) 7 (SC K) "put" ["self", "row", "number"] (spPut K) := ⟨cStore.cl, He.meth_ok (c.fact 126 (f := .meth "Store" "put") rfl), fdstput, ok_put Fstput s0, FunD.bindsN (ps := ["self", "row", "number"]) Fstput (fun _ _ _ _ _ _ us hl => match us, hl with | [_, _, _], _ => rfl)⟩
  obtain ⟨fdsttake, Fsttake⟩ := c.def_ 38 (d := ⟨("Store", some "take"), "take", "Store.take", defArgs (inClass (top 44) 2), defBody (inClass (top 44) 2), defScope (inClass (top 44) 2), [], []⟩) rfl
  have mtake : MetAt P w K mg base (L2.CX P w) 7 (SC K) "take" ["self", "row"] (spTake K) := ⟨cStore.cl, He.meth_ok (c.fact 127 (f := .meth "Store" "take") rfl), fdsttake, ok_take Fsttake s0, FunD.bindsN (ps := ["self", "row"]) Fsttake (fun _ _ _ _ _ _ us hl => match us, hl with | [_, _], _ => rfl)⟩
  obtain ⟨fdstsize, Fstsize⟩ := c.def_ 40 (d := ⟨("Store", some "size"), "size", "Store.size", defArgs (inClass (top 44) 5), defBody (inClass (top 44) 5), defScope (inClass (top 44) 5), [], []⟩) rfl
  have msize : MetAt P w K mg base CX0 1 (SC K) "size" ["self"] (spSize K) := ⟨cStore.cl, He.meth_ok (c.fact 129 (f := .meth "Store" "size") rfl), fdstsize, ok_size Fstsize s0, FunD.bindsN (ps := ["self"]) Fstsize (fun _ _ _ _ _ _ us hl => match us, hl with | [_], _ => rfl)⟩
  have s1 : S1 P w K mg base := ⟨s0, Aw2, kSt, mput⟩
  have s2c : S2c P w K mg base := ⟨s1, ec⟩
  obtain ⟨fdstscan, Fstscan⟩ := c.def_ 39 (d := ⟨("Store", some "scan"), "scan", "Store.scan", defArgs (inClass (top 44) 4), defBody (inClass (top 44) 4), defScope (inClass (top 44) 4), [], []⟩) rfl
  have mscan : MetAt P w K mg base (L2.CX P w) 6 (SC K) "scan" ["self", "values"] (spScan K) := ⟨cStore.cl, He.meth_ok (c.fact 128 (f := .meth "Store" "scan") rfl), fdstscan, ok_scan Fstscan s1, FunD.bindsN (ps := ["self", "values"]) Fstscan (fun _ _ _ _ _ _ us hl => match us, hl with | [_, _], _ => rfl)⟩
  obtain ⟨fdstmoved, Fstmoved⟩ := c.def_ 41 (d := ⟨("Store", some "moved"), "moved", "Store.moved", defArgs (inClass (top 44) 6), defBody (inClass (top 44) 6), defScope (inClass (top 44) 6), [], []⟩) rfl
  have mmoved : MetAt P w K mg base (L2.CX P w) 8 (SC K) "moved" ["self", "layout"] (spMoved K) := ⟨cStore.cl, He.meth_ok (c.fact 130 (f := .meth "Store" "moved") rfl), fdstmoved, ok_moved Fstmoved s2c, FunD.bindsN (ps := ["self", "layout"]) Fstmoved (fun _ _ _ _ _ _ us hl => match us, hl with | [_, _], _ => rfl)⟩
  have gsd : GSd P w K mg base := ⟨s2c, mscan, mmoved, of_decide_eq_true y4, of_decide_eq_true x4, of_decide_eq_true x5, He.glo_ok X G (c.fact 0 (f := .glo "JointError") rfl)⟩
  obtain ⟨fdt4, Ft4⟩ := c.def_ 73 (d := ⟨("_law_layout", none), "_law_layout", "_law_layout", defArgs (top 57), defBody (top 57), defScope (top 57), [], []⟩) rfl
  have At4 : FnAt P w K mg base CX0 5 "_law_layout" ["_law_source_here", "_law_most", "_law_limit"] _ := ⟨_, fdt4, He.glo_ok X G (c.fact 43 (f := .glo "_law_layout") rfl), Ft4.kp, ok_law_layout Ft4 gl, FunD.bindsN (ps := ["_law_source_here", "_law_most", "_law_limit"]) Ft4 (fun _ _ _ _ _ _ us hl => match us, hl with | [_, _, _], _ => rfl)⟩
  obtain ⟨fdt5, Ft5⟩ := c.def_ 70 (d := ⟨("_law_rows", none), "_law_rows", "_law_rows", defArgs (top 54), defBody (top 54), defScope (top 54), [], []⟩) rfl
  have At5 : FnAt P w K mg base CX0 4 "_law_rows" ["_law_specs"] _ := ⟨_, fdt5, He.glo_ok X G (c.fact 40 (f := .glo "_law_rows") rfl), Ft5.kp, ok_rows Ft5 gl, FunD.bindsN (ps := ["_law_specs"]) Ft5 (fun _ _ _ _ _ _ us hl => match us, hl with | [_], _ => rfl)⟩
  obtain ⟨fdt6, Ft6⟩ := c.def_ 74 (d := ⟨("_law_has", none), "_law_has", "_law_has", defArgs (top 58), defBody (top 58), defScope (top 58), [], []⟩) rfl
  have At6 : FnAt P w K mg base CX0 4 "_law_has" ["_law_spec", "_law_value"] _ := ⟨_, fdt6, He.glo_ok X G (c.fact 44 (f := .glo "_law_has") rfl), Ft6.kp, ok_has Ft6 gl, FunD.bindsN (ps := ["_law_spec", "_law_value"]) Ft6 (fun _ _ _ _ _ _ us hl => match us, hl with | [_, _], _ => rfl)⟩
  have gmi : GMis P w K mg base := ⟨gl, At6, He.free_ok X G (c.fact 69 (f := .free "enumerate") rfl), He.free_ok X G (c.fact 66 (f := .free "min") rfl)⟩
  obtain ⟨fdt7, Ft7⟩ := c.def_ 75 (d := ⟨("_law_misfit", none), "_law_misfit", "_law_misfit", defArgs (top 59), defBody (top 59), defScope (top 59), [], []⟩) rfl
  have At7 : FnAt P w K mg base CX0 5 "_law_misfit" ["_law_specs", "_law_row"] _ := ⟨_, fdt7, He.glo_ok X G (c.fact 45 (f := .glo "_law_misfit") rfl), Ft7.kp, ok_mis Ft7 gmi, FunD.bindsN (ps := ["_law_specs", "_law_row"]) Ft7 (fun _ _ _ _ _ _ us hl => match us, hl with | [_, _], _ => rfl)⟩
  have gdu : GDu P w K mg base := ⟨gl, At7, At1⟩
  obtain ⟨fdt8, Ft8⟩ := c.def_ 76 (d := ⟨("_law_due", none), "_law_due", "_law_due", defArgs (top 60), defBody (top 60), defScope (top 60), [], []⟩) rfl
  have At8 : FnAt P w K mg base CX0 6 "_law_due" ["_law_specs", "_law_joints", "_law_kept"] _ := ⟨_, fdt8, He.glo_ok X G (c.fact 46 (f := .glo "_law_due") rfl), Ft8.kp, ok_due Ft8 gdu, FunD.bindsN (ps := ["_law_specs", "_law_joints", "_law_kept"]) Ft8 (fun _ _ _ _ _ _ us hl => match us, hl with | [_, _, _], _ => rfl)⟩
  obtain ⟨fdt9, Ft9⟩ := c.def_ 78 (d := ⟨("_law_other", none), "_law_other", "_law_other", defArgs (top 62), defBody (top 62), defScope (top 62), [], []⟩) rfl
  have At9 : FnAt P w K mg base CX0 6 "_law_other" ["_law_source_here", "_law_specs", "_law_joints"] _ := ⟨_, fdt9, He.glo_ok X G (c.fact 48 (f := .glo "_law_other") rfl), Ft9.kp, ok_ot Ft9 gl, FunD.bindsN (ps := ["_law_source_here", "_law_specs", "_law_joints"]) Ft9 (fun _ _ _ _ _ _ us hl => match us, hl with | [_, _, _], _ => rfl)⟩
  obtain ⟨fdu1, Fu1⟩ := c.def_ 77 (d := ⟨("_law_said", none), "_law_said", "_law_said", defArgs (top 61), defBody (top 61), defScope (top 61), [], []⟩) rfl
  have Au1 : FnAt P w K mg base CX0 9 "_law_said" ["_law_store", "_law_layout_here"] _ := ⟨_, fdu1, He.glo_ok X G (c.fact 47 (f := .glo "_law_said") rfl), Fu1.kp, ok_said Fu1 gsd, FunD.bindsN (ps := ["_law_store", "_law_layout_here"]) Fu1 (fun _ _ _ _ _ _ us hl => match us, hl with | [_, _], _ => rfl)⟩
  obtain ⟨fdu2, Fu2⟩ := c.def_ 64 (d := ⟨("_law_pick", none), "_law_pick", "_law_pick", defArgs (top 48), defBody (top 48), defScope (top 48), [], []⟩) rfl
  have Au2 : FnAt P w K mg base CX0 2 "_law_pick" ["_law_source_here", "_law_items"] _ := ⟨_, fdu2, He.glo_ok X G (c.fact 34 (f := .glo "_law_pick") rfl), Fu2.kp, ok_law_pickW Fu2 gr0, FunD.bindsN (ps := ["_law_source_here", "_law_items"]) Fu2 (fun _ _ _ _ _ _ us hl => match us, hl with | [_, _], _ => rfl)⟩
  have grt : GRt P w K mg base := { gsd, gl with kStoreL := kSt, kLayoutL := kLay, law_layout := At4, law_rows := At5, law_pickW := Au2, law_due := At8, law_other := At9, law_said := Au1, mTake := mtake, mSize := msize }
  obtain ⟨fdu3, Fu3⟩ := c.def_ 79 (d := ⟨("_law_right", none), "_law_right", "_law_right", defArgs (top 63), defBody (top 63), defScope (top 63), [], []⟩) rfl
  have Au3 : FnAt P w K mg base CX0 10 "_law_right" ["_law_source_here"] _ := ⟨_, fdu3, He.glo_ok X G (c.fact 49 (f := .glo "_law_right") rfl), Fu3.kp, ok_rt Fu3 grt, FunD.bindsN (ps := ["_law_source_here"]) Fu3 (fun _ _ _ _ _ _ us hl => match us, hl with | [_], _ => rfl)⟩
  exact ⟨grt, Ar1, Au3, He.free_ok X G (c.fact 66 (f := .free "min") rfl)⟩

end L2.K77
open PySem PySem.W PySem.Calls PyProof.Rows
set_option maxRecDepth 100000 in
set_option maxHeartbeats 0 in
theorem PySem.Challenge.cw_jointkeys_k77_stores_moved_holds : PySem.Challenge.rw_jointkeys_k77_stores_moved.Holds := by
  w_on; o_law
  refine HandSHeadRun.head_any (r := OpenLaw.row PySem.Challenge.rw_jointkeys_k77_stores_moved) (q := view (OpenLaw.row PySem.Challenge.rw_jointkeys_k77_stores_moved).prog [64]) (H := L2.K77.hk) (ob := L2.K77.ob) (M := 8000) (loose := L2.K77.names) (d := HandSHeadRun.topDef (OpenLaw.row PySem.Challenge.rw_jointkeys_k77_stores_moved).prog 64) (kwd := []) L2.K77.ob_eq
    (by kernel_rfl) (fun s => by kernel_rfl) L2.K77.run (by kernel_rfl) (by kernel_rfl) (by kernel_rfl) (by rfl) (by first | assumption | decide +kernel) (by decide +kernel) ⟨rfl, rfl, rfl, rfl, rfl, by decide +kernel⟩ ?hw ?hc
  case hw => w_witness2
  case hc =>
    refine L2.walk_ofE (l := PySem.Challenge.rw_jointkeys_k77_stores_moved) (n := 63) (k := 11) (x := "_law_script") (CX := L2.CX0) rfl (by decide) (by kernel_rfl) ⟨rfl, by decide, by decide⟩ ?F (fun _ _ _ _ z => z)
    intro w mg fa h Y G hmg0
    obtain ⟨K, KX, c⟩ := Y
    have hmg : mg ("law" : PySem.Str) = some (.ref fa) := by
      have e : (HandSHeadRun.topDef (OpenLaw.row PySem.Challenge.rw_jointkeys_k77_stores_moved).prog 64).name = ("law" : PySem.Str) := by kernel_rfl
      rw [← e]
      exact hmg0
    obtain ⟨fd, F⟩ := c.t.d.def_ 80 (d := ⟨("law", none), "law", "law", L2.defArgs L2.K77.s_law, L2.defBody L2.K77.s_law, L2.defScope L2.K77.s_law, [], []⟩) rfl
    have e := hmg.symm.trans (He.glo_ok KX G (c.t.d.fact 50 (f := .glo "law") rfl))
    cases e
    have b := L2.FunD.bindsA (ps := ["_law_script"]) F fun _ _ _ _ _ _ us hl => match us, hl with | [_], _ => rfl
    exact ⟨K, fd, L2.K77.spLaw K, KX, fun s v => b s [v] rfl, fun H a ns hl _ hS => ⟨a, ns, rfl, hS, hl, fun _ => rfl⟩, fun base _ _ => L2.K77.ok_law F (L2.K77.facts KX G c.t.d c.more)⟩
#print axioms PySem.Challenge.cw_jointkeys_k77_stores_moved_holds
