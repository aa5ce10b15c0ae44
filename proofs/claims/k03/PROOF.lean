import PyProof.Rows.All
import Wide.All
import OpenK.AllK
import Wide.FinOn
import HandS.ForMost
import HandS.ForExc
import HandS.ExcInit
import HandS.ExcIs
import HandS.ExcField
import HandS.IsInst
import KE.KStateDown
import HandS.Defaults
import HandS.Head0
import HandS.Head1
import HandS.Head2
import HandS.Head3
import HandS.Head4
import HandS.HeadEnd
import HandS.HeadHook1
import HandS.HeadHook2
import HandS.HeadHook3
import HandS.HeadHook4
import HandS.Walk
import PyProof.WalksS
import PyProof.StrWalks
import PyProof.EnumMake
import PyProof.Rows.SetFrom
import PyProof.SetKind
import HandS.Strs
import HandS.OwnEq
import PyProof.InstNe
import HandS.Rev
import HandS.Zip
import PyProof.JoinWalk
import PyProof.ListStr
import HandS.ExcOwn
import HandS.WordsExc
import HandS.StrMore
import HandS.Flow
import PySem.Challenge.RW_jointkeys_k03_fields_refused
set_option Elab.async false
set_option linter.all false
set_option maxRecDepth 100000
set_option maxHeartbeats 4000000
/-! Own exceptions as plain values: made, their fields read, their methods called, isinstance asked of them. -/
namespace L2.Jk
open PySem PySem.W PySem.Spec PySem.Calls PyProof.Rows

/-- what an own error class says of itself, for its instances as values -/
structure ErrC (K : Frag) (C : Addr) : Prop where
  ox : OexC K C
  xf : XfC K C
  kk : findIn K (.ref C) "__class__" = some (some (.builtin "object.__class__"))
  kn : specialIn K (.builtin "object.__class__") "__get__" = some (some (.builtin "getset_descriptor.__get__"))
  kt : takesIn K (.builtin "object.__class__") = some true
  km : mroIn K C (.type "object") = some true

section
variable {prog : Program} {w : World} {A : Around} {E : Value → Shared → Prop} {s : Shared} {K : Frag} {e C f : Addr} {oe od : Obj}

/-- e.__class__ of an error with a dict of its own -/
theorem err_class {Q : Option Value → Shared → Prop} (T : ErrC K C) (X : K.In s.heap) (I : InstAt s.heap e oe C (some od)) (h : Q (some (.ref C)) { s with toks := s.toks + 1 }) :
    wpAny (model prog w) A (getAttr? (.ref e) "__class__") Q E s := by
  obtain ⟨cd, hcd, _⟩ := any_some T.xf.hdC
  have look := findObj_data (od := od) (show (clsIn K C).isSome = true by rw [hcd]; rfl) T.kk T.kn T.kt
  obtain ⟨hp, gn, dr, tk, os⟩ := s
  have lt := I.type (M := model prog w)
  have lg := looks_findIn (M := model prog w) X T.xf.ga
  have lh := looks_findIn (M := model prog w) X T.xf.gg
  have lf := looks_find (M := model prog w) X I look
  have inB : Looks (model prog w) hp (isInstance (.ref e) (.type "BaseException")) true := lt.andThen (looks_subIn X T.xf.exC)
  have n2 : (Value.builtin "BaseException.__getattribute__" == Value.builtin "object.__getattribute__") = false := by decide +kernel
  have n1 : (onTheHeap (Value.ref C) && Value.builtin "BaseException.__getattribute__" == Value.builtin "object.__getattribute__") = false := by rw [n2] <;> rfl
  unfold getAttr? getAttrBy? getAttrBy
  refine wpAny_bind (wpAny_mkText (wpAny_bind (wpAny_attempt (wpAny_holding (wpAny_bind (lt.at (wpAny_bind (lg.at ?_))))))))
  show wpAny _ _ (if (onTheHeap (Value.ref C) && Value.builtin "BaseException.__getattribute__" == Value.builtin "object.__getattribute__") = true then _ else _) _ _ _
  rw [n1, if_neg Bool.false_ne_true]
  unfold getAttrByItsOwn hookBefore
  refine wpAny_bind ?_
  rw [if_pos (show onTheHeap (Value.ref C) = true from rfl)]
  refine lh.at (wpAny_bind (wpAny_attempt (wpAny_holding ?_)))
  unfold callGetattribute
  rw [show (false && onTheHeap (Value.builtin "BaseException.__getattribute__")) = false from rfl, if_neg Bool.false_ne_true]
  unfold boundAndCalled
  rw [PySem.F.excAttr_ValueError.ga.bind (.ref e)]
  refine wpAny_bind (wpAny_pure ?_)
  show wpAny _ _ (call (.builtin "BaseException.__getattribute__") [.ref e, .str "__class__" tk]) _ _ _
  refine wpAny_call (codeAny_call_builtin PySem.F.excAttr_ValueError.ga.plain PySem.F.entry_bexc_ga ?_)
  refine @check_slot (model prog w) _ _ ⟨hp, gn, dr, tk + 1, os⟩ "BaseException.__getattribute__" "BaseException" "__getattribute__" (.ref e) [.str "__class__" tk] [] _
    (by decide +kernel) (by decide +kernel) inB (PySem.F.args_bexc_ga (.ref e) (.str "__class__" tk)) ?_
  unfold Builtin.«object.__getattribute__»
  refine wpAny_bind (wpAny_of_eq (a := ((Value.ref e : Value), [Value.str "__class__" tk])) (by first | rfl | (simp only [slotArgs]; rfl)) ?_)
  refine wpAny_bind (wpAny_pure (wpAny_bind (lt.at (wpAny_bind (lf.at ?_)))))
  show wpAny _ _ (holding [Value.builtin "object.__class__"] (call (.builtin "getset_descriptor.__get__") [.builtin "object.__class__", .ref e, .ref C]) >>= ret) _ _ _
  refine wpAny_bind (wpAny_holding (wpAny_call (class_get (s := ⟨hp, gn, dr, tk + 1, os⟩) (ox := oe) (od := some od) X I T.km ?_)))
  refine wpAny_pure ?_
  show wpAny _ _ (handedOut (.ref C)) _ _ _
  rw [handedOut_of (v := .ref C) rfl]
  first
    | exact wpAny_pure (wpAny_pure h)
    | exact wpAny_pure h
    | exact wpAny_pure (wpAny_bind (wpAny_pure (wpAny_pure h)))
/-- isinstance may be asked of it -/
theorem err_kit (T : ErrC K C) : KitX K (.ref e) (.ref C) (fun h => ∃ o d, InstAt h e o C (some d)) where
  ty := fun _ _ _ ⟨_, _, I⟩ => I.type
  it := fun _ _ X _ => by
    obtain ⟨cd, hc, _⟩ := any_some T.xf.hdC
    unfold clsIn at hc
    split at hc
    · rename_i ho
      intro _ _ _ _ k q
      unfold isType loadHead
      exact wpAny_bind (wpAny_loadPart (k _ _ (X _ _ ho)) (wpAny_pure q))
    · cases hc
  ne := fun h tp dd its n sl X htp => by
    obtain ⟨cd, hc, _⟩ := any_some T.xf.hdC
    refine Bool.eq_false_iff.mpr fun q => ?_
    have z : C = tp := Value.ref.inj (beq_iff_eq.mp q)
    subst z
    unfold clsIn at hc
    split at hc
    · rename_i ho
      have y := (X _ _ ho).symm.trans htp
      cases y
    · cases hc
  ca := fun X ⟨_, _, I⟩ k => err_class T X I k

/-- the method of an error, found in its class -/
theorem err_meth {name : Str} {pl : Sem Bool} {Q : Value × List Value → Shared → Prop} (T : ErrC K C) (X : K.In s.heap) (I : InstAt s.heap e oe C (some od))
    (hf : findIn K (.ref C) name = some (some (.ref f))) (ht : isFn K (.ref f) = true) (hs : shadowIn (some od) name = some false) (h : Q (.ref f, [.ref e]) s) :
    wpAny (model prog w) A (getMethod (.ref e) name pl) Q E s := by
  have cn : Manifest.canonical "BaseException.__getattribute__" = "object.__getattribute__" := by first | kernel_rfl | decide +kernel
  obtain ⟨r, ra, rb⟩ := Option.map_eq_some_iff.mp hs
  have dd := I.dict
  unfold getMethod specialOf
  refine wpAny_bind (wpAny_bind (I.type.here ((looks_findIn X T.xf.ga).here ?_)))
  dsimp only
  rw [cn, if_neg (by decide)]
  refine wpAny_bind (wpAny_bind (I.type.here ((looks_findIn X T.xf.gg).here ?_)))
  refine wpAny_bind (wpAny_bind (I.type.here ((looks_findIn X hf).here (wpAny_bind ((looks_typeIn X (beq_iff_eq.mp ht)).here ?_)))))
  rw [if_neg (by decide +kernel)]
  refine wpAny_bind (wpAny_loadPart I.at_ ?_)
  cases q : oe.dict with
  | none => exact wpAny_bind (wpAny_rule (wpAny_pure h))
  | some dx =>
    rw [q] at dd
    refine wpAny_bind (wpAny_bind (wpAny_loadPart dd ?_))
    rw [nsLook_of ra]
    refine wpAny_pure ?_
    rw [rb]
    exact wpAny_bind (wpAny_rule (wpAny_pure h))
end

section
variable {X : Cx} {pins : List (Addr × Obj)} {σ : St} {H : Hp} {s : Shared} {C a d : Addr} {fs : List (Str × V)}
/-- an error as the heap holds it -/
theorem err_at (I : Inv X pins σ H s) (ha : H a = some (exo a C (some d))) (hd : H d = some (exd d fs)) :
    ∃ o od mA, InstAt s.heap a o C (some od) ∧ s.heap.Ns1 d mA ∧ (∀ f, RelO (fs.lookup f) (mA f)) ∧ s.heap.get? d = some od ∧ ∀ f, lookIn f od = some (mA f) := by
  obtain ⟨t1, ho⟩ := exo_at I.hok ha
  obtain ⟨mA, hn, r⟩ := exd_at I.hok hd
  obtain ⟨od, hod, hl⟩ := lookIn_ns hn
  exact ⟨_, od, mA, ⟨ho, rfl, rfl, hod⟩, hn, r, hod, hl⟩
/-- e.f of an error -/
def tEf (K : Frag) (f : Str) (te : TE) : TE := fun σ H Q => te σ H fun x H1 => ∃ (a C d : Addr) (fs : List (Str × V)) (v : V), x = .ref a ∧ ErrC K C ∧ findIn K (.ref C) f = some none ∧
  H1 a = some (exo a C (some d)) ∧ H1 d = some (exd d fs) ∧ fs.lookup f = some v ∧ Q v H1
theorem pe_ef {e : Expr} {te : TE} {pos : Pos} {n : Str} (he : PE X e te) (hb : attributeBase e n X.env (eval e X.env) = eval e X.env := by rfl) :
    PE X (.Attribute e n pos) (tEf X.K n te) := by
  refine ⟨fun pins s σ H Q I h => ?_⟩
  refine attr_of hb (thn (he.run pins s σ H _ I h) fun u s1 hh => ?_)
  obtain ⟨x, H1, I1, rx, a, C, d, fs, v, ex, T, hno, ha, hd, l, q⟩ := hh
  subst ex
  obtain rfl : u = Value.ref a := rx
  obtain ⟨o, od, mA, J, hn, r, hod, hl⟩ := err_at I1 ha hd
  obtain ⟨u, hu, ru⟩ := RelO.some_of (v := v) (o := mA n) (by rw [← l]; exact r n)
  exact HandSPX.exc_get I1.kIn J T.xf.ga T.xf.gg T.xf.exC (findObj_own T.xf.hdC hno rfl (by rw [hl, hu])) (handed_of ru) ⟨v, H1, I1.tok _, ru, q⟩
/-- what a def promises, met when it is called: which def it is shows in the heap -/
def Does (X : Cx) (CX : CXT) (f : Addr) (vs : List V) (H : Hp) (Q : VK) (E : XK) : Prop :=
  ∃ (k : Nat) (fd : FuncData) (ps : List Str) (sp : Sp), keepIn X.K (.ref f) = true ∧ FnOk X.prog X.w X.K X.mg X.base CX k f fd ps sp ∧ Room k X.A ∧ Binds X.K fd ps [] ∧ sp vs H Q E
/-- e.m() of an error -/
def tEm0 (X : Cx) (CX : CXT) (m : Str) (E : XK) (te : TE) : TE := fun σ H Q => te σ H fun x H1 => ∃ (a C d f : Addr) (fs : List (Str × V)), x = .ref a ∧ ErrC X.K C ∧
  H1 a = some (exo a C (some d)) ∧ H1 d = some (exd d fs) ∧ fs.lookup m = none ∧ findIn X.K (.ref C) m = some (some (.ref f)) ∧ isFn X.K (.ref f) = true ∧ Does X CX f [.ref a] H1 Q E
theorem pe_em0 {CX : CXT} {E : XK} {o : Expr} {m : Str} {ta : TE} {apos pos : Pos} {pl : Sem Bool} (he : PE X o ta) (hx : Passes CX X E)
    (ht : eval (.Call (.Attribute o m apos) [] [] pos) X.env = (do
      let ov ← eval o X.env
      standAt apos.atName
      let (f, first) ← holding [ov] (getMethod ov m pl)
      callWith pos f first (backTo pos (starEach [] X.env)) (backToKw pos (keywordEach [] X.env))) := by rfl) :
    PE X (.Call (.Attribute o m apos) [] [] pos) (tEm0 X CX m E ta) := by
  refine ⟨fun pins s σ H Q I h => ?_⟩
  refine methodCall_KW (pl := pl) (thn (he.run pins s σ H _ I h) fun u s1 hh => ?_) ht
  obtain ⟨x, H1, I1, rx, a, C, d, f, fs, ex, T, ha, hd, l, hf, hfn, k, fd, ps, sp, kp, F, hr, hb, q⟩ := hh
  subst ex
  obtain rfl : u = Value.ref a := rx
  obtain ⟨o, od, mA, J, hn, r, hod, hl⟩ := err_at I1 ha hd
  have hno : mA m = none := RelO.none_of (by rw [← l]; exact r m)
  refine err_meth T I1.kIn J hf hfn (by show (lookIn m od).map _ = _; rw [hl, hno]; rfl) ?_
  exact callWith_K0 (first := [.ref a]) I1.kIn kp (run_fn (us := [.ref a]) (vs := [.ref a]) F hr hb .nil hx I1 (.cons rfl .nil) q)
/-- C(e, ..), an own error made and kept -/
def tMkE (C : Addr) (sp : Sp) (ta : TA) : TE := fun σ H Q => ta σ H fun vs H1 => vs.length ≤ 1000 ∧ ∀ a, H1 a = none → sp (.ref a :: vs) (upd H1 a (exo a C none)) (fun v H2 => v = .non ∧ Q (.ref a) H2) (fun _ _ _ => False)
theorem run_mkE {CX : CXT} {fI : Addr} {k : Nat} {fd : FuncData} {ps : List Str} {sp : Sp} {us : List Value} {vs : List V} {Q : VK} (T : OexC X.K C) (iC : findIn X.K (.ref C) "__init__" = some (some (.ref fI))) (tI : typeIn X.K (.ref fI) = some (.type "function"))
    (F1 : FnOk X.prog X.w X.K X.mg X.base CX k fI fd ps sp) (hr : Room (k + 1) X.A) (hb : Binds X.K fd ps []) (hx : Passes CX X (fun _ _ _ => False)) (I1 : Inv X pins σ H s) (r1 : Vals vs us) (hz : vs.length ≤ 1000)
    (q1 : ∀ a, H a = none → sp (.ref a :: vs) (upd H a (exo a C none)) (fun v H2 => v = .non ∧ Q (.ref a) H2) (fun _ _ _ => False)) :
    wpAny (model X.prog X.w) X.A (call (.ref C) us) (EP X pins σ Q) X.xe s := by
  obtain ⟨nm, q, N, bs, bm, sn, sub, ab, col, dd, k0, k1, k2, k3, k5, hC, hbm⟩ := T.cls
  obtain ⟨hp, g, dr, tk, os⟩ := s
  have sz : hp.objs.size ≤ hp.objs.size + 1 := Nat.le_succ _
  have fresh : H (hp.objs.size + 1) = none := I1.hok.fresh sz
  have pr := q1 (hp.objs.size + 1) fresh
  have keep : ∀ b o, hp.get? b = some o → ((hp.push (kdv_tup us)).push (HandSPX.excO C hp.objs.size)).get? b = some o := fun b o e => Heap.get?_push_of_some _ (Heap.get?_push_of_some _ e)
  have there : ((hp.push (kdv_tup us)).push (HandSPX.excO C hp.objs.size)).get? (hp.objs.size + 1) = some (HandSPX.excO C hp.objs.size) := by heap_get
  have I2 : Inv X pins σ (upd H (hp.objs.size + 1) (exo (hp.objs.size + 1) C none)) ⟨(hp.push (kdv_tup us)).push (HandSPX.excO C hp.objs.size), g, dr, tk, os⟩ :=
    I1.laid (t' := tk) (a := hp.objs.size + 1) (o := exo (hp.objs.size + 1) C none) (h' := (hp.push (kdv_tup us)).push (HandSPX.excO C hp.objs.size)) keep sz (exo_ok there)
  have r2 : Vals (V.ref (hp.objs.size + 1) :: vs) (Value.ref (hp.objs.size + 1) :: us) := .cons rfl r1
  have hl : (Value.ref (hp.objs.size + 1) :: us ++ []).length = ps.length := by
    rw [List.append_nil, ← r2.length]
    exact F1.len _ _ _ _ pr
  have hus : us.length ≤ sizeLine := by
    rw [← Paired.length r1, sizeLine_eq]
    omega
  have hb' := hb ⟨(hp.push (kdv_tup us)).push (HandSPX.excO C hp.objs.size), g, dr, tk, os⟩ (Value.ref (hp.objs.size + 1) :: us) I2.kIn hl
  rw [List.append_nil] at hb'
  refine wpAny_call (HandSPX.call_own F.excBase_ValueError (fun Y => HandSPX.refsVE_contains Y bm hbm) (I1.kIn _ _ hC) (looks_findIn I1.kIn iC) (fun self => bind_fn I1.kIn self tI) hus
    (codeAny_mono (F1.run _ X.stack _ _ ⟨Value.ref (hp.objs.size + 1) :: us, []⟩ (Value.ref (hp.objs.size + 1) :: us) _ _ (fun _ _ _ => False) (hr.make C us []) (I2.env0.make C us []) hb' r2 pr) fun r s' hq' => ?_))
  cases r with
  | error er => exact hx pins σ _ _ er s' I2 hq'
  | ok fl =>
    cases fl with
    | ret u =>
      obtain ⟨v, H2, I3, rv, ev, q3⟩ := I2.after hq'
      subst ev
      -- nothing was tracked at the new place
      exact ⟨rv, ⟨V.ref (hp.objs.size + 1), H2, I3, rfl, q3⟩⟩
    | next => exact False.elim hq'
    | brk => exact False.elim hq'
    | cont => exact False.elim hq'
theorem pe_mkE {CX : CXT} {x : Str} {fI : Addr} {k : Nat} {fd : FuncData} {ps : List Str} {sp : Sp} {e : Expr} {es : List Expr} {ta : TA} {p pos : Pos} (T : OexC X.K C) (iC : findIn X.K (.ref C) "__init__" = some (some (.ref fI))) (tI : typeIn X.K (.ref fI) = some (.type "function"))
    (F1 : FnOk X.prog X.w X.K X.mg X.base CX k fI fd ps sp) (hr : Room (k + 1) X.A) (hb : Binds X.K fd ps []) (hx : Passes CX X (fun _ _ _ => False)) (hg : Gl X x) (hm : X.mg x = some (.ref C)) (ha : PA X (e :: es) ta)
    (hdb : (x == ("__debug__" : Str)) = false := by decide) (he : starEach (e :: es) X.env = (false, eval e X.env) :: starEach es X.env := by rfl) (hpl : (backTo pos (starEach es X.env)).any (·.1) = false := by rfl) :
    PE X (.Call (.Name x p) (e :: es) [] pos) (tMkE C sp ta) := by
  refine ⟨fun pins s σ H Q I h => ?_⟩
  refine wpAny_Call_Name_kw (ld_glob I hg hm ?_ hdb)
  refine callWith_K (h₀ := X.base) I.ok.mod.kin T.kC (thn (ha.run pos pins s σ H _ I h) fun us s1 ⟨vs, H1, I1, r1, hz, q1⟩ => ⟨I1.kIn, ?_⟩) he hpl
  exact run_mkE T iC tI F1 hr hb hx I1 r1 hz q1
/-- a value's type, an error's too -/
inductive TyE (K : Frag) (H : Hp) : V → Value → Prop where
  | x {x : V} {t : Value} (h : TyX K H x t) : TyE K H x t
  | err {a C d : Addr} {fs : List (Str × V)} (T : ErrC K C) (ha : H a = some (exo a C (some d))) (hd : H d = some (exd d fs)) : TyE K H (.ref a) (.ref C)
theorem kit_ofE {x : V} {u t : Value} (I : Inv X pins σ H s) (rx : RelV x u) (ty : TyE X.K H x t) : ∃ P : Heap → Prop, KitX X.K u t P ∧ P s.heap ∧ u ≠ .builtin "__main__.__loader__#opaque" := by
  cases ty with
  | x h => exact kit_of I rx h
  | err T ha hd =>
    cases (show u = Value.ref _ from rx)
    obtain ⟨o, od, mA, J, _⟩ := err_at I ha hd
    exact ⟨_, err_kit T, ⟨o, od, J⟩, fun z => nomatch z⟩
def rIe (K : Frag) : List V → Hp → VK → Prop := fun xs H Q => ∃ (x c : V) (t u : Value) (b : Bool), xs = [x, c] ∧ ClsV c u ∧ TyE K H x t ∧ kitOne K t u = some b ∧ Q (.bl b) H
def rIeT (K : Frag) : List V → Hp → VK → Prop := fun xs H Q => ∃ (x : V) (tp : Addr) (cs : List V) (t : Value) (us : List Value) (b : Bool), xs = [x, .ref tp] ∧ H tp = some (.tup cs) ∧ Paired ClsV cs us ∧ TyE K H x t ∧ kitAny K t us = some b ∧ Q (.bl b) H
theorem call_ie : CallR X (.builtin "isinstance") (rIe X.K) := by
  intro pins s σ H xs us Q I r h
  obtain ⟨x, c, t, u, b, rfl, k, ty, e, q⟩ := h
  obtain ⟨u1, u2, rfl, r1, r2⟩ := vals2 r
  obtain rfl := k.eq r2
  obtain ⟨P, Z, p, hx⟩ := kit_ofE I r1 ty
  exact kia_one Z I.kIn p e hx fun tk => ⟨.bl b, H, I.tok tk, rfl, q⟩
theorem call_ieT : CallR X (.builtin "isinstance") (rIeT X.K) := by
  intro pins s σ H xs us Q I r h
  obtain ⟨x, tp, cs, t, ws, b, rfl, hT, k, ty, e, q⟩ := h
  obtain ⟨u1, u2, rfl, r1, r2⟩ := vals2 r
  cases (show u2 = Value.ref tp from r2)
  obtain ⟨P, Z, p, hx⟩ := kit_ofE I r1 ty
  obtain ⟨_, its, rv, o, h1, h2, n, h3⟩ := (show ObjOk X.prog X.w H s.heap tp (.tup cs) from I.hok tp _ hT)
  obtain rfl := ClsV.all k rv
  obtain ⟨oc, od, dt, sl⟩ := o
  dsimp only at h2 h3
  subst h2 h3
  exact kia_tup Z I.kIn p h1 e hx fun tk => ⟨.bl b, H, I.tok tk, rfl, q⟩
end
end L2.Jk

set_option Elab.async false
set_option linter.all false
set_option maxRecDepth 100000
set_option maxHeartbeats 4000000
/-! Defs and error classes as the head tells them; calls of them. -/
namespace L2.Jk
open PySem PySem.W PySem.Spec PySem.Calls PyProof.Rows

/-! ### what the head says of an error class, by one Bool -/
def oexB (K : Frag) (C : Addr) : Bool := (match K.lookup C with
  | some ⟨.type "type", _, .cls cd, sl⟩ => (match cd.mro, sl.toList with
    | .ref D :: bm, [_, _, _, _, some (.builtin n), _] => decide (D = C) && (decide (n = "ValueError.__new__") && (HandSPX.refsVE bm && (cd.hasDict && !cd.hasDel)))
    | _, _ => false)
  | _ => false) && (He.eqO (findIn K (.ref C) "__setattr__") (some (some (.builtin "object.__setattr__"))) && (decide (subIn K (.ref C) (.type "BaseException") = some true) &&
    (decide (typeIn K (.ref C) = some (.type "type")) && keepIn K (.ref C))))
theorem oexB_ok {K : Frag} {C : Addr} (h : oexB K C = true) : OexC K C := by
  obtain ⟨h1, h⟩ := Bool.and_eq_true_iff.mp h
  obtain ⟨h2, h⟩ := Bool.and_eq_true_iff.mp h
  obtain ⟨h3, h⟩ := Bool.and_eq_true_iff.mp h
  obtain ⟨h4, h5⟩ := Bool.and_eq_true_iff.mp h
  refine ⟨?_, He.eqO_ok h2, of_decide_eq_true h3, of_decide_eq_true h4, h5⟩
  split at h1
  · rename_i dd cd sl ho
    split at h1
    · rename_i D bm k0 k1 k2 k3 n k5 hm hs
      obtain ⟨a1, h1⟩ := Bool.and_eq_true_iff.mp h1
      obtain ⟨a2, h1⟩ := Bool.and_eq_true_iff.mp h1
      obtain ⟨a3, h1⟩ := Bool.and_eq_true_iff.mp h1
      obtain ⟨a4, a5⟩ := Bool.and_eq_true_iff.mp h1
      obtain rfl := of_decide_eq_true a1
      obtain rfl := of_decide_eq_true a2
      obtain ⟨nm, bs, mro, ns, qn, hd, sn, sub, ab, col, del⟩ := cd
      dsimp only at hm a4 a5
      subst hm
      subst a4
      obtain rfl : del = false := by cases del <;> first | rfl | cases a5
      have e : sl = #[k0, k1, k2, k3, some (.builtin "ValueError.__new__"), k5] := by
        obtain ⟨l⟩ := sl
        dsimp only at hs
        rw [hs]
      subst e
      exact ⟨nm, qn, ns, bs, bm, sn, sub, ab, col, dd, k0, k1, k2, k3, k5, ho, a3⟩
    · cases h1
  · cases h1
def errB (K : Frag) (C : Addr) (fs ms : List Str) : Bool := oexB K C && (xfB K C && (He.eqO (findIn K (.ref C) "__class__") (some (some (.builtin "object.__class__"))) &&
  (He.eqO (specialIn K (.builtin "object.__class__") "__get__") (some (some (.builtin "getset_descriptor.__get__"))) && (decide (takesIn K (.builtin "object.__class__") = some true) && (decide (mroIn K C (.type "object") = some true) &&
  ((fs.all fun f => He.eqO (findIn K (.ref C) f) (some none)) && ((ms.all fun m => He.eqO (findIn K (.ref C) m) (some (some (.ref (He.ma K C m)))) && isFn K (.ref (He.ma K C m))))))))))
structure ErrX (K : Frag) (C : Addr) (fs ms : List Str) : Prop where
  ec : ErrC K C
  no : ∀ f ∈ fs, findIn K (.ref C) f = some none
  me : ∀ m ∈ ms, findIn K (.ref C) m = some (some (.ref (He.ma K C m))) ∧ isFn K (.ref (He.ma K C m)) = true
theorem errB_ok {K : Frag} {C : Addr} {fs ms : List Str} (h : errB K C fs ms = true) : ErrX K C fs ms := by
  obtain ⟨h1, h⟩ := Bool.and_eq_true_iff.mp h
  obtain ⟨h2, h⟩ := Bool.and_eq_true_iff.mp h
  obtain ⟨h3, h⟩ := Bool.and_eq_true_iff.mp h
  obtain ⟨h4, h⟩ := Bool.and_eq_true_iff.mp h
  obtain ⟨h5, h⟩ := Bool.and_eq_true_iff.mp h
  obtain ⟨h6, h⟩ := Bool.and_eq_true_iff.mp h
  obtain ⟨h7, h8⟩ := Bool.and_eq_true_iff.mp h
  refine ⟨⟨oexB_ok h1, xfB_ok h2, He.eqO_ok h3, He.eqO_ok h4, of_decide_eq_true h5, of_decide_eq_true h6⟩, fun f hf => He.eqO_ok (List.all_eq_true.mp h7 f hf), fun m hm => ?_⟩
  obtain ⟨a, b⟩ := Bool.and_eq_true_iff.mp (List.all_eq_true.mp h8 m hm)
  exact ⟨He.eqO_ok a, b⟩

/-! ### a def of the module, called by its name -/
structure FnAt (P : Program) (w : World) (K : Frag) (mg : Str → Option Value) (base : Heap) (CX : CXT) (k : Nat) (x : Str) (ps : List Str) (sp : Sp) : Prop where
  ex : ∃ (f : Addr) (fd : FuncData), mg x = some (.ref f) ∧ keepIn K (.ref f) = true ∧ FnOk P w K mg base CX k f fd ps sp ∧ Binds K fd ps []
section
variable {X : Cx} {CX : CXT} {k : Nat} {x : Str} {ps : List Str} {sp : Sp} {E : XK} {e : Expr} {es : List Expr} {t : TA} {p pos : Pos}
theorem pe_fn (G : FnAt X.prog X.w X.K X.mg X.base CX k x ps sp) (hr : Room k X.A) (hx : Passes CX X E) (hg : Gl X x) (ha : PA X (e :: es) t)
    (hdb : (x == ("__debug__" : Str)) = false := by decide) (he : starEach (e :: es) X.env = (false, eval e X.env) :: starEach es X.env := by rfl) (hpl : (backTo pos (starEach es X.env)).any (·.1) = false := by rfl) :
    PE X (.Call (.Name x p) (e :: es) [] pos) (tCall sp [] E t) := by
  obtain ⟨f, fd, hm, kp, F, hb⟩ := G.ex
  exact pe_call F hr hg hm kp hb .nil hx ha hdb he hpl
end
/-! ### an error class, its instances as values -/
/-- at a: an error of the class at C, its dict at d holds fs -/
def mkE (H : Hp) (a C d : Addr) (fs : List (Str × V)) : Hp := upd (upd H d (exd d fs)) a (exo a C (some d))
/-- __init__(self, f): self.f = f -/
def spI1 (C : Addr) (f : Str) : Sp := fun vs H Q _ => ∃ (a : Addr) (v : V), vs = [.ref a, v] ∧ H a = some (exo a C none) ∧ ∀ d, H d = none → d ≠ a → Q .non (mkE H a C d [(f, v)])
def spI2 (C : Addr) (f g : Str) : Sp := fun vs H Q _ => ∃ (a : Addr) (v u : V), vs = [.ref a, v, u] ∧ H a = some (exo a C none) ∧ ∀ d, H d = none → d ≠ a → Q .non (mkE H a C d [(g, u), (f, v)])
def spS (z : Str) : Sp := fun vs H Q _ => ∃ v, vs = [v] ∧ Q (.str z) H
theorem mkE_new {H : Hp} {a C d : Addr} {fs : List (Str × V)} (ne : d ≠ a) : mkE (upd H a (exo a C none)) a C d fs = mkE H a C d fs := by
  funext b
  unfold mkE
  by_cases h : b = a
  · rw [h, upd_same, upd_same]
  · rw [upd_ne h, upd_ne h]
    by_cases h2 : b = d
    · rw [h2, upd_same, upd_same]
    · rw [upd_ne h2, upd_ne h2, upd_ne h]
/-- an error as a value -/
def ErrV (H : Hp) (v : V) (C : Addr) (fs : List (Str × V)) : Prop := ∃ a d, v = .ref a ∧ H a = some (exo a C (some d)) ∧ H d = some (exd d fs)
theorem ErrV.same {H H' : Hp} {v : V} {C : Addr} {fs : List (Str × V)} (h : ErrV H v C fs) (s : Same H H') : ErrV H' v C fs := by
  obtain ⟨a, d, e, h1, h2⟩ := h
  exact ⟨a, d, e, s _ _ h1, s _ _ h2⟩
theorem mkE_same {H : Hp} {a C d : Addr} {fs : List (Str × V)} (ha : H a = none) (hd : H d = none) : Same H (mkE H a C d fs) := fun b o e => by
  unfold mkE
  rw [upd_ne (ne_of_none e ha), upd_ne (ne_of_none e hd)]
  exact e
theorem mkE_err {H : Hp} {a C d : Addr} {fs : List (Str × V)} (ne : d ≠ a) : ErrV (mkE H a C d fs) (.ref a) C fs :=
  ⟨a, d, rfl, upd_same, by unfold mkE; rw [upd_ne ne, upd_same]⟩
def IniOk (P : Program) (w : World) (K : Frag) (mg : Str → Option Value) (base : Heap) (C : Addr) (fs : List Str) (fd : FuncData) : Prop := match fs with
  | [f] => FnOk P w K mg base CX0 1 (He.ma K C "__init__") fd ["self", f] (spI1 C f)
  | [f, g] => FnOk P w K mg base CX0 1 (He.ma K C "__init__") fd ["self", f, g] (spI2 C f g)
  | _ => False
/-- the class x, its __init__ (f or f, g), its told -/
structure ErrAt (P : Program) (w : World) (K : Frag) (mg : Str → Option Value) (base : Heap) (x : Str) (C : Addr) (fs : List Str) (z : Str) : Prop where
  mgC : mg x = some (.ref C)
  ex : ErrX K C fs ["told"]
  ini : findIn K (.ref C) "__init__" = some (some (.ref (He.ma K C "__init__"))) ∧ typeIn K (.ref (He.ma K C "__init__")) = some (.type "function")
  iok : ∃ fd, Binds K fd ("self" :: fs) [] ∧ IniOk P w K mg base C fs fd
  tok : ∃ fd, Binds K fd ["self"] [] ∧ keepIn K (.ref (He.ma K C "told")) = true ∧ FnOk P w K mg base CX0 1 (He.ma K C "told") fd ["self"] (spS z)
/-- the fields of an error that is made, as its dict holds them -/
def fldE : List Str → List V → List (Str × V)
  | [f], [v] => [(f, v)]
  | [f, g], [v, u] => [(g, u), (f, v)]
  | _, _ => []
def tErr (C : Addr) (fs : List Str) (ta : TA) : TE := fun σ H Q => ta σ H fun vs H1 => vs.length = fs.length ∧ ∀ v H2, Same H1 H2 → ErrV H2 v C (fldE fs vs) → Q v H2
section
variable {X : Cx} {x z : Str} {C : Addr} {fs : List Str} {e : Expr} {es : List Expr} {ta : TA} {p pos : Pos}
theorem pe_err (T : ErrAt X.prog X.w X.K X.mg X.base x C fs z) (hr : Room 2 X.A) (hx : Passes CX0 X (fun _ _ _ => False)) (hg : Gl X x) (ha : PA X (e :: es) ta)
    (hdb : (x == ("__debug__" : Str)) = false := by decide) (he : starEach (e :: es) X.env = (false, eval e X.env) :: starEach es X.env := by rfl) (hpl : (backTo pos (starEach es X.env)).any (·.1) = false := by rfl) :
    PE X (.Call (.Name x p) (e :: es) [] pos) (tErr C fs ta) := by
  obtain ⟨fd, hb, iok⟩ := T.iok
  refine ⟨fun pins s σ H Q I h => ?_⟩
  refine wpAny_Call_Name_kw (ld_glob I hg T.mgC ?_ hdb)
  refine callWith_K (h₀ := X.base) I.ok.mod.kin T.ex.ec.ox.kC (thn (ha.run pos pins s σ H _ I h) fun us s1 ⟨vs, H1, I1, r1, hz, q1⟩ => ⟨I1.kIn, ?_⟩) he hpl
  have ox := T.ex.ec.ox
  have i1 := T.ini.1
  have i2 := T.ini.2
  clear T
  match fs, vs, iok, hz, hb, q1 with
  | [f], [v], iok, _, hb, q1 =>
    exact run_mkE ox i1 i2 iok hr hb hx I1 r1 (by show 1 ≤ 1000; decide) fun a ha1 => ⟨a, v, rfl, upd_same, fun d hd ne => ⟨rfl, by
      rw [upd_ne ne] at hd
      rw [mkE_new ne]
      exact q1 _ _ (mkE_same ha1 hd) (mkE_err ne)⟩⟩
  | [f, g], [v, u], iok, _, hb, q1 =>
    exact run_mkE ox i1 i2 iok hr hb hx I1 r1 (by show 2 ≤ 1000; decide) fun a ha1 => ⟨a, v, u, rfl, upd_same, fun d hd ne => ⟨rfl, by
      rw [upd_ne ne] at hd
      rw [mkE_new ne]
      exact q1 _ _ (mkE_same ha1 hd) (mkE_err ne)⟩⟩
end

/-! ### the bodies of such a class's methods -/
section
variable {P : Program} {w : World} {K : Frag} {mg : Str → Option Value} {base : Heap} {x qual f g z : Str} {pa : Arguments} {sc : Scope} {dvs : List V} {kws : List (Str × V)} {fA : Addr} {fd : FuncData} {C : Addr} {p1 p2 p3 p4 q1 q2 q3 q4 : Pos} {j : Nat}
theorem ok_told {kk} (F : FunD K x qual pa [.Return (some (.Constant (.str z) kk p1)) p2] sc dvs kws fA fd) (S : FnScope ["self"] ["self"] sc) : FnOk P w K mg base CX0 1 fA fd ["self"] (spS z) := by
  refine F.ok S (fun vs H Q E h => ?_) (fun cdv A outer s H vs Q E hr h => ⟨_, PSs.nox (pss_one (ps_ret pe_str)), ?_⟩)
  · obtain ⟨v, rfl, _⟩ := h
    rfl
  · obtain ⟨v, rfl, q⟩ := h
    exact q
theorem ok_init1 (F : FunD K x qual pa [.Assign [.Attribute (.Name "self" p1) f p2] (.Name f p3) p4] sc dvs kws fA fd) (S : FnScope ["self", f] ["self", f] sc) (T : ErrX K C [f] ["told"])
    (ls : sc.names.lookup ("self" : Str) = some NameKind.local) (lf : sc.names.lookup f = some NameKind.local) (d1 : (f == ("__debug__" : Str)) = false) (d2 : (f == ("__classdict__" : Str)) = false) : FnOk P w K mg base CX0 1 fA fd ["self", f] (spI1 C f) := by
  refine F.ok S (fun vs H Q E h => ?_) (fun cdv A outer s H vs Q E hr h => ⟨_, PSs.nox (pss_one (ps_ost (pe_var (i := 0) rfl (.inl ls)) (pe_var (i := 1) rfl (.inl lf) d1 d2))), ?_⟩)
  · obtain ⟨a, v, rfl, _⟩ := h
    rfl
  · obtain ⟨a, v, rfl, ha, q⟩ := h
    exact ⟨_, rfl, _, rfl, a, C, rfl, T.ec.ox, T.no f (List.mem_singleton_self _), .inl ⟨ha, q⟩⟩
theorem ok_init2 (F : FunD K x qual pa [.Assign [.Attribute (.Name "self" p1) f p2] (.Name f p3) p4, .Assign [.Attribute (.Name "self" q1) g q2] (.Name g q3) q4] sc dvs kws fA fd) (S : FnScope ["self", f, g] ["self", f, g] sc) (T : ErrX K C [f, g] ["told"])
    (ls : sc.names.lookup ("self" : Str) = some NameKind.local) (lf : sc.names.lookup f = some NameKind.local) (d1 : (f == ("__debug__" : Str)) = false) (d2 : (f == ("__classdict__" : Str)) = false)
    (lg : sc.names.lookup g = some NameKind.local) (d3 : (g == ("__debug__" : Str)) = false) (d4 : (g == ("__classdict__" : Str)) = false) : FnOk P w K mg base CX0 1 fA fd ["self", f, g] (spI2 C f g) := by
  refine F.ok S (fun vs H Q E h => ?_) (fun cdv A outer s H vs Q E hr h => ⟨_, PSs.nox (pss_cons (ps_ost (pe_var (i := 0) rfl (.inl ls)) (pe_var (i := 1) rfl (.inl lf) d1 d2))
    (pss_one (ps_ost (pe_var (i := 0) rfl (.inl ls)) (pe_var (i := 2) rfl (.inl lg) d3 d4)))), ?_⟩)
  · obtain ⟨a, v, u, rfl, _⟩ := h
    rfl
  · obtain ⟨a, v, u, rfl, ha, q⟩ := h
    refine ⟨_, rfl, _, rfl, a, C, rfl, T.ec.ox, T.no f (List.mem_cons_self ..), .inl ⟨ha, fun d hd ne => ?_⟩⟩
    refine ⟨_, rfl, _, rfl, a, C, rfl, T.ec.ox, T.no g (List.mem_cons_of_mem _ (List.mem_singleton_self _)), .inr ⟨d, _, upd_same, by rw [upd_ne ne, upd_same], by show 1 ≤ 900; decide, ?_⟩⟩
    have z := q d hd ne
    have e : mkE H a C d [(g, u), (f, v)] = upd (upd (upd H d (exd d [(f, v)])) a (exo a C (some d))) d (exd d [(g, u), (f, v)]) := by
      funext b
      unfold mkE
      by_cases h1 : b = a
      · rw [h1, upd_same, upd_ne (Ne.symm ne), upd_same]
      · by_cases h2 : b = d
        · rw [h2, upd_ne ne, upd_same, upd_same]
        · rw [upd_ne h1, upd_ne h2, upd_ne h2, upd_ne h1, upd_ne h2]
    rw [e] at z
    exact z
end
end L2.Jk

set_option Elab.async false
set_option linter.all false
set_option maxRecDepth 100000
set_option maxHeartbeats 4000000
/-! A few operations over lists that may be read only; displays whose heap behind is not told but for what is new. -/
namespace L2.Jk
open PySem PySem.W PySem.Spec PySem.Calls PyProof.Rows

section
variable {X : Cx}
/-- xs + ys, whatever lists they are -/
def rCatS (K : Frag) : R2 := fun x y H Q => ∃ l b xs zs, x = .ref l ∧ y = .ref b ∧ SqL K H l xs ∧ SqL K H b zs ∧ xs.length + zs.length ≤ sizeLine ∧ ∀ p H', H p = none → Same H H' → H' p = some (.lst (xs ++ zs)) → Q (.ref p) H'
theorem op_catS : OpR X (binaryOp .Add) (rCatS X.K) := by
  intro pins s σ H x y v u Q I rx ry h
  obtain ⟨l, b, xs, zs, rfl, rfl, hl, hb, hz, q⟩ := h
  cases rx
  cases ry
  obtain ⟨i1, r1, ⟨o1, n1, g1, c1, d1, e1⟩, z1⟩ := I.list hl
  obtain ⟨i2, r2, ⟨o2, n2, g2, c2, d2, e2⟩, z2⟩ := I.list hb
  obtain ⟨k1, f1, t1, s1⟩ := o1
  obtain ⟨k2, f2, t2, s2⟩ := o2
  dsimp only at c1 d1 e1 c2 d2 e2
  subst c1 d1 e1 c2 d2 e2
  have hs : i1.length + i2.length ≤ sizeLine := by rw [← r1.length, ← r2.length]; exact hz
  refine concat_meets ⟨_, g1, rfl⟩ ⟨_, g2, rfl⟩ noFill_list_add seq_list_add PySem.F.slot_list_add PySem.F.entry_list_add (PySem.F.args_list_add_2 _ _)
    (list_addW l b i1.toArray i2.toArray n1 n2 none none s1 s2 (by simpa using hs)) ⟨g1, g2, ?_⟩
  rw [show i1.toArray ++ i2.toArray = (i1 ++ i2).toArray by simp]
  refine ⟨.ref _, _, I.lnew (t' := s.toks) (r1.append r2) (by rw [List.length_append]; exact hz), rfl, q _ _ I.fresh (fun c o z => ?_) upd_same⟩
  rw [upd_ne (ne_of_none z I.fresh)]
  exact z
/-- a display: where it stands is new, all else as before -/
def tLstS (t : TA) : TE := fun σ H Q => t σ H fun xs H1 => xs.length ≤ 1000 ∧ ∀ p H', H1 p = none → Same H1 H' → H' p = some (.lst xs) → Q (.ref p) H'
def tTupS (t : TA) : TE := fun σ H Q => t σ H fun xs H1 => xs.length ≤ 1000 ∧ ∀ p H', H1 p = none → Same H1 H' → H' p = some (.tup xs) → Q (.ref p) H'
theorem same_upd {H : Hp} {p : Addr} {o : HO} (h : H p = none) : Same H (upd H p o) := fun c u z => by
  rw [upd_ne (ne_of_none z h)]
  exact z
theorem pe_lstS {es : List Expr} {t : TA} {pos : Pos} (ha : PA X es t) : PE X (.List es pos) (tLstS t) := by
  constructor
  intro pins s σ H Q I h
  refine wpAny_List_spliced (thn (ha.run pos pins s σ H _ I h) fun us s1 ⟨xs, H1, I1, r, z, q⟩ => ?_)
  have z' := Nat.le_of_lt (small1000 z)
  have n : H1 s1.heap.objs.size = none := I1.fresh
  exact ⟨by rw [← r.length]; exact z', .ref s1.heap.objs.size, _, I1.lnew (t' := s1.toks) r z', rfl, q _ _ n (same_upd n) upd_same⟩
theorem pe_tupS {es : List Expr} {t : TA} {pos : Pos} {k} (ha : PA X es t) : PE X (.Tuple es k pos) (tTupS t) := by
  constructor
  intro pins s σ H Q I h
  refine wpAny_Tuple_spliced (thn (ha.run pos pins s σ H _ I h) fun us s1 ⟨xs, H1, I1, r, z, q⟩ => ?_)
  have z' := Nat.le_of_lt (small1000 z)
  have n : H1 s1.heap.objs.size = none := I1.fresh
  refine ⟨by rw [← r.length]; exact z', .ref s1.heap.objs.size, _, I1.laid (t' := s1.toks) (o := .tup xs) (fun b u e => Heap.get?_push_of_some _ e) (Nat.le_refl _) ?_, rfl, q _ _ n (same_upd n) upd_same⟩
  exact ⟨z', us, r, IsTup.new _ _⟩
/-- xs[lo:hi] of a list -/
def rSlS (K : Frag) : V → Option Int → Option Int → Hp → VK → Prop := fun x lo hi H Q => ∃ a xs, x = .ref a ∧ SqL K H a xs ∧ ∀ p H', H p = none → Same H H' → H' p = some (.lst (cutV xs lo hi)) → Q (.ref p) H'
theorem sl_listS : SlR X (rSlS X.K) := by
  intro pins s σ H x v vl vu lo hi sl Q I rx hs pl pu h
  obtain ⟨a, xs, e, hx, q⟩ := h
  exact sl_list pins s σ H x v vl vu lo hi sl Q I rx hs pl pu ⟨a, xs, e, hx, fun p hp => q p _ hp (same_upd hp) upd_same⟩
end
/-- what may change at one place alone -/
def But (a : Addr) (H H' : Hp) : Prop := ∀ c o, c ≠ a → H c = some o → H' c = some o
theorem But.of_same {a : Addr} {H H' : Hp} (s : Same H H') : But a H H' := fun c o _ h => s c o h
theorem But.refl (a : Addr) (H : Hp) : But a H H := fun _ _ _ h => h
theorem But.trans {a : Addr} {H H1 H2 : Hp} (x : But a H H1) (y : But a H1 H2) : But a H H2 := fun c o n h => y c o n (x c o n h)
theorem but_upd (H : Hp) (a : Addr) (o : HO) : But a H (upd H a o) := fun c u n h => by
  rw [upd_ne n]
  exact h
/-! ### data stays -/
theorem SqT.same {K : Frag} {H H' : Hp} {a : Addr} {xs : List V} (e : Same H H') (h : SqT K H a xs) : SqT K H' a xs := by
  rcases h with (h | ⟨o, h⟩) | h
  · exact .inl (.inl (e _ _ h))
  · exact .inl (.inr ⟨o, e _ _ h⟩)
  · exact .inr h
/-- a class or a def of the module, a built-in type, as a value -/
theorem pe_gref {X : Cx} {x : Str} {a : Addr} {pos : Pos} (hg : Gl X x) (hm : X.mg x = some (.ref a)) (hd : (x == ("__debug__" : Str)) = false := by decide) : PE X (.Name x pos) (tC (.ref a)) := pe_glob (v := .ref a) hg hm rfl hd
theorem pe_bty {X : Cx} {x : Str} {n : String} {pos : Pos} (hg : Gl X x) (hm : X.mg x = none) (hv : bootBuiltins x = some (.type n)) (hn : x ≠ "__name__" := by decide) (hd : (x == ("__debug__" : Str)) = false := by decide) : PE X (.Name x pos) (tC (.ty n)) :=
  pe_bltn (v := .ty n) hg hm hv rfl hn hd
/-! ### a new list that a comprehension fills: fm i is what it holds behind i turns -/
def LcP (H1 : Hp) (D : Addr) (fm : Nat → List V) (i : Nat) (H : Hp) : Prop := Same H1 H ∧ H1 D = none ∧ H D = some (.lst (fm i)) ∧ (fm i).length ≤ i
theorem LcP.start {H1 : Hp} {D : Addr} {fm : Nat → List V} (h : H1 D = none) (e : fm 0 = []) : LcP H1 D fm 0 (upd H1 D (.lst [])) :=
  ⟨same_upd h, h, by rw [upd_same, e], by rw [e]; exact Nat.le_refl _⟩
theorem LcP.put {H1 H H4 : Hp} {D : Addr} {fm : Nat → List V} {i : Nat} {y : V} (p : LcP H1 D fm i H) (s : Same H H4) (e : fm (i + 1) = fm i ++ [y]) (hi : i < 10000) :
    ∃ acc, H4 D = some (.lst acc) ∧ acc.length < sizeLine ∧ LcP H1 D fm (i + 1) (upd H4 D (.lst (acc ++ [y]))) := by
  obtain ⟨s0, n, d, l⟩ := p
  refine ⟨fm i, s _ _ d, ?_, fun c o z => ?_, n, by rw [upd_same, e], by rw [e, List.length_append, List.length_singleton]; omega⟩
  · rw [sizeLine_eq]
    omega
  · rw [upd_ne (ne_of_none z n)]
    exact s _ _ (s0 _ _ z)
theorem LcP.pass {H1 H H4 : Hp} {D : Addr} {fm : Nat → List V} {i : Nat} (p : LcP H1 D fm i H) (s : Same H H4) (e : fm (i + 1) = fm i) : LcP H1 D fm (i + 1) H4 := by
  obtain ⟨s0, n, d, l⟩ := p
  exact ⟨s0.trans s, n, by rw [e]; exact s _ _ d, by rw [e]; omega⟩
/-! ### data that stays where one place alone changes -/
def Per (a : Addr) (K : Frag) (H : Hp) (x : V) (d : PyData) : Prop := ∀ H', But a H H' → Dp K H' x d
theorem Per.but {a : Addr} {K : Frag} {H H1 : Hp} {x : V} {d : PyData} (p : Per a K H x d) (b : But a H H1) : Per a K H1 x d := fun H' b' => p H' (b.trans b')
theorem Per.same {a : Addr} {K : Frag} {H H1 : Hp} {x : V} {d : PyData} (p : Per a K H x d) (s : Same H H1) : Per a K H1 x d := p.but (But.of_same s)
theorem Per.dp {a : Addr} {K : Frag} {H : Hp} {x : V} {d : PyData} (p : Per a K H x d) : Dp K H x d := p H (But.refl a H)
theorem Per.lst {a p : Addr} {K : Frag} {H : Hp} {xs : List V} {ds : List PyData} (ne : p ≠ a) (h : H p = some (.lst xs)) (q : ∀ H', But a H H' → DpAll K H' xs ds) : Per a K H (.ref p) (.list ds) :=
  fun H' b => .lst (SqL.of (b _ _ ne h)) (q H' b)
theorem Per.tup {a p : Addr} {K : Frag} {H : Hp} {xs : List V} {ds : List PyData} (ne : p ≠ a) (h : H p = some (.tup xs)) (q : ∀ H', But a H H' → DpAll K H' xs ds) : Per a K H (.ref p) (.tuple ds) :=
  fun H' b => .tup (SqT.of (b _ _ ne h)) (q H' b)
theorem dp_one {K : Frag} {H : Hp} {p : Addr} {x : V} {d : PyData} (h : H p = some (.lst [x])) (q : Dp K H x d) : Dp K H (.ref p) (.list [d]) := .lst (SqL.of h) (.cons q .nil)
theorem dp_two {K : Frag} {H : Hp} {p : Addr} {x y : V} {d e : PyData} (h : H p = some (.lst [x, y])) (q : Dp K H x d) (r : Dp K H y e) : Dp K H (.ref p) (.list [d, e]) := .lst (SqL.of h) (.cons q (.cons r .nil))
theorem eqv_same {d : PyData} (h : SeqAt.shaped d = true) : PyData.eqv d d = true := SeqAt.eqv_refl d (SeqAt.canLay_of_shaped h)
theorem ne_new {H : Hp} {a b : Addr} {o : HO} (h : H a = some o) (n : H b = none) : b ≠ a := Ne.symm (ne_of_none h n)
end L2.Jk

set_option Elab.async false
set_option linter.all false
set_option maxRecDepth 100000
set_option maxHeartbeats 4000000
/-! set(..) of texts: how many members it has. -/
namespace L2.Jk
open PySem PySem.W PySem.Spec PySem.Calls PyProof.Rows

/-- how many of the first i are new -/
def newS (ks : Nat → Str) : Nat → Nat
  | 0 => 0
  | i + 1 => if (List.range i).any (fun j => ks j == ks i) then newS ks i else newS ks i + 1
theorem newS_le (ks : Nat → Str) : ∀ i, newS ks i ≤ i
  | 0 => Nat.le_refl _
  | i + 1 => by
    have := newS_le ks i
    unfold newS
    split <;> omega
section
variable {prog : Program} {w : World} {A : Around} {R : Result → Shared → Prop} {I : Addr} {fp wr : List Addr} {G : Array GenState → Array GenState → Prop} {n : Nat} {P : Nat → Value → Prop} {Z : Nat → Shared → Prop}
/-- what the set holds behind i items -/
def HeldS (prog : Program) (w : World) (h : Heap) (S : Addr) (ks : Nat → Str) (i : Nat) : Prop := h.SetOf (PySem.strKind prog w) S (fun k => (List.range i).any fun j => ks j == k) (newS ks i)
theorem HeldS.at {h h' : Heap} {S : Addr} {ks : Nat → Str} {i : Nat} (H : HeldS prog w h S ks i) (k : ∀ o, h.get? S = some o → h'.get? S = some o) : HeldS prog w h' S ks i := by
  obtain ⟨o, es, ep, t, ho, r⟩ := H
  exact ⟨o, es, ep, t, k o ho, r⟩
theorem set_loop (W : WalksS prog w A.in1 I fp wr G n P Z) (S : Addr) (hS : S ∉ fp) (ks : Nat → Str) (hn : n + 1 < scanBound) (hv : ∀ i v, P i v → ∃ t, v = .str (ks i) t) :
    ∀ (k i : Nat) (s : Shared), n - i = k → i ≤ n → Z i s → HeldS prog w s.heap S ks i →
      (∀ s', Moved (S :: wr) G s s' → HeldS prog w s'.heap S ks n → R (.ok (.ret .none)) s') → codeAny (model prog w) A (.builtin "set.update.loop" ⟨[.ref S, .ref I], []⟩) R s := by
  have sw : S ∉ wr := fun z => hS (W.sub _ z)
  have up : ∀ b ∈ wr, b ∈ S :: wr := fun b z => List.mem_cons_of_mem _ z
  intro k
  induction k with
  | zero =>
    intro i s hk hi hz H hR
    obtain rfl : i = n := by omega
    refine codeAny_builtin PyProof.Rows.F.entry_set_update_loop ?_
    rw [Around.under_plainId PyProof.Rows.F.plain_set_update_loop _]
    show wpAny _ A.in1 (pyNext (.ref I) >>= _) _ _ s
    refine wpAny_bind (W.done s _ _ hz fun s' m => ?_)
    show wpAny _ A.in1 (ret Value.none) _ _ s'
    exact wpAny_pure (hR s' (m.mono up) (H.at fun o e => m.heap S o sw e))
  | succ k ih =>
    intro i s hk hi hz H hR
    have lt : i < n := by omega
    refine codeAny_builtin PyProof.Rows.F.entry_set_update_loop ?_
    rw [Around.under_plainId PyProof.Rows.F.plain_set_update_loop _]
    show wpAny _ A.in1 (pyNext (.ref I) >>= _) _ _ s
    refine wpAny_bind (W.item i s _ _ lt hz fun v s' hp hz' m => ?_)
    obtain ⟨t, rfl⟩ := hv i v hp
    have H' : HeldS prog w s'.heap S ks i := H.at fun o e => m.heap S o sw e
    show wpAny _ A.in1 (holding [Value.str (ks i) t] (setAdd S (.str (ks i) t)) >>= _) _ _ s'
    refine wpAny_bind (wpAny_holding ?_)
    unfold setAdd
    refine wpAny_holding (wpAny_bind ((PySem.strKind prog w).pyHash (k := ks i) (strKind_is _ _ _ _) ?_))
    have few := newS_le ks i
    refine wpAny_setAddHashed_of (knd := PySem.strKind prog w) (s := { s' with toks := s'.toks + 1 }) (strKind_is _ _ _ _) rfl H' (by omega) fun h' sb H2 => ?_
    have H3 : HeldS prog w h' S ks (i + 1) := by
      refine PyProof.Rows.SetOf_congr H2 (fun q => ?_) ?_
      · show ((List.range i).any (fun j => ks j == q) || decide (q = ks i)) = (List.range (i + 1)).any fun j => ks j == q
        rw [List.range_succ, List.any_append]
        congr 1
        by_cases e : q = ks i
        · subst e
          simp
        · have e2 : (ks i == q) = false := beq_eq_false_iff_ne.mpr fun z => e z.symm
          simp [e, e2]
      · show (if (List.range i).any (fun j => ks j == ks i) = true then newS ks i else newS ks i + 1) = newS ks (i + 1)
        rfl
    refine wpAny_pure ⟨plainId_quiet PyProof.Rows.F.plain_set_update_loop _, ih (i + 1) _ (by omega) lt (W.frame _ s' _ _ hz' (Nat.le_succ _) fun b hb o e => ?_) H3 fun s2 m2 H4 => ?_⟩
    · rw [sb.2 b (fun z : b = S => hS (z ▸ hb))]
      exact e
    · refine hR s2 (Moved.trans W.gtrans ((m.mono up).then_heap (Nat.le_succ _) fun b o hb e => ?_) m2) H4
      rw [sb.2 b (fun z : b = S => hb (z ▸ List.mem_cons_self))]
      exact e
end
theorem sign_at {x : Str} {i : Nat} {v : Value} (z : SignAt x i v) : ∃ t, v = .str ⟨#[x.cps.getD i 0]⟩ t := by
  obtain ⟨c, t, h, e⟩ := z
  refine ⟨t, ?_⟩
  subst e
  rw [Array.getD_eq_getD_getElem?, h]
  rfl
end L2.Jk

set_option Elab.async false
set_option linter.all false
set_option maxRecDepth 100000
set_option maxHeartbeats 8000000
namespace L2.Jk
open PySem PySem.W PySem.Spec PySem.Calls PyProof.Rows
section
variable {prog : Program} {w : World} {A : Around} {E : Value → Shared → Prop} {s : Shared}
set_option maxHeartbeats 8000000 in
theorem set_callStr {x : Str} {tk0 : Tok} {Q : Value → Shared → Prop} (hh : A.handled = none)  (hn : x.cps.size + 1 < scanBound)
    (h : ∀ (h' : Heap) (tk : Nat), HeldS prog w h' s.heap.objs.size (fun i => ⟨#[x.cps.getD i 0]⟩) (x.cps.size) → (∀ b o, b < s.heap.objs.size → s.heap.get? b = some o → h'.get? b = some o) → Q (.ref s.heap.objs.size) { s with heap := h', toks := tk }) :
    wpAny (model prog w) A (call (.type "set") [(.str x tk0)]) Q E s := by
  obtain ⟨c, tl, hmro⟩ := PySem.F.called_set.mro
  have c1 := PySem.F.called_set.made
  have c2 := PySem.F.called_set.sub
  refine wpAny_call (codeAny_of_tree ?_)
  show wpAny _ _ (callAny (.type "set") _) _ _ _
  refine wpAny_pure ⟨Code.quiet_builtin _ (by decide +kernel), codeAny_builtin PySem.F.entry_type_call ?_⟩
  rw [Around.under_plain (weight_type_call_type "set" [(.str x tk0)] []) rfl]
  have c3 := PySem.F.called_set.notType
  have c4 := PySem.F.called_set.canCreate
  have c5 := PySem.F.typeCall_set_1 (.str x tk0)
  repeat (any_goals (first | assumption | wp_step))
  refine codeAny_mono (code_set_new_1 (.str x tk0) (E := E) (Q₁ := fun ob s₁ => ∃ led : Bool, ob = .ref s.heap.objs.size ∧ s₁ = { s with heap := s.heap.push { cls := .type "set", dict := none, data := .set #[] 0 (.fresh 0 0 led) } }) fun led => ⟨led, rfl, rfl⟩) fun r s₁ hr => ?_
  cases r with
  | error e => exact hr
  | ok fl =>
    cases fl with
    | ret ob =>
      obtain ⟨led, rfl, rfl⟩ := hr
      have hS : (s.heap.push { cls := .type "set", dict := none, data := .set #[] 0 (.fresh 0 0 led) }).get? s.heap.objs.size = some { cls := .type "set", dict := none, data := .set #[] 0 (.fresh 0 0 led) } := Heap.get?_push_size _ rfl
      have hT : Shared.TypeIs { s with heap := s.heap.push { cls := .type "set", dict := none, data := .set #[] 0 (.fresh 0 0 led) } } (.ref s.heap.objs.size) "set" := ⟨_, hS, rfl⟩
      have c6 := PySem.F.called_set.init.lookup
      have c7 := PySem.F.called_set.init.bind (.ref s.heap.objs.size)
      repeat (any_goals (first | assumption | wp_step))
      refine codeAny_mono (codeAny_call_builtin (R := wants (fun r s₂ => r = .none ∧ ∃ h' tk, s₂ = { s with heap := h', toks := tk } ∧ HeldS prog w h' s.heap.objs.size (fun i => ⟨#[x.cps.getD i 0]⟩) (x.cps.size) ∧
          (∀ b o, b < s.heap.objs.size → s.heap.get? b = some o → h'.get? b = some o)) E) PySem.F.called_set.init.plain PySem.F.entry_set_init (check_set_init_1 hT ?_)) fun r₂ s₂ hr₂ => ?_
      · have a1 := PySem.F.sub_str_set
        have a2 := PySem.F.sub_str_frozenset
        have a3 : (Value.type "str" == Value.type "dict") = false := by decide
        unfold Builtin.«set.__init__» noKeywords Builtin.Frozenset.updateFrom
        generalize hPI : pyIter = PI
        wp_walk
        subst hPI
        refine wpAny_pyIter_strU ?_
        refine wpAny_bind (wpAny_runValue ?_)
        have sf : s.heap.objs.size ∉ [(s.heap.push { cls := .type "set", dict := none, data := .set #[] 0 (.fresh 0 0 led) }).objs.size] := by
          rw [Heap.size_push]
          simp only [List.mem_cons, List.mem_singleton, List.not_mem_nil, or_false, not_or]
          exact Nat.ne_of_lt (Nat.lt_succ_self _)
        have h3 : A.in1.in1.in1.handled = none := by simp [hh]
        have sv : ∀ i v, SignAt x i v → ∃ t, v = .str ⟨#[x.cps.getD i 0]⟩ t := fun i v z => sign_at z
        have got : ∀ T, ((s.heap.push { cls := .type "set", dict := none, data := .set #[] 0 (.fresh 0 0 led) }).push { cls := .type T, data := .fields #[.str x tk0, .int 0 0] }).IsStrIter (s.heap.push { cls := .type "set", dict := none, data := .set #[] 0 (.fresh 0 0 led) }).objs.size T x tk0 0 := fun T => ⟨_, Heap.get?_push_size _ rfl, rfl, rfl⟩
        cases ha : x.cps.all (· < 128) with
        | false =>
          rw [show strIterType x = "str_iterator" by unfold strIterType; rw [ha]; rfl]
          refine set_loop ((Walks.strWide h3 _ x tk0).toS) s.heap.objs.size sf _ hn sv (x.cps.size - 0) 0 _ (by omega) (Nat.zero_le _) (got _) (PyProof.Rows.SetOf_congr ((PyProof.Rows.setObjOf_fresh (knd := PySem.strKind prog w) led).setOf (Heap.get?_push_of_some _ hS) (by unfold scanBound; omega)) (fun _ => rfl) rfl) ?hR
          case hR =>
            intro s' m H'
            obtain ⟨h', g', d', tk', os'⟩ := s'
            obtain rfl : g' = s.gens := m.gens
            obtain rfl : d' = s.drawn := m.drawn
            obtain rfl : os' = s.os := m.os
            show wpAny _ _ _ _ _ _
            refine wpAny_pure ?_
            show wpAny _ _ (ret Value.none) _ _ _
            refine wpAny_pure ⟨rfl, h', tk', rfl, H', fun b o hb e => ?_⟩
            have b1 : b ≠ s.heap.objs.size := Nat.ne_of_lt hb
            have b2 : b ≠ (s.heap.push { cls := .type "set", dict := none, data := .set #[] 0 (.fresh 0 0 led) }).objs.size := by
              rw [Heap.size_push]
              exact Nat.ne_of_lt (Nat.lt_succ_of_lt hb)
            exact m.heap b o (by simp only [List.mem_cons, List.mem_singleton, List.not_mem_nil, or_false, not_or]; exact ⟨b1, b2⟩) (Heap.get?_push_of_some _ (Heap.get?_push_of_some _ e))
        | true =>
          rw [show strIterType x = "str_ascii_iterator" by unfold strIterType; rw [ha]; rfl]
          refine set_loop ((Walks.strAscii h3 _ x tk0).toS) s.heap.objs.size sf _ hn sv (x.cps.size - 0) 0 _ (by omega) (Nat.zero_le _) (got _) (PyProof.Rows.SetOf_congr ((PyProof.Rows.setObjOf_fresh (knd := PySem.strKind prog w) led).setOf (Heap.get?_push_of_some _ hS) (by unfold scanBound; omega)) (fun _ => rfl) rfl) ?hR
          case hR =>
            intro s' m H'
            obtain ⟨h', g', d', tk', os'⟩ := s'
            obtain rfl : g' = s.gens := m.gens
            obtain rfl : d' = s.drawn := m.drawn
            obtain rfl : os' = s.os := m.os
            show wpAny _ _ _ _ _ _
            refine wpAny_pure ?_
            show wpAny _ _ (ret Value.none) _ _ _
            refine wpAny_pure ⟨rfl, h', tk', rfl, H', fun b o hb e => ?_⟩
            have b1 : b ≠ s.heap.objs.size := Nat.ne_of_lt hb
            have b2 : b ≠ (s.heap.push { cls := .type "set", dict := none, data := .set #[] 0 (.fresh 0 0 led) }).objs.size := by
              rw [Heap.size_push]
              exact Nat.ne_of_lt (Nat.lt_succ_of_lt hb)
            exact m.heap b o (by simp only [List.mem_cons, List.mem_singleton, List.not_mem_nil, or_false, not_or]; exact ⟨b1, b2⟩) (Heap.get?_push_of_some _ (Heap.get?_push_of_some _ e))

      · cases r₂ with
        | error e => exact hr₂
        | ok f2 =>
          cases f2 with
          | ret r =>
            obtain ⟨rfl, h', tk, rfl, H', k'⟩ := hr₂
            repeat (any_goals (first | assumption | wp_step))
            exact h _ _ H' k'
          | _ => exact hr₂.elim
    | _ => exact hr.elim
end
end L2.Jk

set_option Elab.async false
set_option linter.all false
set_option maxRecDepth 100000
set_option maxHeartbeats 8000000
namespace L2.Jk
open PySem PySem.W PySem.Spec PySem.Calls PyProof.Rows
section
variable {prog : Program} {w : World} {A : Around} {E : Value → Shared → Prop} {s : Shared}
set_option maxHeartbeats 8000000 in
theorem set_callList {l : Addr} {its : Array Value} {ks : Nat → Str} {Q : Value → Shared → Prop} (hh : A.handled = none) (hl : s.heap.IsList l its) (hk : ∀ i v, its[i]? = some v → ∃ t : Tok, v = Value.str (ks i) t) (hn : its.size + 1 < scanBound)
    (h : ∀ (h' : Heap) (tk : Nat), HeldS prog w h' s.heap.objs.size (ks) (its.size) → (∀ b o, b < s.heap.objs.size → s.heap.get? b = some o → h'.get? b = some o) → Q (.ref s.heap.objs.size) { s with heap := h', toks := tk }) :
    wpAny (model prog w) A (call (.type "set") [(.ref l)]) Q E s := by
  obtain ⟨c, tl, hmro⟩ := PySem.F.called_set.mro
  have c1 := PySem.F.called_set.made
  have c2 := PySem.F.called_set.sub
  refine wpAny_call (codeAny_of_tree ?_)
  show wpAny _ _ (callAny (.type "set") _) _ _ _
  refine wpAny_pure ⟨Code.quiet_builtin _ (by decide +kernel), codeAny_builtin PySem.F.entry_type_call ?_⟩
  rw [Around.under_plain (weight_type_call_type "set" [(.ref l)] []) rfl]
  have c3 := PySem.F.called_set.notType
  have c4 := PySem.F.called_set.canCreate
  have c5 := PySem.F.typeCall_set_1 (.ref l)
  repeat (any_goals (first | assumption | wp_step))
  refine codeAny_mono (code_set_new_1 (.ref l) (E := E) (Q₁ := fun ob s₁ => ∃ led : Bool, ob = .ref s.heap.objs.size ∧ s₁ = { s with heap := s.heap.push { cls := .type "set", dict := none, data := .set #[] 0 (.fresh 0 0 led) } }) fun led => ⟨led, rfl, rfl⟩) fun r s₁ hr => ?_
  cases r with
  | error e => exact hr
  | ok fl =>
    cases fl with
    | ret ob =>
      obtain ⟨led, rfl, rfl⟩ := hr
      have hS : (s.heap.push { cls := .type "set", dict := none, data := .set #[] 0 (.fresh 0 0 led) }).get? s.heap.objs.size = some { cls := .type "set", dict := none, data := .set #[] 0 (.fresh 0 0 led) } := Heap.get?_push_size _ rfl
      have hT : Shared.TypeIs { s with heap := s.heap.push { cls := .type "set", dict := none, data := .set #[] 0 (.fresh 0 0 led) } } (.ref s.heap.objs.size) "set" := ⟨_, hS, rfl⟩
      have c6 := PySem.F.called_set.init.lookup
      have c7 := PySem.F.called_set.init.bind (.ref s.heap.objs.size)
      repeat (any_goals (first | assumption | wp_step))
      refine codeAny_mono (codeAny_call_builtin (R := wants (fun r s₂ => r = .none ∧ ∃ h' tk, s₂ = { s with heap := h', toks := tk } ∧ HeldS prog w h' s.heap.objs.size (ks) (its.size) ∧
          (∀ b o, b < s.heap.objs.size → s.heap.get? b = some o → h'.get? b = some o)) E) PySem.F.called_set.init.plain PySem.F.entry_set_init (check_set_init_1 hT ?_)) fun r₂ s₂ hr₂ => ?_
      · obtain ⟨⟨oc, od, odt, osl⟩, hol, hcl, nl, hdl⟩ := id hl
        dsimp only at hcl hdl
        subst hcl; subst hdl
        have old := Heap.get?_push_of_some ({ cls := .type "set", dict := none, data := .set #[] 0 (.fresh 0 0 led) } : Obj) hol
        have a1 := PySem.F.sub_list_set
        have a2 := PySem.F.sub_list_frozenset
        have a3 : (Value.type "list" == Value.type "dict") = false := by decide
        have hl1 : (s.heap.push { cls := .type "set", dict := none, data := .set #[] 0 (.fresh 0 0 led) }).IsList l its := ⟨_, old, rfl, nl, rfl⟩
        unfold Builtin.«set.__init__» noKeywords Builtin.Frozenset.updateFrom
        generalize hPI : pyIter = PI
        wp_walk
        subst hPI
        refine wpAny_pyIter_list hl1 ?_
        refine wpAny_bind (wpAny_runValue ?_)
        have h3 : A.in1.in1.in1.handled = none := by simp [hh]
        have nI : l ≠ (s.heap.push { cls := .type "set", dict := none, data := .set #[] 0 (.fresh 0 0 led) }).objs.size := by
          rw [Heap.size_push]
          exact Nat.ne_of_lt (Nat.lt_succ_of_lt (Heap.lt_size hol))
        have sf : s.heap.objs.size ∉ [(s.heap.push { cls := .type "set", dict := none, data := .set #[] 0 (.fresh 0 0 led) }).objs.size, l] := by
          rw [Heap.size_push]
          simp only [List.mem_cons, List.mem_singleton, List.not_mem_nil, or_false, not_or]
          exact ⟨Nat.ne_of_lt (Nat.lt_succ_self _), Nat.ne_of_gt (Heap.lt_size hol)⟩
        refine set_loop ((Walks.list h3 _ l nI its).toS) s.heap.objs.size sf ks hn (fun i v z => hk i v z) (its.size - 0) 0 _ (by omega) (Nat.zero_le _) ⟨⟨_, Heap.get?_push_size _ rfl, rfl, rfl⟩, (hl1.push _)⟩ (PyProof.Rows.SetOf_congr ((PyProof.Rows.setObjOf_fresh (knd := PySem.strKind prog w) led).setOf (Heap.get?_push_of_some _ hS) (by unfold scanBound; omega)) (fun _ => rfl) rfl) ?hR
        case hR =>
          intro s' m H'
          obtain ⟨h', g', d', tk', os'⟩ := s'
          obtain rfl : g' = s.gens := m.gens
          obtain rfl : d' = s.drawn := m.drawn
          obtain rfl : os' = s.os := m.os
          show wpAny _ _ _ _ _ _
          refine wpAny_pure ?_
          show wpAny _ _ (ret Value.none) _ _ _
          refine wpAny_pure ⟨rfl, h', tk', rfl, H', fun b o hb e => ?_⟩
          have b1 : b ≠ s.heap.objs.size := Nat.ne_of_lt hb
          have b2 : b ≠ (s.heap.push { cls := .type "set", dict := none, data := .set #[] 0 (.fresh 0 0 led) }).objs.size := by
            rw [Heap.size_push]
            exact Nat.ne_of_lt (Nat.lt_succ_of_lt hb)
          exact m.heap b o (by simp only [List.mem_cons, List.mem_singleton, List.not_mem_nil, or_false, not_or]; exact ⟨b1, b2⟩) (Heap.get?_push_of_some _ (Heap.get?_push_of_some _ e))

      · cases r₂ with
        | error e => exact hr₂
        | ok f2 =>
          cases f2 with
          | ret r =>
            obtain ⟨rfl, h', tk, rfl, H', k'⟩ := hr₂
            repeat (any_goals (first | assumption | wp_step))
            exact h _ _ H' k'
          | _ => exact hr₂.elim
    | _ => exact hr.elim
end
end L2.Jk

set_option Elab.async false
set_option linter.all false
set_option maxRecDepth 100000
set_option maxHeartbeats 8000000
namespace L2.Jk
open PySem PySem.W PySem.Spec PySem.Calls PyProof.Rows
section
variable {prog : Program} {w : World} {A : Around} {E : Value → Shared → Prop} {s : Shared}
set_option maxHeartbeats 8000000 in
theorem set_callTup {l : Addr} {its : Array Value} {ks : Nat → Str} {Q : Value → Shared → Prop} (hh : A.handled = none) (hl : s.heap.IsTuple l its) (hk : ∀ i v, its[i]? = some v → ∃ t : Tok, v = Value.str (ks i) t) (hn : its.size + 1 < scanBound)
    (h : ∀ (h' : Heap) (tk : Nat), HeldS prog w h' s.heap.objs.size (ks) (its.size) → (∀ b o, b < s.heap.objs.size → s.heap.get? b = some o → h'.get? b = some o) → Q (.ref s.heap.objs.size) { s with heap := h', toks := tk }) :
    wpAny (model prog w) A (call (.type "set") [(.ref l)]) Q E s := by
  obtain ⟨c, tl, hmro⟩ := PySem.F.called_set.mro
  have c1 := PySem.F.called_set.made
  have c2 := PySem.F.called_set.sub
  refine wpAny_call (codeAny_of_tree ?_)
  show wpAny _ _ (callAny (.type "set") _) _ _ _
  refine wpAny_pure ⟨Code.quiet_builtin _ (by decide +kernel), codeAny_builtin PySem.F.entry_type_call ?_⟩
  rw [Around.under_plain (weight_type_call_type "set" [(.ref l)] []) rfl]
  have c3 := PySem.F.called_set.notType
  have c4 := PySem.F.called_set.canCreate
  have c5 := PySem.F.typeCall_set_1 (.ref l)
  repeat (any_goals (first | assumption | wp_step))
  refine codeAny_mono (code_set_new_1 (.ref l) (E := E) (Q₁ := fun ob s₁ => ∃ led : Bool, ob = .ref s.heap.objs.size ∧ s₁ = { s with heap := s.heap.push { cls := .type "set", dict := none, data := .set #[] 0 (.fresh 0 0 led) } }) fun led => ⟨led, rfl, rfl⟩) fun r s₁ hr => ?_
  cases r with
  | error e => exact hr
  | ok fl =>
    cases fl with
    | ret ob =>
      obtain ⟨led, rfl, rfl⟩ := hr
      have hS : (s.heap.push { cls := .type "set", dict := none, data := .set #[] 0 (.fresh 0 0 led) }).get? s.heap.objs.size = some { cls := .type "set", dict := none, data := .set #[] 0 (.fresh 0 0 led) } := Heap.get?_push_size _ rfl
      have hT : Shared.TypeIs { s with heap := s.heap.push { cls := .type "set", dict := none, data := .set #[] 0 (.fresh 0 0 led) } } (.ref s.heap.objs.size) "set" := ⟨_, hS, rfl⟩
      have c6 := PySem.F.called_set.init.lookup
      have c7 := PySem.F.called_set.init.bind (.ref s.heap.objs.size)
      repeat (any_goals (first | assumption | wp_step))
      refine codeAny_mono (codeAny_call_builtin (R := wants (fun r s₂ => r = .none ∧ ∃ h' tk, s₂ = { s with heap := h', toks := tk } ∧ HeldS prog w h' s.heap.objs.size (ks) (its.size) ∧
          (∀ b o, b < s.heap.objs.size → s.heap.get? b = some o → h'.get? b = some o)) E) PySem.F.called_set.init.plain PySem.F.entry_set_init (check_set_init_1 hT ?_)) fun r₂ s₂ hr₂ => ?_
      · obtain ⟨⟨oc, od, odt, osl⟩, hol, hcl, nl, hdl⟩ := id hl
        dsimp only at hcl hdl
        subst hcl; subst hdl
        have old := Heap.get?_push_of_some ({ cls := .type "set", dict := none, data := .set #[] 0 (.fresh 0 0 led) } : Obj) hol
        have a1 := PySem.F.sub_tuple_set
        have a2 := PySem.F.sub_tuple_frozenset
        have a3 : (Value.type "tuple" == Value.type "dict") = false := by decide
        have hl1 : (s.heap.push { cls := .type "set", dict := none, data := .set #[] 0 (.fresh 0 0 led) }).IsTuple l its := ⟨_, old, rfl, nl, rfl⟩
        unfold Builtin.«set.__init__» noKeywords Builtin.Frozenset.updateFrom
        generalize hPI : pyIter = PI
        wp_walk
        subst hPI
        refine wpAny_pyIter_tuple hl1 ?_
        refine wpAny_bind (wpAny_runValue ?_)
        have h3 : A.in1.in1.in1.handled = none := by simp [hh]
        have nI : l ≠ (s.heap.push { cls := .type "set", dict := none, data := .set #[] 0 (.fresh 0 0 led) }).objs.size := by
          rw [Heap.size_push]
          exact Nat.ne_of_lt (Nat.lt_succ_of_lt (Heap.lt_size hol))
        have sf : s.heap.objs.size ∉ [(s.heap.push { cls := .type "set", dict := none, data := .set #[] 0 (.fresh 0 0 led) }).objs.size, l] := by
          rw [Heap.size_push]
          simp only [List.mem_cons, List.mem_singleton, List.not_mem_nil, or_false, not_or]
          exact ⟨Nat.ne_of_lt (Nat.lt_succ_self _), Nat.ne_of_gt (Heap.lt_size hol)⟩
        refine set_loop ((Walks.tuple h3 _ l nI its).toS) s.heap.objs.size sf ks hn (fun i v z => hk i v z) (its.size - 0) 0 _ (by omega) (Nat.zero_le _) ⟨⟨_, Heap.get?_push_size _ rfl, rfl, rfl⟩, (hl1.push _)⟩ (PyProof.Rows.SetOf_congr ((PyProof.Rows.setObjOf_fresh (knd := PySem.strKind prog w) led).setOf (Heap.get?_push_of_some _ hS) (by unfold scanBound; omega)) (fun _ => rfl) rfl) ?hR
        case hR =>
          intro s' m H'
          obtain ⟨h', g', d', tk', os'⟩ := s'
          obtain rfl : g' = s.gens := m.gens
          obtain rfl : d' = s.drawn := m.drawn
          obtain rfl : os' = s.os := m.os
          show wpAny _ _ _ _ _ _
          refine wpAny_pure ?_
          show wpAny _ _ (ret Value.none) _ _ _
          refine wpAny_pure ⟨rfl, h', tk', rfl, H', fun b o hb e => ?_⟩
          have b1 : b ≠ s.heap.objs.size := Nat.ne_of_lt hb
          have b2 : b ≠ (s.heap.push { cls := .type "set", dict := none, data := .set #[] 0 (.fresh 0 0 led) }).objs.size := by
            rw [Heap.size_push]
            exact Nat.ne_of_lt (Nat.lt_succ_of_lt hb)
          exact m.heap b o (by simp only [List.mem_cons, List.mem_singleton, List.not_mem_nil, or_false, not_or]; exact ⟨b1, b2⟩) (Heap.get?_push_of_some _ (Heap.get?_push_of_some _ e))

      · cases r₂ with
        | error e => exact hr₂
        | ok f2 =>
          cases f2 with
          | ret r =>
            obtain ⟨rfl, h', tk, rfl, H', k'⟩ := hr₂
            repeat (any_goals (first | assumption | wp_step))
            exact h _ _ H' k'
          | _ => exact hr₂.elim
    | _ => exact hr.elim
end
end L2.Jk

set_option Elab.async false
set_option linter.all false
set_option maxRecDepth 100000
set_option maxHeartbeats 4000000
/-! == and != of instances by the text's own __eq__, whatever it answers. -/
namespace L2.Jk
open PySem PySem.W PySem.Spec PySem.Calls PyProof.Rows

/-! ### what the head says of a class with an own __eq__ and no __ne__, by one Bool -/
def eqcB (K : Frag) (C : Addr) : Bool := He.eqO (findIn K (.ref C) "__eq__") (some (some (.ref (He.ma K C "__eq__")))) && (isFn K (.ref (He.ma K C "__eq__")) && (match K.lookup C with
  | some ⟨.type "type", _, .cls cd, sl⟩ => (match cd.mro, sl.toList with
    | .ref D :: bm, [_, _, _, _, some (.builtin _), _] => decide (D = C) && (decide (bm = [.type "object"]) && (!cd.hasDel && (nsOkIn K cd.ns && (decide (nsIn K cd.ns "__eq__" = some (some (.ref (He.ma K C "__eq__")))) && decide (nsIn K cd.ns "__ne__" = some none)))))
    | _, _ => false)
  | _ => false))
structure EqcC (K : Frag) (C : Addr) : Prop where
  find : findIn K (.ref C) "__eq__" = some (some (.ref (He.ma K C "__eq__")))
  fn : isFn K (.ref (He.ma K C "__eq__")) = true
  cls : ∃ nm q N bs hdct sn sub ab col dd k0 k1 k2 k3 k5 nid, K.lookup C = some (excClassObj nm q C N bs [.type "object"] hdct sn sub ab col dd k0 k1 k2 k3 k5 nid) ∧ nsOkIn K N = true ∧
    nsIn K N "__eq__" = some (some (.ref (He.ma K C "__eq__"))) ∧ nsIn K N "__ne__" = some none
theorem eqcB_ok {K : Frag} {C : Addr} (h : eqcB K C = true) : EqcC K C := by
  obtain ⟨h1, h⟩ := Bool.and_eq_true_iff.mp h
  obtain ⟨h2, h3⟩ := Bool.and_eq_true_iff.mp h
  refine ⟨He.eqO_ok h1, h2, ?_⟩
  split at h3
  · rename_i dd cd sl ho
    split at h3
    · rename_i D bm k0 k1 k2 k3 n k5 hm hs
      obtain ⟨a1, h3⟩ := Bool.and_eq_true_iff.mp h3
      obtain ⟨a2, h3⟩ := Bool.and_eq_true_iff.mp h3
      obtain ⟨a3, h3⟩ := Bool.and_eq_true_iff.mp h3
      obtain ⟨a4, h3⟩ := Bool.and_eq_true_iff.mp h3
      obtain ⟨a5, a6⟩ := Bool.and_eq_true_iff.mp h3
      obtain rfl := of_decide_eq_true a1
      obtain rfl := of_decide_eq_true a2
      obtain ⟨nm, bs, mro, ns, qn, hd, sn, sub, ab, col, del⟩ := cd
      dsimp only at hm a3 a4 a5 a6
      subst hm
      obtain rfl : del = false := by cases del <;> first | rfl | cases a3
      have e : sl = #[k0, k1, k2, k3, some (.builtin n), k5] := by
        obtain ⟨l⟩ := sl
        dsimp only at hs
        rw [hs]
      subst e
      exact ⟨nm, qn, ns, bs, hd, sn, sub, ab, col, dd, k0, k1, k2, k3, k5, n, ho, a4, of_decide_eq_true a5, of_decide_eq_true a6⟩
    · cases h3
  · cases h3

section
variable {X : Cx} {CX : CXT} {E : XK}
/-- x == y, x an instance with an own __eq__: what that answers -/
def rEqO (X : Cx) (CX : CXT) (E : XK) : R2 := fun x y H Q => ∃ (a C dx : Addr) (fs : List (Str × V)) (t : Value), x = .ref a ∧ H a = some (.ins C dx fs) ∧ EqcC X.K C ∧ TyE X.K H y t ∧ notFirst X.K C t = true ∧
  Does X CX (He.ma X.K C "__eq__") [x, y] H (fun v H' => ∃ b, v = .bl b ∧ Q (.bl b) H') E
theorem op_eqO (hx : Passes CX X E) : OpR X (compareOp .Eq) (rEqO X CX E) := by
  intro pins s σ H x y v u Q I rx ry h
  obtain ⟨a, C, dx, fs, t, rfl, ha, T, ty, nf, k, fd, ps, sp, kp, F, hr, hb, q⟩ := h
  cases rx
  obtain ⟨mA, J, _⟩ := ins_get I.hok ha
  obtain ⟨od, J, _⟩ := J.look
  obtain ⟨m, hF⟩ := I.fr
  obtain ⟨P, Z, p, _⟩ := kit_ofE I ry ty
  have hty : Looks (model X.prog X.w) s.heap (typeOf u) t := Z.ty _ _ I.kIn p
  show wpAny (model X.prog X.w) X.A (richCompare .Eq (.ref a) u) (EP X pins σ Q) X.xe s
  refine cmp_K (op := .Eq) (tb := t) hr.units0 hF I.ok.mod.kin J hty nf T.find T.fn ?_
  refine wpAny_mono (run_fn (us := [.ref a, u]) (vs := [.ref a, y]) F hr hb .nil hx I (.cons rfl (.cons ry .nil)) q) (fun z s' hz => ?_) fun _ _ e => e
  obtain ⟨v', H', I', r', b, rfl, q'⟩ := hz
  obtain rfl : z = Value.bool b := r'
  exact ⟨.bl b, H', I', rfl, q'⟩
theorem ns_at_of {K : Frag} {h : Heap} {N : Addr} {mN : Str → Option Value} {n : Str} {v : Value} (X : K.In h) (G : h.Ns N mN) (e : nsIn K N n = some (some v)) : mN n = some v := by
  obtain ⟨o, es, ep, ho, hd, _, hf⟩ := G
  unfold nsIn at e
  split at e
  · rename_i q
    have z := X _ _ q
    rw [ho] at z
    cases z
    cases hd
    split at e
    · rename_i en he
      have ev : en.val = v := Option.some.inj (Option.some.inj e)
      rw [← hf]
      unfold nsFind findBy
      rw [← Array.find?_toList, he]
      exact congrArg some ev
    · split at e <;> cases e
  · cases e
/-- a call below a builtin -/
theorem run_in1 {k : Nat} {f : Addr} {fd : FuncData} {ps : List Str} {sp : Sp} {pins : List (Addr × Obj)} {σ : St} {H : Hp} {s : Shared} {Q : VK} {us : List Value} {vs : List V} (F : FnOk X.prog X.w X.K X.mg X.base CX k f fd ps sp) (hr : Room k X.A.in1)
    (hb : Binds X.K fd ps []) (hx : Passes CX X E) (I : Inv X pins σ H s) (r : Vals vs us) (h : sp vs H Q E) : wpAny (model X.prog X.w) X.A.in1 (call (.ref f) us) (EP X pins σ Q) X.xe s := by
  have hl : us.length = ps.length := by rw [← r.length]; exact F.len _ _ _ _ h
  have hb' := hb s us I.kIn (by rw [List.append_nil]; exact hl)
  rw [List.append_nil] at hb'
  refine wpAny_call (codeAny_mono (F.run X.A.in1 X.stack s H ⟨us, []⟩ us vs Q E hr I.env0.in1 hb' r h) fun r s' hq => ?_)
  cases r with
  | error e => exact hx pins σ H s e s' I hq
  | ok fl =>
    cases fl with
    | ret u => exact I.after hq
    | next => exact False.elim hq
    | brk => exact False.elim hq
    | cont => exact False.elim hq
/-- x != y, both instances of the class at C -/
def rNeO (X : Cx) (CX : CXT) (E : XK) : R2 := fun x y H Q => ∃ (a b C dx dy : Addr) (fs gs : List (Str × V)), x = .ref a ∧ y = .ref b ∧ H a = some (.ins C dx fs) ∧ H b = some (.ins C dy gs) ∧ EqcC X.K C ∧
  ∃ (k : Nat) (fd : FuncData) (ps : List Str) (sp : Sp), keepIn X.K (.ref (He.ma X.K C "__eq__")) = true ∧ FnOk X.prog X.w X.K X.mg X.base CX k (He.ma X.K C "__eq__") fd ps sp ∧ Room (k + 1) X.A ∧ Binds X.K fd ps [] ∧ sp [x, y] H (fun v H' => ∃ b, v = .bl b ∧ Q (.bl !b) H') E
theorem op_neO (hx : Passes CX X E) : OpR X (compareOp .NotEq) (rNeO X CX E) := by
  intro pins s σ H x y v u Q I rx ry h
  obtain ⟨a, b, C, dx, dy, fs, gs, rfl, rfl, ha, hb', T, k, fd, ps, sp, kp, G, hr, hb, q⟩ := h
  cases rx
  cases ry
  obtain ⟨mA, J, _⟩ := ins_get I.hok ha
  obtain ⟨mB, J', _⟩ := ins_get I.hok hb'
  obtain ⟨od, J, _⟩ := J.look
  obtain ⟨od', J', _⟩ := J'.look
  obtain ⟨nm, qn, N, bs, hdct, sn, sub, ab, col, dd, k0, k1, k2, k3, k5, nid, hC, ok, ne1, ne2⟩ := T.cls
  have hn : s.heap.Ns N (s.heap.nsMap N) := .of_isNs (isNs_of_in I.kIn ok)
  obtain ⟨of, hof, hcl⟩ := Option.map_eq_some_iff.mp (show (X.K.lookup (He.ma X.K C "__eq__")).map (·.cls) = some (.type "function") from beq_iff_eq.mp T.fn)
  have own : s.heap.OwnEqNoNe a C (He.ma X.K C "__eq__") "object" [.type "object"] := ⟨_, of, nm, qn, N, bs, hdct, sn, sub, ab, col, dd, k0, k1, k2, k3, k5, nid, _, _, J.at_, rfl, I.kIn _ _ hC, hn, ns_at_of I.kIn hn ne1,
    I.kIn _ _ hof, hcl, F.cmp_object.mro, F.cmp_object.eq.lookup, ns_none_of I.kIn hn ne2⟩
  obtain ⟨hp, g, d, tk, os⟩ := s
  refine compareOp_ne_ownEq F.cmp_object own J'.at_ rfl (by have := hr.units; omega) ?_
  refine wpAny_mono (run_in1 (us := [.ref a, .ref b]) (vs := [.ref a, .ref b]) G hr.in1 hb hx I (.cons rfl (.cons rfl .nil)) q) (fun z s' hz => ?_) fun _ _ e => e
  obtain ⟨v', H', I', r', b', rfl, q'⟩ := hz
  obtain rfl : z = Value.bool b' := r'
  exact ⟨b', rfl, .bl !b', H', I', rfl, q'⟩
end
end L2.Jk

set_option Elab.async false
set_option linter.all false
set_option maxRecDepth 100000
set_option maxHeartbeats 4000000
/-! != of two tuples that are equal item by item, instances with an own __eq__ among the items. -/
namespace L2.Jk
open PySem PySem.W PySem.Spec PySem.Calls PyProof.Rows PySem.SeqAt
open AutoSeq1 (wpAny_loadPart')

section
variable {prog : Program} {w : World} {A : Around} {R : Result → Shared → Prop} {E : Value → Shared → Prop} {s : Shared}
theorem tup_ne_same (l b : Addr) (its jts : Array Value) (n n2 : Nat) (dd dd2 : Option Addr) (sl sl2 : Array (Option Value)) (hsz : its.size = jts.size) (J : Nat → Shared → Prop)
    (turn : ∀ i (h1 : i < its.size) (h2 : i < jts.size) s, J i s → wpAny (model prog w) A.in1 (eqBool its[i] jts[i]) (fun r s' => r = true ∧ J (i + 1) s') (fun e s' => R (.error e) s') s)
    (fin : ∀ s, J its.size s → R (.ok (.ret (.bool false))) s) (hl : s.heap.get? l = some { cls := .type "tuple", dict := dd, data := .seq its n, slots := sl }) (hb : s.heap.get? b = some { cls := .type "tuple", dict := dd2, data := .seq jts n2, slots := sl2 })
    (h : J 0 s) : wpAny (model prog w) A.in1 (Builtin.«tuple.__ne__» ⟨[.ref l, .ref b], []⟩) (GQ.FinOf prog w A R) (fun e s' => R (.error e) s') s := by
  have f2 := AutoSeq1.sub_tuple_tuple
  have len : (its.toList.zip jts.toList).length = its.size := by simp [hsz]
  have h0 := h
  obtain ⟨hp, g, d, tk, os⟩ := s
  wp_walk using wpAny_loadPart' hl, wpAny_loadPart' hb, wpAny_forIn_list _ (fun rest b s' => b.1 = none ∧ ∃ i, rest = (its.toList.zip jts.toList).drop i ∧ i ≤ its.size ∧ J i s') _
  case turn =>
    rintro ⟨y, x⟩ rest b s' ⟨hb', i, hz, hi, hJ⟩
    have lt : i < (its.toList.zip jts.toList).length := by
      refine Nat.lt_of_not_le fun z => ?_
      rw [List.drop_of_length_le z] at hz
      cases hz
    have h1 : i < its.size := len ▸ lt
    have h2 : i < jts.size := hsz ▸ h1
    rw [List.drop_eq_getElem_cons lt] at hz
    obtain ⟨e1, e2⟩ := List.cons.inj hz
    obtain rfl : y = its[i] := by simpa using congrArg Prod.fst e1
    obtain rfl : x = jts[i] := by simpa using congrArg Prod.snd e1
    refine wpAny_bind (wpAny_mono (turn i h1 h2 s' hJ) (fun r s2 q2 => ?_) fun _ _ x => x)
    obtain ⟨rfl, q2⟩ := q2
    wp_walk
    exact ⟨rfl, i + 1, e2, h1, q2⟩
  case fin =>
    rintro ⟨b1, b2⟩ s' ⟨hb', i, hz, hi, hJ⟩
    dsimp only at hb'
    subst hb'
    have ge : its.size ≤ i := by
      refine Nat.le_of_not_lt fun z => ?_
      rw [List.drop_eq_getElem_cons (by rw [len]; exact z)] at hz
      cases hz
    obtain rfl : i = its.size := by omega
    have hR := fin s' hJ
    wp_walk
    simpa [Builtin.Tuple.tupleCompareSizes, hsz] using hR
  case h => exact ⟨rfl, 0, rfl, Nat.zero_le _, h0⟩
theorem tup_ne_rich {l b : Addr} {its jts : Array Value} {Q : Value → Shared → Prop} (hsz : its.size = jts.size) (hu : A.units < cLine) (J : Nat → Shared → Prop) (hl : s.heap.IsTuple l its) (hb : s.heap.IsTuple b jts)
    (turn : ∀ i (h1 : i < its.size) (h2 : i < jts.size) s, J i s → wpAny (model prog w) A.in1 (eqBool its[i] jts[i]) (fun r s' => r = true ∧ J (i + 1) s') E s)
    (fin : ∀ s, J its.size s → Q (.bool false) s) (h : J 0 s) : wpAny (model prog w) A (richCompare .NotEq (.ref l) (.ref b)) Q E s := by
  obtain ⟨⟨c1, d1, t1, s1⟩, g1, k1, n1, e1⟩ := id hl
  obtain ⟨⟨c2, d2, t2, s2⟩, g2, k2, n2, e2⟩ := id hb
  dsimp only at k1 e1 k2 e2
  subst k1 e1 k2 e2
  refine wpAny_richCompare_same_room (op := .NotEq) ⟨_, g1, rfl⟩ ⟨_, g2, rfl⟩ PySem.F.slot_tuple_ne (GQ.call_here PySem.F.slot_tuple_ne ⟨_, g1, rfl⟩ PySem.F.entry_tuple_ne (PySem.F.args_tuple_ne_2 _ _) ?_) hu
  exact tup_ne_same (R := wants (fun v s' => v ≠ .notImplemented ∧ Q v s') E) l b its jts n1 n2 d1 d2 s1 s2 hsz J turn (fun s' q => ⟨(fun x => nomatch x), fin s' q⟩) g1 g2 h
end
section
variable {X : Cx} {n : Nat} {D : Eqv}
/-- t != u of two tuples whose items D says to be equal -/
def rNeT (X : Cx) (D : Eqv) : R2 := fun x y H Q => DTup X.K D x y H ∧ ∀ H', Same H H' → Q (.bl false) H'
theorem op_neT (hD : Mon D) (h : EqG X n D) (hr : Room (n + 1) X.A) : OpR X (compareOp .NotEq) (rNeT X D) := by
  intro pins s σ H x y v u Q I rx ry hq
  obtain ⟨⟨a, b, xs, ys, rfl, rfl, ha, hb, p⟩, q⟩ := hq
  cases rx
  cases ry
  obtain ⟨its, r, e, z⟩ := I.tuple ha
  obtain ⟨jts, r2, e2, z2⟩ := I.tuple hb
  have hsz : its.toArray.size = jts.toArray.size := by rw [List.size_toArray, List.size_toArray, ← r.length, ← r2.length]; exact p.1
  show wpAny (model X.prog X.w) X.A (richCompare .NotEq (.ref a) (.ref b)) (EP X pins σ Q) X.xe s
  refine tup_ne_rich hsz hr.units0 (fun _ s' => LoopI X pins σ H s') e e2 (fun i h1 h2 s' k => turnG hD h ⟨hr, rfl⟩ p r r2 i h1 h2 s' k) (fun s' k => ?_) ⟨H, I, Ext.rfl'⟩
  obtain ⟨H', I', x⟩ := k
  exact ⟨.bl false, H', I', rfl, q H' x⟩
end
end L2.Jk

set_option Elab.async false
set_option linter.all false
set_option maxRecDepth 100000
set_option maxHeartbeats 4000000
/-! ''.join(reversed(xs)), list(text), len(set(..)), type(x) is type(y). -/
namespace L2.Jk
open PySem PySem.W PySem.Spec PySem.Calls PyProof.Rows

theorem paired_of {α β : Type} {F : α → β → Prop} : ∀ {xs : List α} {ys : List β}, xs.length = ys.length → (∀ (i : Nat) x y, xs[i]? = some x → ys[i]? = some y → F x y) → Paired F xs ys
  | [], [], _, _ => .nil
  | [], _ :: _, e, _ => by cases e
  | _ :: _, [], e, _ => by cases e
  | x :: xs, y :: ys, e, h => .cons (h 0 x y rfl rfl) (paired_of (Nat.succ.inj e) fun i a b h1 h2 => h (i + 1) a b h1 h2)
section
variable {X : Cx}
/-! ### list(text) -/
/-- its signs, one text each -/
def signsV (z : Str) : List V := (List.range z.cps.size).map fun i => V.str ⟨#[z.cps.getD i 0]⟩
theorem call_listStr (hc : X.calm = true) : CallR X (.type "list") (fun xs H Q => ∃ z : Str, xs = [.str z] ∧ z.cps.size ≤ 1000 ∧ ∀ p H', H p = none → Same H H' → H' p = some (.lst (signsV z)) → Q (.ref p) H') := by
  intro pins s σ H xs us Q I r h
  obtain ⟨z, rfl, hz, q⟩ := h
  obtain ⟨u, rfl, t, rfl⟩ := vals1 r
  have hz' : z.cps.size ≤ sizeLine := by rw [sizeLine_eq]; omega
  refine call_list_str (I.ok.hd hc) z t (fun h' tk acc c k hp ha => ?_) hz'
  obtain ⟨al, ai⟩ := ha
  have vs : Vals (signsV z) acc.toList := by
    refine paired_of (show (signsV z).length = acc.toList.length by
      have e : acc.toList.length = acc.size := Array.length_toList
      rw [e, al]
      simp [signsV]) fun i x v hx hv => ?_
    have hi : i < z.cps.size := by
      have := (List.getElem?_eq_some_iff.mp hx).1
      simpa [signsV] using this
    obtain ⟨t', e⟩ := sign_at (ai i v (by rw [← Array.getElem?_toList]; exact hv))
    subst e
    have e2 : x = V.str ⟨#[z.cps.getD i 0]⟩ := by
      unfold signsV at hx
      rw [List.getElem?_map, List.getElem?_range hi] at hx
      exact (Option.some.inj hx).symm
    subst e2
    exact ⟨t', rfl⟩
  have n := I.fresh
  refine ⟨.ref s.heap.objs.size, _, I.laid (t' := tk) (h' := h') (o := .lst (signsV z)) k (Nat.le_refl _) ⟨?_, acc.toList, c, vs, by simpa using hp⟩, rfl, q _ _ n (same_upd n) upd_same⟩
  simp only [signsV, List.length_map, List.length_range]
  exact hz'
/-! ### len(set(..)) -/
def tLenSetStr (te : TE) : TE := fun σ H Q => te σ H fun x H1 => ∃ z : Str, x = .str z ∧ z.cps.size ≤ 4000 ∧ Q (.int (newS (fun i => ⟨#[z.cps.getD i 0]⟩) z.cps.size : Nat)) H1
theorem held_len {h : Heap} {S : Addr} {ks : Nat → Str} {i : Nat} {A : Around} {E : Value → Shared → Prop} {Q : Value → Shared → Prop} {s : Shared} (H : HeldS X.prog X.w s.heap S ks i) (hi : i ≤ 4000)
    (q : ∀ tk, Q (.int (newS ks i : Nat) tk) { s with toks := tk + 1 }) : wpAny (model X.prog X.w) A (call (.builtin "len") [.ref S]) Q E s := by
  have few := newS_le ks i
  obtain ⟨o, es, ep, t, ho, hex, hd, _, _, _, hf, hn⟩ := H
  exact call_len_set ho hex hd hf (by rw [hn]; omega) (by rw [hn]; exact q _)
theorem pe_lenSetStr {a : Expr} {ta : TE} {p p2 q pos : Pos} (hc : X.calm = true) (hg : Gl X "len") (hm : X.mg "len" = none) (hg2 : Gl X "set") (hm2 : X.mg "set" = none) (ha : PE X a ta)
    (na : starEach [a] X.env = (false, eval a X.env) :: starEach [] X.env := by rfl) : PE X (.Call (.Name "len" p) [.Call (.Name "set" p2) [a] [] q] [] pos) (tLenSetStr ta) := by
  constructor
  intro pins s σ H Q I h
  refine Call_ (ld_blt I hg hm boot_len (PyProof.Rows.callWith_builtin1 (PyProof.Rows.args_cons ?_ rfl) rfl rfl))
  refine Call_ (ld_blt I hg2 hm2 boot_set (PyProof.Rows.callWith_type1 (PyProof.Rows.args_cons (thn (ha.run pins s σ H _ I h) fun v s1 ⟨x, H1, I1, r1, z, ex, hz, q1⟩ => PyProof.Rows.args_nil ?_) na) na rfl))
  subst ex
  obtain ⟨t, rfl⟩ := r1
  refine set_callStr (I1.ok.hd hc) (by unfold scanBound; omega) fun h' tk hS hk => PyProof.Rows.args_nil ?_
  have I2 : Inv X pins σ H1 { s1 with heap := h', toks := tk } := I1.kept fun b o e => hk b o (Heap.lt_size e) e
  exact held_len (h := h') (s := { s1 with heap := h', toks := tk }) hS hz fun tk' => ⟨.int _, H1, I2.tok _, ⟨_, rfl⟩, q1⟩
/-- .. of a list or a tuple of texts -/
def tLenSetSeq (K : Frag) (te : TE) : TE := fun σ H Q => te σ H fun x H1 => ∃ (l : Addr) (ys : List Str), x = .ref l ∧ (SqL K H1 l (ys.map V.str) ∨ SqT K H1 l (ys.map V.str)) ∧ ys.length ≤ 4000 ∧ Q (.int (newS (fun i => ys.getD i Str.empty) ys.length : Nat)) H1
theorem strs_get {ys : List Str} {us : List Value} (r : Vals (ys.map V.str) us) (i : Nat) (v : Value) (h : us.toArray[i]? = some v) : ∃ t : Tok, v = Value.str (ys.getD i Str.empty) t := by
  have h' : us[i]? = some v := by simpa using h
  have lt : i < ys.length := by
    have := (List.getElem?_eq_some_iff.mp h').1
    rw [← r.length, List.length_map] at this
    exact this
  obtain ⟨u, hu, ru⟩ := r.get (i := i) (x := V.str (ys.getD i Str.empty)) (by rw [List.getElem?_map, List.getElem?_eq_getElem lt, List.getD_eq_getElem?_getD, List.getElem?_eq_getElem lt]; rfl)
  rw [h'] at hu
  cases hu
  exact ru
theorem pe_lenSetSeq {a : Expr} {ta : TE} {p p2 q pos : Pos} (hc : X.calm = true) (hg : Gl X "len") (hm : X.mg "len" = none) (hg2 : Gl X "set") (hm2 : X.mg "set" = none) (ha : PE X a ta)
    (na : starEach [a] X.env = (false, eval a X.env) :: starEach [] X.env := by rfl) : PE X (.Call (.Name "len" p) [.Call (.Name "set" p2) [a] [] q] [] pos) (tLenSetSeq X.K ta) := by
  constructor
  intro pins s σ H Q I h
  refine Call_ (ld_blt I hg hm boot_len (PyProof.Rows.callWith_builtin1 (PyProof.Rows.args_cons ?_ rfl) rfl rfl))
  refine Call_ (ld_blt I hg2 hm2 boot_set (PyProof.Rows.callWith_type1 (PyProof.Rows.args_cons (thn (ha.run pins s σ H _ I h) fun v s1 ⟨x, H1, I1, r1, l, ys, ex, hq, hz, q1⟩ => PyProof.Rows.args_nil ?_) na) na rfl))
  subst ex
  cases r1
  have fin : ∀ (its : List Value), Vals (ys.map V.str) its → ∀ (h' : Heap) (tk : Nat), HeldS X.prog X.w h' s1.heap.objs.size (fun i => ys.getD i Str.empty) its.toArray.size → (∀ b o, b < s1.heap.objs.size → s1.heap.get? b = some o → h'.get? b = some o) →
      wpAny (model X.prog X.w) X.A (spliced (backTo pos (starEach [] X.env))) (fun vs s₂ => wpAny (model X.prog X.w) X.A (call (.builtin "len") (Value.ref s1.heap.objs.size :: vs)) (EP X pins σ Q) X.xe s₂) X.xe { s1 with heap := h', toks := tk } := fun its r h' tk hS hk => by
    have hl : its.toArray.size = ys.length := by rw [List.size_toArray, ← r.length, List.length_map]
    rw [hl] at hS
    have I2 : Inv X pins σ H1 { s1 with heap := h', toks := tk } := I1.kept fun b o e => hk b o (Heap.lt_size e) e
    exact PyProof.Rows.args_nil (held_len (h := h') (s := { s1 with heap := h', toks := tk }) hS hz fun tk' => ⟨.int _, H1, I2.tok _, ⟨_, rfl⟩, q1⟩)
  rcases hq with hq | hq
  · obtain ⟨its, r, pl, _⟩ := I1.list hq
    have hl : its.toArray.size = ys.length := by rw [List.size_toArray, ← r.length, List.length_map]
    exact set_callList (I1.ok.hd hc) pl.isList (strs_get r) (by unfold scanBound; omega) fun h' tk hS hk => fin its r h' tk hS hk
  · obtain ⟨its, r, pl, _⟩ := I1.tuple hq
    have hl : its.toArray.size = ys.length := by rw [List.size_toArray, ← r.length, List.length_map]
    exact set_callTup (I1.ok.hd hc) pl (strs_get r) (by unfold scanBound; omega) fun h' tk hS hk => fin its r h' tk hS hk
/-! ### type(x) is type(y) -/
def rTyA (X : Cx) : List V → Hp → VK → Prop := fun xs H Q => ∃ x, xs = [x] ∧ ((∃ a C dx fs, x = .ref a ∧ H a = some (.ins C dx fs) ∧ Q (.ref C) H) ∨ ∃ T, RZ.Ty4 H x T ∧ Q (.ty T) H)
theorem call_tyA : CallR X (.type "type") (rTyA X) := by
  intro pins s σ H xs us Q I r h
  obtain ⟨x, rfl, h | h⟩ := h
  · obtain ⟨a, C, dx, fs, rfl, ha, q⟩ := h
    exact cr_type pins s σ H _ us Q I r ⟨a, C, dx, fs, rfl, ha, q⟩
  · obtain ⟨T, t, q⟩ := h
    exact RZ.call_type4 pins s σ H _ us Q I r ⟨x, T, rfl, t, q⟩
def rIsA (X : Cx) : R2 := fun x y H Q => ∃ a, x = .ref a ∧ ((∃ b, y = .ref b ∧ (a = b ∨ (makesIn X.K a = true ∧ makesIn X.K b = true)) ∧ Q (.bl (decide (a = b))) H) ∨ ∃ T, y = .ty T ∧ Q (.bl false) H)
theorem op_isA : OpR X (compareOp .Is) (rIsA X) := by
  intro pins s σ H x y v u Q I rx ry h
  obtain ⟨a, rfl, h | h⟩ := h
  · obtain ⟨b, rfl, hab, q⟩ := h
    exact op_is_cls pins s σ H _ _ v u Q I rx ry ⟨a, b, rfl, rfl, hab, q⟩
  · obtain ⟨T, rfl, q⟩ := h
    cases rx
    cases ry
    show wpAny _ _ (do return Value.bool (← isSame (.ref a) (.type T))) _ _ _
    exact wpAny_bind (wpAny_of_eq (a := false) rfl (wpAny_pure ⟨.bl false, H, I, rfl, q⟩))
/-! ### ''.join(reversed(xs)) -/
def tJoinRev (K : Frag) (to te : TE) : TE := fun σ H Q => to σ H fun o H0 => ∃ z : Str, o = .str z ∧ te σ H0 fun v H1 => ∃ (a : Addr) (ys : List Str), v = .ref a ∧ SqL K H1 a (ys.map V.str) ∧ JoinOk z ys.reverse = true ∧ Q (.str (Txt.join z ys.reverse)) H1
theorem strs_pairs : ∀ {ys : List Str} {us : List Value}, Vals (ys.map V.str) us → ∃ l : List (Str × Tok), strValues l = us ∧ l.map (·.1) = ys
  | [], _, .nil => ⟨[], rfl, rfl⟩
  | y :: ys, _, .cons r t => by
    obtain ⟨k, rfl⟩ := r
    obtain ⟨l, e1, e2⟩ := strs_pairs t
    exact ⟨(y, k) :: l, by rw [← e1]; rfl, by rw [← e2]; rfl⟩
theorem joined_tail (z : Str) : ∀ l : List (Str × Tok), Builtin.Str.tooLong ((l.map (·.1)).toArray.foldl (· + ·.length + z.length) 0) = false → Gives (joinTail z (strValues l)) (joinMade z l)
  | [], h => gives_joinTail z [] h
  | [p], h => gives_joinTail z [p] h
  | p :: q :: r, h => gives_joinTail z (p :: q :: r) h
theorem pe_joinRev {o e : Expr} {to te : TE} {apos p2 pos2 cpos : Pos} (hc : X.calm = true) (hg2 : Gl X "reversed") (hm2 : X.mg "reversed" = none) (ho : PE X o to) (he : PE X e te)
    (hbase : attributeBase o "join" X.env (eval o X.env) = eval o X.env := by rfl)
    (hfew : ((backTo cpos (starEach [Expr.Call (.Name "reversed" p2) [e] [] pos2] X.env)).all (fun x => !x.1) && (backToKw cpos (keywordEach [] X.env)).all (fun x => x.1.isSome)
      && decide ([Expr.Call (.Name "reversed" p2) [e] [] pos2].length + ([] : List Keyword).length + (if ([] : List Keyword).isEmpty then 0 else 1) < 30)) = true := by rfl)
    (hline : (apos.endLine == cpos.line) = true := by rfl) (hs : starEach [e] X.env = (false, eval e X.env) :: starEach [] X.env := by rfl)
    (hs2 : starEach [Expr.Call (.Name "reversed" p2) [e] [] pos2] X.env = (false, eval (.Call (.Name "reversed" p2) [e] [] pos2) X.env) :: starEach [] X.env := by rfl) :
    PE X (.Call (.Attribute o "join" apos) [.Call (.Name "reversed" p2) [e] [] pos2] [] cpos) (tJoinRev X.K to te) := by
  constructor
  intro pins s σ H Q I h
  refine wpAny_Call_method_late hbase hfew hline rfl (thn (ho.run pins s σ H _ I h) fun v s1 ⟨x, H0, I0, r0, z, ex, q0⟩ => ?_)
  subst ex
  obtain ⟨t, rfl⟩ := r0
  refine ⟨"str", "str.join", PySem.F.plainAttrs_str, PySem.F.slot_str_join, PySem.F.type_str_join, typeIs_str _ _ _, (fun a e => nomatch e), ?_⟩
  refine Calls.callWith_builtin (by rw [hs2]; rfl) ?_
  rw [hs2]
  refine Calls.evalArgs_plain (Calls.spliced_cons ?_)
  refine Call_ (ld_blt I0 hg2 hm2 PyProof.Rows.boot_reversed (PyProof.Rows.callWith_type1 (PyProof.Rows.args_cons (thn (he.run pins s1 σ H0 _ I0 q0) fun u s2 ⟨y, H1, I1, r1, a, ys, ey, hq, ok, q1⟩ => PyProof.Rows.args_nil ?_) hs) hs rfl))
  subst ey
  obtain rfl : u = Value.ref a := r1
  obtain ⟨its, rv, pl, hz⟩ := I1.list hq
  refine call_reversed_list pl.isList (Calls.spliced_nil ?_)
  have k0 : ∀ b o, s2.heap.get? b = some o → (s2.heap.push (revObj a ((its.toArray.size : Int) - 1))).get? b = some o := fun b o e => Heap.get?_push_of_some _ e
  have I2 : Inv X pins σ H1 { s2 with heap := s2.heap.push (revObj a ((its.toArray.size : Int) - 1)) } := I1.kept (t' := s2.toks) k0
  obtain ⟨f0, f1, f2, f3, f4, f5⟩ := I1.fpOk (H' := H1) (b := s2.heap.objs.size) (Nat.le_refl _) (I1.hok.fresh (Nat.le_refl _))
  have hl := pl.isList
  obtain ⟨ol, hol, _⟩ := id hl
  have ne : a ≠ s2.heap.objs.size := Nat.ne_of_lt (Heap.lt_size hol)
  have sm : its.toArray.size ≤ sizeLine := by rw [List.size_toArray, ← rv.length]; exact hz
  have hit : (s2.heap.push (revObj a ((its.toArray.size : Int) - 1))).IsRevIter s2.heap.objs.size a ((its.toArray.size : Int) - 1) := ⟨_, Heap.get?_push_size _ rfl, rfl, rfl⟩
  refine wpAny_call (codeAny_call_builtin F.slot_str_join.plain F.entry_str_join (F.slot_str_join.check _ _ _ _ _ _ _ _ (typeIs_str _ _ _) (F.args_str_join_2 _ _) ?_))
  show wpAny _ _ (Builtin.«str.join» ⟨[.str z t, .ref s2.heap.objs.size], []⟩) _ _ _
  rw [join_tree_other]
  refine wpAny_bind (wpAny_typeOf hit.typeIs ?_)
  show wpAny _ X.A.in1 ((pyIter (.ref s2.heap.objs.size)).tryCatch _ >>= fun it => collect it >>= fun items => joinTail z items) _ _ _
  refine wpAny_bind (wpAny_tryCatch (wpAny_pyIter_revIter hit ?_))
  refine wpAny_bind (RT.collect_rev (I1.ok.hd hc) hit (hl.push _) ne sm fun h' tk acc hk hi => ?_)
  have I3 : Inv X pins σ H1 { s2 with heap := h', toks := tk } := I2.turned (t' := tk) (fun b o hb e => hk b o hb e) f0 f1 f3 f4 f5
  have rr := RT.vals_rev rv hi
  rw [← List.map_reverse] at rr
  obtain ⟨l, el, em⟩ := strs_pairs rr
  rw [← el]
  have fit : Builtin.Str.tooLong ((l.map (·.1)).toArray.foldl (· + ·.length + z.length) 0) = false := by
    rw [em]
    unfold JoinOk at ok
    rwa [Bool.not_eq_true'] at ok
  have g : Gives (joinTail z (strValues l)) (joinMade z l) := joined_tail z l fit
  refine g X.prog X.w X.A (wants (EP X pins σ Q) X.xe) _ (post_join l ⟨?_, fun t' k => ?_⟩)
  · exact joinFit_length fit
  · rw [em]
    exact ⟨.str _, H1, I3.tok k, ⟨t', rfl⟩, q1⟩
end
end L2.Jk

set_option Elab.async false
set_option linter.all false
set_option maxRecDepth 100000
set_option maxHeartbeats 4000000
/-! Errors raised, instances made where their __init__ may raise, isinstance of flat values. -/
namespace L2.Jk
open PySem PySem.W PySem.Spec PySem.Calls PyProof.Rows

section
variable {X : Cx} {CX : CXT} {k : Nat} {x : Str} {ps : List Str} {sp : Sp} {e : Expr} {es : List Expr} {t : TA} {p pos : Pos} {W : WX}
theorem pe_fnS (G : FnAt X.prog X.w X.K X.mg X.base CX k x ps sp) (hr : Room k X.A) {E : St → XK} (hx : ∀ σ, PassesAt CX X σ (E σ)) (hg : Gl X x) (ha : PA X (e :: es) t)
    (hdb : (x == ("__debug__" : Str)) = false := by decide) (he : starEach (e :: es) X.env = (false, eval e X.env) :: starEach es X.env := by rfl) (hpl : (backTo pos (starEach es X.env)).any (·.1) = false := by rfl) :
    PE X (.Call (.Name x p) (e :: es) [] pos) (tCallS sp E t) := by
  obtain ⟨f, fd, hm, kp, F, hb⟩ := G.ex
  exact pe_callS F hr hg hm kp hb hx ha hdb he hpl
/-! ### an error that is raised -/
def tMkErr (C : Addr) (fs : List Str) (ta : TA) : St → Hp → XK → Prop := fun σ H Q => ta σ H fun vs H1 => vs.length = fs.length ∧ ∀ d H2, H1 d = none → Same H1 H2 → H2 d = some (.xd (fldE fs vs)) → Q (.ref C) (some d) H2
theorem same_raise {H : Hp} {a C d : Addr} {fs : List (Str × V)} (ha : H a = none) (hd : H d = none) (ne : d ≠ a) : Same H (upd (del (mkE H a C d fs) a) d (.xd fs)) := fun b o e => by
  have n1 := ne_of_none e ha
  have n2 := ne_of_none e hd
  rw [upd_ne n2, del_ne n1]
  unfold mkE
  rw [upd_ne n1, upd_ne n2]
  exact e
end
/-- what is wished of an error C(v) that is raised at H -/
def RaiseE (C : Addr) (f : Str) (v : V) (H : Hp) (Q : XK) : Prop := ∀ d H2, H d = none → Same H H2 → H2 d = some (.xd [(f, v)]) → Q (.ref C) (some d) H2
theorem mkO_1 {C : Addr} {f : Str} {v : V} {H : Hp} {Q : XK} (q : RaiseE C f v H Q) : ([v] : List V).length ≤ 1000 ∧ ∀ a, H a = none → spI1 C f (.ref a :: ([v] ++ [])) (upd H a (exo a C none))
    (fun u H2 => u = .non ∧ ∃ (d : Addr) (fs : List (Str × V)), H2 a = some (exo a C (some d)) ∧ H2 d = some (exd d fs) ∧ H d = none ∧ Q (.ref C) (some d) (upd (del H2 a) d (.xd fs))) (fun _ _ _ => False) := by
  refine ⟨by show 1 ≤ 1000; decide, fun a ha => ⟨a, v, rfl, upd_same, fun d hd ne => ⟨rfl, d, [(f, v)], ?_, ?_, ?_, ?_⟩⟩⟩
  · rw [mkE_new ne]
    exact upd_same
  · rw [mkE_new ne]
    unfold mkE
    rw [upd_ne ne, upd_same]
  · rw [upd_ne ne] at hd
    exact hd
  · rw [mkE_new ne]
    rw [upd_ne ne] at hd
    exact q d _ hd (same_raise ha hd ne) upd_same
section
variable {X : Cx} {x : Str} {e : Expr} {es : List Expr} {ta : TA} {p pos : Pos}
/-- raise C(e), C an error of one field -/
theorem pmk_1 {C : Addr} {f z : Str} (T : ErrAt X.prog X.w X.K X.mg X.base x C [f] z) (hr : Room 2 X.A) (hg : Gl X x) (ha : PA X (e :: es) ta)
    (hdb : (x == ("__debug__" : Str)) = false := by decide) (he : starEach (e :: es) X.env = (false, eval e X.env) :: starEach es X.env := by rfl) (hpl : (backTo pos (starEach es X.env)).any (·.1) = false := by rfl) :
    PMk X (.Call (.Name x p) (e :: es) [] pos) (tMkO C (spI1 C f) [] ta) := by
  obtain ⟨fd, hb, iok⟩ := T.iok
  exact pmk_oex (X := X) (ta := ta) T.ex.ec.ox T.ini.1 T.ini.2 iok hr hb .nil pass0 hg T.mgC ha hdb he hpl
/-! ### an instance made by a class whose __init__ may raise -/
structure ClsAt (P : Program) (w : World) (K : Frag) (mg : Str → Option Value) (base : Heap) (CX : CXT) (k : Nat) (x : Str) (C : Addr) (ps : List Str) (sp : Sp) : Prop where
  mgC : mg x = some (.ref C)
  cl : Cls K C
  mkr : Mk K C (He.ma K C "__init__")
  ok : ∃ fd, FnOk P w K mg base CX k (He.ma K C "__init__") fd ps sp ∧ Binds K fd ps []
def tNewS (C : Addr) (sp : Sp) (E : St → XK) (t : TA) : TE := fun σ H Q => t σ H fun vs H1 => ∀ a dx, H1 a = none → H1 dx = none → dx ≠ a → sp (.ref a :: vs) (upd (upd H1 dx (.own a)) a (.ins C dx [])) (fun v H2 => v = .non ∧ Q (.ref a) H2) (E σ)
theorem pe_newS {CX : CXT} {k : Nat} {C : Addr} {ps : List Str} {sp : Sp} {E : St → XK} (G : ClsAt X.prog X.w X.K X.mg X.base CX k x C ps sp) (hr : Room (k + 1) X.A) (hx : ∀ σ, PassesAt CX X σ (E σ)) (hg : Gl X x) (ha : PA X (e :: es) ta)
    (hdb : (x == ("__debug__" : Str)) = false := by decide) (he : starEach (e :: es) X.env = (false, eval e X.env) :: starEach es X.env := by rfl) (hpl : (backTo pos (starEach es X.env)).any (·.1) = false := by rfl) :
    PE X (.Call (.Name x p) (e :: es) [] pos) (tNewS C sp E ta) := by
  obtain ⟨fd, F, hb⟩ := G.ok
  have M := G.mkr
  constructor
  intro pins s σ H Q I h
  refine wpAny_Call_Name_kw (ld_glob I hg G.mgC ?_ hdb)
  refine callWith_K (h₀ := X.base) I.ok.mod.kin M.kp (thn (ha.run pos pins s σ H _ I h) fun us s1 ⟨vs, H1, I1, r, q⟩ => ⟨I1.kIn, ?_⟩) he hpl
  show wpAny _ _ (call (.ref C) us) _ _ _
  have pr := q (s1.heap.objs.size + 1) s1.heap.objs.size (I1.hok.fresh (Nat.le_succ _)) I1.fresh (Nat.ne_of_lt (Nat.lt_succ_self _))
  have I2 := Inv.made (C := C) I1
  have r2 : Vals (V.ref (s1.heap.objs.size + 1) :: vs) (Value.ref (s1.heap.objs.size + 1) :: us) := .cons rfl r
  have hl : (Value.ref (s1.heap.objs.size + 1) :: us).length = ps.length := by
    rw [← r2.length]
    exact F.len _ _ _ _ pr
  have hb' := hb _ (Value.ref (s1.heap.objs.size + 1) :: us) I2.kIn (by rw [List.append_nil]; exact hl)
  rw [List.append_nil] at hb'
  refine wpAny_call (make_map (f := He.ma X.K C "__init__") I1.kIn M.makes M.init (beq_iff_eq.mp M.fn) (codeAny_mono (F.run _ X.stack _ _ ⟨Value.ref (s1.heap.objs.size + 1) :: us, []⟩ (Value.ref (s1.heap.objs.size + 1) :: us) _ _ (E σ) (hr.make C us [])
    (I2.env0.make C us []) hb' r2 pr) fun r s' hq' => ?_))
  cases r with
  | error er => exact hx σ pins _ _ er s' I2 hq'
  | ok fl =>
    cases fl with
    | ret u =>
      obtain ⟨v, H', I3, rv, ev, q3⟩ := I2.after hq'
      subst ev
      exact ⟨rv, ⟨V.ref (s1.heap.objs.size + 1), H', I3, rfl, q3⟩⟩
    | next => exact False.elim hq'
    | brk => exact False.elim hq'
    | cont => exact False.elim hq'
end
/-! ### isinstance of flat values against built-in types -/
def tyN : V → String
  | .non => "NoneType"
  | .bl _ => "bool"
  | .int _ => "int"
  | .str _ => "str"
  | _ => ""
theorem flat_ty {K : Frag} {H : Hp} {v : V} (h : flatV v = true) : TyE K H v (.type (tyN v)) := by
  cases v with
  | non => exact .x (.base .non)
  | bl b => exact .x (.base (.bl b))
  | int i => exact .x (.base (.int i))
  | str z => exact .x (.base (.str z))
  | _ => cases h
def isStr : V → Bool
  | .str _ => true
  | _ => false
/-- an int or a bool -/
def isInt : V → Bool
  | .int _ => true
  | .bl _ => true
  | _ => false
def isBl : V → Bool
  | .bl _ => true
  | _ => false
theorem kit_str {v : V} (h : flatV v = true) : kitB (tyN v) "str" = some (isStr v) := by
  cases v with
  | non => show kitB "NoneType" "str" = some false; decide +kernel
  | bl b => show kitB "bool" "str" = some false; decide +kernel
  | int i => show kitB "int" "str" = some false; decide +kernel
  | str z => show kitB "str" "str" = some true; decide +kernel
  | _ => cases h
theorem kit_int {v : V} (h : flatV v = true) : kitB (tyN v) "int" = some (isInt v) := by
  cases v with
  | non => show kitB "NoneType" "int" = some false; decide +kernel
  | bl b => show kitB "bool" "int" = some true; decide +kernel
  | int i => show kitB "int" "int" = some true; decide +kernel
  | str z => show kitB "str" "int" = some false; decide +kernel
  | _ => cases h
theorem kit_bool {v : V} (h : flatV v = true) : kitB (tyN v) "bool" = some (isBl v) := by
  cases v with
  | non => show kitB "NoneType" "bool" = some false; decide +kernel
  | bl b => show kitB "bool" "bool" = some true; decide +kernel
  | int i => show kitB "int" "bool" = some false; decide +kernel
  | str z => show kitB "str" "bool" = some false; decide +kernel
  | _ => cases h
theorem ie_of {K : Frag} {H : Hp} {v : V} {S T : String} {b : Bool} {Q : VK} (ty : TyE K H v (.type S)) (k : kitB S T = some b) (q : Q (.bl b) H) : rIe K [v, .ty T] H Q :=
  ⟨v, .ty T, .type S, .type T, b, rfl, .ty T, ty, kit_ty k, q⟩
end L2.Jk

set_option Elab.async false
set_option linter.all false
set_option maxRecDepth 100000
set_option maxHeartbeats 4000000
/-! A comprehension over a text; a method of an instance whose class shows in the heap; what happens to an error that is raised in a make. -/
namespace L2.Jk
open PySem PySem.W PySem.Spec PySem.Calls PyProof.Rows

theorem lc_str {x : Str} {g : TG} {tt : TT} {te : TE} {vs : List Nat} {σ : St} {H1 : Hp} {D : Addr} {Qd : Hp → Prop} (Pv : Nat → Hp → Prop) (h0 : Pv 0 (upd H1 D (.lst [])))
    (hs : ∀ (i c : Nat) H, x.cps[i]? = some c → Pv i H → g (.str ⟨#[c]⟩) (wipe σ vs) H fun σ2 H2 => wipe σ2 vs = wipe σ vs ∧ tt σ2 H2 fun b H3 =>
      if b = true then te σ2 H3 fun y H4 => ∃ acc, H4 D = some (.lst acc) ∧ acc.length < sizeLine ∧ Pv (i + 1) (upd H4 D (.lst (acc ++ [y]))) else Pv (i + 1) H3) (hd : ∀ H, Pv x.cps.size H → Qd H) :
    ∃ W : Nat → Nat → Hp → Prop, (∃ m, W 0 m (upd H1 D (.lst []))) ∧ ∀ i m H, W i m H →
      ((Its x).stop i H ∧ Qd H) ∨ ((Its x).go i H ∧ ∃ Nx : Hp → Prop, (∀ H', Nx H' → ∃ m', m' < m ∧ W (i + 1) m' H') ∧ ∀ y H', (Its x).yld i H y H' → g y (wipe σ vs) H' fun σ2 H2 => wipe σ2 vs = wipe σ vs ∧ tt σ2 H2 fun b H3 =>
        if b = true then te σ2 H3 fun y H4 => ∃ acc, H4 D = some (.lst acc) ∧ acc.length < sizeLine ∧ Nx (upd H4 D (.lst (acc ++ [y]))) else Nx H3) := by
  refine ⟨fun i m H => m = x.cps.size - i ∧ i ≤ x.cps.size ∧ Pv i H, ⟨x.cps.size, by simp, Nat.zero_le _, h0⟩, ?_⟩
  rintro i m H ⟨rfl, hi, p⟩
  by_cases hlt : i < x.cps.size
  · refine .inr ⟨hlt, Pv (i + 1), fun H' p' => ⟨x.cps.size - (i + 1), by omega, rfl, hlt, p'⟩, fun y H' z => ?_⟩
    obtain ⟨e, c, hc, ev⟩ := z
    subst e ev
    exact hs i c _ hc p
  · have e : i = x.cps.size := by omega
    subst e
    exact .inl ⟨Nat.le_refl _, hd H p⟩
/-- o.m(e, ..), the class of o as the heap has it -/
def tMethD (X : Cx) (CX : CXT) (m : Str) (E : XK) (ta : TE) (t : TA) : TE := fun σ H Q => ta σ H fun x H1 => ∃ (a C dx f : Addr) (fs : List (Str × V)) (k : Nat) (fd : FuncData) (ps : List Str) (sp : Sp), x = .ref a ∧ H1 a = some (.ins C dx fs) ∧ fs.lookup m = none ∧
  Cls X.K C ∧ Meth X.K C m f ∧ FnOk X.prog X.w X.K X.mg X.base CX k f fd ps sp ∧ Room k X.A ∧ Binds X.K fd ps [] ∧ t σ H1 fun vs H2 => sp (x :: vs) H2 Q E
section
variable {X : Cx} {CX : CXT} {E : XK} {o e : Expr} {es : List Expr} {m : Str} {ta : TE} {t : TA} {apos pos : Pos}
theorem pe_methD {pl : Sem Bool} (he : PE X o ta) (hx : Passes CX X E) (ha : PA X (e :: es) t)
    (hst : starEach (e :: es) X.env = (false, eval e X.env) :: starEach es X.env := by rfl) (hpl : (backTo pos (starEach es X.env)).any (·.1) = false := by rfl)
    (ht : eval (.Call (.Attribute o m apos) (e :: es) [] pos) X.env = (do
      let ov ← eval o X.env
      standAt apos.atName
      let (f, first) ← holding [ov] (getMethod ov m pl)
      callWith pos f first (backTo pos (starEach (e :: es) X.env)) (backToKw pos (keywordEach [] X.env))) := by rfl) :
    PE X (.Call (.Attribute o m apos) (e :: es) [] pos) (tMethD X CX m E ta t) := by
  refine ⟨fun pins s σ H Q I h => ?_⟩
  refine PySem.W.methodCall_KW (pl := pl) (thn (he.run pins s σ H _ I h) fun u s1 hh => ?_) ht
  obtain ⟨x, H1, I1, rx, a, C, dx, f, fs, k, fd, ps, sp, ex, ea, l, c, hm, F, hr, hb, q⟩ := hh
  subst ex
  obtain rfl : u = Value.ref a := rx
  refine getmeth_ok I1 ea c hm l ?_
  refine PySem.W.callWith_K (first := [.ref a]) (h₀ := X.base) I.ok.mod.kin hm.kp (thn (ha.run pos pins s1 σ H1 _ I1 q) fun us s2 ⟨vs, H2, I2, r, q2⟩ => ⟨I2.kIn, ?_⟩) hst hpl
  have q2' : sp (V.ref a :: (vs ++ [])) H2 Q E := by rw [List.append_nil]; exact q2
  exact run_fn (us := .ref a :: us) (vs := .ref a :: vs) (dvs := []) (ds := []) F hr hb .nil hx I2 (.cons rfl r) q2'
end
/-- a call that the reading never comes to -/
theorem fn_never {P : Program} {w : World} {K : Frag} {mg : Str → Option Value} {base : Heap} {CX : CXT} {k : Nat} {f : Addr} {fd : FuncData} {ps : List Str} : FnOk P w K mg base CX k f fd ps (fun _ _ _ _ => False) where
  len := fun _ _ _ _ h => False.elim h
  run := fun _ _ _ _ _ _ _ _ _ _ _ _ _ h => False.elim h
theorem same_new {H : Hp} {a dx C : Addr} {fs : List (Str × V)} (ha : H a = none) (hd : H dx = none) : Same H (upd (upd H dx (.own a)) a (.ins C dx fs)) := fun b o e => by
  rw [upd_ne (ne_of_none e ha), upd_ne (ne_of_none e hd)]
  exact e
theorem same_put {H H1 : Hp} {p : Addr} {o : HO} (S : Same H H1) (n : H p = none) : Same H (upd H1 p o) := fun b u e => by
  rw [upd_ne (ne_of_none e n)]
  exact S b u e
end L2.Jk

set_option Elab.async false
set_option linter.all false
set_option maxRecDepth 100000
set_option maxHeartbeats 4000000
/-! The things that are drawn, and what is told of them. -/
namespace L2.K03
open PySem PySem.W PySem.Spec PySem.Calls PyProof.Rows L2.Jk

def sM : List V := [.str "ab", .str "a", .str "0z", .str "-./_", .str "Zz", .str "", .str "aa", .str "a!", .str "a b", .str "~", .non, .str "a,", .str "ba", .str ":"]
def nM : List V := [.int 0, .int 1, .int 2, .int 3, .int 9, .int 12, .int 11, .int (-1), .non, .bl true, .str "2", .int 4]
def hM : List V := nM ++ [.int 110, .int 999999999]
def wM : List V := [.int 1, .int 2, .int 20, .int 0, .int (-1), .non, .bl true, .str "1"]
def eM : List V := [.str "a", .str "-", .str "z", .str "", .str "--", .str "!", .non, .str "0", .str ":"]
def mM : List V := [.str "N", .str "m", .str "a", .str "0", .str "-", .str "", .str "NN", .str "!", .non, .str "9"]
def xM : List V := [.str "a", .str "", .str "b", .str "ab", .str "a!", .non, .str "x", .str "y", .int 5, .str "P", .str "Q"]
def mQ : List V := mM ++ [.str "P", .str "Q"]
def vM : List V := sM ++ (eM ++ (mQ ++ xM))
/-- what the texts of a listed field are drawn from -/
inductive LX where
  | lst (xs : List V)
  | tup (xs : List V)
  | val (v : V)
  deriving DecidableEq
def lM : List LX := [.lst [.str "a"], .lst [.str "a", .str ""], .lst [.str "b", .str "a", .str "ab"], .lst [], .lst [.str "a", .str "a"], .lst [.str "a!"],
  .val (.str "ab"), .val .non, .lst [.str "a", .non], .tup [.str "x", .str "y"], .lst [.str ""], .lst [.int 5]]
def SG : Str := "-./0123456789ABCDEFGHIJKLMNOPQRSTUVWXYZ_abcdefghijklmnopqrstuvwxyz"
def DG : Str := "0123456789"

/-- text.strip(signs) == '' -/
def madeB (a b : Str) : Bool := decide (V.str (Txt.stripChars a b) = V.str "")
/-- c in z, c one sign -/
def inB (c z : Str) : Bool := decide (c.cps.getD 0 0 ∈ z.cps.toList)
def isSignB : V → Bool
  | .str z => (z.length == 1) && inB z SG
  | _ => false
def areB : V → Bool
  | .str z => madeB z SG
  | _ => false
def sgB : V → Bool
  | .str z => z.cps.toList.all fun c => decide (c ∈ SG.cps.toList)
  | _ => false
def numB : V → Bool
  | .int _ => true
  | _ => false
def lenV : V → Nat
  | .str z => z.length
  | _ => 0
/-- signs that stand twice -/
def twB : V → Bool
  | .str z => decide ((newS (fun i => ⟨#[z.cps.getD i 0]⟩) z.cps.size : Nat) < z.length)
  | _ => false
def sBad (v : V) : Bool := !areB v || (decide (v = .str "") || twB v)
def ltV : V → V → Bool
  | .int a, .int b => decide (a < b)
  | _, _ => false
def bDue (l m : V) : Option Str :=
  if (!numB l || ltV l (.int 0)) = true then some "least" else if (!decide (m = .non) && (!numB m || ltV m l)) = true then some "most" else none
def wDue (w : V) : Option Str := if (!numB w || ltV w (.int 1)) = true then some "width" else none
/-- the texts of a list, if all are texts of signs -/
def strV : V → Str
  | .str z => z
  | _ => ""
def xsBad (xs : List V) : Bool := !xs.all areB || decide ((newS (fun i => (xs.map strV).getD i Str.empty) (xs.map strV).length : Nat) < xs.length)
def lxDue : LX → Option Str
  | .val _ => some "texts"
  | .lst xs => if (decide (xs.length = 0) || xsBad xs) = true then some "texts" else none
  | .tup xs => if (decide (xs.length = 0) || xsBad xs) = true then some "texts" else none
def eDue (s e l m : V) : Option Str :=
  if sBad s = true then some "signs" else if (!isSignB e || inB (strV e) (strV s)) = true then some "sign" else bDue l m
def oDue (s l m : V) : Option Str := if sBad s = true then some "signs" else bDue l m
inductive PD where
  | word (s l m : V)
  | number (l m : V)
  | fixed (w : V)
  | listed (x : LX)
  | ended (s e l m : V)
def PD.due : PD → Option Str
  | .word s l m => oDue s l m
  | .number l m => bDue l m
  | .fixed w => wDue w
  | .listed x => lxDue x
  | .ended s e l m => eDue s e l m
def PD.In : PD → Prop
  | .word s l m => s ∈ sM ∧ l ∈ nM ∧ m ∈ nM
  | .number l m => l ∈ nM ∧ m ∈ hM
  | .fixed w => w ∈ wM
  | .listed x => x ∈ lM
  | .ended s e l m => s ∈ sM ∧ e ∈ eM ∧ l ∈ nM ∧ m ∈ nM
/-- has a sign: what the program asks -/
def dg (n : Int) : Str := Txt.join "" [(toString n : Str)]
def wwB (s m : V) (c : Str) : Bool := inB c (strV s) && !decide (m = .int 0)
def intV : V → Int
  | .int i => i
  | _ => 0
def LX.els : LX → List V
  | .lst xs => xs
  | .tup xs => xs
  | .val _ => []
def PD.has (c : Str) : PD → Bool
  | .word s _ m => wwB s m c
  | .number l m => if (decide (m = .non) || decide (9 ≤ intV m - intV l)) = true then inB c DG else (List.range (intV m + 1 - intV l).toNat).any fun (i : Nat) => inB c (dg (intV l + i))
  | .fixed _ => inB c DG
  | .listed x => x.els.any fun v => inB c (strV v)
  | .ended s e _ m => decide (V.str c = e) || wwB s m c
/-- the texts that hold all signs of a field, as the law has them -/
def PD.held : PD → Str
  | .word s _ m => if (decide (m = .non) || ltV (.int 0) m) = true then strV s else ""
  | .number l m => if (decide (m = .non) || decide (intV l + 10 ≤ intV m)) = true then DG else Txt.join "" ((List.range (intV m + 1 - intV l).toNat).map fun (i : Nat) => (toString (intV l + (i : Int)) : Str))
  | .fixed _ => DG
  | .listed x => Txt.join "" (x.els.map strV)
  | .ended s e _ m => (if (decide (m = .non) || ltV (.int 0) m) = true then strV s else "") ++ strV e
inductive OD where
  | val (v : V)
  | pl (d : PD)
  | mk (n m : V) (i : OD)
def iDue (n m : V) : OD → Option Str
  | .pl d => if (inB (strV n) d.held || inB (strV m) d.held) = true then some "field" else none
  | _ => some "field"
def OD.due : OD → Option Str
  | .val _ => none
  | .pl d => d.due
  | .mk n m i => if (!isSignB n) = true then some "none" else if (!isSignB m || decide (m = n)) = true then some "mark" else iDue n m i
def signs1 : List Str := ["N", "m", "a", "0", "-", "9", "P", "Q"]
theorem vM_facts : ∀ v ∈ vM, flatV v = true ∧ areB v = sgB v ∧ isSignB v = (sgB v && decide (lenV v = 1)) ∧ lenV v ≤ 20 := by decide +kernel
theorem one_sign : ∀ v ∈ vM, lenV v = 1 → v = .str ⟨#[(strV v).cps.getD 0 0]⟩ := by decide +kernel
theorem mM_signs : ∀ v ∈ mQ, isSignB v = true → strV v ∈ signs1 ∧ v = .str (strV v) := by decide +kernel
theorem mk_word : ∀ s ∈ sM, ∀ l ∈ nM, ∀ m ∈ nM, oDue s l m = none → ∀ c ∈ signs1, inB c (PD.held (.word s l m)) = PD.has c (.word s l m) := by decide +kernel
theorem mk_number : ∀ l ∈ nM, ∀ m ∈ hM, bDue l m = none → ∀ c ∈ signs1, inB c (PD.held (.number l m)) = PD.has c (.number l m) := by decide +kernel
theorem mk_listed : ∀ x ∈ lM, lxDue x = none → ∀ c ∈ signs1, inB c (PD.held (.listed x)) = PD.has c (.listed x) := by decide +kernel
theorem mk_ended : ∀ s ∈ sM, ∀ e ∈ eM, ∀ l ∈ nM, ∀ m ∈ nM, eDue s e l m = none → ∀ c ∈ signs1, inB c (PD.held (.ended s e l m)) = PD.has c (.ended s e l m) := by decide +kernel
end L2.K03

set_option Elab.async false
set_option linter.all false
set_option maxRecDepth 100000
set_option maxHeartbeats 4000000
namespace L2.K03
open PySem PySem.W PySem.Spec PySem.Calls PyProof.Rows L2.Jk

def top (i : Nat) : Stmt := PySem.Challenge.pw_jointkeys_k03_fields_refused.main.body.getD i (.Pass ⟨0, 0, 0, 0⟩)


/-! ### the law's own numbers: a list of three -/
def StAt (H : Hp) (a : Addr) : Prop := ∃ p q r : Int, H a = some (.lst [.int p, .int q, .int r]) ∧ 0 ≤ p ∧ 0 ≤ q ∧ q < 2147483700 ∧ 0 ≤ r ∧ r < 2147483700
def spState : Sp := fun vs H Q _ => ∃ n : Int, vs = [.int n] ∧ ∀ a H', H a = none → Same H H' → StAt H' a → Q (.ref a) H'
def spDigit : Sp := fun vs H Q _ => ∃ (a : Addr) (b : Int), vs = [.ref a, .int b] ∧ StAt H a ∧ 0 < b ∧ b < 1073741824 ∧ ∀ d H', 0 ≤ d → d < b → But a H H' → StAt H' a → Q (.int d) H'
theorem state_line (n : Int) : 0 ≤ (if n < 0 then -n else n) * (if decide (10 ^ (18 : Int).toNat ≤ (if n < 0 then -n else n)) = true then 1 else 0) := by
  by_cases h : n < 0
  · simp only [if_pos h]
    split <;> omega
  · simp only [if_neg h]
    split <;> omega

structure Bl (mg : Str → Option Value) : Prop where
  abs : mg "abs" = none
  int : mg "int" = none
  bool : mg "bool" = none
  isinstance : mg "isinstance" = none
  range : mg "range" = none
  len : mg "len" = none
  set : mg "set" = none
  type : mg "type" = none
  str : mg "str" = none
  reversed : mg "reversed" = none
  tuple : mg "tuple" = none
  list : mg "list" = none
  any : mg "any" = none
  all : mg "all" = none

theorem bit_line (c : Prop) [Decidable c] : -(2 ^ 64) < (if c then (1 : Int) else 0) ∧ (if c then (1 : Int) else 0) < 2 ^ 64 := by
  split <;> exact ⟨by decide, by decide⟩
/-- the module's own names, the error class -/
structure G0 (P : Program) (w : World) (K : Frag) (mg : Str → Option Value) (base : Heap) : Prop extends Bl mg where
  sg : ∃ t, mg "SIGNS" = some (.str SG t)
  dgs : ∃ t, mg "DIGITS" = some (.str DG t)
  bf : ErrAt P w K mg base "BadField" (He.ga K "BadField") ["what"] "refused badfield"
abbrev BF (K : Frag) : Addr := He.ga K "BadField"
section
variable {P : Program} {w : World} {K : Frag} {mg : Str → Option Value} {base : Heap} {f : Addr} {fd : FuncData}

abbrev s_state : Stmt := top 25
theorem sc_state : FnScope ["_law_source"] ["_law_source"] (defScope s_state) := ⟨rfl, rfl, rfl, by decide +kernel, rfl, by decide +kernel, by decide +kernel⟩

theorem ok_state (F : FunD K "_law_state" "_law_state" (defArgs s_state) (defBody s_state) (defScope s_state) [] [] f fd) (G : Bl mg) : FnOk P w K mg base CX0 1 f fd ["_law_source"] spState := by
  refine F.ok sc_state (fun vs H Q E h => ?_) (fun cdv A outer s H vs Q E hr h => ?_)
  · obtain ⟨n, rfl, _⟩ := h
    rfl
  · obtain ⟨n, rfl, q⟩ := h
    refine ⟨_, PSs.nox (pss_cons (ps_set (i := 0) sc_state.nd rfl (Or.inl rfl) (pe_callB call_abs (by rfl) G.abs (by decide +kernel) (pa_cons (pv 0) pa_nil)))
    (pss_one (ps_ret (pe_lstS (pa_cons (pe_op op_mul (pv 0) (pe_callTy call_int1 (by rfl) G.int (by decide +kernel) (pa_cons (pe_cmpR op_ge (pv 0) (pe_op op_pow pe_int pe_int) (nomark _)) pa_nil))) (pa_cons (pe_op op_add (pe_op op_mod (pe_callTy call_int1 (by rfl) G.int (by decide +kernel) (pa_cons (pv 0) pa_nil)) pe_int) pe_int) (pa_cons (pe_op op_mod (pe_callTy call_int1 (by rfl) G.int (by decide +kernel) (pa_cons (pv 0) pa_nil)) pe_int) pa_nil))))))), ?_⟩
    refine ⟨_, rfl, n, rfl, ?_⟩
    refine ⟨_, rfl, _, rfl, _, _, rfl, rfl, ⟨by decide, by decide, by decide⟩, _, _, rfl, rfl, .inr ⟨_, rfl, ?_⟩⟩
    refine ⟨_, _, rfl, rfl, .inr (bit_line _), _, rfl, .inl ⟨_, rfl, _, _, rfl, rfl, (by show (0 : Int) < 2147483629; decide), _, _, rfl, rfl, ?_⟩⟩
    refine ⟨_, rfl, .inl ⟨_, rfl, _, _, rfl, rfl, (by show (0 : Int) < 2147483587; decide), ?_⟩⟩
    refine ⟨by show 3 ≤ 1000; decide, fun p H' hp S e => q p H' hp S ⟨_, _, _, e, state_line n, ?_, ?_, ?_, ?_⟩⟩
    · have := Int.emod_nonneg (if n < 0 then -n else n) (show (2147483629 : Int) ≠ 0 by decide)
      omega
    · have := Int.emod_lt_of_pos (if n < 0 then -n else n) (show (0 : Int) < 2147483629 by decide)
      omega
    · exact Int.emod_nonneg _ (by decide)
    · have := Int.emod_lt_of_pos (if n < 0 then -n else n) (show (0 : Int) < 2147483587 by decide)
      omega

abbrev s_digit : Stmt := top 26
theorem sc_digit : FnScope ["_law_state_here", "_law_base", "_law_found", "_law_mixed"] ["_law_state_here", "_law_base"] (defScope s_digit) := ⟨rfl, rfl, rfl, by decide +kernel, rfl, by decide +kernel, by decide +kernel⟩

theorem ok_digit (F : FunD K "_law_digit" "_law_digit" (defArgs s_digit) (defBody s_digit) (defScope s_digit) [] [] f fd) (G : Bl mg) : FnOk P w K mg base CX0 1 f fd ["_law_state_here", "_law_base"] spDigit := by
  refine F.ok sc_digit (fun vs H Q E h => ?_) (fun cdv A outer s H vs Q E hr h => ?_)
  · obtain ⟨a, b, rfl, _⟩ := h
    rfl
  · obtain ⟨a, b, rfl, ⟨x, y, z, ha, hx, hy, hy2, hz, hz2⟩, hb, hb2, q⟩ := h
    refine ⟨_, PSs.nox (pss_cons (ps_if (pt_cmpR op_gt (pe_ix ix_list (pv 0) pe_int (fun _ _ => rfl)) pe_int (nomark _))
      (pss_cons (ps_set (i := 2) sc_digit.nd rfl (Or.inl rfl) (pe_op op_mod (pe_callTy call_int1 (by rfl) G.int (by decide +kernel) (pa_cons (pe_ix ix_list (pv 0) pe_int (fun _ _ => rfl)) pa_nil)) (pv 1)))
      (pss_cons (ps_asg (pe_op op_fdiv (pe_ix ix_list (pv 0) pe_int (fun _ _ => rfl)) (pv 1)) (pg_sub (pv 0) pe_int set_list))
      (pss_one (ps_ret (pv 2)))))
      pss_nil)
    (pss_cons (ps_set (i := 3) sc_digit.nd rfl (Or.inl rfl) (pe_op op_mul (pe_ix ix_list (pv 0) pe_int (fun _ _ => rfl)) (pe_op op_add (pe_op op_fdiv (pe_ix ix_list (pv 0) pe_int (fun _ _ => rfl)) pe_int) pe_int)))
    (pss_cons (ps_asg (pe_op op_add (pe_op op_mod (pe_callTy call_int1 (by rfl) G.int (by decide +kernel) (pa_cons (pe_op op_add (pv 3) (pe_ix ix_list (pv 0) pe_int (fun _ _ => rfl))) pa_nil)) pe_int) pe_int) (pg_sub (pv 0) pe_int set_list))
    (pss_one (ps_ret (pe_op op_mod (pe_callTy call_int1 (by rfl) G.int (by decide +kernel) (pa_cons (pe_op op_fdiv (pe_ix ix_list (pv 0) pe_int (fun _ _ => rfl)) pe_int) pa_nil)) (pv 1))))))), ?_⟩
    refine ⟨_, rfl, _, _, _, _, rfl, rfl, SqL.of ha, atI_nat (j := 0) rfl, _, _, rfl, rfl, _, rfl, ?_⟩
    refine ite2 (fun h0 => ?_) (fun h0 => ?_)
    · refine ⟨_, rfl, _, _, _, _, rfl, rfl, SqL.of ha, atI_nat (j := 0) rfl, .inl ⟨_, rfl, _, rfl, _, _, rfl, rfl, hb, ?_⟩⟩
      refine ⟨_, rfl, _, _, _, _, rfl, rfl, SqL.of ha, atI_nat (j := 0) rfl, _, rfl, _, _, rfl, rfl, ⟨hb, hb2⟩, ?_⟩
      refine ⟨_, rfl, _, _, _, 0, rfl, rfl, ha, rfl, ?_⟩
      refine ⟨_, rfl, q _ _ (Int.emod_nonneg _ (by omega)) (Int.emod_lt_of_pos _ hb) (but_upd _ _ _) ⟨_, _, _, upd_same, Int.ediv_nonneg hx (by omega), hy, hy2, hz, hz2⟩⟩
    · refine ⟨_, rfl, _, _, _, _, rfl, rfl, SqL.of ha, atI_nat (j := 1) rfl, _, rfl, _, _, _, _, rfl, rfl, SqL.of ha, atI_nat (j := 1) rfl, _, _, rfl, rfl, ⟨by decide, by decide⟩, _, _, rfl, rfl, _, _, rfl, rfl, .inl ⟨by omega, by omega⟩, ?_⟩
      refine ⟨_, rfl, _, rfl, _, _, _, _, rfl, rfl, SqL.of ha, atI_nat (j := 2) rfl, _, _, rfl, rfl, .inl ⟨_, rfl, _, _, rfl, rfl, (by show (0 : Int) < 2147483629; decide), _, _, rfl, rfl, ?_⟩⟩
      refine ⟨_, rfl, _, _, _, 1, rfl, rfl, ha, rfl, ?_⟩
      refine ⟨_, rfl, _, _, _, _, rfl, rfl, SqL.of upd_same, atI_nat (j := 1) rfl, _, _, rfl, rfl, ⟨by decide, by decide⟩, .inl ⟨_, rfl, _, rfl, _, _, rfl, rfl, hb, ?_⟩⟩
      have m1 := Int.emod_nonneg (y * (y / 1009 + 69621) + z) (show (2147483629 : Int) ≠ 0 by decide)
      have m2 := Int.emod_lt_of_pos (y * (y / 1009 + 69621) + z) (show (0 : Int) < 2147483629 by decide)
      exact q _ _ (Int.emod_nonneg _ (by omega)) (Int.emod_lt_of_pos _ hb) (but_upd _ _ _) ⟨_, _, _, upd_same, hx, by omega, by omega, hz, hz2⟩


theorem pe_sg {X : Cx} {x : Str} {z : Str} {pos : Pos} (h : ∃ t, X.mg x = some (.str z t)) (hg : Gl X x := by rfl) (hd : (x == ("__debug__" : Str)) = false := by decide) : PE X (.Name x pos) (tC (.str z)) := by
  obtain ⟨t, h⟩ := h
  exact pe_glob (v := .str z) hg h ⟨t, rfl⟩ hd

def spMade : Sp := fun vs H Q _ => ∃ a b : Str, vs = [.str a, .str b] ∧ a.length ≤ 1000 ∧ Q (.bl (madeB a b)) H
def spV (p : V → Bool) : Sp := fun vs H Q _ => ∃ v : V, vs = [v] ∧ v ∈ vM ∧ Q (.bl (p v)) H
def spNum : Sp := fun vs H Q _ => ∃ v : V, vs = [v] ∧ flatV v = true ∧ Q (.bl (numB v)) H
def spDig : Sp := fun vs H Q _ => ∃ n : Int, vs = [.int n] ∧ 0 ≤ n ∧ n < 32 ∧ ∀ H', Same H H' → Q (.str (dg n)) H'
theorem small_line (z : Str) (h : z.length ≤ 1000) : z.length ≤ sizeLine := by
  rw [sizeLine_eq]
  omega

abbrev s_made_of : Stmt := top 7
theorem sc_made_of : FnScope ["text", "signs"] ["text", "signs"] (defScope s_made_of) := ⟨rfl, rfl, rfl, by decide +kernel, rfl, by decide +kernel, by decide +kernel⟩

theorem ok_made_of (F : FunD K "is_made_of" "is_made_of" (defArgs s_made_of) (defBody s_made_of) (defScope s_made_of) [] [] f fd) (G : G0 P w K mg base) : FnOk P w K mg base CX0 1 f fd ["text", "signs"] spMade := by
  refine F.ok (CX := CX0) sc_made_of (fun vs H Q E h => ?_) (fun cdv A outer s H vs Q E hr h => ?_)
  · obtain ⟨a, b, rfl, _⟩ := h
    rfl
  · refine ⟨_, PSs.nox (pss_one (ps_ret (pe_cmpR op_eq (pe_bm PySem.F.plainAttrs_str PySem.F.slot_str_strip PySem.F.type_str_strip mt_stripChars (pv 0) (pa_cons (pv 1) pa_nil)) pe_str (nomark _)))), ?_⟩
    obtain ⟨a, b, rfl, hz, q⟩ := h
    exact ⟨_, rfl, rfl, _, rfl, a, b, rfl, rfl, small_line a hz, rfl, q⟩

abbrev s_is_sign : Stmt := top 8
theorem sc_is_sign : FnScope ["thing"] ["thing"] (defScope s_is_sign) := ⟨rfl, rfl, rfl, by decide +kernel, rfl, by decide +kernel, by decide +kernel⟩

theorem ok_is_sign (F : FunD K "is_sign" "is_sign" (defArgs s_is_sign) (defBody s_is_sign) (defScope s_is_sign) [] [] f fd) (G : G0 P w K mg base) : FnOk P w K mg base CX0 1 f fd ["thing"] (spV isSignB) := by
  refine F.ok (CX := CX0) sc_is_sign (fun vs H Q E h => ?_) (fun cdv A outer s H vs Q E hr h => ?_)
  · obtain ⟨v, rfl, _⟩ := h
    rfl
  · refine ⟨_, PSs.nox (pss_one (ps_ret (pe_and (pe_callB call_ie (by rfl) G.isinstance (by decide +kernel) (pa_cons (pv 0) (pa_cons (pe_bty (n := "str") (by rfl) G.str (by decide +kernel)) pa_nil))) (pe_and (pe_cmpR op_eq (pe_callB call_len_str (by rfl) G.len (by decide +kernel) (pa_cons (pv 0) pa_nil)) pe_int (nomark _)) (pe_one (pe_cmpR op_in_sign (pv 0) (pe_sg G.sg) (by rfl))))))), ?_⟩
    obtain ⟨v, rfl, hv, q⟩ := h
    obtain ⟨hf, _, _, hz⟩ := vM_facts v hv
    refine ⟨_, rfl, _, _, _, _, _, rfl, .ty _, flat_ty hf, kit_ty (kit_str hf), _, rfl, ?_⟩
    cases v with
    | str z =>
      refine iteT ⟨_, rfl, z, rfl, small_line z (Nat.le_trans hz (by decide)), rfl, _, rfl, ?_⟩
      refine ite2 (fun h1 => ?_) (fun h1 => ?_)
      · have h1' : z.length = 1 := by have := of_decide_eq_true h1; simp at this; omega
        have e := one_sign (.str z) hv h1'
        refine ⟨_, rfl, _, SG, e, rfl, ?_⟩
        have r : isSignB (.str z) = decide (z.cps.getD 0 0 ∈ SG.cps.toList) := by show ((z.length == 1) && inB z SG) = _; rw [h1']; rfl
        rw [r] at q
        exact q
      · have h1' : z.length ≠ 1 := fun e => h1 (by rw [e]; rfl)
        have r : isSignB (.str z) = false := by show ((z.length == 1) && inB z SG) = _; rw [beq_eq_false_iff_ne.mpr h1']; rfl
        rw [r] at q
        exact q
    | non => exact iteF q
    | bl b => exact iteF q
    | int i => exact iteF q
    | _ => cases hf

abbrev s_is_number : Stmt := top 11
theorem sc_is_number : FnScope ["thing"] ["thing"] (defScope s_is_number) := ⟨rfl, rfl, rfl, by decide +kernel, rfl, by decide +kernel, by decide +kernel⟩

theorem ok_is_number (F : FunD K "is_number" "is_number" (defArgs s_is_number) (defBody s_is_number) (defScope s_is_number) [] [] f fd) (G : G0 P w K mg base) : FnOk P w K mg base CX0 1 f fd ["thing"] spNum := by
  refine F.ok (CX := CX0) sc_is_number (fun vs H Q E h => ?_) (fun cdv A outer s H vs Q E hr h => ?_)
  · obtain ⟨v, rfl, _⟩ := h
    rfl
  · refine ⟨_, PSs.nox (pss_one (ps_ret (pe_and (pe_callB call_ie (by rfl) G.isinstance (by decide +kernel) (pa_cons (pv 0) (pa_cons (pe_bty (n := "int") (by rfl) G.int (by decide +kernel)) pa_nil))) (pe_one (pe_not (pe_callB call_ie (by rfl) G.isinstance (by decide +kernel) (pa_cons (pv 0) (pa_cons (pe_bty (n := "bool") (by rfl) G.bool (by decide +kernel)) pa_nil)))))))), ?_⟩
    obtain ⟨v, rfl, hf, q⟩ := h
    refine ⟨_, rfl, _, _, _, _, _, rfl, .ty _, flat_ty hf, kit_ty (kit_int hf), _, rfl, ?_⟩
    cases v with
    | non => exact iteF q
    | str z => exact iteF q
    | bl b => exact iteT ⟨_, rfl, _, _, _, _, _, rfl, .ty _, flat_ty hf, kit_ty (kit_bool hf), _, rfl, q⟩
    | int i => exact iteT ⟨_, rfl, _, _, _, _, _, rfl, .ty _, flat_ty hf, kit_ty (kit_bool hf), _, rfl, q⟩
    | _ => cases hf

theorem dg_ok : ∀ n ∈ List.range 32, JoinOk "" [(toString (n : Int) : Str)] = true := by decide +kernel
theorem dg_log : ∀ n ∈ List.range 32, (n : Int).natAbs.log2 < 1920 := by decide +kernel

abbrev s_digits_of : Stmt := top 12
theorem sc_digits_of : FnScope ["number", "limit", "pieces", "piece"] ["number"] (defScope s_digits_of) := ⟨rfl, rfl, rfl, by decide +kernel, rfl, by decide +kernel, by decide +kernel⟩

theorem ok_digits_of (F : FunD K "digits_of" "digits_of" (defArgs s_digits_of) (defBody s_digits_of) (defScope s_digits_of) [] [] f fd) (G : G0 P w K mg base) : FnOk P w K mg base CX0 1 f fd ["number"] spDig := by
  refine F.ok (CX := CX0) sc_digits_of (fun vs H Q E h => ?_) (fun cdv A outer s H vs Q E hr h => ?_)
  · obtain ⟨n, rfl, _⟩ := h
    rfl
  · refine ⟨_, PSs.nox (pss_cons (ps_set (i := 1) sc_digits_of.nd rfl (Or.inl rfl) (pe_op op_pow pe_int pe_int))
    (pss_cons (ps_set (i := 2) sc_digits_of.nd rfl (Or.inl rfl) (pe_lstS pa_nil))
    (pss_cons (ps_while PassesOwn.never (pt_cmpR op_ge (pv 0) (pv 1) (nomark _)) pss_never)
    (pss_cons (ps_expr (pe_bm PySem.F.plainAttrs_list PySem.F.slot_list_append PySem.F.type_list_append mt_append (pv 2) (pa_cons (pe_callTy call_str_int (by rfl) G.str (by decide +kernel) (pa_cons (pv 0) pa_nil)) pa_nil)))
    (pss_one (ps_ret (pe_joinRev rfl (by rfl) G.reversed pe_str (pv 2)))))))), ?_⟩
    obtain ⟨n, rfl, h0, h1, q⟩ := h
    obtain ⟨k, rfl⟩ : ∃ k : Nat, n = (k : Int) := ⟨n.toNat, by omega⟩
    have hk : k ∈ List.range 32 := List.mem_range.mpr (by omega)
    refine ⟨_, _, rfl, rfl, ⟨by decide, by decide, by decide⟩, ?_⟩
    refine ⟨by show 0 ≤ 1000; decide, fun p H1 hp S e => ?_⟩
    refine ⟨fun m σ' H' => m = 0 ∧ σ' = [some (.int (k : Int)), some (.int (10 ^ (64 : Int).toNat)), some (.ref p), none] ∧ H' = H1, ⟨0, rfl, rfl, rfl⟩, ?_⟩
    rintro m σ' H' ⟨rfl, rfl, rfl⟩
    refine ⟨_, rfl, _, rfl, _, _, rfl, rfl, _, rfl, ?_⟩
    refine ite2 (fun hf => ?_) (fun _ => ?_)
    · have z := of_decide_eq_true hf
      have e : (10 : Int) ^ (64 : Int).toNat = 10000000000000000000000000000000000000000000000000000000000000000 := by decide +kernel
      rw [e] at z
      omega
    refine ⟨_, rfl, .inl ⟨rfl, _, SqL.of e⟩, _, rfl, _, rfl, dg_log k hk, p, _, _, rfl, rfl, e, (by rw [sizeLine_eq]; decide), ?_⟩
    refine ⟨_, rfl, _, rfl, p, [(toString (k : Int) : Str)], rfl, SqL.of upd_same, dg_ok k hk, ?_⟩
    exact q _ (same_put S hp)

structure G1 (P : Program) (w : World) (K : Frag) (mg : Str → Option Value) (base : Heap) : Prop extends G0 P w K mg base where
  is_made_of : FnAt P w K mg base CX0 1 "is_made_of" ["text", "signs"] spMade
  is_sign : FnAt P w K mg base CX0 1 "is_sign" ["thing"] (spV isSignB)
  is_number : FnAt P w K mg base CX0 1 "is_number" ["thing"] spNum
  digits_of : FnAt P w K mg base CX0 1 "digits_of" ["number"] spDig

abbrev s_are_signs : Stmt := top 9
theorem sc_are_signs : FnScope ["thing"] ["thing"] (defScope s_are_signs) := ⟨rfl, rfl, rfl, by decide +kernel, rfl, by decide +kernel, by decide +kernel⟩

theorem ok_are_signs (F : FunD K "are_signs" "are_signs" (defArgs s_are_signs) (defBody s_are_signs) (defScope s_are_signs) [] [] f fd) (G : G1 P w K mg base) : FnOk P w K mg base CX0 2 f fd ["thing"] (spV areB) := by
  refine F.ok (CX := CX0) sc_are_signs (fun vs H Q E h => ?_) (fun cdv A outer s H vs Q E hr h => ?_)
  · obtain ⟨v, rfl, _⟩ := h
    rfl
  · refine ⟨_, PSs.nox (pss_one (ps_ret (pe_and (pe_callB call_ie (by rfl) G.isinstance (by decide +kernel) (pa_cons (pv 0) (pa_cons (pe_bty (n := "str") (by rfl) G.str (by decide +kernel)) pa_nil))) (pe_one (pe_fn G.is_made_of hr pass0 (by rfl) (pa_cons (pv 0) (pa_cons (pe_sg G.sg) pa_nil))))))), ?_⟩
    obtain ⟨v, rfl, hv, q⟩ := h
    obtain ⟨hf, _, _, hz⟩ := vM_facts v hv
    refine ⟨_, rfl, _, _, _, _, _, rfl, .ty _, flat_ty hf, kit_ty (kit_str hf), _, rfl, ?_⟩
    cases v with
    | str z => exact iteT ⟨_, rfl, z, SG, rfl, Nat.le_trans hz (by decide), q⟩
    | non => exact iteF q
    | bl b => exact iteF q
    | int i => exact iteF q
    | _ => cases hf

structure G2 (P : Program) (w : World) (K : Frag) (mg : Str → Option Value) (base : Heap) : Prop extends G1 P w K mg base where
  are_signs : FnAt P w K mg base CX0 2 "are_signs" ["thing"] (spV areB)
def spChkS (K : Frag) : Sp := fun vs H Q E => ∃ v : V, vs = [v] ∧ v ∈ sM ∧ (sBad v = false → Q .non H) ∧ (sBad v = true → RaiseE (BF K) "what" (.str "signs") H E)
def spChkB (K : Frag) : Sp := fun vs H Q E => ∃ l m : V, vs = [l, m] ∧ flatV l = true ∧ flatV m = true ∧ (bDue l m = none → Q .non H) ∧ (∀ z, bDue l m = some z → RaiseE (BF K) "what" (.str z) H E)
theorem sM_vM {v : V} (h : v ∈ sM) : v ∈ vM := List.mem_append_left _ h

abbrev s_check_signs : Stmt := top 14
theorem sc_check_signs : FnScope ["signs"] ["signs"] (defScope s_check_signs) := ⟨rfl, rfl, rfl, by decide +kernel, rfl, by decide +kernel, by decide +kernel⟩

theorem ok_check_signs (F : FunD K "check_signs" "check_signs" (defArgs s_check_signs) (defBody s_check_signs) (defScope s_check_signs) [] [] f fd) (G : G2 P w K mg base) : FnOk P w K mg base (L2.CX P w) 3 f fd ["signs"] (spChkS K) := by
  refine F.ok (CX := (L2.CX P w)) sc_check_signs (fun vs H Q E h => ?_) (fun cdv A outer s H vs Q E hr h => ?_)
  · obtain ⟨v, rfl, _⟩ := h
    rfl
  · have hr2 : Room 2 _ := hr
    refine ⟨_, (pss_one (ps_if (PW.pt (pw_or (pt_not (pt_val (pe_fn G.are_signs hr2 pass0 (by rfl) (pa_cons (pv 0) pa_nil)))) (pw_or (pt_cmpR op_eq (pv 0) pe_str (nomark _)) (pw_or1 (pt_cmpR op_lt (pe_lenSetStr rfl (by rfl) G.len (by rfl) G.set (pv 0)) (pe_callB call_len_str (by rfl) G.len (by decide +kernel) (pa_cons (pv 0) pa_nil)) (nomark _))))))
      (pss_one (ps_raise rfl (takes_of rfl rfl rfl rfl) (pmk_1 G.bf hr2 (by rfl) (pa_cons pe_str pa_nil))))
      pss_nil)), ?_⟩
    obtain ⟨v, rfl, hv, q1, q2⟩ := h
    obtain ⟨hf, _, _, hz⟩ := vM_facts v (sM_vM hv)
    refine ⟨_, rfl, v, rfl, sM_vM hv, _, rfl, ?_⟩
    have bad : ∀ h : sBad v = true, _ := fun h => mkO_1 (q2 h)
    show if (!areB v) = true then _ else _
    refine ite2 (fun h1 => bad (by show (!areB v || _) = true; rw [h1]; rfl)) (fun h1 => ?_)
    cases v with
    | str z =>
      refine ⟨_, rfl, rfl, _, rfl, ?_⟩
      refine ite2 (fun h2 => bad (by show (_ || (decide _ || _)) = true; rw [h2]; exact Bool.or_true _)) (fun h2 => ?_)
      refine ⟨_, rfl, z, rfl, Nat.le_trans hz (by decide), _, rfl, z, rfl, small_line z (Nat.le_trans hz (by decide)), _, _, rfl, rfl, _, rfl, ?_⟩
      refine ite2 (fun h3 => bad ?_) (fun h3 => q1 ?_)
      · have h4 : twB (.str z) = true := decide_eq_true (by have := of_decide_eq_true h3; omega)
        show (_ || (_ || twB (.str z))) = true
        rw [h4, Bool.or_true, Bool.or_true]
      · have h4 : twB (.str z) = false := decide_eq_false (fun h => h3 (decide_eq_true (by omega)))
        show (!areB (.str z) || (decide (V.str z = .str "") || twB (.str z))) = false
        rw [h4, Bool.eq_false_iff.mpr h1, Bool.eq_false_iff.mpr h2]
        rfl
    | _ => exact absurd rfl h1

abbrev s_check_span : Stmt := top 15
theorem sc_check_span : FnScope ["least", "most"] ["least", "most"] (defScope s_check_span) := ⟨rfl, rfl, rfl, by decide +kernel, rfl, by decide +kernel, by decide +kernel⟩

theorem ok_check_span (F : FunD K "check_span" "check_span" (defArgs s_check_span) (defBody s_check_span) (defScope s_check_span) [] [] f fd) (G : G2 P w K mg base) : FnOk P w K mg base (L2.CX P w) 3 f fd ["least", "most"] (spChkB K) := by
  refine F.ok (CX := (L2.CX P w)) sc_check_span (fun vs H Q E h => ?_) (fun cdv A outer s H vs Q E hr h => ?_)
  · obtain ⟨l, m, rfl, _⟩ := h
    rfl
  · have hr2 : Room 2 _ := hr
    refine ⟨_, (pss_cons (ps_if (PW.pt (pw_or (pt_not (pt_val (pe_fn G.is_number (hr2.mono (by decide)) pass0 (by rfl) (pa_cons (pv 0) pa_nil)))) (pw_or1 (pt_cmpR op_lt (pv 0) pe_int (nomark _)))))
      (pss_one (ps_raise rfl (takes_of rfl rfl rfl rfl) (pmk_1 G.bf hr2 (by rfl) (pa_cons pe_str pa_nil))))
      pss_nil)
    (pss_one (ps_if (PW.pt (pw_and (pt_cmpR op_notN (pv 1) pe_non (nomark _)) (pw_and1 (PW.pt (pw_or (pt_not (pt_val (pe_fn G.is_number (hr2.mono (by decide)) pass0 (by rfl) (pa_cons (pv 1) pa_nil)))) (pw_or1 (pt_cmpR op_lt (pv 1) (pv 0) (nomark _))))))))
      (pss_one (ps_raise rfl (takes_of rfl rfl rfl rfl) (pmk_1 G.bf hr2 (by rfl) (pa_cons pe_str pa_nil))))
      pss_nil))), ?_⟩
    obtain ⟨l, m, rfl, hl, hm, q1, q2⟩ := h
    refine ⟨_, rfl, l, rfl, hl, _, rfl, ?_⟩
    show if (!numB l) = true then _ else _
    refine ite2 (fun h1 => mkO_1 (q2 _ (by show (if (!numB l || _) = true then _ else _) = _; rw [h1]; rfl))) (fun h1 => ?_)
    cases l with
    | int i =>
      refine ⟨_, rfl, _, _, rfl, rfl, _, rfl, ?_⟩
      refine ite2 (fun h2 => mkO_1 (q2 _ (by show (if (_ || decide (i < 0)) = true then _ else _) = _; rw [h2]; rfl))) (fun h2 => ?_)
      refine ⟨_, rfl, rfl, _, rfl, ?_⟩
      have e0 : bDue (.int i) m = if (!decide (m = .non) && (!numB m || ltV m (.int i))) = true then (some "most" : Option Str) else none := by
        show (if (!true || decide (i < 0)) = true then _ else _) = _
        rw [Bool.eq_false_iff.mpr h2]
        rfl
      rw [e0] at q1 q2
      refine ite2 (fun h3 => ?_) (fun h3 => q1 (by rw [Bool.eq_false_iff.mpr h3]; rfl))
      refine ⟨_, rfl, m, rfl, hm, _, rfl, ?_⟩
      show if (!numB m) = true then _ else _
      refine ite2 (fun h4 => mkO_1 (q2 _ (by rw [h3, h4]; rfl))) (fun h4 => ?_)
      cases m with
      | int j =>
        refine ⟨_, rfl, _, rfl, _, _, rfl, rfl, _, rfl, ?_⟩
        refine ite2 (fun h5 => mkO_1 (q2 _ (by show (if (_ && (_ || decide (j < i))) = true then _ else _) = _; rw [h3, h5]; rfl))) (fun h5 => q1 (by show (if (_ && (!true || decide (j < i))) = true then _ else _) = _; rw [h3, Bool.eq_false_iff.mpr h5]; rfl))
      | _ => exact absurd rfl h4
    | _ => exact absurd rfl h1

def spHww (K : Frag) : Sp := fun vs H Q _ => ∃ (a C dx : Addr) (fs : List (Str × V)) (c : Nat) (z : Str) (m : V), vs = [.ref a, .str ⟨#[c]⟩] ∧ H a = some (.ins C dx fs) ∧ Cls K C ∧ NoAttr K C "signs" ∧ NoAttr K C "most" ∧ fs.lookup ("signs" : Str) = some (.str z) ∧ fs.lookup ("most" : Str) = some m ∧
  scal m (.int 0) = true ∧ Q (.bl (wwB (.str z) m ⟨#[c]⟩)) H

abbrev s_has_words : Stmt := top 16
theorem sc_has_words : FnScope ["field", "sign"] ["field", "sign"] (defScope s_has_words) := ⟨rfl, rfl, rfl, by decide +kernel, rfl, by decide +kernel, by decide +kernel⟩

theorem ok_has_words (F : FunD K "has_words_with" "has_words_with" (defArgs s_has_words) (defBody s_has_words) (defScope s_has_words) [] [] f fd) (G : G0 P w K mg base) : FnOk P w K mg base CX0 1 f fd ["field", "sign"] (spHww K) := by
  refine F.ok (CX := CX0) sc_has_words (fun vs H Q E h => ?_) (fun cdv A outer s H vs Q E hr h => ?_)
  · obtain ⟨a, C, dx, fs, c, z, m, rfl, _⟩ := h
    rfl
  · refine ⟨_, PSs.nox (pss_one (ps_ret (pe_and (pe_cmpR op_in_sign (pv 1) (pe_fld (pv 0) rfl) (by rfl)) (pe_one (pe_cmpR op_ne (pe_fld (pv 0) rfl) pe_int (nomark _)))))), ?_⟩
    obtain ⟨a, C, dx, fs, c, z, m, rfl, ha, hC, n1, n2, l1, l2, sc, q⟩ := h
    refine ⟨_, rfl, _, rfl, a, C, dx, fs, _, rfl, ha, hC, n1, l1, c, z, rfl, rfl, _, rfl, ?_⟩
    refine ite2 (fun h1 => ?_) (fun h1 => ?_)
    · refine ⟨_, rfl, a, C, dx, fs, _, rfl, ha, hC, n2, l2, sc, ?_⟩
      have e : wwB (.str z) m ⟨#[c]⟩ = !decide (m = .int 0) := by show (decide (c ∈ z.cps.toList) && _) = _; rw [h1]; rfl
      rw [e] at q
      exact q
    · have e : wwB (.str z) m ⟨#[c]⟩ = false := by show (decide (c ∈ z.cps.toList) && _) = _; rw [Bool.eq_false_iff.mpr h1]; rfl
      rw [e] at q
      exact q

end
end L2.K03

set_option Elab.async false
set_option linter.all false
set_option maxRecDepth 100000
set_option maxHeartbeats 4000000
namespace L2.K03
open PySem PySem.W PySem.Spec PySem.Calls PyProof.Rows L2.Jk
section
variable {P : Program} {w : World} {K : Frag} {mg : Str → Option Value} {base : Heap} {f : Addr} {fd : FuncData}

/-- a field class: its name, its attributes -/
structure C0 (K : Frag) (mg : Str → Option Value) (x : Str) (fs : List Str) : Prop where
  mgC : mg x = some (.ref (He.ga K x))
  cl : Cls K (He.ga K x)
  no : ∀ f ∈ fs, NoAttr K (He.ga K x) f

def fWord (s l m : V) : List (Str × V) := (putF "most" m (putF "least" l (putF "signs" s [])))
theorem lWord_signs {s l m : V} : (fWord s l m).lookup ("signs" : Str) = some s := by unfold fWord; rw [lookup_putF, if_neg (by decide +kernel)]; rw [lookup_putF, if_neg (by decide +kernel)]; rw [lookup_putF, if_pos rfl]
theorem lWord_least {s l m : V} : (fWord s l m).lookup ("least" : Str) = some l := by unfold fWord; rw [lookup_putF, if_neg (by decide +kernel)]; rw [lookup_putF, if_pos rfl]
theorem lWord_most {s l m : V} : (fWord s l m).lookup ("most" : Str) = some m := by unfold fWord; rw [lookup_putF, if_pos rfl]
theorem lWord_hs {s l m : V} : (fWord s l m).lookup ("has_sign" : Str) = none := by unfold fWord; rw [lookup_putF, if_neg (by decide +kernel)]; rw [lookup_putF, if_neg (by decide +kernel)]; rw [lookup_putF, if_neg (by decide +kernel)]; rfl
def fNumber (l m : V) : List (Str × V) := (putF "most" m (putF "least" l []))
theorem lNumber_least {l m : V} : (fNumber l m).lookup ("least" : Str) = some l := by unfold fNumber; rw [lookup_putF, if_neg (by decide +kernel)]; rw [lookup_putF, if_pos rfl]
theorem lNumber_most {l m : V} : (fNumber l m).lookup ("most" : Str) = some m := by unfold fNumber; rw [lookup_putF, if_pos rfl]
theorem lNumber_hs {l m : V} : (fNumber l m).lookup ("has_sign" : Str) = none := by unfold fNumber; rw [lookup_putF, if_neg (by decide +kernel)]; rw [lookup_putF, if_neg (by decide +kernel)]; rfl
def fFixed (w : V) : List (Str × V) := (putF "width" w [])
theorem lFixed_width {w : V} : (fFixed w).lookup ("width" : Str) = some w := by unfold fFixed; rw [lookup_putF, if_pos rfl]
theorem lFixed_hs {w : V} : (fFixed w).lookup ("has_sign" : Str) = none := by unfold fFixed; rw [lookup_putF, if_neg (by decide +kernel)]; rfl
def fListed (x : V) : List (Str × V) := (putF "texts" x [])
theorem lListed_texts {x : V} : (fListed x).lookup ("texts" : Str) = some x := by unfold fListed; rw [lookup_putF, if_pos rfl]
theorem lListed_hs {x : V} : (fListed x).lookup ("has_sign" : Str) = none := by unfold fListed; rw [lookup_putF, if_neg (by decide +kernel)]; rfl
def fEnded (s e l m : V) : List (Str × V) := (putF "most" m (putF "least" l (putF "sign" e (putF "signs" s []))))
theorem lEnded_signs {s e l m : V} : (fEnded s e l m).lookup ("signs" : Str) = some s := by unfold fEnded; rw [lookup_putF, if_neg (by decide +kernel)]; rw [lookup_putF, if_neg (by decide +kernel)]; rw [lookup_putF, if_neg (by decide +kernel)]; rw [lookup_putF, if_pos rfl]
theorem lEnded_sign {s e l m : V} : (fEnded s e l m).lookup ("sign" : Str) = some e := by unfold fEnded; rw [lookup_putF, if_neg (by decide +kernel)]; rw [lookup_putF, if_neg (by decide +kernel)]; rw [lookup_putF, if_pos rfl]
theorem lEnded_least {s e l m : V} : (fEnded s e l m).lookup ("least" : Str) = some l := by unfold fEnded; rw [lookup_putF, if_neg (by decide +kernel)]; rw [lookup_putF, if_pos rfl]
theorem lEnded_most {s e l m : V} : (fEnded s e l m).lookup ("most" : Str) = some m := by unfold fEnded; rw [lookup_putF, if_pos rfl]
theorem lEnded_hs {s e l m : V} : (fEnded s e l m).lookup ("has_sign" : Str) = none := by unfold fEnded; rw [lookup_putF, if_neg (by decide +kernel)]; rw [lookup_putF, if_neg (by decide +kernel)]; rw [lookup_putF, if_neg (by decide +kernel)]; rw [lookup_putF, if_neg (by decide +kernel)]; rfl
def fMarked (n k y : V) : List (Str × V) := (putF "field" y (putF "mark" k (putF "none" n [])))
theorem lMarked_none {n k y : V} : (fMarked n k y).lookup ("none" : Str) = some n := by unfold fMarked; rw [lookup_putF, if_neg (by decide +kernel)]; rw [lookup_putF, if_neg (by decide +kernel)]; rw [lookup_putF, if_pos rfl]
theorem lMarked_mark {n k y : V} : (fMarked n k y).lookup ("mark" : Str) = some k := by unfold fMarked; rw [lookup_putF, if_neg (by decide +kernel)]; rw [lookup_putF, if_pos rfl]
theorem lMarked_field {n k y : V} : (fMarked n k y).lookup ("field" : Str) = some y := by unfold fMarked; rw [lookup_putF, if_pos rfl]
theorem lMarked_hs {n k y : V} : (fMarked n k y).lookup ("has_sign" : Str) = none := by unfold fMarked; rw [lookup_putF, if_neg (by decide +kernel)]; rw [lookup_putF, if_neg (by decide +kernel)]; rw [lookup_putF, if_neg (by decide +kernel)]; rfl

/-- the field d stands at a -/
def FieldAt (K : Frag) (H : Hp) (a : Addr) : PD → Prop
  | .word s l m => ∃ dx, H a = some (.ins (He.ga K "Word") dx (fWord s l m))
  | .number l m => ∃ dx, H a = some (.ins (He.ga K "Number") dx (fNumber l m))
  | .fixed w => ∃ dx, H a = some (.ins (He.ga K "Fixed") dx (fFixed w))
  | .listed x => ∃ dx t, H a = some (.ins (He.ga K "Listed") dx (fListed (.ref t))) ∧ H t = some (.tup x.els)
  | .ended s e l m => ∃ dx, H a = some (.ins (He.ga K "Ended") dx (fEnded s e l m))
theorem FieldAt.same {H H' : Hp} {a : Addr} (S : Same H H') : ∀ {d : PD}, FieldAt K H a d → FieldAt K H' a d
  | .word .., ⟨dx, h⟩ => ⟨dx, S _ _ h⟩
  | .number .., ⟨dx, h⟩ => ⟨dx, S _ _ h⟩
  | .fixed _, ⟨dx, h⟩ => ⟨dx, S _ _ h⟩
  | .listed _, ⟨dx, t, h, k⟩ => ⟨dx, t, S _ _ h, S _ _ k⟩
  | .ended .., ⟨dx, h⟩ => ⟨dx, S _ _ h⟩
/-- of values that are taken -/
theorem word_due : ∀ s ∈ sM, ∀ l ∈ nM, ∀ m ∈ nM, oDue s l m = none → s = .str (strV s) ∧ scal m (.int 0) = true ∧ (scal s s && (scal l l && scal m m)) = true := by decide +kernel
theorem num_due : ∀ l ∈ nM, ∀ m ∈ hM, bDue l m = none → l = .int (intV l) ∧ (m = .non ∨ m = .int (intV m)) ∧ 0 ≤ intV l ∧ intV l ≤ 12 ∧ 0 ≤ intV m ∧ (intV m ≤ 12 ∨ 110 ≤ intV m ∧ intV m ≤ 999999999) ∧ (scal l l && scal m m) = true := by decide +kernel
theorem fix_due : ∀ w ∈ wM, wDue w = none → scal w w = true := by decide +kernel
theorem lst_due : ∀ x ∈ lM, lxDue x = none → (∀ v ∈ x.els, v = .str (strV v)) ∧ x.els.length ≤ 10 ∧ x.els ≠ [] := by decide +kernel
theorem end_due : ∀ s ∈ sM, ∀ e ∈ eM, ∀ l ∈ nM, ∀ m ∈ nM, eDue s e l m = none → s = .str (strV s) ∧ e = .str ⟨#[(strV e).cps.getD 0 0]⟩ ∧ scal m (.int 0) = true ∧ (scal s s && (scal e e && (scal l l && scal m m))) = true := by decide +kernel
theorem nM_flat : ∀ v ∈ hM, flatV v = true := by decide +kernel
theorem wM_flat : ∀ v ∈ wM, flatV v = true := by decide +kernel
theorem nh {v : V} (h : v ∈ nM) : v ∈ hM := List.mem_append_left _ h
structure G3 (P : Program) (w : World) (K : Frag) (mg : Str → Option Value) (base : Heap) : Prop extends G2 P w K mg base where
  check_signs : FnAt P w K mg base (L2.CX P w) 3 "check_signs" ["signs"] (spChkS K)
  check_span : FnAt P w K mg base (L2.CX P w) 3 "check_span" ["least", "most"] (spChkB K)
  has_words_with : FnAt P w K mg base CX0 1 "has_words_with" ["field", "sign"] (spHww K)
  cWord : C0 K mg "Word" ["signs", "least", "most"]
  cNumber : C0 K mg "Number" ["least", "most"]
  cFixed : C0 K mg "Fixed" ["width"]
  cListed : C0 K mg "Listed" ["texts"]
  cEnded : C0 K mg "Ended" ["signs", "sign", "least", "most"]
  cMarked : C0 K mg "Marked" ["none", "mark", "field"]

def spWord (K : Frag) : Sp := fun vs H Q E => ∃ (a dx : Addr) (s l m : V), vs = [.ref a, s, l, m] ∧ H a = some (.ins (He.ga K "Word") dx []) ∧ s ∈ sM ∧ l ∈ nM ∧ m ∈ nM ∧ (oDue s l m = none → Q .non (upd H a (.ins (He.ga K "Word") dx (fWord s l m)))) ∧
  ∀ z, oDue s l m = some z → RaiseE (BF K) "what" (.str z) H E

abbrev s_Word_init : Stmt := inClass (top 17) 0
theorem sc_Word_init : FnScope ["self", "signs", "least", "most"] ["self", "signs", "least", "most"] (defScope s_Word_init) := ⟨rfl, rfl, rfl, by decide +kernel, rfl, by decide +kernel, by decide +kernel⟩

theorem ok_Word_init (F : FunD K "__init__" "Word.__init__" (defArgs s_Word_init) (defBody s_Word_init) (defScope s_Word_init) [] [] f fd) (G : G3 P w K mg base) : FnOk P w K mg base (L2.CX P w) 4 f fd ["self", "signs", "least", "most"] (spWord K) := by
  refine F.ok (CX := (L2.CX P w)) sc_Word_init (fun vs H Q E h => ?_) (fun cdv A outer s H vs Q E hr h => ?_)
  · obtain ⟨a, dx, s, l, m, rfl, _⟩ := h
    rfl
  · have hr3 : Room 3 _ := hr
    refine ⟨_, (pss_cons (ps_expr (pe_fnS G.check_signs hr3 (fun σ => passAt (takes_of rfl rfl rfl rfl) σ) (by rfl) (pa_cons (pv 1) pa_nil)))
    (pss_cons (ps_expr (pe_fnS G.check_span hr3 (fun σ => passAt (takes_of rfl rfl rfl rfl) σ) (by rfl) (pa_cons (pv 2) (pa_cons (pv 3) pa_nil))))
    (pss_cons (ps_fld (pv 0) (pv 1) rfl)
    (pss_cons (ps_fld (pv 0) (pv 2) rfl)
    (pss_one (ps_fld (pv 0) (pv 3) rfl)))))), ?_⟩
    obtain ⟨a, dx, s, l, m, rfl, ha, hs, hl, hm, q1, q2⟩ := h
    refine ⟨_, rfl, s, rfl, hs, fun e1 => ?_, fun e1 => q2 _ (by unfold oDue; rw [if_pos e1])⟩
    have e0 : oDue s l m = bDue l m := by unfold oDue; rw [e1]; rfl
    rw [e0] at q1 q2
    refine ⟨_, rfl, _, rfl, l, m, rfl, nM_flat l (nh hl), nM_flat m (nh hm), fun e2 => ?_, fun z e2 => q2 z e2⟩
    refine ⟨_, rfl, _, rfl, a, _, dx, _, rfl, ha, G.cWord.cl, G.cWord.no _ (by decide +kernel), (by show 0 < 1000; decide), _, rfl, _, rfl, a, _, dx, _, rfl, upd_same, G.cWord.cl, G.cWord.no _ (by decide +kernel), (by show 1 < 1000; decide), _, rfl, _, rfl, a, _, dx, _, rfl, upd_same, G.cWord.cl, G.cWord.no _ (by decide +kernel), (by show 2 < 1000; decide), ?_⟩
    have z := q1 e2
    show Q .non _
    rw [upd_upd, upd_upd]
    exact z

theorem pi_or {X : Cx} {tg e : Expr} {t1 t2 : TI} (h1 : PI X tg e t1) (h2 : PI X tg e t2) : PI X tg e (fun σ H R => t1 σ H R ∨ t2 σ H R) :=
  ⟨fun pins s σ H R I h => h.elim (h1.run pins s σ H R I) (h2.run pins s σ H R I)⟩
def spNumber (K : Frag) : Sp := fun vs H Q E => ∃ (a dx : Addr) (l m : V), vs = [.ref a, l, m] ∧ H a = some (.ins (He.ga K "Number") dx []) ∧ l ∈ nM ∧ m ∈ hM ∧ (bDue l m = none → Q .non (upd H a (.ins (He.ga K "Number") dx (fNumber l m)))) ∧
  ∀ z, bDue l m = some z → RaiseE (BF K) "what" (.str z) H E

abbrev s_Number_init : Stmt := inClass (top 18) 0
theorem sc_Number_init : FnScope ["self", "least", "most"] ["self", "least", "most"] (defScope s_Number_init) := ⟨rfl, rfl, rfl, by decide +kernel, rfl, by decide +kernel, by decide +kernel⟩

theorem ok_Number_init (F : FunD K "__init__" "Number.__init__" (defArgs s_Number_init) (defBody s_Number_init) (defScope s_Number_init) [] [] f fd) (G : G3 P w K mg base) : FnOk P w K mg base (L2.CX P w) 4 f fd ["self", "least", "most"] (spNumber K) := by
  refine F.ok (CX := (L2.CX P w)) sc_Number_init (fun vs H Q E h => ?_) (fun cdv A outer s H vs Q E hr h => ?_)
  · obtain ⟨a, dx, l, m, rfl, _⟩ := h
    rfl
  · have hr3 : Room 3 _ := hr
    refine ⟨_, (pss_cons (ps_expr (pe_fnS G.check_span hr3 (fun σ => passAt (takes_of rfl rfl rfl rfl) σ) (by rfl) (pa_cons (pv 1) (pa_cons (pv 2) pa_nil))))
    (pss_cons (ps_fld (pv 0) (pv 1) rfl)
    (pss_one (ps_fld (pv 0) (pv 2) rfl)))), ?_⟩
    obtain ⟨a, dx, l, m, rfl, ha, hl, hm, q1, q2⟩ := h
    refine ⟨_, rfl, _, rfl, l, m, rfl, nM_flat l (nh hl), nM_flat m hm, fun e2 => ?_, fun z e2 => q2 z e2⟩
    refine ⟨_, rfl, _, rfl, a, _, dx, _, rfl, ha, G.cNumber.cl, G.cNumber.no _ (by decide +kernel), (by show 0 < 1000; decide), _, rfl, _, rfl, a, _, dx, _, rfl, upd_same, G.cNumber.cl, G.cNumber.no _ (by decide +kernel), (by show 1 < 1000; decide), ?_⟩
    have z := q1 e2
    show Q .non _
    rw [upd_upd]
    exact z

def spFixed (K : Frag) : Sp := fun vs H Q E => ∃ (a dx : Addr) (v : V), vs = [.ref a, v] ∧ H a = some (.ins (He.ga K "Fixed") dx []) ∧ v ∈ wM ∧ (wDue v = none → Q .non (upd H a (.ins (He.ga K "Fixed") dx (fFixed v)))) ∧
  ∀ z, wDue v = some z → RaiseE (BF K) "what" (.str z) H E

abbrev s_Fixed_init : Stmt := inClass (top 19) 0
theorem sc_Fixed_init : FnScope ["self", "width"] ["self", "width"] (defScope s_Fixed_init) := ⟨rfl, rfl, rfl, by decide +kernel, rfl, by decide +kernel, by decide +kernel⟩

theorem ok_Fixed_init (F : FunD K "__init__" "Fixed.__init__" (defArgs s_Fixed_init) (defBody s_Fixed_init) (defScope s_Fixed_init) [] [] f fd) (G : G3 P w K mg base) : FnOk P w K mg base (L2.CX P w) 4 f fd ["self", "width"] (spFixed K) := by
  refine F.ok (CX := (L2.CX P w)) sc_Fixed_init (fun vs H Q E h => ?_) (fun cdv A outer s H vs Q E hr h => ?_)
  · obtain ⟨a, dx, v, rfl, _⟩ := h
    rfl
  · have hr3 : Room 3 _ := hr
    have hr2 : Room 2 _ := hr.mono (by decide)
    refine ⟨_, (pss_cons (ps_if (PW.pt (pw_or (pt_not (pt_val (pe_fn G.is_number (hr2.mono (by decide)) pass0 (by rfl) (pa_cons (pv 1) pa_nil)))) (pw_or1 (pt_cmpR op_lt (pv 1) pe_int (nomark _)))))
      (pss_one (ps_raise rfl (takes_of rfl rfl rfl rfl) (pmk_1 G.bf hr2 (by rfl) (pa_cons pe_str pa_nil))))
      pss_nil)
    (pss_one (ps_fld (pv 0) (pv 1) rfl))), ?_⟩
    obtain ⟨a, dx, v, rfl, ha, hv, q1, q2⟩ := h
    refine ⟨_, rfl, v, rfl, wM_flat v hv, _, rfl, ?_⟩
    show if (!numB v) = true then _ else _
    refine ite2 (fun h1 => mkO_1 (q2 _ (by show (if (!numB v || _) = true then _ else _) = _; rw [h1]; rfl))) (fun h1 => ?_)
    cases v with
    | int i =>
      refine ⟨_, rfl, _, _, rfl, rfl, _, rfl, ?_⟩
      refine ite2 (fun h2 => mkO_1 (q2 _ (by show (if (_ || decide (i < 1)) = true then _ else _) = _; rw [h2]; rfl))) (fun h2 => ?_)
      refine ⟨_, rfl, _, rfl, a, _, dx, _, rfl, ha, G.cFixed.cl, G.cFixed.no _ (by decide +kernel), (by show 0 < 1000; decide), q1 ?_⟩
      show (if (!true || decide (i < 1)) = true then _ else _) = _
      rw [Bool.eq_false_iff.mpr h2]
      rfl
    | _ => exact absurd rfl h1

/-- what is handed in as texts -/
def LXAt (H : Hp) (v : V) : LX → Prop
  | .lst xs => ∃ b, v = .ref b ∧ H b = some (.lst xs)
  | .tup xs => ∃ b, v = .ref b ∧ H b = some (.tup xs)
  | .val u => v = u
theorem LXAt.same {H H' : Hp} {v : V} (S : Same H H') : ∀ {x : LX}, LXAt H v x → LXAt H' v x
  | .lst _, ⟨b, e, h⟩ => ⟨b, e, S _ _ h⟩
  | .tup _, ⟨b, e, h⟩ => ⟨b, e, S _ _ h⟩
  | .val _, e => e
theorem lM_vM : ∀ x ∈ lM, (∀ v ∈ x.els, v ∈ vM) ∧ x.els.length ≤ 10 := by decide +kernel
theorem lM_val : ∀ x ∈ lM, x = .val (.str "ab") ∨ x = .val .non ∨ (x = .lst x.els ∨ x = .tup x.els) := by decide +kernel
theorem all_str : ∀ xs : List V, xs.all areB = true → (xs.map strV).map V.str = xs
  | [], _ => rfl
  | v :: xs, h => by
    obtain ⟨h1, h2⟩ := Bool.and_eq_true_iff.mp (show (areB v && xs.all areB) = true from h)
    have e : V.str (strV v) = v := by cases v <;> first | rfl | cases h1
    show V.str (strV v) :: (xs.map strV).map V.str = v :: xs
    rw [e, all_str xs h2]
theorem raise_mono {C : Addr} {g : Str} {v : V} {H H1 : Hp} {E : XK} (S : Same H H1) (h : RaiseE C g v H E) : RaiseE C g v H1 E := fun d H2 hd S2 e => by
  refine h d H2 ?_ (S.trans S2) e
  cases q : H d with
  | none => rfl
  | some o => rw [S d o q] at hd; cases hd
def spListed (K : Frag) : Sp := fun vs H Q E => ∃ (a dx : Addr) (v : V) (x : LX), vs = [.ref a, v] ∧ H a = some (.ins (He.ga K "Listed") dx []) ∧ x ∈ lM ∧ LXAt H v x ∧
  (lxDue x = none → ∀ t H2, Same H H2 → H2 t = some (.tup x.els) → Q .non (upd H2 a (.ins (He.ga K "Listed") dx (fListed (.ref t))))) ∧ ∀ z, lxDue x = some z → RaiseE (BF K) "what" (.str z) H E
theorem kit_LT (K : Frag) : kitAny K (.type "list") [.type "list", .type "tuple"] = some true ∧ kitAny K (.type "tuple") [.type "list", .type "tuple"] = some true ∧ kitAny K (.type "str") [.type "list", .type "tuple"] = some false ∧ kitAny K (.type "NoneType") [.type "list", .type "tuple"] = some false := by
  have k : ∀ {S T : String} {b : Bool}, kitB S T = some b → kitOne K (.type S) (.type T) = some b := fun h => kit_ty h
  refine ⟨?_, ?_, ?_, ?_⟩
  · exact kitAny_cons (b := true) (k (by decide +kernel)) (fun z => nomatch z) (fun _ => rfl)
  · exact kitAny_cons (b := false) (k (by decide +kernel)) (fun _ => kitAny_cons (b := true) (k (by decide +kernel)) (fun z => nomatch z) (fun _ => rfl)) (fun z => nomatch z)
  · exact kitAny_cons (b := false) (k (by decide +kernel)) (fun _ => kitAny_cons (b := false) (k (by decide +kernel)) (fun _ => kitAny_nil) (fun z => nomatch z)) (fun z => nomatch z)
  · exact kitAny_cons (b := false) (k (by decide +kernel)) (fun _ => kitAny_cons (b := false) (k (by decide +kernel)) (fun _ => kitAny_nil) (fun z => nomatch z)) (fun z => nomatch z)
theorem take_succ_map {α β : Type} (g : α → β) {xs : List α} {i : Nat} {x : α} (h : xs[i]? = some x) : (xs.take (i + 1)).map g = (xs.take i).map g ++ [g x] := by
  rw [List.take_add_one, h, List.map_append]
  rfl

abbrev s_Listed_init : Stmt := inClass (top 20) 0
theorem sc_Listed_init : FnScope ["self", "texts", "text"] ["self", "texts"] (defScope s_Listed_init) := ⟨rfl, rfl, rfl, by decide +kernel, rfl, by decide +kernel, by decide +kernel⟩

theorem ok_Listed_init (F : FunD K "__init__" "Listed.__init__" (defArgs s_Listed_init) (defBody s_Listed_init) (defScope s_Listed_init) [] [] f fd) (G : G3 P w K mg base) : FnOk P w K mg base (L2.CX P w) 4 f fd ["self", "texts"] (spListed K) := by
  refine F.ok (CX := (L2.CX P w)) sc_Listed_init (fun vs H Q E h => ?_) (fun cdv A outer s H vs Q E hr h => ?_)
  · obtain ⟨a, dx, v, x, rfl, _⟩ := h
    rfl
  · have hr3 : Room 3 _ := hr
    have hr2 : Room 2 _ := hr.mono (by decide)
    refine ⟨_, (pss_cons (ps_if (PW.pt (pw_or (pt_not (pt_val (pe_callB call_ieT (by rfl) G.isinstance (by decide +kernel) (pa_cons (pv 1) (pa_cons (pe_tupS (pa_cons (pe_bty (n := "list") (by rfl) G.list (by decide +kernel)) (pa_cons (pe_bty (n := "tuple") (by rfl) G.tuple (by decide +kernel)) pa_nil))) pa_nil))))) (pw_or1 (pt_cmpR op_eq (pe_callB call_len_seq (by rfl) G.len (by decide +kernel) (pa_cons (pv 1) pa_nil)) pe_int (nomark _)))))
      (pss_one (ps_raise rfl (takes_of rfl rfl rfl rfl) (pmk_1 G.bf hr2 (by rfl) (pa_cons pe_str pa_nil))))
      pss_nil)
    (pss_cons (ps_if (PW.pt (pw_or (pt_not (pt_val (pe_callB (cr_all rfl) (by rfl) G.all (by decide +kernel) (pa_cons (pe_lc (own := [("text", 2)]) (g := gName 2) (tt := tYes) rfl sc_Listed_init.nd (pi_or (pi_list (pv 1)) (pi_tup (pv 1))) (blkOk_by (N := ["self", "texts", "text"]) (sc := defScope s_Listed_init) (by decide +kernel)) (fun _ _ _ _ _ => pg_name (i := 2) sc_Listed_init.nd rfl (Or.inl rfl)) (fun _ _ _ _ _ => pts_nil) (fun _ _ _ _ _ => (pe_fn G.are_signs hr2 pass0 (by rfl) (pa_cons (pv 2) pa_nil)))) pa_nil)))) (pw_or1 (pt_cmpR op_lt (pe_lenSetSeq rfl (by rfl) G.len (by rfl) G.set (pv 1)) (pe_callB call_len_seq (by rfl) G.len (by decide +kernel) (pa_cons (pv 1) pa_nil)) (nomark _)))))
      (pss_one (ps_raise rfl (takes_of rfl rfl rfl rfl) (pmk_1 G.bf hr2 (by rfl) (pa_cons pe_str pa_nil))))
      pss_nil)
    (pss_one (ps_fld (pv 0) (pe_callTy call_tuple_of (by rfl) G.tuple (by decide +kernel) (pa_cons (pv 1) pa_nil)) rfl)))), ?_⟩
    obtain ⟨a, dx, v, x, rfl, ha, hx, hL, q1, q2⟩ := h
    obtain ⟨hv, hz⟩ := lM_vM x hx
    rcases lM_val x hx with e | e | e
    · subst e
      obtain rfl : v = .str "ab" := hL
      refine ⟨_, rfl, by show 2 ≤ 1000; decide, fun p0 H0 hp0 S0 e0 => ⟨_, p0, _, _, _, false, rfl, e0, .cons (.ty _) (.cons (.ty _) Paired.nil), .x (.base (.str _)), (kit_LT K).2.2.1, _, rfl, iteT (mkO_1 (raise_mono S0 (q2 _ rfl)))⟩⟩
    · subst e
      obtain rfl : v = .non := hL
      refine ⟨_, rfl, by show 2 ≤ 1000; decide, fun p0 H0 hp0 S0 e0 => ⟨_, p0, _, _, _, false, rfl, e0, .cons (.ty _) (.cons (.ty _) Paired.nil), .x (.base .non), (kit_LT K).2.2.2, _, rfl, iteT (mkO_1 (raise_mono S0 (q2 _ rfl)))⟩⟩
    · cases x with
      | val u => rcases e with e | e <;> cases e
      | lst xs =>
      obtain ⟨b, rfl, hb⟩ := hL
      have hz' : xs.length ≤ 10 := hz
      refine ⟨_, rfl, by show 2 ≤ 1000; decide, fun p0 H0 hp0 S0 e0 => ⟨_, p0, _, _, _, true, rfl, e0, .cons (.ty _) (.cons (.ty _) Paired.nil), .x (.base (.lst (S0 _ _ hb))), (kit_LT K).1, _, rfl, iteF ?_⟩⟩
      refine ⟨_, rfl, b, _, rfl, .inl (SqL.of (S0 _ _ hb)), rfl, _, rfl, ?_⟩
      refine ite2 (fun h1 => mkO_1 (raise_mono S0 (q2 _ (by show (if (decide (xs.length = 0) || _) = true then _ else _) = _; rw [show decide (xs.length = 0) = true from decide_eq_true (by have := of_decide_eq_true h1; simpa using this)]; rfl)))) (fun h1 => ?_)
      have n0 : decide (xs.length = 0) = false := decide_eq_false (fun z => h1 (decide_eq_true (by rw [z]; rfl)))
      have eD : lxDue (.lst xs) = if xsBad xs = true then (some "texts" : Option Str) else none := by
        show (if (decide (xs.length = 0) || xsBad xs) = true then _ else _) = _
        rw [n0]
        rfl
      rw [eD] at q1 q2
      refine .inl ⟨_, rfl, b, rfl, ⟨_, SqL.of (S0 _ _ hb)⟩, fun D hD => ?_⟩
      refine lc_list (K := K) (a := b) (xs := xs) (LcP H0 D fun n => (xs.take n).map fun v => V.bl (areB v)) (LcP.start hD rfl) (fun i J hi p => SqL.of (p.1 _ _ (S0 _ _ hb))) ?_ ?_
      · intro i v J hx p
        refine ⟨rfl, _, rfl, v, rfl, hv v (List.mem_of_getElem? hx), p.put (Same.refl _) (take_succ_map _ hx) ?_⟩
        have := (List.getElem?_eq_some_iff.mp hx).1
        omega
      · rintro J ⟨S1, _, eJ, _⟩
        have eJ2 : J D = some (.lst ((xs.map areB).map V.bl)) := by rw [eJ]; show some (HO.lst ((xs.take xs.length).map fun v => V.bl (areB v))) = _; rw [List.take_length, List.map_map]; rfl
        refine ⟨D, xs.map areB, rfl, SqL.of eJ2, _, rfl, ?_⟩
        have ea : (xs.map areB).all id = xs.all areB := by rw [List.all_map]; rfl
        rw [ea]
        show if (!xs.all areB) = true then _ else _
        have S2 : Same H J := S0.trans S1
        refine ite2 (fun h2 => mkO_1 (raise_mono S2 (q2 _ (by unfold xsBad; rw [h2]; rfl)))) (fun h2 => ?_)
        have h2' : xs.all areB = true := by cases z : xs.all areB with | true => rfl | false => exact absurd (by rw [z]; rfl) h2
        refine ⟨_, rfl, b, xs.map strV, rfl, .inl (by rw [all_str xs h2']; exact SqL.of (S2 _ _ hb)), by rw [List.length_map]; omega, _, rfl, b, _, rfl, .inl (SqL.of (S2 _ _ hb)), _, _, rfl, rfl, _, rfl, ?_⟩
        refine ite2 (fun h3 => mkO_1 (raise_mono S2 (q2 _ ?_))) (fun h3 => ?_)
        · unfold xsBad
          rw [show decide ((newS (fun i => (xs.map strV).getD i Str.empty) (xs.map strV).length : Nat) < xs.length) = true from decide_eq_true (by have := of_decide_eq_true h3; omega), Bool.or_true]
          rfl
        · have q1' := q1 (by unfold xsBad; rw [h2', show decide ((newS (fun i => (xs.map strV).getD i Str.empty) (xs.map strV).length : Nat) < xs.length) = false from decide_eq_false (fun z => h3 (decide_eq_true (by omega)))]; rfl)
          refine ⟨_, rfl, b, xs, rfl, .inl ⟨SqL.of (S2 _ _ hb), fun t ht => ?_⟩⟩
          have S3 : Same J (upd J t (.tup xs)) := same_upd ht
          refine ⟨_, rfl, a, _, dx, _, rfl, S3 _ _ (S2 _ _ ha), G.cListed.cl, G.cListed.no _ (by decide +kernel), (by show 0 < 1000; decide), ?_⟩
          exact q1' t _ (S2.trans S3) upd_same
      | tup xs =>
      obtain ⟨b, rfl, hb⟩ := hL
      have hz' : xs.length ≤ 10 := hz
      refine ⟨_, rfl, by show 2 ≤ 1000; decide, fun p0 H0 hp0 S0 e0 => ⟨_, p0, _, _, _, true, rfl, e0, .cons (.ty _) (.cons (.ty _) Paired.nil), .x (.base (.tup (S0 _ _ hb))), (kit_LT K).2.1, _, rfl, iteF ?_⟩⟩
      refine ⟨_, rfl, b, _, rfl, .inr (SqT.of (S0 _ _ hb)), rfl, _, rfl, ?_⟩
      refine ite2 (fun h1 => mkO_1 (raise_mono S0 (q2 _ (by show (if (decide (xs.length = 0) || _) = true then _ else _) = _; rw [show decide (xs.length = 0) = true from decide_eq_true (by have := of_decide_eq_true h1; simpa using this)]; rfl)))) (fun h1 => ?_)
      have n0 : decide (xs.length = 0) = false := decide_eq_false (fun z => h1 (decide_eq_true (by rw [z]; rfl)))
      have eD : lxDue (.tup xs) = if xsBad xs = true then (some "texts" : Option Str) else none := by
        show (if (decide (xs.length = 0) || xsBad xs) = true then _ else _) = _
        rw [n0]
        rfl
      rw [eD] at q1 q2
      refine .inr ⟨_, rfl, b, rfl, ⟨_, SqT.of (S0 _ _ hb)⟩, fun D hD => ?_⟩
      refine lc_tup (K := K) (a := b) (xs := xs) (LcP H0 D fun n => (xs.take n).map fun v => V.bl (areB v)) (LcP.start hD rfl) (fun i J hi p => SqT.of (p.1 _ _ (S0 _ _ hb))) ?_ ?_
      · intro i v J hx p
        refine ⟨rfl, _, rfl, v, rfl, hv v (List.mem_of_getElem? hx), p.put (Same.refl _) (take_succ_map _ hx) ?_⟩
        have := (List.getElem?_eq_some_iff.mp hx).1
        omega
      · rintro J ⟨S1, _, eJ, _⟩
        have eJ2 : J D = some (.lst ((xs.map areB).map V.bl)) := by rw [eJ]; show some (HO.lst ((xs.take xs.length).map fun v => V.bl (areB v))) = _; rw [List.take_length, List.map_map]; rfl
        refine ⟨D, xs.map areB, rfl, SqL.of eJ2, _, rfl, ?_⟩
        have ea : (xs.map areB).all id = xs.all areB := by rw [List.all_map]; rfl
        rw [ea]
        show if (!xs.all areB) = true then _ else _
        have S2 : Same H J := S0.trans S1
        refine ite2 (fun h2 => mkO_1 (raise_mono S2 (q2 _ (by unfold xsBad; rw [h2]; rfl)))) (fun h2 => ?_)
        have h2' : xs.all areB = true := by cases z : xs.all areB with | true => rfl | false => exact absurd (by rw [z]; rfl) h2
        refine ⟨_, rfl, b, xs.map strV, rfl, .inr (by rw [all_str xs h2']; exact SqT.of (S2 _ _ hb)), by rw [List.length_map]; omega, _, rfl, b, _, rfl, .inr (SqT.of (S2 _ _ hb)), _, _, rfl, rfl, _, rfl, ?_⟩
        refine ite2 (fun h3 => mkO_1 (raise_mono S2 (q2 _ ?_))) (fun h3 => ?_)
        · unfold xsBad
          rw [show decide ((newS (fun i => (xs.map strV).getD i Str.empty) (xs.map strV).length : Nat) < xs.length) = true from decide_eq_true (by have := of_decide_eq_true h3; omega), Bool.or_true]
          rfl
        · have q1' := q1 (by unfold xsBad; rw [h2', show decide ((newS (fun i => (xs.map strV).getD i Str.empty) (xs.map strV).length : Nat) < xs.length) = false from decide_eq_false (fun z => h3 (decide_eq_true (by omega)))]; rfl)
          refine ⟨_, rfl, b, xs, rfl, .inr ⟨SqT.of (S2 _ _ hb), ?_⟩⟩
          refine ⟨_, rfl, a, _, dx, _, rfl, S2 _ _ ha, G.cListed.cl, G.cListed.no _ (by decide +kernel), (by show 0 < 1000; decide), ?_⟩
          exact q1' b _ S2 (S2 _ _ hb)


def spEnded (K : Frag) : Sp := fun vs H Q E => ∃ (a dx : Addr) (s e l m : V), vs = [.ref a, s, e, l, m] ∧ H a = some (.ins (He.ga K "Ended") dx []) ∧ s ∈ sM ∧ e ∈ eM ∧ l ∈ nM ∧ m ∈ nM ∧ (eDue s e l m = none → Q .non (upd H a (.ins (He.ga K "Ended") dx (fEnded s e l m)))) ∧
  ∀ z, eDue s e l m = some z → RaiseE (BF K) "what" (.str z) H E
theorem eM_vM {v : V} (h : v ∈ eM) : v ∈ vM := List.mem_append_right _ (List.mem_append_left _ h)
theorem eM_one : ∀ e ∈ eM, isSignB e = true → e = .str ⟨#[(strV e).cps.getD 0 0]⟩ := by decide +kernel
theorem sM_str : ∀ s ∈ sM, sBad s = false → s = .str (strV s) := by decide +kernel

abbrev s_Ended_init : Stmt := inClass (top 21) 0
theorem sc_Ended_init : FnScope ["self", "signs", "sign", "least", "most"] ["self", "signs", "sign", "least", "most"] (defScope s_Ended_init) := ⟨rfl, rfl, rfl, by decide +kernel, rfl, by decide +kernel, by decide +kernel⟩

theorem ok_Ended_init (F : FunD K "__init__" "Ended.__init__" (defArgs s_Ended_init) (defBody s_Ended_init) (defScope s_Ended_init) [] [] f fd) (G : G3 P w K mg base) : FnOk P w K mg base (L2.CX P w) 4 f fd ["self", "signs", "sign", "least", "most"] (spEnded K) := by
  refine F.ok (CX := (L2.CX P w)) sc_Ended_init (fun vs H Q E h => ?_) (fun cdv A outer s H vs Q E hr h => ?_)
  · obtain ⟨a, dx, s, e, l, m, rfl, _⟩ := h
    rfl
  · have hr3 : Room 3 _ := hr
    have hr2 : Room 2 _ := hr.mono (by decide)
    refine ⟨_, (pss_cons (ps_expr (pe_fnS G.check_signs hr3 (fun σ => passAt (takes_of rfl rfl rfl rfl) σ) (by rfl) (pa_cons (pv 1) pa_nil)))
    (pss_cons (ps_if (PW.pt (pw_or (pt_not (pt_val (pe_fn G.is_sign (hr2.mono (by decide)) pass0 (by rfl) (pa_cons (pv 2) pa_nil)))) (pw_or1 (pt_cmpR op_in_sign (pv 2) (pv 1) (by rfl)))))
      (pss_one (ps_raise rfl (takes_of rfl rfl rfl rfl) (pmk_1 G.bf hr2 (by rfl) (pa_cons pe_str pa_nil))))
      pss_nil)
    (pss_cons (ps_expr (pe_fnS G.check_span hr3 (fun σ => passAt (takes_of rfl rfl rfl rfl) σ) (by rfl) (pa_cons (pv 3) (pa_cons (pv 4) pa_nil))))
    (pss_cons (ps_fld (pv 0) (pv 1) rfl)
    (pss_cons (ps_fld (pv 0) (pv 2) rfl)
    (pss_cons (ps_fld (pv 0) (pv 3) rfl)
    (pss_one (ps_fld (pv 0) (pv 4) rfl)))))))), ?_⟩
    obtain ⟨a, dx, s, e, l, m, rfl, ha, hs, he, hl, hm, q1, q2⟩ := h
    refine ⟨_, rfl, s, rfl, hs, fun e1 => ?_, fun e1 => q2 _ (by unfold eDue; rw [if_pos e1])⟩
    have e0 : eDue s e l m = if (!isSignB e || inB (strV e) (strV s)) = true then (some "sign" : Option Str) else bDue l m := by unfold eDue; rw [e1]; rfl
    rw [e0] at q1 q2
    refine ⟨_, rfl, e, rfl, eM_vM he, _, rfl, ?_⟩
    show if (!isSignB e) = true then _ else _
    refine ite2 (fun h1 => mkO_1 (q2 _ (by rw [h1]; rfl))) (fun h1 => ?_)
    have h1' : isSignB e = true := by cases z : isSignB e with | true => rfl | false => exact absurd (by rw [z]; rfl) h1
    refine ⟨_, rfl, _, rfl, _, strV s, eM_one e he h1', sM_str s hs e1, _, rfl, ?_⟩
    show if inB (strV e) (strV s) = true then _ else _
    refine ite2 (fun h2 => mkO_1 (q2 _ (by rw [h2, Bool.or_true]; rfl))) (fun h2 => ?_)
    have h2' : inB (strV e) (strV s) = false := Bool.eq_false_iff.mpr h2
    rw [h1', h2'] at q1 q2
    refine ⟨_, rfl, _, rfl, l, m, rfl, nM_flat l (nh hl), nM_flat m (nh hm), fun e2 => ?_, fun z e2 => q2 z e2⟩
    refine ⟨_, rfl, _, rfl, a, _, dx, _, rfl, ha, G.cEnded.cl, G.cEnded.no _ (by decide +kernel), (by show 0 < 1000; decide), _, rfl, _, rfl, a, _, dx, _, rfl, upd_same, G.cEnded.cl, G.cEnded.no _ (by decide +kernel), (by show 1 < 1000; decide), _, rfl, _, rfl, a, _, dx, _, rfl, upd_same, G.cEnded.cl, G.cEnded.no _ (by decide +kernel), (by show 2 < 1000; decide), _, rfl, _, rfl, a, _, dx, _, rfl, upd_same, G.cEnded.cl, G.cEnded.no _ (by decide +kernel), (by show 3 < 1000; decide), ?_⟩
    have z := q1 e2
    show Q .non _
    rw [upd_upd, upd_upd, upd_upd]
    exact z

def spHasWord (K : Frag) : Sp := fun vs H Q _ => ∃ (a : Addr) (c : Nat) (s l m : V), vs = [.ref a, .str ⟨#[c]⟩] ∧ FieldAt K H a (.word s l m) ∧ PD.In (.word s l m) ∧ PD.due (.word s l m) = none ∧ ∀ H', Same H H' → Q (.bl (PD.has ⟨#[c]⟩ (.word s l m))) H'

def spHasNumber (K : Frag) : Sp := fun vs H Q _ => ∃ (a : Addr) (c : Nat) (l m : V), vs = [.ref a, .str ⟨#[c]⟩] ∧ FieldAt K H a (.number l m) ∧ PD.In (.number l m) ∧ PD.due (.number l m) = none ∧ ∀ H', Same H H' → Q (.bl (PD.has ⟨#[c]⟩ (.number l m))) H'

def spHasFixed (K : Frag) : Sp := fun vs H Q _ => ∃ (a : Addr) (c : Nat) (v : V), vs = [.ref a, .str ⟨#[c]⟩] ∧ FieldAt K H a (.fixed v) ∧ PD.In (.fixed v) ∧ PD.due (.fixed v) = none ∧ ∀ H', Same H H' → Q (.bl (PD.has ⟨#[c]⟩ (.fixed v))) H'

def spHasListed (K : Frag) : Sp := fun vs H Q _ => ∃ (a : Addr) (c : Nat) (x : LX), vs = [.ref a, .str ⟨#[c]⟩] ∧ FieldAt K H a (.listed x) ∧ PD.In (.listed x) ∧ PD.due (.listed x) = none ∧ ∀ H', Same H H' → Q (.bl (PD.has ⟨#[c]⟩ (.listed x))) H'

def spHasEnded (K : Frag) : Sp := fun vs H Q _ => ∃ (a : Addr) (c : Nat) (s e l m : V), vs = [.ref a, .str ⟨#[c]⟩] ∧ FieldAt K H a (.ended s e l m) ∧ PD.In (.ended s e l m) ∧ PD.due (.ended s e l m) = none ∧ ∀ H', Same H H' → Q (.bl (PD.has ⟨#[c]⟩ (.ended s e l m))) H'

abbrev s_Word_has : Stmt := inClass (top 17) 7
theorem sc_Word_has : FnScope ["self", "sign"] ["self", "sign"] (defScope s_Word_has) := ⟨rfl, rfl, rfl, by decide +kernel, rfl, by decide +kernel, by decide +kernel⟩

theorem ok_Word_has (F : FunD K "has_sign" "Word.has_sign" (defArgs s_Word_has) (defBody s_Word_has) (defScope s_Word_has) [] [] f fd) (G : G3 P w K mg base) : FnOk P w K mg base CX0 2 f fd ["self", "sign"] (spHasWord K) := by
  refine F.ok (CX := CX0) sc_Word_has (fun vs H Q E h => ?_) (fun cdv A outer s H vs Q E hr h => ?_)
  · obtain ⟨a, c, s, l, m, rfl, _⟩ := h
    rfl
  · refine ⟨_, PSs.nox (pss_one (ps_ret (pe_fn G.has_words_with hr pass0 (by rfl) (pa_cons (pv 0) (pa_cons (pv 1) pa_nil))))), ?_⟩
    obtain ⟨a, c, s, l, m, rfl, ⟨dx, ha⟩, ⟨hs, hl, hm⟩, hd, q⟩ := h
    obtain ⟨es, sc, _⟩ := word_due s hs l hl m hm hd
    rw [es] at ha q
    exact ⟨_, rfl, _, rfl, a, _, dx, _, c, strV s, m, rfl, ha, G.cWord.cl, G.cWord.no _ (by decide +kernel), G.cWord.no _ (by decide +kernel), lWord_signs, lWord_most, sc, q _ (Same.refl _)⟩

abbrev s_Fixed_has : Stmt := inClass (top 19) 7
theorem sc_Fixed_has : FnScope ["self", "sign"] ["self", "sign"] (defScope s_Fixed_has) := ⟨rfl, rfl, rfl, by decide +kernel, rfl, by decide +kernel, by decide +kernel⟩

theorem ok_Fixed_has (F : FunD K "has_sign" "Fixed.has_sign" (defArgs s_Fixed_has) (defBody s_Fixed_has) (defScope s_Fixed_has) [] [] f fd) (G : G3 P w K mg base) : FnOk P w K mg base CX0 2 f fd ["self", "sign"] (spHasFixed K) := by
  refine F.ok (CX := CX0) sc_Fixed_has (fun vs H Q E h => ?_) (fun cdv A outer s H vs Q E hr h => ?_)
  · obtain ⟨a, c, v, rfl, _⟩ := h
    rfl
  · refine ⟨_, PSs.nox (pss_one (ps_ret (pe_cmpR op_in_sign (pv 1) (pe_sg G.dgs) (by rfl)))), ?_⟩
    obtain ⟨a, c, v, rfl, hf, _, _, q⟩ := h
    exact ⟨_, rfl, c, DG, rfl, rfl, q _ (Same.refl _)⟩

abbrev s_Ended_has : Stmt := inClass (top 21) 7
theorem sc_Ended_has : FnScope ["self", "sign"] ["self", "sign"] (defScope s_Ended_has) := ⟨rfl, rfl, rfl, by decide +kernel, rfl, by decide +kernel, by decide +kernel⟩

theorem ok_Ended_has (F : FunD K "has_sign" "Ended.has_sign" (defArgs s_Ended_has) (defBody s_Ended_has) (defScope s_Ended_has) [] [] f fd) (G : G3 P w K mg base) : FnOk P w K mg base CX0 2 f fd ["self", "sign"] (spHasEnded K) := by
  refine F.ok (CX := CX0) sc_Ended_has (fun vs H Q E h => ?_) (fun cdv A outer s H vs Q E hr h => ?_)
  · obtain ⟨a, c, s, e, l, m, rfl, _⟩ := h
    rfl
  · refine ⟨_, PSs.nox (pss_one (ps_ret (pe_or (pe_cmpR op_eq (pv 1) (pe_fld (pv 0) rfl) (nomark _)) (pe_one (pe_fn G.has_words_with hr pass0 (by rfl) (pa_cons (pv 0) (pa_cons (pv 1) pa_nil))))))), ?_⟩
    obtain ⟨a, c, s, e, l, m, rfl, ⟨dx, ha⟩, ⟨hs, he, hl, hm⟩, hd, q⟩ := h
    obtain ⟨es, ee, sc, _⟩ := end_due s hs e he l hl m hm hd
    have q0 := q _ (Same.refl _)
    refine ⟨_, rfl, _, rfl, a, _, dx, _, _, rfl, ha, G.cEnded.cl, G.cEnded.no _ (by decide +kernel), lEnded_sign, (by rw [ee]; rfl), _, rfl, ?_⟩
    refine ite2 (fun h1 => ?_) (fun h1 => ?_)
    · have r : PD.has ⟨#[c]⟩ (.ended s e l m) = true := by show (decide (V.str ⟨#[c]⟩ = e) || _) = true; rw [h1]; rfl
      rw [r] at q0
      exact q0
    · have r : PD.has ⟨#[c]⟩ (.ended s e l m) = wwB s m ⟨#[c]⟩ := by show (decide (V.str ⟨#[c]⟩ = e) || _) = _; rw [Bool.eq_false_iff.mpr h1]; rfl
      rw [r] at q0
      rw [es] at ha q0
      exact ⟨_, rfl, _, rfl, a, _, dx, _, c, strV s, m, rfl, ha, G.cEnded.cl, G.cEnded.no _ (by decide +kernel), G.cEnded.no _ (by decide +kernel), lEnded_signs, lEnded_most, sc, q0⟩

abbrev s_Listed_has : Stmt := inClass (top 20) 7
theorem sc_Listed_has : FnScope ["self", "sign", "text"] ["self", "sign"] (defScope s_Listed_has) := ⟨rfl, rfl, rfl, by decide +kernel, rfl, by decide +kernel, by decide +kernel⟩

theorem ok_Listed_has (F : FunD K "has_sign" "Listed.has_sign" (defArgs s_Listed_has) (defBody s_Listed_has) (defScope s_Listed_has) [] [] f fd) (G : G3 P w K mg base) : FnOk P w K mg base CX0 2 f fd ["self", "sign"] (spHasListed K) := by
  refine F.ok (CX := CX0) sc_Listed_has (fun vs H Q E h => ?_) (fun cdv A outer s H vs Q E hr h => ?_)
  · obtain ⟨a, c, x, rfl, _⟩ := h
    rfl
  · refine ⟨_, PSs.nox (pss_one (ps_ret (pe_callB (cr_any rfl) (by rfl) G.any (by decide +kernel) (pa_cons (pe_lc (own := [("text", 2)]) (g := gName 2) (tt := tYes) rfl sc_Listed_has.nd (pi_tup (pe_fld (pv 0) rfl)) (blkOk_by (N := ["self", "sign", "text"]) (sc := defScope s_Listed_has) (by decide +kernel)) (fun _ _ _ _ _ => pg_name (i := 2) sc_Listed_has.nd rfl (Or.inl rfl)) (fun _ _ _ _ _ => pts_nil) (fun _ _ _ _ _ => (pe_cmpR op_in_sign (pv 1) (pv 2) (by rfl)))) pa_nil)))), ?_⟩
    obtain ⟨a, c, x, rfl, ⟨dx, t, ha, ht⟩, hx, hd, q⟩ := h
    obtain ⟨hs, hz, _⟩ := lst_due x hx hd
    refine ⟨_, rfl, a, _, dx, _, _, rfl, ha, G.cListed.cl, G.cListed.no _ (by decide +kernel), lListed_texts, t, rfl, ⟨_, SqT.of ht⟩, fun D hD => ?_⟩
    refine lc_tup (K := K) (a := t) (xs := x.els) (LcP H D fun n => (x.els.take n).map fun v => V.bl (inB ⟨#[c]⟩ (strV v))) (LcP.start hD rfl) (fun i J hi p => SqT.of (p.1 _ _ ht)) ?_ ?_
    · intro i v J hv p
      have ev := hs v (List.mem_of_getElem? hv)
      have := (List.getElem?_eq_some_iff.mp hv).1
      exact ⟨rfl, _, rfl, _, rfl, c, strV v, rfl, ev, p.put (Same.refl _) (take_succ_map _ hv) (by omega)⟩
    · rintro J ⟨S1, _, eJ, _⟩
      have eJ2 : J D = some (.lst ((x.els.map fun v => inB ⟨#[c]⟩ (strV v)).map V.bl)) := by rw [eJ]; show some (HO.lst ((x.els.take x.els.length).map fun v => V.bl (inB ⟨#[c]⟩ (strV v)))) = _; rw [List.take_length, List.map_map]; rfl
      refine ⟨D, _, rfl, SqL.of eJ2, ?_⟩
      rw [List.any_map]
      exact q _ S1

abbrev s_Number_has : Stmt := inClass (top 18) 7
theorem sc_Number_has : FnScope ["self", "sign", "number"] ["self", "sign"] (defScope s_Number_has) := ⟨rfl, rfl, rfl, by decide +kernel, rfl, by decide +kernel, by decide +kernel⟩

theorem ok_Number_has (F : FunD K "has_sign" "Number.has_sign" (defArgs s_Number_has) (defBody s_Number_has) (defScope s_Number_has) [] [] f fd) (G : G3 P w K mg base) : FnOk P w K mg base CX0 2 f fd ["self", "sign"] (spHasNumber K) := by
  refine F.ok (CX := CX0) sc_Number_has (fun vs H Q E h => ?_) (fun cdv A outer s H vs Q E hr h => ?_)
  · obtain ⟨a, c, l, m, rfl, _⟩ := h
    rfl
  · refine ⟨_, PSs.nox (pss_cons (ps_if (PW.pt (pw_or (pt_cmpR op_isN (pe_fld (pv 0) rfl) pe_non (nomark _)) (pw_or1 (pt_cmpR op_ge (pe_op op_sub (pe_fld (pv 0) rfl) (pe_fld (pv 0) rfl)) pe_int (nomark _)))))
      (pss_one (ps_ret (pe_cmpR op_in_sign (pv 1) (pe_sg G.dgs) (by rfl))))
      pss_nil)
    (pss_one (ps_ret (pe_callB (cr_any rfl) (by rfl) G.any (by decide +kernel) (pa_cons (pe_lc (own := [("number", 2)]) (g := gName 2) (tt := tYes) rfl sc_Number_has.nd (pi_range2 (by rfl) G.range (pa_cons (pe_fld (pv 0) rfl) (pa_cons (pe_op op_add (pe_fld (pv 0) rfl) pe_int) pa_nil))) (blkOk_by (N := ["self", "sign", "number"]) (sc := defScope s_Number_has) (by decide +kernel)) (fun _ _ _ _ _ => pg_name (i := 2) sc_Number_has.nd rfl (Or.inl rfl)) (fun _ _ _ _ _ => pts_nil) (fun _ _ _ _ _ => (pe_cmpR op_in_sign (pv 1) (pe_fn G.digits_of hr pass0 (by rfl) (pa_cons (pv 2) pa_nil)) (by rfl)))) pa_nil))))), ?_⟩
    obtain ⟨a, c, l, m, rfl, ⟨dx, ha⟩, ⟨hl, hm⟩, hd, q⟩ := h
    obtain ⟨el, em, hl0, hl1, hm0, hm1, _⟩ := num_due l hl m hm hd
    refine ⟨_, rfl, a, _, dx, _, _, rfl, ha, G.cNumber.cl, G.cNumber.no _ (by decide +kernel), lNumber_most, rfl, _, rfl, ?_⟩
    refine ite2 (fun h1 => ?_) (fun h1 => ?_)
    · have r : PD.has ⟨#[c]⟩ (.number l m) = inB ⟨#[c]⟩ DG := by show (if (decide (m = .non) || _) = true then _ else _) = _; rw [h1]; rfl
      have q0 := q _ (Same.refl _)
      rw [r] at q0
      exact ⟨_, rfl, c, DG, rfl, rfl, q0⟩
    rcases em with em | em
    · exact absurd (decide_eq_true em) h1
    refine ⟨_, rfl, a, _, dx, _, _, rfl, ha, G.cNumber.cl, G.cNumber.no _ (by decide +kernel), lNumber_most, _, rfl, a, _, dx, _, _, rfl, ha, G.cNumber.cl, G.cNumber.no _ (by decide +kernel), lNumber_least, intV m, intV l, em, el, _, _, rfl, rfl, _, rfl, ?_⟩
    refine ite2 (fun h2 => ?_) (fun h2 => ?_)
    · have r : PD.has ⟨#[c]⟩ (.number l m) = inB ⟨#[c]⟩ DG := by show (if (_ || decide (9 ≤ intV m - intV l)) = true then _ else _) = _; rw [h2, Bool.or_true]; rfl
      have q0 := q _ (Same.refl _)
      rw [r] at q0
      exact ⟨_, rfl, c, DG, rfl, rfl, q0⟩
    have h9 : ¬ 9 ≤ intV m - intV l := fun z => h2 (decide_eq_true z)
    have r : PD.has ⟨#[c]⟩ (.number l m) = (List.range (intV m + 1 - intV l).toNat).any fun (i : Nat) => inB ⟨#[c]⟩ (dg (intV l + i)) := by
      show (if (decide (m = .non) || decide (9 ≤ intV m - intV l)) = true then _ else _) = _
      rw [Bool.eq_false_iff.mpr h1, Bool.eq_false_iff.mpr h2]
      rfl
    rw [r] at q
    refine ⟨_, rfl, a, _, dx, _, _, rfl, ha, G.cNumber.cl, G.cNumber.no _ (by decide +kernel), lNumber_least, _, rfl, a, _, dx, _, _, rfl, ha, G.cNumber.cl, G.cNumber.no _ (by decide +kernel), lNumber_most, intV m, 1, em, rfl, intV l, intV m + 1, by rw [el]; rfl, ⟨by omega, by omega, by omega, by omega⟩, fun D hD => ?_⟩
    refine lc_range (lo := intV l) (n := (intV m + 1 - intV l).toNat) (LcP H D fun n => (List.range n).map fun (i : Nat) => V.bl (inB ⟨#[c]⟩ (dg (intV l + i)))) (LcP.start hD rfl) ?_ ?_
    · intro i J hi p
      refine ⟨rfl, _, rfl, _, rfl, _, rfl, by omega, by omega, fun J' S' => ⟨c, _, rfl, rfl, p.put S' (by rw [List.range_succ, List.map_append]; rfl) (by omega)⟩⟩
    · rintro J ⟨S1, _, eJ, _⟩
      have eJ2 : J D = some (.lst (((List.range (intV m + 1 - intV l).toNat).map fun (i : Nat) => inB ⟨#[c]⟩ (dg (intV l + i))).map V.bl)) := by rw [eJ, List.map_map]; rfl
      refine ⟨D, _, rfl, SqL.of eJ2, ?_⟩
      rw [List.any_map]
      exact q _ S1

end
end L2.K03

set_option Elab.async false
set_option linter.all false
set_option maxRecDepth 100000
set_option maxHeartbeats 4000000
namespace L2.K03
open PySem PySem.W PySem.Spec PySem.Calls PyProof.Rows L2.Jk
def cname : Nat → Str
  | 0 => "Word"
  | 1 => "Number"
  | 2 => "Fixed"
  | 3 => "Listed"
  | 4 => "Ended"
  | 5 => "Marked"
  | _ => ""
abbrev ca (K : Frag) (i : Nat) : Addr := He.ga K (cname i)
def PD.ci : PD → Nat
  | .word .. => 0
  | .number .. => 1
  | .fixed _ => 2
  | .listed _ => 3
  | .ended .. => 4
theorem PD.ci_lt (d : PD) : d.ci < 5 := by cases d <;> simp [PD.ci]
/-- what the head says of a field class beyond C0 -/
structure KC (K : Frag) (C : Addr) : Prop where
  kk : findIn K (.ref C) "__class__" = some (some (.builtin "object.__class__"))
  km : mroIn K C (.type "object") = some true
  nf : notFirst K C (.type "tuple") = true
  eq : EqcC K C
  ke : keepIn K (.ref (He.ma K C "__eq__")) = true
structure G4 (P : Program) (w : World) (K : Frag) (mg : Str → Option Value) (base : Heap) : Prop extends G3 P w K mg base where
  kc : ∀ i, i < 6 → KC K (ca K i)
  kn : specialIn K (.builtin "object.__class__") "__get__" = some (some (.builtin "getset_descriptor.__get__"))
  kt : takesIn K (.builtin "object.__class__") = some true
  kit : ∀ i j, i < 6 → j < 6 → kitOne K (.ref (ca K i)) (.ref (ca K j)) = some (decide (i = j))
  kitN : ∀ j, j < 6 → kitOne K (.type "NoneType") (.ref (ca K j)) = some false
  kitS : ∀ j, j < 6 → kitOne K (.type "str") (.ref (ca K j)) = some false
section
variable {P : Program} {w : World} {K : Frag} {mg : Str → Option Value} {base : Heap} {f : Addr} {fd : FuncData}
theorem FieldAt.ins {H : Hp} {y : Addr} : ∀ {d : PD}, FieldAt K H y d → ∃ dx fs, H y = some (.ins (ca K d.ci) dx fs) ∧ fs.lookup ("has_sign" : Str) = none
  | .word .., ⟨dx, h⟩ => ⟨dx, _, h, lWord_hs⟩
  | .number .., ⟨dx, h⟩ => ⟨dx, _, h, lNumber_hs⟩
  | .fixed _, ⟨dx, h⟩ => ⟨dx, _, h, lFixed_hs⟩
  | .listed _, ⟨dx, t, h, k⟩ => ⟨dx, _, h, lListed_hs⟩
  | .ended .., ⟨dx, h⟩ => ⟨dx, _, h, lEnded_hs⟩
theorem G4.cl (G : G4 P w K mg base) : ∀ i, i < 6 → Cls K (ca K i)
  | 0, _ => G.cWord.cl
  | 1, _ => G.cNumber.cl
  | 2, _ => G.cFixed.cl
  | 3, _ => G.cListed.cl
  | 4, _ => G.cEnded.cl
  | 5, _ => G.cMarked.cl
  | n + 6, h => absurd h (by omega)
theorem G4.ty (G : G4 P w K mg base) {H : Hp} {y dx : Addr} {fs : List (Str × V)} {i : Nat} (hi : i < 6) (h : H y = some (.ins (ca K i) dx fs)) : TyE K H (.ref y) (.ref (ca K i)) :=
  .x (.base (.ins h (G.cl i hi) (G.kc i hi).kk G.kn G.kt (G.kc i hi).km))
def dV : V → PyData
  | .bl b => .bool b
  | .int i => .int i
  | .str z => .str z
  | _ => .none
theorem dp_flat {H : Hp} : ∀ {v : V}, flatV v = true → Dp K H v (dV v)
  | .non, _ => .non
  | .bl b, _ => .bl b
  | .int i, _ => .int i
  | .str z, _ => .str z
theorem dpAll_flat {H : Hp} : ∀ {xs : List V}, xs.all flatV = true → DpAll K H xs (xs.map dV)
  | [], _ => .nil
  | v :: xs, h => by
    obtain ⟨h1, h2⟩ := Bool.and_eq_true_iff.mp (show (flatV v && xs.all flatV) = true from h)
    exact .cons (dp_flat h1) (dpAll_flat h2)
theorem lM_shaped : ∀ x ∈ lM, lxDue x = none → x.els.all flatV = true ∧ SeqAt.shaped (.tuple (x.els.map dV)) = true := by decide +kernel

def spEqWord (K : Frag) : Sp := fun vs H Q _ => ∃ (a : Addr) (u : V) (s l m : V), vs = [.ref a, u] ∧ FieldAt K H a (.word s l m) ∧ PD.In (.word s l m) ∧ PD.due (.word s l m) = none ∧
  ((∃ b, u = .ref b ∧ FieldAt K H b (.word s l m) ∧ Q (.bl true) H) ∨ (∃ b xs, u = .ref b ∧ H b = some (.tup xs) ∧ Q (.bl false) H))

def spEqNumber (K : Frag) : Sp := fun vs H Q _ => ∃ (a : Addr) (u : V) (l m : V), vs = [.ref a, u] ∧ FieldAt K H a (.number l m) ∧ PD.In (.number l m) ∧ PD.due (.number l m) = none ∧
  ((∃ b, u = .ref b ∧ FieldAt K H b (.number l m) ∧ Q (.bl true) H) ∨ (∃ b xs, u = .ref b ∧ H b = some (.tup xs) ∧ Q (.bl false) H))

def spEqFixed (K : Frag) : Sp := fun vs H Q _ => ∃ (a : Addr) (u : V) (v : V), vs = [.ref a, u] ∧ FieldAt K H a (.fixed v) ∧ PD.In (.fixed v) ∧ PD.due (.fixed v) = none ∧
  ((∃ b, u = .ref b ∧ FieldAt K H b (.fixed v) ∧ Q (.bl true) H) ∨ (∃ b xs, u = .ref b ∧ H b = some (.tup xs) ∧ Q (.bl false) H))

def spEqListed (K : Frag) : Sp := fun vs H Q _ => ∃ (a : Addr) (u : V) (x : LX), vs = [.ref a, u] ∧ FieldAt K H a (.listed x) ∧ PD.In (.listed x) ∧ PD.due (.listed x) = none ∧
  ((∃ b, u = .ref b ∧ FieldAt K H b (.listed x) ∧ Q (.bl true) H) ∨ (∃ b xs, u = .ref b ∧ H b = some (.tup xs) ∧ Q (.bl false) H))

def spEqEnded (K : Frag) : Sp := fun vs H Q _ => ∃ (a : Addr) (u : V) (s e l m : V), vs = [.ref a, u] ∧ FieldAt K H a (.ended s e l m) ∧ PD.In (.ended s e l m) ∧ PD.due (.ended s e l m) = none ∧
  ((∃ b, u = .ref b ∧ FieldAt K H b (.ended s e l m) ∧ Q (.bl true) H) ∨ (∃ b xs, u = .ref b ∧ H b = some (.tup xs) ∧ Q (.bl false) H))

abbrev s_Word_eq : Stmt := inClass (top 17) 1
theorem sc_Word_eq : FnScope ["self", "other"] ["self", "other"] (defScope s_Word_eq) := ⟨rfl, rfl, rfl, by decide +kernel, rfl, by decide +kernel, by decide +kernel⟩

theorem ok_Word_eq (F : FunD K "__eq__" "Word.__eq__" (defArgs s_Word_eq) (defBody s_Word_eq) (defScope s_Word_eq) [] [] f fd) (G : G4 P w K mg base) : FnOk P w K mg base CX0 1 f fd ["self", "other"] (spEqWord K) := by
  refine F.ok (CX := CX0) sc_Word_eq (fun vs H Q E h => ?_) (fun cdv A outer s H vs Q E hr h => ?_)
  · obtain ⟨a, u, s, l, m, rfl, _⟩ := h
    rfl
  · refine ⟨_, PSs.nox (pss_one (ps_ret (pe_and (pe_cmpR op_isA (pe_callTy call_tyA (by rfl) G.type (by decide +kernel) (pa_cons (pv 0) pa_nil)) (pe_callTy call_tyA (by rfl) G.type (by decide +kernel) (pa_cons (pv 1) pa_nil)) (nomark _)) (pe_and (pe_cmpR op_eq (pe_fld (pv 0) rfl) (pe_fld (pv 1) rfl) (nomark _)) (pe_and (pe_cmpR op_eq (pe_fld (pv 0) rfl) (pe_fld (pv 1) rfl) (nomark _)) (pe_one (pe_cmpR op_eq (pe_fld (pv 0) rfl) (pe_fld (pv 1) rfl) (nomark _)))))))), ?_⟩
    obtain ⟨a, u, s, l, m, rfl, ⟨dx, ha⟩, hin, hd, h⟩ := h
    obtain ⟨hs, hl, hm⟩ := hin
    obtain ⟨_, _, z⟩ := word_due s hs l hl m hm hd
    obtain ⟨k0, z⟩ := Bool.and_eq_true_iff.mp z
    obtain ⟨k1, k2⟩ := Bool.and_eq_true_iff.mp z

    rcases h with ⟨b, rfl, ⟨dy, hb⟩, q⟩ | ⟨b, xs, rfl, hb, q⟩
    · refine ⟨_, rfl, _, rfl, .inl ⟨a, _, dx, _, rfl, ha, _, rfl, _, rfl, .inl ⟨b, _, dy, _, rfl, hb, _, rfl, .inl ⟨_, rfl, .inl rfl, _, rfl, ?_⟩⟩⟩⟩
      refine ite2 (fun _ => ?_) (fun h => absurd (decide_eq_true rfl) h)
      refine ⟨_, rfl, a, _, dx, _, _, rfl, ha, G.cWord.cl, G.cWord.no _ (by decide +kernel), lWord_signs, _, rfl, b, _, dy, _, _, rfl, hb, G.cWord.cl, G.cWord.no _ (by decide +kernel), lWord_signs, k0, _, rfl, ?_⟩
      refine ite2 (fun _ => ?_) (fun h => absurd (decide_eq_true rfl) h)
      refine ⟨_, rfl, a, _, dx, _, _, rfl, ha, G.cWord.cl, G.cWord.no _ (by decide +kernel), lWord_least, _, rfl, b, _, dy, _, _, rfl, hb, G.cWord.cl, G.cWord.no _ (by decide +kernel), lWord_least, k1, _, rfl, ?_⟩
      refine ite2 (fun _ => ?_) (fun h => absurd (decide_eq_true rfl) h)
      refine ⟨_, rfl, a, _, dx, _, _, rfl, ha, G.cWord.cl, G.cWord.no _ (by decide +kernel), lWord_most, _, rfl, b, _, dy, _, _, rfl, hb, G.cWord.cl, G.cWord.no _ (by decide +kernel), lWord_most, k2, ?_⟩
      rw [decide_eq_true rfl]
      exact q
    · exact ⟨_, rfl, _, rfl, .inl ⟨a, _, dx, _, rfl, ha, _, rfl, _, rfl, .inr ⟨_, .tup hb, _, rfl, .inr ⟨_, rfl, _, rfl, iteF q⟩⟩⟩⟩


abbrev s_Number_eq : Stmt := inClass (top 18) 1
theorem sc_Number_eq : FnScope ["self", "other"] ["self", "other"] (defScope s_Number_eq) := ⟨rfl, rfl, rfl, by decide +kernel, rfl, by decide +kernel, by decide +kernel⟩

theorem ok_Number_eq (F : FunD K "__eq__" "Number.__eq__" (defArgs s_Number_eq) (defBody s_Number_eq) (defScope s_Number_eq) [] [] f fd) (G : G4 P w K mg base) : FnOk P w K mg base CX0 1 f fd ["self", "other"] (spEqNumber K) := by
  refine F.ok (CX := CX0) sc_Number_eq (fun vs H Q E h => ?_) (fun cdv A outer s H vs Q E hr h => ?_)
  · obtain ⟨a, u, l, m, rfl, _⟩ := h
    rfl
  · refine ⟨_, PSs.nox (pss_one (ps_ret (pe_and (pe_cmpR op_isA (pe_callTy call_tyA (by rfl) G.type (by decide +kernel) (pa_cons (pv 0) pa_nil)) (pe_callTy call_tyA (by rfl) G.type (by decide +kernel) (pa_cons (pv 1) pa_nil)) (nomark _)) (pe_and (pe_cmpR op_eq (pe_fld (pv 0) rfl) (pe_fld (pv 1) rfl) (nomark _)) (pe_one (pe_cmpR op_eq (pe_fld (pv 0) rfl) (pe_fld (pv 1) rfl) (nomark _))))))), ?_⟩
    obtain ⟨a, u, l, m, rfl, ⟨dx, ha⟩, hin, hd, h⟩ := h
    obtain ⟨hl, hm⟩ := hin
    obtain ⟨_, _, _, _, _, _, z⟩ := num_due l hl m hm hd
    obtain ⟨k0, k1⟩ := Bool.and_eq_true_iff.mp z

    rcases h with ⟨b, rfl, ⟨dy, hb⟩, q⟩ | ⟨b, xs, rfl, hb, q⟩
    · refine ⟨_, rfl, _, rfl, .inl ⟨a, _, dx, _, rfl, ha, _, rfl, _, rfl, .inl ⟨b, _, dy, _, rfl, hb, _, rfl, .inl ⟨_, rfl, .inl rfl, _, rfl, ?_⟩⟩⟩⟩
      refine ite2 (fun _ => ?_) (fun h => absurd (decide_eq_true rfl) h)
      refine ⟨_, rfl, a, _, dx, _, _, rfl, ha, G.cNumber.cl, G.cNumber.no _ (by decide +kernel), lNumber_least, _, rfl, b, _, dy, _, _, rfl, hb, G.cNumber.cl, G.cNumber.no _ (by decide +kernel), lNumber_least, k0, _, rfl, ?_⟩
      refine ite2 (fun _ => ?_) (fun h => absurd (decide_eq_true rfl) h)
      refine ⟨_, rfl, a, _, dx, _, _, rfl, ha, G.cNumber.cl, G.cNumber.no _ (by decide +kernel), lNumber_most, _, rfl, b, _, dy, _, _, rfl, hb, G.cNumber.cl, G.cNumber.no _ (by decide +kernel), lNumber_most, k1, ?_⟩
      rw [decide_eq_true rfl]
      exact q
    · exact ⟨_, rfl, _, rfl, .inl ⟨a, _, dx, _, rfl, ha, _, rfl, _, rfl, .inr ⟨_, .tup hb, _, rfl, .inr ⟨_, rfl, _, rfl, iteF q⟩⟩⟩⟩


abbrev s_Fixed_eq : Stmt := inClass (top 19) 1
theorem sc_Fixed_eq : FnScope ["self", "other"] ["self", "other"] (defScope s_Fixed_eq) := ⟨rfl, rfl, rfl, by decide +kernel, rfl, by decide +kernel, by decide +kernel⟩

theorem ok_Fixed_eq (F : FunD K "__eq__" "Fixed.__eq__" (defArgs s_Fixed_eq) (defBody s_Fixed_eq) (defScope s_Fixed_eq) [] [] f fd) (G : G4 P w K mg base) : FnOk P w K mg base CX0 1 f fd ["self", "other"] (spEqFixed K) := by
  refine F.ok (CX := CX0) sc_Fixed_eq (fun vs H Q E h => ?_) (fun cdv A outer s H vs Q E hr h => ?_)
  · obtain ⟨a, u, v, rfl, _⟩ := h
    rfl
  · refine ⟨_, PSs.nox (pss_one (ps_ret (pe_and (pe_cmpR op_isA (pe_callTy call_tyA (by rfl) G.type (by decide +kernel) (pa_cons (pv 0) pa_nil)) (pe_callTy call_tyA (by rfl) G.type (by decide +kernel) (pa_cons (pv 1) pa_nil)) (nomark _)) (pe_one (pe_cmpR op_eq (pe_fld (pv 0) rfl) (pe_fld (pv 1) rfl) (nomark _)))))), ?_⟩
    obtain ⟨a, u, v, rfl, ⟨dx, ha⟩, hin, hd, h⟩ := h
    have k0 := fix_due v hin hd

    rcases h with ⟨b, rfl, ⟨dy, hb⟩, q⟩ | ⟨b, xs, rfl, hb, q⟩
    · refine ⟨_, rfl, _, rfl, .inl ⟨a, _, dx, _, rfl, ha, _, rfl, _, rfl, .inl ⟨b, _, dy, _, rfl, hb, _, rfl, .inl ⟨_, rfl, .inl rfl, _, rfl, ?_⟩⟩⟩⟩
      refine ite2 (fun _ => ?_) (fun h => absurd (decide_eq_true rfl) h)
      refine ⟨_, rfl, a, _, dx, _, _, rfl, ha, G.cFixed.cl, G.cFixed.no _ (by decide +kernel), lFixed_width, _, rfl, b, _, dy, _, _, rfl, hb, G.cFixed.cl, G.cFixed.no _ (by decide +kernel), lFixed_width, k0, ?_⟩
      rw [decide_eq_true rfl]
      exact q
    · exact ⟨_, rfl, _, rfl, .inl ⟨a, _, dx, _, rfl, ha, _, rfl, _, rfl, .inr ⟨_, .tup hb, _, rfl, .inr ⟨_, rfl, _, rfl, iteF q⟩⟩⟩⟩


abbrev s_Ended_eq : Stmt := inClass (top 21) 1
theorem sc_Ended_eq : FnScope ["self", "other"] ["self", "other"] (defScope s_Ended_eq) := ⟨rfl, rfl, rfl, by decide +kernel, rfl, by decide +kernel, by decide +kernel⟩

theorem ok_Ended_eq (F : FunD K "__eq__" "Ended.__eq__" (defArgs s_Ended_eq) (defBody s_Ended_eq) (defScope s_Ended_eq) [] [] f fd) (G : G4 P w K mg base) : FnOk P w K mg base CX0 1 f fd ["self", "other"] (spEqEnded K) := by
  refine F.ok (CX := CX0) sc_Ended_eq (fun vs H Q E h => ?_) (fun cdv A outer s H vs Q E hr h => ?_)
  · obtain ⟨a, u, s, e, l, m, rfl, _⟩ := h
    rfl
  · refine ⟨_, PSs.nox (pss_one (ps_ret (pe_and (pe_cmpR op_isA (pe_callTy call_tyA (by rfl) G.type (by decide +kernel) (pa_cons (pv 0) pa_nil)) (pe_callTy call_tyA (by rfl) G.type (by decide +kernel) (pa_cons (pv 1) pa_nil)) (nomark _)) (pe_and (pe_cmpR op_eq (pe_fld (pv 0) rfl) (pe_fld (pv 1) rfl) (nomark _)) (pe_and (pe_cmpR op_eq (pe_fld (pv 0) rfl) (pe_fld (pv 1) rfl) (nomark _)) (pe_and (pe_cmpR op_eq (pe_fld (pv 0) rfl) (pe_fld (pv 1) rfl) (nomark _)) (pe_one (pe_cmpR op_eq (pe_fld (pv 0) rfl) (pe_fld (pv 1) rfl) (nomark _))))))))), ?_⟩
    obtain ⟨a, u, s, e, l, m, rfl, ⟨dx, ha⟩, hin, hd, h⟩ := h
    obtain ⟨hs, he, hl, hm⟩ := hin
    obtain ⟨_, _, _, z⟩ := end_due s hs e he l hl m hm hd
    obtain ⟨k0, z⟩ := Bool.and_eq_true_iff.mp z
    obtain ⟨k1, z⟩ := Bool.and_eq_true_iff.mp z
    obtain ⟨k2, k3⟩ := Bool.and_eq_true_iff.mp z

    rcases h with ⟨b, rfl, ⟨dy, hb⟩, q⟩ | ⟨b, xs, rfl, hb, q⟩
    · refine ⟨_, rfl, _, rfl, .inl ⟨a, _, dx, _, rfl, ha, _, rfl, _, rfl, .inl ⟨b, _, dy, _, rfl, hb, _, rfl, .inl ⟨_, rfl, .inl rfl, _, rfl, ?_⟩⟩⟩⟩
      refine ite2 (fun _ => ?_) (fun h => absurd (decide_eq_true rfl) h)
      refine ⟨_, rfl, a, _, dx, _, _, rfl, ha, G.cEnded.cl, G.cEnded.no _ (by decide +kernel), lEnded_signs, _, rfl, b, _, dy, _, _, rfl, hb, G.cEnded.cl, G.cEnded.no _ (by decide +kernel), lEnded_signs, k0, _, rfl, ?_⟩
      refine ite2 (fun _ => ?_) (fun h => absurd (decide_eq_true rfl) h)
      refine ⟨_, rfl, a, _, dx, _, _, rfl, ha, G.cEnded.cl, G.cEnded.no _ (by decide +kernel), lEnded_sign, _, rfl, b, _, dy, _, _, rfl, hb, G.cEnded.cl, G.cEnded.no _ (by decide +kernel), lEnded_sign, k1, _, rfl, ?_⟩
      refine ite2 (fun _ => ?_) (fun h => absurd (decide_eq_true rfl) h)
      refine ⟨_, rfl, a, _, dx, _, _, rfl, ha, G.cEnded.cl, G.cEnded.no _ (by decide +kernel), lEnded_least, _, rfl, b, _, dy, _, _, rfl, hb, G.cEnded.cl, G.cEnded.no _ (by decide +kernel), lEnded_least, k2, _, rfl, ?_⟩
      refine ite2 (fun _ => ?_) (fun h => absurd (decide_eq_true rfl) h)
      refine ⟨_, rfl, a, _, dx, _, _, rfl, ha, G.cEnded.cl, G.cEnded.no _ (by decide +kernel), lEnded_most, _, rfl, b, _, dy, _, _, rfl, hb, G.cEnded.cl, G.cEnded.no _ (by decide +kernel), lEnded_most, k3, ?_⟩
      rw [decide_eq_true rfl]
      exact q
    · exact ⟨_, rfl, _, rfl, .inl ⟨a, _, dx, _, rfl, ha, _, rfl, _, rfl, .inr ⟨_, .tup hb, _, rfl, .inr ⟨_, rfl, _, rfl, iteF q⟩⟩⟩⟩


abbrev s_Listed_eq : Stmt := inClass (top 20) 1
theorem sc_Listed_eq : FnScope ["self", "other"] ["self", "other"] (defScope s_Listed_eq) := ⟨rfl, rfl, rfl, by decide +kernel, rfl, by decide +kernel, by decide +kernel⟩

theorem ok_Listed_eq (F : FunD K "__eq__" "Listed.__eq__" (defArgs s_Listed_eq) (defBody s_Listed_eq) (defScope s_Listed_eq) [] [] f fd) (G : G4 P w K mg base) : FnOk P w K mg base CX0 1 f fd ["self", "other"] (spEqListed K) := by
  refine F.ok (CX := CX0) sc_Listed_eq (fun vs H Q E h => ?_) (fun cdv A outer s H vs Q E hr h => ?_)
  · obtain ⟨a, u, x, rfl, _⟩ := h
    rfl
  · refine ⟨_, PSs.nox (pss_one (ps_ret (pe_and (pe_cmpR op_isA (pe_callTy call_tyA (by rfl) G.type (by decide +kernel) (pa_cons (pv 0) pa_nil)) (pe_callTy call_tyA (by rfl) G.type (by decide +kernel) (pa_cons (pv 1) pa_nil)) (nomark _)) (pe_one (pe_cmpR (op_eqD hr.units) (pe_fld (pv 0) rfl) (pe_fld (pv 1) rfl) (nomark _)))))), ?_⟩
    obtain ⟨a, u, x, rfl, ⟨dx, t, ha, ht⟩, hin, hd, h⟩ := h
    obtain ⟨hf, hsh⟩ := lM_shaped x hin hd
    rcases h with ⟨b, rfl, ⟨dy, t2, hb, ht2⟩, q⟩ | ⟨b, xs, rfl, hb, q⟩
    · refine ⟨_, rfl, _, rfl, .inl ⟨a, _, dx, _, rfl, ha, _, rfl, _, rfl, .inl ⟨b, _, dy, _, rfl, hb, _, rfl, .inl ⟨_, rfl, .inl rfl, _, rfl, ?_⟩⟩⟩⟩
      refine ite2 (fun _ => ?_) (fun h => absurd (decide_eq_true rfl) h)
      refine ⟨_, rfl, a, _, dx, _, _, rfl, ha, G.cListed.cl, G.cListed.no _ (by decide +kernel), lListed_texts, _, rfl, b, _, dy, _, _, rfl, hb, G.cListed.cl, G.cListed.no _ (by decide +kernel), lListed_texts, _, _, .tup (SqT.of ht) (dpAll_flat hf), .tup (SqT.of ht2) (dpAll_flat hf), hsh, hsh, ?_⟩
      rw [eqv_same hsh]
      exact q
    · exact ⟨_, rfl, _, rfl, .inl ⟨a, _, dx, _, rfl, ha, _, rfl, _, rfl, .inr ⟨_, .tup hb, _, rfl, .inr ⟨_, rfl, _, rfl, iteF q⟩⟩⟩⟩


/-- has_sign and == of each class -/
structure HM (P : Program) (w : World) (K : Frag) (mg : Str → Option Value) (base : Heap) (k : Nat) (C : Addr) (m : Str) (ps : List Str) (sp : Sp) : Prop where
  me : Meth K C m (He.ma K C m)
  ok : ∃ fd, FnOk P w K mg base CX0 k (He.ma K C m) fd ps sp ∧ Binds K fd ps []
structure EQ (P : Program) (w : World) (K : Frag) (mg : Str → Option Value) (base : Heap) (C : Addr) (sp : Sp) : Prop where
  ok : ∃ fd, FnOk P w K mg base CX0 1 (He.ma K C "__eq__") fd ["self", "other"] sp ∧ Binds K fd ["self", "other"] []
structure G5 (P : Program) (w : World) (K : Frag) (mg : Str → Option Value) (base : Heap) : Prop extends G4 P w K mg base where
  hWord : HM P w K mg base 2 (ca K 0) "has_sign" ["self", "sign"] (spHasWord K)
  eWord : EQ P w K mg base (ca K 0) (spEqWord K)
  hNumber : HM P w K mg base 2 (ca K 1) "has_sign" ["self", "sign"] (spHasNumber K)
  eNumber : EQ P w K mg base (ca K 1) (spEqNumber K)
  hFixed : HM P w K mg base 2 (ca K 2) "has_sign" ["self", "sign"] (spHasFixed K)
  eFixed : EQ P w K mg base (ca K 2) (spEqFixed K)
  hListed : HM P w K mg base 2 (ca K 3) "has_sign" ["self", "sign"] (spHasListed K)
  eListed : EQ P w K mg base (ca K 3) (spEqListed K)
  hEnded : HM P w K mg base 2 (ca K 4) "has_sign" ["self", "sign"] (spHasEnded K)
  eEnded : EQ P w K mg base (ca K 4) (spEqEnded K)
theorem G5.has (G : G5 P w K mg base) {H : Hp} {y : Addr} : ∀ {d : PD}, FieldAt K H y d → d.In → d.due = none → ∃ sp, HM P w K mg base 2 (ca K d.ci) "has_sign" ["self", "sign"] sp ∧
    ∀ c Q E, (∀ H', Same H H' → Q (.bl (d.has ⟨#[c]⟩)) H') → sp [.ref y, .str ⟨#[c]⟩] H Q E
  | .word s l m, h, i, u => ⟨_, G.hWord, fun c Q E q => ⟨y, c, s, l, m, rfl, h, i, u, q⟩⟩
  | .number l m, h, i, u => ⟨_, G.hNumber, fun c Q E q => ⟨y, c, l, m, rfl, h, i, u, q⟩⟩
  | .fixed v, h, i, u => ⟨_, G.hFixed, fun c Q E q => ⟨y, c, v, rfl, h, i, u, q⟩⟩
  | .listed x, h, i, u => ⟨_, G.hListed, fun c Q E q => ⟨y, c, x, rfl, h, i, u, q⟩⟩
  | .ended s e l m, h, i, u => ⟨_, G.hEnded, fun c Q E q => ⟨y, c, s, e, l, m, rfl, h, i, u, q⟩⟩
theorem G5.eqs (G : G5 P w K mg base) {H : Hp} {y : Addr} : ∀ {d : PD}, FieldAt K H y d → d.In → d.due = none → ∃ sp, EQ P w K mg base (ca K d.ci) sp ∧
    ∀ u Q E, ((∃ b, u = .ref b ∧ FieldAt K H b d ∧ Q (.bl true) H) ∨ (∃ b xs, u = .ref b ∧ H b = some (.tup xs) ∧ Q (.bl false) H)) → sp [.ref y, u] H Q E
  | .word s l m, h, i, u => ⟨_, G.eWord, fun v Q E q => ⟨y, v, s, l, m, rfl, h, i, u, q⟩⟩
  | .number l m, h, i, u => ⟨_, G.eNumber, fun v Q E q => ⟨y, v, l, m, rfl, h, i, u, q⟩⟩
  | .fixed z, h, i, u => ⟨_, G.eFixed, fun v Q E q => ⟨y, v, z, rfl, h, i, u, q⟩⟩
  | .listed x, h, i, u => ⟨_, G.eListed, fun v Q E q => ⟨y, v, x, rfl, h, i, u, q⟩⟩
  | .ended s e l m, h, i, u => ⟨_, G.eEnded, fun v Q E q => ⟨y, v, s, e, l, m, rfl, h, i, u, q⟩⟩
theorem held_has : ∀ d : PD, d.In → d.due = none → ∀ c ∈ signs1, inB c d.held = d.has c
  | .word s l m, ⟨hs, hl, hm⟩, h, c, hc => mk_word s hs l hl m hm h c hc
  | .number l m, ⟨hl, hm⟩, h, c, hc => mk_number l hl m hm h c hc
  | .fixed _, _, _, c, _ => rfl
  | .listed x, hx, h, c, hc => mk_listed x hx h c hc
  | .ended s e l m, ⟨hs, he, hl, hm⟩, h, c, hc => mk_ended s hs e he l hl m hm h c hc
theorem mQ_one : ∀ v ∈ mQ, isSignB v = true → v = .str ⟨#[(strV v).cps.getD 0 0]⟩ ∧ (⟨#[(strV v).cps.getD 0 0]⟩ : Str) ∈ signs1 := by decide +kernel
theorem mQ_vM {v : V} (h : v ∈ mQ) : v ∈ vM := List.mem_append_right _ (List.mem_append_right _ (List.mem_append_left _ h))
/-- what is handed in as the field of a marked one -/
def IVAt (K : Frag) (H : Hp) (fv : V) : OD → Prop
  | .val u => fv = u ∧ (u = .non ∨ u = .str "word")
  | .pl d => ∃ y, fv = .ref y ∧ FieldAt K H y d ∧ d.In ∧ d.due = none
  | .mk .. => ∃ y dx fs, fv = .ref y ∧ H y = some (.ins (ca K 5) dx fs)
theorem kit5 (G : G4 P w K mg base) : ∀ i, i < 6 → kitAny K (.ref (ca K i)) [.ref (ca K 0), .ref (ca K 1), .ref (ca K 2), .ref (ca K 3), .ref (ca K 4)] = some (decide (i < 5))
  | 0, h => by
    have k := fun j (hj : j < 6) => G.kit 0 j h hj
    exact kitAny_cons (b := true) (k 0 (by decide)) (fun z => nomatch z) (fun _ => rfl)
  | 1, h => by
    have k := fun j (hj : j < 6) => G.kit 1 j h hj
    exact kitAny_cons (b := false) (k 0 (by decide)) (fun _ => kitAny_cons (b := true) (k 1 (by decide)) (fun z => nomatch z) (fun _ => rfl)) (fun z => nomatch z)
  | 2, h => by
    have k := fun j (hj : j < 6) => G.kit 2 j h hj
    exact kitAny_cons (b := false) (k 0 (by decide)) (fun _ => kitAny_cons (b := false) (k 1 (by decide)) (fun _ => kitAny_cons (b := true) (k 2 (by decide)) (fun z => nomatch z) (fun _ => rfl)) (fun z => nomatch z)) (fun z => nomatch z)
  | 3, h => by
    have k := fun j (hj : j < 6) => G.kit 3 j h hj
    exact kitAny_cons (b := false) (k 0 (by decide)) (fun _ => kitAny_cons (b := false) (k 1 (by decide)) (fun _ => kitAny_cons (b := false) (k 2 (by decide)) (fun _ => kitAny_cons (b := true) (k 3 (by decide)) (fun z => nomatch z) (fun _ => rfl)) (fun z => nomatch z)) (fun z => nomatch z)) (fun z => nomatch z)
  | 4, h => by
    have k := fun j (hj : j < 6) => G.kit 4 j h hj
    exact kitAny_cons (b := false) (k 0 (by decide)) (fun _ => kitAny_cons (b := false) (k 1 (by decide)) (fun _ => kitAny_cons (b := false) (k 2 (by decide)) (fun _ => kitAny_cons (b := false) (k 3 (by decide)) (fun _ => kitAny_cons (b := true) (k 4 (by decide)) (fun z => nomatch z) (fun _ => rfl)) (fun z => nomatch z)) (fun z => nomatch z)) (fun z => nomatch z)) (fun z => nomatch z)
  | 5, h => by
    have k := fun j (hj : j < 6) => G.kit 5 j h hj
    exact kitAny_cons (b := false) (k 0 (by decide)) (fun _ => kitAny_cons (b := false) (k 1 (by decide)) (fun _ => kitAny_cons (b := false) (k 2 (by decide)) (fun _ => kitAny_cons (b := false) (k 3 (by decide)) (fun _ => kitAny_cons (b := false) (k 4 (by decide)) (fun _ => kitAny_nil) (fun z => nomatch z)) (fun z => nomatch z)) (fun z => nomatch z)) (fun z => nomatch z)) (fun z => nomatch z)
  | n + 6, h => absurd h (by omega)
theorem kit5N (G : G4 P w K mg base) : kitAny K (.type "NoneType") [.ref (ca K 0), .ref (ca K 1), .ref (ca K 2), .ref (ca K 3), .ref (ca K 4)] = some false := by
  have k := G.kitN
  exact kitAny_cons (b := false) (k 0 (by decide)) (fun _ => kitAny_cons (b := false) (k 1 (by decide)) (fun _ => kitAny_cons (b := false) (k 2 (by decide)) (fun _ => kitAny_cons (b := false) (k 3 (by decide)) (fun _ => kitAny_cons (b := false) (k 4 (by decide)) (fun _ => kitAny_nil) (fun z => nomatch z)) (fun z => nomatch z)) (fun z => nomatch z)) (fun z => nomatch z)) (fun z => nomatch z)
theorem kit5S (G : G4 P w K mg base) : kitAny K (.type "str") [.ref (ca K 0), .ref (ca K 1), .ref (ca K 2), .ref (ca K 3), .ref (ca K 4)] = some false := by
  have k := G.kitS
  exact kitAny_cons (b := false) (k 0 (by decide)) (fun _ => kitAny_cons (b := false) (k 1 (by decide)) (fun _ => kitAny_cons (b := false) (k 2 (by decide)) (fun _ => kitAny_cons (b := false) (k 3 (by decide)) (fun _ => kitAny_cons (b := false) (k 4 (by decide)) (fun _ => kitAny_nil) (fun z => nomatch z)) (fun z => nomatch z)) (fun z => nomatch z)) (fun z => nomatch z)) (fun z => nomatch z)
def spMarked (K : Frag) : Sp := fun vs H Q E => ∃ (a dx : Addr) (n m fv : V) (i : OD), vs = [.ref a, n, m, fv] ∧ H a = some (.ins (ca K 5) dx []) ∧ n ∈ mQ ∧ m ∈ mQ ∧ IVAt K H fv i ∧
  (OD.due (.mk n m i) = none → ∀ H2, Same H H2 → Q .non (upd H2 a (.ins (ca K 5) dx (fMarked n m fv)))) ∧ ∀ z, OD.due (.mk n m i) = some z → RaiseE (BF K) "what" (.str z) H E

abbrev s_Marked_init : Stmt := inClass (top 22) 0
theorem sc_Marked_init : FnScope ["self", "none", "mark", "field"] ["self", "none", "mark", "field"] (defScope s_Marked_init) := ⟨rfl, rfl, rfl, by decide +kernel, rfl, by decide +kernel, by decide +kernel⟩

theorem ok_Marked_init (F : FunD K "__init__" "Marked.__init__" (defArgs s_Marked_init) (defBody s_Marked_init) (defScope s_Marked_init) [] [] f fd) (G : G5 P w K mg base) : FnOk P w K mg base (L2.CX P w) 4 f fd ["self", "none", "mark", "field"] (spMarked K) := by
  refine F.ok (CX := (L2.CX P w)) sc_Marked_init (fun vs H Q E h => ?_) (fun cdv A outer s H vs Q E hr h => ?_)
  · obtain ⟨a, dx, n, m, fv, i, rfl, _⟩ := h
    rfl
  · have hr3 : Room 3 _ := hr
    have hr2 : Room 2 _ := hr.mono (by decide)
    refine ⟨_, (pss_cons (ps_if (pt_not (pt_val (pe_fn G.is_sign (hr2.mono (by decide)) pass0 (by rfl) (pa_cons (pv 1) pa_nil))))
      (pss_one (ps_raise rfl (takes_of rfl rfl rfl rfl) (pmk_1 G.bf hr2 (by rfl) (pa_cons pe_str pa_nil))))
      pss_nil)
    (pss_cons (ps_if (PW.pt (pw_or (pt_not (pt_val (pe_fn G.is_sign (hr2.mono (by decide)) pass0 (by rfl) (pa_cons (pv 2) pa_nil)))) (pw_or1 (pt_cmpR op_eq (pv 2) (pv 1) (nomark _)))))
      (pss_one (ps_raise rfl (takes_of rfl rfl rfl rfl) (pmk_1 G.bf hr2 (by rfl) (pa_cons pe_str pa_nil))))
      pss_nil)
    (pss_cons (ps_if (pt_not (pt_val (pe_callB call_ieT (by rfl) G.isinstance (by decide +kernel) (pa_cons (pv 3) (pa_cons (pe_tupS (pa_cons (pe_gref (by rfl) G.cWord.mgC) (pa_cons (pe_gref (by rfl) G.cNumber.mgC) (pa_cons (pe_gref (by rfl) G.cFixed.mgC) (pa_cons (pe_gref (by rfl) G.cListed.mgC) (pa_cons (pe_gref (by rfl) G.cEnded.mgC) pa_nil)))))) pa_nil)))))
      (pss_one (ps_raise rfl (takes_of rfl rfl rfl rfl) (pmk_1 G.bf hr2 (by rfl) (pa_cons pe_str pa_nil))))
      pss_nil)
    (pss_cons (ps_if (PW.pt (pw_or (pt_val (pe_methD (CX := CX0) (pv 3) pass0 (pa_cons (pv 1) pa_nil))) (pw_or1 (pt_val (pe_methD (CX := CX0) (pv 3) pass0 (pa_cons (pv 2) pa_nil))))))
      (pss_one (ps_raise rfl (takes_of rfl rfl rfl rfl) (pmk_1 G.bf hr2 (by rfl) (pa_cons pe_str pa_nil))))
      pss_nil)
    (pss_cons (ps_fld (pv 0) (pv 1) rfl)
    (pss_cons (ps_fld (pv 0) (pv 2) rfl)
    (pss_one (ps_fld (pv 0) (pv 3) rfl)))))))), ?_⟩
    obtain ⟨a, dx, n, m, fv, i, rfl, ha, hn, hm, hI, q1, q2⟩ := h
    refine ⟨_, rfl, n, rfl, mQ_vM hn, _, rfl, ?_⟩
    show if (!isSignB n) = true then _ else _
    refine ite2 (fun h1 => mkO_1 (q2 _ (by show (if (!isSignB n) = true then _ else _) = _; rw [if_pos h1]))) (fun h1 => ?_)
    have e1 : OD.due (.mk n m i) = if (!isSignB m || decide (m = n)) = true then (some "mark" : Option Str) else iDue n m i := by show (if (!isSignB n) = true then _ else _) = _; rw [if_neg h1]
    rw [e1] at q1 q2
    have h1' : isSignB n = true := by cases z : isSignB n with | true => rfl | false => exact absurd (by rw [z]; rfl) h1
    obtain ⟨en, cn⟩ := mQ_one n hn h1'
    refine ⟨_, rfl, m, rfl, mQ_vM hm, _, rfl, ?_⟩
    show if (!isSignB m) = true then _ else _
    refine ite2 (fun h2 => mkO_1 (q2 _ (by rw [h2]; rfl))) (fun h2 => ?_)
    have h2' : isSignB m = true := by cases z : isSignB m with | true => rfl | false => exact absurd (by rw [z]; rfl) h2
    obtain ⟨em, cm⟩ := mQ_one m hm h2'
    refine ⟨_, rfl, _, rfl, (by rw [en, em]; rfl), _, rfl, ?_⟩
    refine ite2 (fun h3 => mkO_1 (q2 _ (by rw [h3, Bool.or_true]; rfl))) (fun h3 => ?_)
    rw [h2', Bool.eq_false_iff.mpr h3] at q1 q2
    replace q1 : iDue n m i = none → ∀ H2, Same H H2 → Q .non (upd H2 a (.ins (ca K 5) dx (fMarked n m fv))) := q1
    replace q2 : ∀ z, iDue n m i = some z → RaiseE (BF K) "what" (.str z) H E := q2
    clear e1
    cases i with
    | val u =>
      obtain ⟨rfl, rfl | rfl⟩ := hI
      · refine ⟨_, rfl, by show 5 ≤ 1000; decide, fun p0 H0 hp0 S0 e0 => ⟨_, p0, _, _, _, false, rfl, e0, .cons (.own _) (.cons (.own _) (.cons (.own _) (.cons (.own _) (.cons (.own _) Paired.nil)))), .x (.base .non), (kit5N G.toG4), _, rfl, iteT (mkO_1 (raise_mono S0 (q2 _ rfl)))⟩⟩
      · refine ⟨_, rfl, by show 5 ≤ 1000; decide, fun p0 H0 hp0 S0 e0 => ⟨_, p0, _, _, _, false, rfl, e0, .cons (.own _) (.cons (.own _) (.cons (.own _) (.cons (.own _) (.cons (.own _) Paired.nil)))), .x (.base (.str _)), (kit5S G.toG4), _, rfl, iteT (mkO_1 (raise_mono S0 (q2 _ rfl)))⟩⟩
    | mk n2 m2 i2 =>
      obtain ⟨y, dy, fs, rfl, hy⟩ := hI
      refine ⟨_, rfl, by show 5 ≤ 1000; decide, fun p0 H0 hp0 S0 e0 => ⟨_, p0, _, _, _, false, rfl, e0, .cons (.own _) (.cons (.own _) (.cons (.own _) (.cons (.own _) (.cons (.own _) Paired.nil)))), G.ty (i := 5) (by decide) (S0 _ _ hy), (kit5 G.toG4 5 (by decide)), _, rfl, iteT (mkO_1 (raise_mono S0 (q2 _ rfl)))⟩⟩
    | pl d =>
      obtain ⟨y, rfl, hy, hin, hd⟩ := hI
      have eD : iDue n m (.pl d) = if (d.has ⟨#[(strV n).cps.getD 0 0]⟩ || d.has ⟨#[(strV m).cps.getD 0 0]⟩) = true then (some "field" : Option Str) else none := by
        rw [← held_has d hin hd _ cn, ← held_has d hin hd _ cm]
        rfl
      rw [eD] at q1 q2
      obtain ⟨dy, fs, hi, lf⟩ := hy.ins
      refine ⟨_, rfl, by show 5 ≤ 1000; decide, fun p0 H0 hp0 S0 e0 => ⟨_, p0, _, _, _, true, rfl, e0, .cons (.own _) (.cons (.own _) (.cons (.own _) (.cons (.own _) (.cons (.own _) Paired.nil)))), G.ty (Nat.lt_of_lt_of_le d.ci_lt (by decide)) (S0 _ _ hi), ((kit5 G.toG4 d.ci (Nat.lt_of_lt_of_le d.ci_lt (by decide))).trans (congrArg some (decide_eq_true d.ci_lt))), _, rfl, iteF ?_⟩⟩
      obtain ⟨sp, M, Hs⟩ := G.has (hy.same S0) hin hd
      obtain ⟨fdh, Fh, Bh⟩ := M.ok
      refine ⟨_, rfl, y, _, dy, _, fs, 2, fdh, _, sp, rfl, S0 _ _ hi, lf, G.cl _ (Nat.lt_of_lt_of_le d.ci_lt (by decide)), M.me, Fh, hr2, Bh, _, rfl, ?_⟩
      show sp [.ref y, n] H0 _ _
      rw [en]
      refine Hs _ _ _ fun H1 S1 => ⟨_, rfl, ?_⟩
      have S1' := S0.trans S1
      refine ite2 (fun h4 => mkO_1 (raise_mono S1' (q2 _ (by rw [h4]; rfl)))) (fun h4 => ?_)
      obtain ⟨sp2, M2, Hs2⟩ := G.has (hy.same S1') hin hd
      obtain ⟨fdh2, Fh2, Bh2⟩ := M2.ok
      refine ⟨_, rfl, y, _, dy, _, fs, 2, fdh2, _, sp2, rfl, S1' _ _ hi, lf, G.cl _ (Nat.lt_of_lt_of_le d.ci_lt (by decide)), M2.me, Fh2, hr2, Bh2, _, rfl, ?_⟩
      show sp2 [.ref y, m] H1 _ _
      rw [em]
      refine Hs2 _ _ _ fun H2 S2 => ⟨_, rfl, ?_⟩
      have S2' := S1'.trans S2
      refine ite2 (fun h5 => mkO_1 (raise_mono S2' (q2 _ (by rw [h5, Bool.or_true]; rfl)))) (fun h5 => ?_)
      have z := q1 (by rw [Bool.eq_false_iff.mpr h4, Bool.eq_false_iff.mpr h5]; rfl) H2 S2'
      rw [← en, ← em]
      have ha := S2' _ _ ha
      refine ⟨_, rfl, _, rfl, a, _, dx, _, rfl, ha, G.cMarked.cl, G.cMarked.no _ (by decide +kernel), (by show 0 < 1000; decide), _, rfl, _, rfl, a, _, dx, _, rfl, upd_same, G.cMarked.cl, G.cMarked.no _ (by decide +kernel), (by show 1 < 1000; decide), _, rfl, _, rfl, a, _, dx, _, rfl, upd_same, G.cMarked.cl, G.cMarked.no _ (by decide +kernel), (by show 2 < 1000; decide), ?_⟩
      show Q .non _
      rw [upd_upd, upd_upd]
      exact z

/-- a marked field -/
def MkAt (K : Frag) (H : Hp) (a : Addr) (n m : V) (d : PD) : Prop := ∃ dx y, H a = some (.ins (ca K 5) dx (fMarked n m (.ref y))) ∧ FieldAt K H y d
def spEqMarked (K : Frag) : Sp := fun vs H Q _ => ∃ (a : Addr) (u n m : V) (d : PD), vs = [.ref a, u] ∧ MkAt K H a n m d ∧ d.In ∧ d.due = none ∧ scal n n = true ∧ scal m m = true ∧
  ((∃ b, u = .ref b ∧ MkAt K H b n m d ∧ Q (.bl true) H) ∨ (∃ b xs, u = .ref b ∧ H b = some (.tup xs) ∧ Q (.bl false) H))

abbrev s_Marked_eq : Stmt := inClass (top 22) 1
theorem sc_Marked_eq : FnScope ["self", "other"] ["self", "other"] (defScope s_Marked_eq) := ⟨rfl, rfl, rfl, by decide +kernel, rfl, by decide +kernel, by decide +kernel⟩

theorem ok_Marked_eq (F : FunD K "__eq__" "Marked.__eq__" (defArgs s_Marked_eq) (defBody s_Marked_eq) (defScope s_Marked_eq) [] [] f fd) (G : G5 P w K mg base) : FnOk P w K mg base CX0 2 f fd ["self", "other"] (spEqMarked K) := by
  refine F.ok (CX := CX0) sc_Marked_eq (fun vs H Q E h => ?_) (fun cdv A outer s H vs Q E hr h => ?_)
  · obtain ⟨a, u, n, m, d, rfl, _⟩ := h
    rfl
  · refine ⟨_, PSs.nox (pss_one (ps_ret (pe_and (pe_cmpR op_isA (pe_callTy call_tyA (by rfl) G.type (by decide +kernel) (pa_cons (pv 0) pa_nil)) (pe_callTy call_tyA (by rfl) G.type (by decide +kernel) (pa_cons (pv 1) pa_nil)) (nomark _)) (pe_and (pe_cmpR op_eq (pe_fld (pv 0) rfl) (pe_fld (pv 1) rfl) (nomark _)) (pe_and (pe_cmpR op_eq (pe_fld (pv 0) rfl) (pe_fld (pv 1) rfl) (nomark _)) (pe_one (pe_cmpR (op_eqO (CX := CX0) pass0) (pe_fld (pv 0) rfl) (pe_fld (pv 1) rfl) (nomark _)))))))), ?_⟩
    obtain ⟨a, u, n, m, d, rfl, ⟨dx, y, ha, hy⟩, hin, hd, k0, k1, h⟩ := h
    rcases h with ⟨b, rfl, ⟨dy, y2, hb, hy2⟩, q⟩ | ⟨b, xs, rfl, hb, q⟩
    · refine ⟨_, rfl, _, rfl, .inl ⟨a, _, dx, _, rfl, ha, _, rfl, _, rfl, .inl ⟨b, _, dy, _, rfl, hb, _, rfl, .inl ⟨_, rfl, .inl rfl, _, rfl, ?_⟩⟩⟩⟩
      refine ite2 (fun _ => ?_) (fun h => absurd (decide_eq_true rfl) h)
      refine ⟨_, rfl, a, _, dx, _, _, rfl, ha, G.cMarked.cl, G.cMarked.no _ (by decide +kernel), lMarked_none, _, rfl, b, _, dy, _, _, rfl, hb, G.cMarked.cl, G.cMarked.no _ (by decide +kernel), lMarked_none, k0, _, rfl, ?_⟩
      refine ite2 (fun _ => ?_) (fun h => absurd (decide_eq_true rfl) h)
      refine ⟨_, rfl, a, _, dx, _, _, rfl, ha, G.cMarked.cl, G.cMarked.no _ (by decide +kernel), lMarked_mark, _, rfl, b, _, dy, _, _, rfl, hb, G.cMarked.cl, G.cMarked.no _ (by decide +kernel), lMarked_mark, k1, _, rfl, ?_⟩
      refine ite2 (fun _ => ?_) (fun h => absurd (decide_eq_true rfl) h)
      obtain ⟨ey, fs, hi, _⟩ := hy.ins
      obtain ⟨ey2, fs2, hi2, _⟩ := hy2.ins
      have h6 := Nat.lt_of_lt_of_le d.ci_lt (by decide : 5 ≤ 6)
      obtain ⟨sp, M, Hs⟩ := G.eqs hy hin hd
      obtain ⟨fde, Fe, Be⟩ := M.ok
      refine ⟨_, rfl, a, _, dx, _, _, rfl, ha, G.cMarked.cl, G.cMarked.no _ (by decide +kernel), lMarked_field, _, rfl, b, _, dy, _, _, rfl, hb, G.cMarked.cl, G.cMarked.no _ (by decide +kernel), lMarked_field, y, ca K d.ci, ey, fs, .ref (ca K d.ci), rfl, hi, (G.kc _ h6).eq, G.ty h6 hi2, ?_, 1, fde, _, sp, (G.kc _ h6).ke, Fe, hr, Be, Hs _ _ _ (.inl ⟨y2, rfl, hy2, true, rfl, q⟩)⟩
      unfold notFirst
      rw [beq_self_eq_true]
      rfl
    · exact ⟨_, rfl, _, rfl, .inl ⟨a, _, dx, _, rfl, ha, _, rfl, _, rfl, .inr ⟨_, .tup hb, _, rfl, .inr ⟨_, rfl, _, rfl, iteF q⟩⟩⟩⟩


end
end L2.K03

set_option Elab.async false
set_option linter.all false
set_option maxRecDepth 100000
set_option maxHeartbeats 4000000
namespace L2.K03
open PySem PySem.W PySem.Spec PySem.Calls PyProof.Rows L2.Jk
theorem itN {a b : Str} {A B : Prop} (h : decide (V.str a = V.str b) = false) (k : B) : if decide (V.str a = V.str b) = true then A else B := by
  rw [h]
  exact iteF k
theorem itY {a : V} {A B : Prop} (k : A) : if decide (a = a) = true then A else B := by
  rw [decide_eq_true rfl]
  exact iteT k
def oV : Option Str → V
  | none => .non
  | some z => .str z
/-- a field as the law draws it, its parts not at s -/
def PDAt (s : Addr) (H : Hp) (v : V) : PD → Prop
  | .word x l m => ∃ b, v = .ref b ∧ b ≠ s ∧ H b = some (.tup [.str "word", x, l, m])
  | .number l m => ∃ b, v = .ref b ∧ b ≠ s ∧ H b = some (.tup [.str "number", l, m])
  | .fixed u => ∃ b, v = .ref b ∧ b ≠ s ∧ H b = some (.tup [.str "fixed", u])
  | .listed x => ∃ b u, v = .ref b ∧ b ≠ s ∧ H b = some (.tup [.str "listed", u]) ∧ LXAt H u x ∧ ∀ c, u = .ref c → c ≠ s
  | .ended x e l m => ∃ b, v = .ref b ∧ b ≠ s ∧ H b = some (.tup [.str "ended", x, e, l, m])
theorem LXAt.but {s : Addr} {H H' : Hp} {v : V} (S : But s H H') (n : ∀ c, v = .ref c → c ≠ s) : ∀ {x : LX}, LXAt H v x → LXAt H' v x
  | .lst _, ⟨b, e, h⟩ => ⟨b, e, S _ _ (n b e) h⟩
  | .tup _, ⟨b, e, h⟩ => ⟨b, e, S _ _ (n b e) h⟩
  | .val _, e => e
theorem PDAt.but {s : Addr} {H H' : Hp} {v : V} (S : But s H H') : ∀ {d : PD}, PDAt s H v d → PDAt s H' v d
  | .word .., ⟨b, e, n, h⟩ => ⟨b, e, n, S _ _ n h⟩
  | .number .., ⟨b, e, n, h⟩ => ⟨b, e, n, S _ _ n h⟩
  | .fixed _, ⟨b, e, n, h⟩ => ⟨b, e, n, S _ _ n h⟩
  | .listed _, ⟨b, u, e, n, h, l, m⟩ => ⟨b, u, e, n, S _ _ n h, l.but S m, m⟩
  | .ended .., ⟨b, e, n, h⟩ => ⟨b, e, n, S _ _ n h⟩
theorem PDAt.same {s : Addr} {H H' : Hp} {v : V} (S : Same H H') {d : PD} (h : PDAt s H v d) : PDAt s H' v d := h.but (But.of_same S)
def ODAt (s : Addr) (H : Hp) (v : V) : OD → Prop
  | .val u => v = u ∧ (u = .non ∨ u = .str "word")
  | .pl d => PDAt s H v d
  | .mk n m i => ∃ b u, v = .ref b ∧ b ≠ s ∧ H b = some (.tup [.str "marked", n, m, u]) ∧ ODAt s H u i
theorem ODAt.but {s : Addr} {H H' : Hp} (S : But s H H') : ∀ {d : OD} {v : V}, ODAt s H v d → ODAt s H' v d
  | .val _, _, h => h
  | .pl _, _, h => PDAt.but S h
  | .mk _ _ i, _, ⟨b, u, e, n, h, k⟩ => ⟨b, u, e, n, S _ _ n h, ODAt.but (d := i) S k⟩
theorem ODAt.same {s : Addr} {H H' : Hp} {v : V} (S : Same H H') {d : OD} (h : ODAt s H v d) : ODAt s H' v d := h.but (But.of_same S)
def OD.In : OD → Prop
  | .val _ => True
  | .pl d => d.In
  | .mk n m i => n ∈ mQ ∧ m ∈ mQ ∧ i.In ∧ i.due = none
def OD.dep : OD → Nat
  | .val _ => 0
  | .pl _ => 1
  | .mk _ _ i => i.dep + 1
/-- the law's helpers -/
def spSg : Sp := fun vs H Q _ => ∃ v : V, vs = [v] ∧ v ∈ vM ∧ ∀ H', Same H H' → Q (.bl (sgB v)) H'
def spBnd : Sp := fun vs H Q _ => ∃ l m : V, vs = [l, m] ∧ flatV l = true ∧ flatV m = true ∧ Q (oV (bDue l m)) H
def spSgd : Sp := fun vs H Q _ => ∃ v : V, vs = [v] ∧ v ∈ sM ∧ ∀ H', Same H H' → Q (if sBad v = true then .str "signs" else .non) H'
def spHeld : Sp := fun vs H Q _ => ∃ (s : Addr) (v : V) (d : PD), vs = [v] ∧ PDAt s H v d ∧ d.In ∧ d.due = none ∧ ∀ H', Same H H' → Q (.str d.held) H'
def spDue : Sp := fun vs H Q _ => ∃ (s : Addr) (v : V) (d : OD), vs = [v] ∧ ODAt s H v d ∧ d.In ∧ 1 ≤ d.dep ∧ ∀ H', Same H H' → Q (oV d.due) H'
/-- the signs of a text that are none of the good ones -/
def badN (v : V) (n : Nat) : List V := (((strV v).cps.toList.take n).filter fun c => !decide (c ∈ SG.cps.toList)).map fun c => V.str ⟨#[c]⟩
theorem bad_facts : ∀ v ∈ vM, SeqAt.shaped (.list ((badN v (strV v).cps.size).map dV)) = true ∧ PyData.eqv (.list ((badN v (strV v).cps.size).map dV)) (.list []) = sgB (.str (strV v)) ∧ (strV v).cps.size ≤ 20 := by decide +kernel
theorem bad_flat (v : V) (n : Nat) : (badN v n).all flatV = true := by
  unfold badN
  rw [List.all_map]
  exact List.all_eq_true.mpr fun _ _ => rfl
theorem shaped_nil : SeqAt.shaped (.list []) = true := by decide +kernel
theorem badN_succ {v : V} {i c : Nat} (h : (strV v).cps[i]? = some c) : badN v (i + 1) = if (!decide (c ∈ SG.cps.toList)) = true then badN v i ++ [V.str ⟨#[c]⟩] else badN v i := by
  have e : (strV v).cps.toList[i]? = some c := by rw [← h]; simp
  unfold badN
  rw [List.take_add_one, e, List.filter_append, List.map_append]
  show _ ++ (List.filter _ [c]).map _ = _
  by_cases k : (!decide (c ∈ SG.cps.toList)) = true
  · rw [if_pos k, List.filter_cons_of_pos (p := fun c => !decide (c ∈ SG.cps.toList)) k]
    rfl
  · rw [if_neg k, List.filter_cons_of_neg (p := fun c => !decide (c ∈ SG.cps.toList)) k]
    show _ ++ [] = _
    rw [List.append_nil]
structure GL0 (P : Program) (w : World) (K : Frag) (mg : Str → Option Value) (base : Heap) : Prop extends G5 P w K mg base where
  law_is_signs : FnAt P w K mg base CX0 1 "_law_is_signs" ["_law_thing"] spSg
  law_is_number : FnAt P w K mg base CX0 1 "_law_is_number" ["_law_thing"] spNum
section
variable {P : Program} {w : World} {K : Frag} {mg : Str → Option Value} {base : Heap} {f : Addr} {fd : FuncData}

abbrev s_law_is_signs : Stmt := top 27
theorem sc_law_is_signs : FnScope ["_law_thing", "_law_good", "_law_sign"] ["_law_thing"] (defScope s_law_is_signs) := ⟨rfl, rfl, rfl, by decide +kernel, rfl, by decide +kernel, by decide +kernel⟩

theorem ok_law_is_signs (F : FunD K "_law_is_signs" "_law_is_signs" (defArgs s_law_is_signs) (defBody s_law_is_signs) (defScope s_law_is_signs) [] [] f fd) (G : G0 P w K mg base) : FnOk P w K mg base CX0 1 f fd ["_law_thing"] spSg := by
  refine F.ok (CX := CX0) sc_law_is_signs (fun vs H Q E h => ?_) (fun cdv A outer s H vs Q E hr h => ?_)
  · obtain ⟨v, rfl, _⟩ := h
    rfl
  · refine ⟨_, PSs.nox (pss_cons (ps_set (i := 1) sc_law_is_signs.nd rfl (Or.inr rfl) pe_str)
    (pss_one (ps_ret (pe_and (pe_callB call_ie (by rfl) G.isinstance (by decide +kernel) (pa_cons (pv 0) (pa_cons (pe_bty (n := "str") (by rfl) G.str (by decide +kernel)) pa_nil))) (pe_one (pe_cmpR (op_eqD hr.units) (pe_lc (own := [("_law_sign", 2)]) (g := gName 2) (tt := _) rfl sc_law_is_signs.nd (pi_str (pv 0)) (blkOk_by (N := ["_law_thing", "_law_good", "_law_sign"]) (sc := defScope s_law_is_signs) (by decide +kernel)) (fun _ _ _ _ _ => pg_name (i := 2) sc_law_is_signs.nd rfl (Or.inl rfl)) (fun _ _ _ _ _ => pts_one (pt_cmpR op_notIn_sign (pv 2) (pv 1) (by rfl))) (fun _ _ _ _ _ => (pv 2))) (pe_lstS pa_nil) (nomark _))))))), ?_⟩
    obtain ⟨v, rfl, hv, q⟩ := h
    obtain ⟨hf, _, _, hz⟩ := vM_facts v hv
    obtain ⟨b1, b2, b3⟩ := bad_facts v hv
    refine ⟨_, rfl, _, _, _, _, _, rfl, .ty _, flat_ty hf, kit_ty (kit_str hf), _, rfl, ?_⟩
    cases v with
    | str z =>
      refine iteT ⟨_, rfl, z, rfl, fun D hD => ?_⟩
      refine lc_str (x := z) (LcP H D (badN (.str z))) (LcP.start hD rfl) ?_ ?_
      · intro i c J hc p
        have hi : i < z.cps.size := (Array.getElem?_eq_some_iff.mp hc).1
        have e := badN_succ (v := .str z) hc
        have b3' : z.cps.size ≤ 20 := b3
        refine ⟨rfl, _, rfl, _, rfl, c, SG, rfl, rfl, _, rfl, ?_⟩
        refine ite2 (fun k => ?_) (fun k => ?_)
        · exact ⟨_, rfl, p.put (Same.refl _) (by rw [e, if_pos k]) (by omega)⟩
        · exact p.pass (Same.refl _) (by rw [e, if_neg k])
      · rintro J ⟨S1, _, eJ, _⟩
        refine ⟨by show 0 ≤ 1000; decide, fun p J2 hp S2 e2 => ⟨_, _, .lst (SqL.of (S2 _ _ eJ)) (dpAll_flat (bad_flat _ _)), .lst (SqL.of e2) .nil, b1, shaped_nil, ?_⟩⟩
        replace b2 : PyData.eqv (.list ((badN (.str z) z.cps.size).map dV)) (.list []) = sgB (.str z) := b2
        rw [b2]
        exact q _ (S1.trans S2)
    | non => exact iteF (q _ (Same.refl _))
    | bl b => exact iteF (q _ (Same.refl _))
    | int i => exact iteF (q _ (Same.refl _))
    | _ => cases hf

abbrev s_law_is_number : Stmt := top 28
theorem sc_law_is_number : FnScope ["_law_thing"] ["_law_thing"] (defScope s_law_is_number) := ⟨rfl, rfl, rfl, by decide +kernel, rfl, by decide +kernel, by decide +kernel⟩

theorem ok_law_is_number (F : FunD K "_law_is_number" "_law_is_number" (defArgs s_law_is_number) (defBody s_law_is_number) (defScope s_law_is_number) [] [] f fd) (G : G0 P w K mg base) : FnOk P w K mg base CX0 1 f fd ["_law_thing"] spNum := by
  refine F.ok (CX := CX0) sc_law_is_number (fun vs H Q E h => ?_) (fun cdv A outer s H vs Q E hr h => ?_)
  · obtain ⟨v, rfl, _⟩ := h
    rfl
  · refine ⟨_, PSs.nox (pss_one (ps_ret (pe_and (pe_callB call_ie (by rfl) G.isinstance (by decide +kernel) (pa_cons (pv 0) (pa_cons (pe_bty (n := "int") (by rfl) G.int (by decide +kernel)) pa_nil))) (pe_one (pe_not (pe_callB call_ie (by rfl) G.isinstance (by decide +kernel) (pa_cons (pv 0) (pa_cons (pe_bty (n := "bool") (by rfl) G.bool (by decide +kernel)) pa_nil)))))))), ?_⟩
    obtain ⟨v, rfl, hf, q⟩ := h
    refine ⟨_, rfl, _, _, _, _, _, rfl, .ty _, flat_ty hf, kit_ty (kit_int hf), _, rfl, ?_⟩
    cases v with
    | non => exact iteF q
    | str z => exact iteF q
    | bl b => exact iteT ⟨_, rfl, _, _, _, _, _, rfl, .ty _, flat_ty hf, kit_ty (kit_bool hf), _, rfl, q⟩
    | int i => exact iteT ⟨_, rfl, _, _, _, _, _, rfl, .ty _, flat_ty hf, kit_ty (kit_bool hf), _, rfl, q⟩
    | _ => cases hf

abbrev s_law_bounds_due : Stmt := top 29
theorem sc_law_bounds_due : FnScope ["_law_least", "_law_most"] ["_law_least", "_law_most"] (defScope s_law_bounds_due) := ⟨rfl, rfl, rfl, by decide +kernel, rfl, by decide +kernel, by decide +kernel⟩

theorem ok_law_bounds_due (F : FunD K "_law_bounds_due" "_law_bounds_due" (defArgs s_law_bounds_due) (defBody s_law_bounds_due) (defScope s_law_bounds_due) [] [] f fd) (G : GL0 P w K mg base) : FnOk P w K mg base CX0 2 f fd ["_law_least", "_law_most"] spBnd := by
  refine F.ok (CX := CX0) sc_law_bounds_due (fun vs H Q E h => ?_) (fun cdv A outer s H vs Q E hr h => ?_)
  · obtain ⟨l, m, rfl, _⟩ := h
    rfl
  · refine ⟨_, PSs.nox (pss_cons (ps_if (PW.pt (pw_or (pt_not (pt_val (pe_fn G.law_is_number hr pass0 (by rfl) (pa_cons (pv 0) pa_nil)))) (pw_or1 (pt_cmpR op_lt (pv 0) pe_int (nomark _)))))
      (pss_one (ps_ret pe_str))
      pss_nil)
    (pss_cons (ps_if (PW.pt (pw_and (pt_cmpR op_notN (pv 1) pe_non (nomark _)) (pw_and1 (PW.pt (pw_or (pt_not (pt_val (pe_fn G.law_is_number hr pass0 (by rfl) (pa_cons (pv 1) pa_nil)))) (pw_or1 (pt_cmpR op_lt (pv 1) (pv 0) (nomark _))))))))
      (pss_one (ps_ret pe_str))
      pss_nil)
    (pss_one (ps_ret pe_non)))), ?_⟩
    obtain ⟨l, m, rfl, hl, hm, q⟩ := h
    refine ⟨_, rfl, l, rfl, hl, _, rfl, ?_⟩
    show if (!numB l) = true then _ else _
    have r1 : ∀ z, bDue l m = some z → Q (.str z) H := fun z e => by rw [e] at q; exact q
    refine ite2 (fun h1 => r1 _ (by show (if (!numB l || _) = true then _ else _) = _; rw [h1]; rfl)) (fun h1 => ?_)
    cases l with
    | int i =>
      refine ⟨_, rfl, _, _, rfl, rfl, _, rfl, ?_⟩
      refine ite2 (fun h2 => r1 _ (by show (if (_ || decide (i < 0)) = true then _ else _) = _; rw [h2]; rfl)) (fun h2 => ?_)
      refine ⟨_, rfl, rfl, _, rfl, ?_⟩
      have e0 : bDue (.int i) m = if (!decide (m = .non) && (!numB m || ltV m (.int i))) = true then (some "most" : Option Str) else none := by
        show (if (!true || decide (i < 0)) = true then _ else _) = _
        rw [Bool.eq_false_iff.mpr h2]
        rfl
      rw [e0] at r1 q
      refine ite2 (fun h3 => ?_) (fun h3 => by rw [Bool.eq_false_iff.mpr h3] at q; exact q)
      refine ⟨_, rfl, m, rfl, hm, _, rfl, ?_⟩
      show if (!numB m) = true then _ else _
      refine ite2 (fun h4 => r1 _ (by rw [h3, h4]; rfl)) (fun h4 => ?_)
      cases m with
      | int j =>
        refine ⟨_, rfl, _, rfl, _, _, rfl, rfl, _, rfl, ?_⟩
        refine ite2 (fun h5 => r1 _ (by show (if (_ && (_ || decide (j < i))) = true then _ else _) = _; rw [h3, h5]; rfl)) (fun h5 => ?_)
        have e5 : (if (!decide (V.int j = .non) && (!numB (.int j) || ltV (.int j) (.int i))) = true then (some "most" : Option Str) else none) = none := by
          show (if (_ && (!true || decide (j < i))) = true then _ else _) = _
          rw [h3, Bool.eq_false_iff.mpr h5]
          rfl
        rw [e5] at q
        exact q
      | _ => exact absurd rfl h4
    | _ => exact absurd rfl h1

/-- list(text) as texts -/
def sgL (v : V) : List Str := (List.range (strV v).cps.size).map fun i => ⟨#[(strV v).cps.getD i 0]⟩
theorem sgL_new : ∀ v ∈ sM, newS (fun i => (sgL v).getD i Str.empty) (sgL v).length = newS (fun i => ⟨#[(strV v).cps.getD i 0]⟩) (strV v).cps.size := by decide +kernel
theorem sgL_is (z : Str) : signsV z = (sgL (.str z)).map V.str := by
  unfold signsV sgL
  rw [List.map_map]
  rfl

abbrev s_law_signs_due : Stmt := top 30
theorem sc_law_signs_due : FnScope ["_law_signs_here"] ["_law_signs_here"] (defScope s_law_signs_due) := ⟨rfl, rfl, rfl, by decide +kernel, rfl, by decide +kernel, by decide +kernel⟩

theorem ok_law_signs_due (F : FunD K "_law_signs_due" "_law_signs_due" (defArgs s_law_signs_due) (defBody s_law_signs_due) (defScope s_law_signs_due) [] [] f fd) (G : GL0 P w K mg base) : FnOk P w K mg base CX0 2 f fd ["_law_signs_here"] spSgd := by
  refine F.ok (CX := CX0) sc_law_signs_due (fun vs H Q E h => ?_) (fun cdv A outer s H vs Q E hr h => ?_)
  · obtain ⟨v, rfl, _⟩ := h
    rfl
  · refine ⟨_, PSs.nox (pss_cons (ps_if (PW.pt (pw_or (pt_not (pt_val (pe_fn G.law_is_signs hr pass0 (by rfl) (pa_cons (pv 0) pa_nil)))) (pw_or (pt_cmpR op_eq (pv 0) pe_str (nomark _)) (pw_or1 (pt_cmpR op_lt (pe_lenSetSeq rfl (by rfl) G.len (by rfl) G.set (pe_callTy (call_listStr rfl) (by rfl) G.list (by decide +kernel) (pa_cons (pv 0) pa_nil))) (pe_callB call_len_str (by rfl) G.len (by decide +kernel) (pa_cons (pv 0) pa_nil)) (nomark _))))))
      (pss_one (ps_ret pe_str))
      pss_nil)
    (pss_one (ps_ret pe_non))), ?_⟩
    obtain ⟨v, rfl, hv, q⟩ := h
    obtain ⟨hf, ea, _, hz⟩ := vM_facts v (sM_vM hv)
    refine ⟨_, rfl, v, rfl, sM_vM hv, fun H1 S1 => ⟨_, rfl, ?_⟩⟩
    show if (!sgB v) = true then _ else _
    have bad : sBad v = true → ∀ H', Same H H' → Q (.str "signs") H' := fun h H' S => by have z := q H' S; rw [if_pos h] at z; exact z
    rw [← ea]
    refine ite2 (fun h1 => bad (by show (!areB v || _) = true; rw [h1]; rfl) _ S1) (fun h1 => ?_)
    cases v with
    | str z =>
      refine ⟨_, rfl, rfl, _, rfl, ?_⟩
      refine ite2 (fun h2 => bad (by show (_ || (decide _ || _)) = true; rw [h2]; exact Bool.or_true _) _ S1) (fun h2 => ?_)
      have hz2 : z.cps.size ≤ 20 := hz
      refine ⟨_, rfl, z, rfl, by omega, fun p H2 hp S2 e2 => ⟨p, sgL (.str z), rfl, .inl (by rw [← sgL_is]; exact SqL.of e2), (by unfold sgL; rw [List.length_map, List.length_range]; show z.cps.size ≤ 4000; omega), _, rfl, z, rfl, small_line z (Nat.le_trans hz (by decide)), _, _, rfl, rfl, _, rfl, ?_⟩⟩
      rw [sgL_new _ hv]
      refine ite2 (fun h3 => bad ?_ _ (S1.trans S2)) (fun h3 => ?_)
      · have h4 : twB (.str z) = true := decide_eq_true (Int.ofNat_lt.mp (of_decide_eq_true h3))
        show (_ || (_ || twB (.str z))) = true
        rw [h4, Bool.or_true, Bool.or_true]
      · have h4 : twB (.str z) = false := decide_eq_false (fun h => h3 (decide_eq_true (Int.ofNat_lt.mpr h)))
        have e : sBad (.str z) = false := by
          show (!areB (.str z) || (decide (V.str z = .str "") || twB (.str z))) = false
          rw [h4, Bool.eq_false_iff.mpr h1, Bool.eq_false_iff.mpr h2]
          rfl
        have zz := q _ (S1.trans S2)
        rw [e] at zz
        exact zz
    | _ => exact absurd rfl h1

theorem word_most : ∀ s ∈ sM, ∀ l ∈ nM, ∀ m ∈ nM, oDue s l m = none → m = .non ∨ m = .int (intV m) := by decide +kernel
theorem end_most : ∀ s ∈ sM, ∀ e ∈ eM, ∀ l ∈ nM, ∀ m ∈ nM, eDue s e l m = none → m = .non ∨ m = .int (intV m) := by decide +kernel
def numTs (l m : V) (n : Nat) : List Str := (List.range n).map fun (i : Nat) => (toString (intV l + (i : Int)) : Str)
theorem num_join : ∀ l ∈ nM, ∀ m ∈ hM, bDue l m = none → ¬ intV l + 10 ≤ intV m → ((numTs l m (intV m + 1 - intV l).toNat).map (·.length)).sum + (numTs l m (intV m + 1 - intV l).toNat).length * ("" : Str).length ≤ 16777216 := by decide +kernel
theorem lst_join : ∀ x ∈ lM, lxDue x = none → ((x.els.map strV).map (·.length)).sum + (x.els.map strV).length * ("" : Str).length ≤ 16777216 ∧ x.els.all areB = true := by decide +kernel

abbrev s_law_in_texts : Stmt := top 31
theorem sc_law_in_texts : FnScope ["_law_one", "_law_value", "_law_found"] ["_law_one"] (defScope s_law_in_texts) := ⟨rfl, rfl, rfl, by decide +kernel, rfl, by decide +kernel, by decide +kernel⟩

theorem ok_law_in_texts (F : FunD K "_law_in_texts" "_law_in_texts" (defArgs s_law_in_texts) (defBody s_law_in_texts) (defScope s_law_in_texts) [] [] f fd) (G : GL0 P w K mg base) : FnOk P w K mg base CX0 1 f fd ["_law_one"] spHeld := by
  refine F.ok (CX := CX0) sc_law_in_texts (fun vs H Q E h => ?_) (fun cdv A outer s H vs Q E hr h => ?_)
  · obtain ⟨s0, v, d, rfl, _⟩ := h
    rfl
  · refine ⟨_, PSs.nox (pss_cons (ps_if (pt_cmpR op_eq (pe_ix ix_tup (pv 0) pe_int (fun _ _ => rfl)) pe_str (nomark _))
      (pss_cons (ps_if (PW.pt (pw_or (pt_cmpR op_isN (pe_ix ix_tup (pv 0) pe_int (fun _ _ => rfl)) pe_non (nomark _)) (pw_or1 (pt_cmpR op_ge (pe_ix ix_tup (pv 0) pe_int (fun _ _ => rfl)) (pe_op op_add (pe_ix ix_tup (pv 0) pe_int (fun _ _ => rfl)) pe_int) (nomark _)))))
        (pss_one (ps_ret pe_str))
        pss_nil)
      (pss_one (ps_ret (pe_join pe_str (pe_lc (own := [("_law_value", 1)]) (g := gName 1) (tt := tYes) rfl sc_law_in_texts.nd (pi_range2 (by rfl) G.range (pa_cons (pe_ix ix_tup (pv 0) pe_int (fun _ _ => rfl)) (pa_cons (pe_op op_add (pe_ix ix_tup (pv 0) pe_int (fun _ _ => rfl)) pe_int) pa_nil))) (blkOk_by (N := ["_law_one", "_law_value", "_law_found"]) (sc := defScope s_law_in_texts) (by decide +kernel)) (fun _ _ _ _ _ => pg_name (i := 1) sc_law_in_texts.nd rfl (Or.inl rfl)) (fun _ _ _ _ _ => pts_nil) (fun _ _ _ _ _ => (pe_callTy call_str_int (by rfl) G.str (by decide +kernel) (pa_cons (pv 1) pa_nil))))))))
      pss_nil)
    (pss_cons (ps_if (pt_cmpR op_eq (pe_ix ix_tup (pv 0) pe_int (fun _ _ => rfl)) pe_str (nomark _))
      (pss_one (ps_ret pe_str))
      pss_nil)
    (pss_cons (ps_if (pt_cmpR op_eq (pe_ix ix_tup (pv 0) pe_int (fun _ _ => rfl)) pe_str (nomark _))
      (pss_one (ps_ret (pe_join pe_str (pe_ix ix_tup (pv 0) pe_int (fun _ _ => rfl)))))
      pss_nil)
    (pss_cons (ps_set (i := 2) sc_law_in_texts.nd rfl (Or.inl rfl) (pe_ifExp (PW.pt (pw_or (pt_cmpR op_isN (pe_ix ix_tup (pv 0) (pe_un un_neg pe_int) (fun _ _ => rfl)) pe_non (nomark _)) (pw_or1 (pt_cmpR op_gt (pe_ix ix_tup (pv 0) (pe_un un_neg pe_int) (fun _ _ => rfl)) pe_int (nomark _))))) (pe_ix ix_tup (pv 0) pe_int (fun _ _ => rfl)) pe_str))
    (pss_one (ps_ret (pe_ifExp (pt_cmpR op_eq (pe_ix ix_tup (pv 0) pe_int (fun _ _ => rfl)) pe_str (nomark _)) (pe_op op_add_str (pv 2) (pe_ix ix_tup (pv 0) pe_int (fun _ _ => rfl))) (pv 2)))))))), ?_⟩
    obtain ⟨s0, v, d, rfl, hP, hin, hd, q⟩ := h
    cases d with
    | word s l m =>
      obtain ⟨b, rfl, hn, hb⟩ := hP
      obtain ⟨hs, hl, hm⟩ := hin
      obtain ⟨es, _, _⟩ := word_due s hs l hl m hm hd
      have em := word_most s hs l hl m hm hd
      have q0 := q _ (Same.refl _)
      refine ⟨_, rfl, b, _, _, _, rfl, rfl, SqT.of hb, atI_nat (j := 0) rfl, rfl, _, rfl, itN (by decide +kernel) ?_⟩
      refine ⟨_, rfl, b, _, _, _, rfl, rfl, SqT.of hb, atI_nat (j := 0) rfl, rfl, _, rfl, itN (by decide +kernel) ?_⟩
      refine ⟨_, rfl, b, _, _, _, rfl, rfl, SqT.of hb, atI_nat (j := 0) rfl, rfl, _, rfl, itN (by decide +kernel) ?_⟩
      refine ⟨_, rfl, _, rfl, b, _, _, _, rfl, rfl, SqT.of hb, rfl, rfl, _, rfl, ?_⟩
      refine ite2 (fun h1 => iteT ⟨_, rfl, b, _, _, _, rfl, rfl, SqT.of hb, atI_nat (j := 1) rfl, ?_⟩) (fun h1 => ?_)
      · have r : PD.held (.word s l m) = strV s := by show (if (decide (m = .non) || _) = true then _ else _) = _; rw [h1]; rfl
        rw [r] at q0
        exact ⟨_, rfl, b, _, _, _, rfl, rfl, SqT.of hb, atI_nat (j := 0) rfl, rfl, _, rfl, itN (by decide +kernel) ⟨_, rfl, by rw [← es] at q0; exact q0⟩⟩
      rcases em with em | em
      · exact absurd (decide_eq_true em) h1
      refine ⟨_, rfl, _, rfl, b, _, _, _, rfl, rfl, SqT.of hb, rfl, intV m, 0, em, rfl, _, rfl, ?_⟩
      refine ite2 (fun h2 => ⟨_, rfl, b, _, _, _, rfl, rfl, SqT.of hb, atI_nat (j := 1) rfl, ?_⟩) (fun h2 => ?_)
      · have r : PD.held (.word s l m) = strV s := by show (if (_ || ltV (.int 0) m) = true then _ else _) = _; rw [show ltV (.int 0) m = true by rw [em]; exact h2, Bool.or_true]; rfl
        rw [r] at q0
        exact ⟨_, rfl, b, _, _, _, rfl, rfl, SqT.of hb, atI_nat (j := 0) rfl, rfl, _, rfl, itN (by decide +kernel) ⟨_, rfl, by rw [← es] at q0; exact q0⟩⟩
      · have r : PD.held (.word s l m) = "" := by show (if (decide (m = .non) || ltV (.int 0) m) = true then _ else _) = _; rw [Bool.eq_false_iff.mpr h1, show ltV (.int 0) m = false by rw [em]; exact Bool.eq_false_iff.mpr h2]; rfl
        rw [r] at q0
        exact ⟨_, rfl, b, _, _, _, rfl, rfl, SqT.of hb, atI_nat (j := 0) rfl, rfl, _, rfl, itN (by decide +kernel) ⟨_, rfl, q0⟩⟩
    | number l m =>
      obtain ⟨b, rfl, hn, hb⟩ := hP
      obtain ⟨hl, hm⟩ := hin
      obtain ⟨el, em, hl0, hl1, hm0, hm1, _⟩ := num_due l hl m hm hd
      refine ⟨_, rfl, b, _, _, _, rfl, rfl, SqT.of hb, atI_nat (j := 0) rfl, rfl, _, rfl, itY ?_⟩
      refine ⟨_, rfl, b, _, _, _, rfl, rfl, SqT.of hb, atI_nat (j := 2) rfl, rfl, _, rfl, ?_⟩
      refine ite2 (fun h1 => ?_) (fun h1 => ?_)
      · have r : PD.held (.number l m) = DG := by show (if (decide (m = .non) || _) = true then _ else _) = _; rw [h1]; rfl
        have q0 := q _ (Same.refl _)
        rw [r] at q0
        exact q0
      rcases em with em | em
      · exact absurd (decide_eq_true em) h1
      refine ⟨_, rfl, b, _, _, _, rfl, rfl, SqT.of hb, atI_nat (j := 2) rfl, _, rfl, b, _, _, _, rfl, rfl, SqT.of hb, atI_nat (j := 1) rfl, intV l, 10, el, rfl, intV m, intV l + 10, em, rfl, _, rfl, ?_⟩
      refine ite2 (fun h2 => ?_) (fun h2 => ?_)
      · have r : PD.held (.number l m) = DG := by show (if (_ || decide (intV l + 10 ≤ intV m)) = true then _ else _) = _; rw [h2, Bool.or_true]; rfl
        have q0 := q _ (Same.refl _)
        rw [r] at q0
        exact q0
      have h10 : ¬ intV l + 10 ≤ intV m := fun z => h2 (decide_eq_true z)
      have r : PD.held (.number l m) = Txt.join "" (numTs l m (intV m + 1 - intV l).toNat) := by
        show (if (decide (m = .non) || decide (intV l + 10 ≤ intV m)) = true then _ else _) = _
        rw [Bool.eq_false_iff.mpr h1, Bool.eq_false_iff.mpr h2]
        rfl
      rw [r] at q
      refine ⟨⟨_, rfl⟩, _, rfl, b, _, _, _, rfl, rfl, SqT.of hb, atI_nat (j := 1) rfl, _, rfl, b, _, _, _, rfl, rfl, SqT.of hb, atI_nat (j := 2) rfl, intV m, 1, em, rfl, intV l, intV m + 1, by rw [el]; rfl, ⟨by omega, by omega, by omega, by omega⟩, fun D hD => ?_⟩
      refine lc_range (lo := intV l) (n := (intV m + 1 - intV l).toNat) (LcP H D fun n => (numTs l m n).map V.str) (LcP.start hD rfl) ?_ ?_
      · intro i J hi p
        refine ⟨rfl, _, rfl, _, rfl, ?_, p.put (Same.refl _) (by unfold numTs; rw [List.range_succ, List.map_append, List.map_append]; rfl) (by omega)⟩
        obtain ⟨k, ek⟩ : ∃ k : Nat, intV l + (i : Int) = (k : Int) := ⟨(intV l + (i : Int)).toNat, by omega⟩
        rw [ek]
        exact dg_log k (List.mem_range.mpr (by omega))
      · rintro J ⟨S1, _, eJ, _⟩
        exact ⟨_, D, numTs l m (intV m + 1 - intV l).toNat, rfl, rfl, .inl (SqL.of eJ), num_join l hl m hm hd h10, q _ S1⟩
    | fixed v =>
      obtain ⟨b, rfl, hn, hb⟩ := hP
      refine ⟨_, rfl, b, _, _, _, rfl, rfl, SqT.of hb, atI_nat (j := 0) rfl, rfl, _, rfl, itN (by decide +kernel) ?_⟩
      refine ⟨_, rfl, b, _, _, _, rfl, rfl, SqT.of hb, atI_nat (j := 0) rfl, rfl, _, rfl, itY ?_⟩
      exact q _ (Same.refl _)
    | listed x =>
      obtain ⟨b, u, rfl, hn, hb, hL, _⟩ := hP
      obtain ⟨hj, ha⟩ := lst_join x hin hd
      refine ⟨_, rfl, b, _, _, _, rfl, rfl, SqT.of hb, atI_nat (j := 0) rfl, rfl, _, rfl, itN (by decide +kernel) ?_⟩
      refine ⟨_, rfl, b, _, _, _, rfl, rfl, SqT.of hb, atI_nat (j := 0) rfl, rfl, _, rfl, itN (by decide +kernel) ?_⟩
      refine ⟨_, rfl, b, _, _, _, rfl, rfl, SqT.of hb, atI_nat (j := 0) rfl, rfl, _, rfl, itY ⟨⟨_, rfl⟩, _, rfl, b, _, _, _, rfl, rfl, SqT.of hb, atI_nat (j := 1) rfl, ?_⟩⟩
      cases x with
      | val v => cases hd
      | lst xs =>
        obtain ⟨c, rfl, hc⟩ := hL
        exact ⟨_, c, xs.map strV, rfl, rfl, .inl (by rw [all_str xs ha]; exact SqL.of hc), hj, q _ (Same.refl _)⟩
      | tup xs =>
        obtain ⟨c, rfl, hc⟩ := hL
        exact ⟨_, c, xs.map strV, rfl, rfl, .inr (by rw [all_str xs ha]; exact SqT.of hc), hj, q _ (Same.refl _)⟩
    | ended s e l m =>
      obtain ⟨b, rfl, hn, hb⟩ := hP
      obtain ⟨hs, he, hl, hm⟩ := hin
      obtain ⟨es, ee, _, _⟩ := end_due s hs e he l hl m hm hd
      have em := end_most s hs e he l hl m hm hd
      have hlen : (strV s).length + (strV e).length ≤ sizeLine := by
        have h1 := (vM_facts s (sM_vM hs)).2.2.2
        have h2 := (vM_facts e (eM_vM he)).2.2.2
        rw [es] at h1
        rw [ee] at h2 ⊢
        rw [sizeLine_eq]
        have h3 : (strV s).length ≤ 20 := h1
        have h4 : (⟨#[(strV e).cps.getD 0 0]⟩ : Str).length ≤ 20 := h2
        show (strV s).length + (⟨#[(strV e).cps.getD 0 0]⟩ : Str).length ≤ 16777216
        omega
      have q0 := q _ (Same.refl _)
      refine ⟨_, rfl, b, _, _, _, rfl, rfl, SqT.of hb, atI_nat (j := 0) rfl, rfl, _, rfl, itN (by decide +kernel) ?_⟩
      refine ⟨_, rfl, b, _, _, _, rfl, rfl, SqT.of hb, atI_nat (j := 0) rfl, rfl, _, rfl, itN (by decide +kernel) ?_⟩
      refine ⟨_, rfl, b, _, _, _, rfl, rfl, SqT.of hb, atI_nat (j := 0) rfl, rfl, _, rfl, itN (by decide +kernel) ?_⟩
      refine ⟨_, rfl, _, rfl, b, _, _, _, rfl, rfl, SqT.of hb, rfl, rfl, _, rfl, ?_⟩
      refine ite2 (fun h1 => iteT ⟨_, rfl, b, _, _, _, rfl, rfl, SqT.of hb, atI_nat (j := 1) rfl, ?_⟩) (fun h1 => ?_)
      · have r : PD.held (.ended s e l m) = strV s ++ strV e := by show (if (decide (m = .non) || _) = true then _ else _) ++ _ = _; rw [h1]; rfl
        rw [r] at q0
        exact ⟨_, rfl, b, _, _, _, rfl, rfl, SqT.of hb, atI_nat (j := 0) rfl, rfl, _, rfl, itY ⟨_, rfl, _, rfl, b, _, _, _, rfl, rfl, SqT.of hb, atI_nat (j := 2) rfl, strV s, strV e, es, by rw [ee]; rfl, hlen, q0⟩⟩
      rcases em with em | em
      · exact absurd (decide_eq_true em) h1
      refine ⟨_, rfl, _, rfl, b, _, _, _, rfl, rfl, SqT.of hb, rfl, intV m, 0, em, rfl, _, rfl, ?_⟩
      refine ite2 (fun h2 => ⟨_, rfl, b, _, _, _, rfl, rfl, SqT.of hb, atI_nat (j := 1) rfl, ?_⟩) (fun h2 => ?_)
      · have r : PD.held (.ended s e l m) = strV s ++ strV e := by show (if (_ || ltV (.int 0) m) = true then _ else _) ++ _ = _; rw [show ltV (.int 0) m = true by rw [em]; exact h2, Bool.or_true]; rfl
        rw [r] at q0
        exact ⟨_, rfl, b, _, _, _, rfl, rfl, SqT.of hb, atI_nat (j := 0) rfl, rfl, _, rfl, itY ⟨_, rfl, _, rfl, b, _, _, _, rfl, rfl, SqT.of hb, atI_nat (j := 2) rfl, strV s, strV e, es, by rw [ee]; rfl, hlen, q0⟩⟩
      · have r : PD.held (.ended s e l m) = "" ++ strV e := by show (if (decide (m = .non) || ltV (.int 0) m) = true then _ else _) ++ _ = _; rw [Bool.eq_false_iff.mpr h1, show ltV (.int 0) m = false by rw [em]; exact Bool.eq_false_iff.mpr h2]; rfl
        rw [r] at q0
        exact ⟨_, rfl, b, _, _, _, rfl, rfl, SqT.of hb, atI_nat (j := 0) rfl, rfl, _, rfl, itY ⟨_, rfl, _, rfl, b, _, _, _, rfl, rfl, SqT.of hb, atI_nat (j := 2) rfl, "", strV e, rfl, by rw [ee]; rfl, Nat.le_trans (Nat.add_le_add_right (Nat.zero_le _) _) hlen, q0⟩⟩

structure GL1 (P : Program) (w : World) (K : Frag) (mg : Str → Option Value) (base : Heap) : Prop extends GL0 P w K mg base where
  law_bounds_due : FnAt P w K mg base CX0 2 "_law_bounds_due" ["_law_least", "_law_most"] spBnd
  law_signs_due : FnAt P w K mg base CX0 2 "_law_signs_due" ["_law_signs_here"] spSgd
  law_in_texts : FnAt P w K mg base CX0 1 "_law_in_texts" ["_law_one"] spHeld
theorem lst_bad : ∀ x ∈ lM, SeqAt.shaped (.list ((x.els.filter fun v => !sgB v).map dV)) = true ∧ PyData.eqv (.list ((x.els.filter fun v => !sgB v).map dV)) (.list []) = x.els.all areB ∧ (x.els.filter fun v => !sgB v).all flatV = true := by decide +kernel
theorem sign_of {z : Str} (hv : V.str z ∈ vM) (h : sgB (.str z) = true) : isSignB (.str z) = decide (V.int (z.length : Int) = V.int 1) := by
  rw [(vM_facts _ hv).2.2.1, h]
  show decide (z.length = 1) = _
  by_cases k : z.length = 1
  · rw [decide_eq_true k, decide_eq_true (by rw [k]; rfl)]
  · rw [decide_eq_false k, decide_eq_false (fun e => k (by injection e with e; omega))]
theorem sgB_str {v : V} (h : sgB v = true) : ∃ z, v = .str z := by
  cases v <;> first | exact ⟨_, rfl⟩ | cases h
theorem tr {b : Bool} (h : ¬ (!b) = true) : b = true := by
  cases b with
  | true => rfl
  | false => exact absurd rfl h
theorem PDAt.tup {s : Addr} {H : Hp} {v : V} : ∀ {d : PD}, PDAt s H v d → ∃ b nm r, v = .ref b ∧ H b = some (.tup (.str nm :: r)) ∧ decide (V.str nm = .str "marked") = false
  | .word .., ⟨b, e, _, h⟩ => ⟨b, _, _, e, h, by decide +kernel⟩
  | .number .., ⟨b, e, _, h⟩ => ⟨b, _, _, e, h, by decide +kernel⟩
  | .fixed _, ⟨b, e, _, h⟩ => ⟨b, _, _, e, h, by decide +kernel⟩
  | .listed _, ⟨b, _, e, _, h, _⟩ => ⟨b, _, _, e, h, by decide +kernel⟩
  | .ended .., ⟨b, e, _, h⟩ => ⟨b, _, _, e, h, by decide +kernel⟩
theorem kNT : kitB "NoneType" "tuple" = some false := by decide +kernel
theorem kST : kitB "str" "tuple" = some false := by decide +kernel
theorem kTT : kitB "tuple" "tuple" = some true := by decide +kernel
theorem lst_kinds : ∀ x ∈ lM, ∀ u, x = .val u → (u = .str "ab" ∨ u = .non) := fun x hx u e => by
  rcases lM_val x hx with h | h | h | h
  · rw [e] at h; exact .inl (by injection h)
  · rw [e] at h; exact .inr (by injection h)
  · rw [e] at h; cases h
  · rw [e] at h; cases h

abbrev s_law_due : Stmt := top 32
theorem sc_law_due : FnScope ["_law_one", "_law_some", "_law_text", "_law_held"] ["_law_one"] (defScope s_law_due) := ⟨rfl, rfl, rfl, by decide +kernel, rfl, by decide +kernel, by decide +kernel⟩

theorem ok_law_due (F : FunD K "_law_due" "_law_due" (defArgs s_law_due) (defBody s_law_due) (defScope s_law_due) [] [] f fd) (G : GL1 P w K mg base) : FnOk P w K mg base CX0 3 f fd ["_law_one"] spDue := by
  refine F.ok (CX := CX0) sc_law_due (fun vs H Q E h => ?_) (fun cdv A outer s H vs Q E hr h => ?_)
  · obtain ⟨s0, v, d, rfl, _⟩ := h
    rfl
  · have hr1 : Room 1 _ := hr.mono (by decide)
    refine ⟨_, PSs.nox (pss_cons (ps_if (pt_cmpR op_eq (pe_ix ix_tup (pv 0) pe_int (fun _ _ => rfl)) pe_str (nomark _))
      (pss_one (ps_ret (pe_orT (pe_fn G.law_signs_due hr pass0 (by rfl) (pa_cons (pe_ix ix_tup (pv 0) pe_int (fun _ _ => rfl)) pa_nil)) (pe_one (pe_fn G.law_bounds_due hr pass0 (by rfl) (pa_cons (pe_ix ix_tup (pv 0) pe_int (fun _ _ => rfl)) (pa_cons (pe_ix ix_tup (pv 0) pe_int (fun _ _ => rfl)) pa_nil)))))))
      pss_nil)
    (pss_cons (ps_if (pt_cmpR op_eq (pe_ix ix_tup (pv 0) pe_int (fun _ _ => rfl)) pe_str (nomark _))
      (pss_one (ps_ret (pe_fn G.law_bounds_due hr pass0 (by rfl) (pa_cons (pe_ix ix_tup (pv 0) pe_int (fun _ _ => rfl)) (pa_cons (pe_ix ix_tup (pv 0) pe_int (fun _ _ => rfl)) pa_nil)))))
      pss_nil)
    (pss_cons (ps_if (pt_cmpR op_eq (pe_ix ix_tup (pv 0) pe_int (fun _ _ => rfl)) pe_str (nomark _))
      (pss_one (ps_ret (pe_ifExp (PW.pt (pw_and (pt_val (pe_fn G.law_is_number hr1 pass0 (by rfl) (pa_cons (pe_ix ix_tup (pv 0) pe_int (fun _ _ => rfl)) pa_nil))) (pw_and1 (pt_cmpR op_ge (pe_ix ix_tup (pv 0) pe_int (fun _ _ => rfl)) pe_int (nomark _))))) pe_non pe_str)))
      pss_nil)
    (pss_cons (ps_if (pt_cmpR op_eq (pe_ix ix_tup (pv 0) pe_int (fun _ _ => rfl)) pe_str (nomark _))
      (pss_cons (ps_set (i := 1) sc_law_due.nd rfl (Or.inl rfl) (pe_ix ix_tup (pv 0) pe_int (fun _ _ => rfl)))
      (pss_cons (ps_if (PW.pt (pw_or (pt_not (pt_val (pe_callB call_ieT (by rfl) G.isinstance (by decide +kernel) (pa_cons (pv 1) (pa_cons (pe_tupS (pa_cons (pe_bty (n := "list") (by rfl) G.list (by decide +kernel)) (pa_cons (pe_bty (n := "tuple") (by rfl) G.tuple (by decide +kernel)) pa_nil))) pa_nil))))) (pw_or1 (pt_cmpR op_eq (pe_callB call_len_seq (by rfl) G.len (by decide +kernel) (pa_cons (pv 1) pa_nil)) pe_int (nomark _)))))
        (pss_one (ps_ret pe_str))
        pss_nil)
      (pss_cons (ps_if (pt_cmpR (op_neD hr.units) (pe_lc (own := [("_law_text", 2)]) (g := gName 2) (tt := _) rfl sc_law_due.nd (pi_or (pi_list (pv 1)) (pi_tup (pv 1))) (blkOk_by (N := ["_law_one", "_law_some", "_law_text", "_law_held"]) (sc := defScope s_law_due) (by decide +kernel)) (fun _ _ _ _ _ => pg_name (i := 2) sc_law_due.nd rfl (Or.inl rfl)) (fun _ _ _ _ _ => pts_one (pt_not (pt_val (pe_fn G.law_is_signs hr1 pass0 (by rfl) (pa_cons (pv 2) pa_nil))))) (fun _ _ _ _ _ => (pv 2))) (pe_lstS pa_nil) (nomark _))
        (pss_one (ps_ret pe_str))
        pss_nil)
      (pss_one (ps_ret (pe_ifExp (pt_cmpR op_lt (pe_lenSetSeq rfl (by rfl) G.len (by rfl) G.set (pv 1)) (pe_callB call_len_seq (by rfl) G.len (by decide +kernel) (pa_cons (pv 1) pa_nil)) (nomark _)) pe_str pe_non))))))
      pss_nil)
    (pss_cons (ps_if (pt_cmpR op_eq (pe_ix ix_tup (pv 0) pe_int (fun _ _ => rfl)) pe_str (nomark _))
      (pss_cons (ps_if (pt_cmpR op_notN (pe_fn G.law_signs_due hr pass0 (by rfl) (pa_cons (pe_ix ix_tup (pv 0) pe_int (fun _ _ => rfl)) pa_nil)) pe_non (nomark _))
        (pss_one (ps_ret pe_str))
        pss_nil)
      (pss_cons (ps_if (PW.pt (pw_or (pt_not (pt_val (pe_fn G.law_is_signs hr1 pass0 (by rfl) (pa_cons (pe_ix ix_tup (pv 0) pe_int (fun _ _ => rfl)) pa_nil)))) (pw_or (pt_cmpR op_ne (pe_callB call_len_str (by rfl) G.len (by decide +kernel) (pa_cons (pe_ix ix_tup (pv 0) pe_int (fun _ _ => rfl)) pa_nil)) pe_int (nomark _)) (pw_or1 (pt_cmpR op_in_sign (pe_ix ix_tup (pv 0) pe_int (fun _ _ => rfl)) (pe_ix ix_tup (pv 0) pe_int (fun _ _ => rfl)) (by rfl))))))
        (pss_one (ps_ret pe_str))
        pss_nil)
      (pss_one (ps_ret (pe_fn G.law_bounds_due hr pass0 (by rfl) (pa_cons (pe_ix ix_tup (pv 0) pe_int (fun _ _ => rfl)) (pa_cons (pe_ix ix_tup (pv 0) pe_int (fun _ _ => rfl)) pa_nil)))))))
      pss_nil)
    (pss_cons (ps_if (PW.pt (pw_or (pt_not (pt_val (pe_fn G.law_is_signs hr1 pass0 (by rfl) (pa_cons (pe_ix ix_tup (pv 0) pe_int (fun _ _ => rfl)) pa_nil)))) (pw_or1 (pt_cmpR op_ne (pe_callB call_len_str (by rfl) G.len (by decide +kernel) (pa_cons (pe_ix ix_tup (pv 0) pe_int (fun _ _ => rfl)) pa_nil)) pe_int (nomark _)))))
      (pss_one (ps_ret pe_str))
      pss_nil)
    (pss_cons (ps_if (PW.pt (pw_or (pt_not (pt_val (pe_fn G.law_is_signs hr1 pass0 (by rfl) (pa_cons (pe_ix ix_tup (pv 0) pe_int (fun _ _ => rfl)) pa_nil)))) (pw_or (pt_cmpR op_ne (pe_callB call_len_str (by rfl) G.len (by decide +kernel) (pa_cons (pe_ix ix_tup (pv 0) pe_int (fun _ _ => rfl)) pa_nil)) pe_int (nomark _)) (pw_or1 (pt_cmpR op_eq (pe_ix ix_tup (pv 0) pe_int (fun _ _ => rfl)) (pe_ix ix_tup (pv 0) pe_int (fun _ _ => rfl)) (nomark _))))))
      (pss_one (ps_ret pe_str))
      pss_nil)
    (pss_cons (ps_if (PW.pt (pw_or (pt_not (pt_val (pe_callB call_ie (by rfl) G.isinstance (by decide +kernel) (pa_cons (pe_ix ix_tup (pv 0) pe_int (fun _ _ => rfl)) (pa_cons (pe_bty (n := "tuple") (by rfl) G.tuple (by decide +kernel)) pa_nil))))) (pw_or1 (pt_cmpR op_eq (pe_ix ix_tup (pe_ix ix_tup (pv 0) pe_int (fun _ _ => rfl)) pe_int (fun _ _ => rfl)) pe_str (nomark _)))))
      (pss_one (ps_ret pe_str))
      pss_nil)
    (pss_cons (ps_set (i := 3) sc_law_due.nd rfl (Or.inl rfl) (pe_fn G.law_in_texts hr1 pass0 (by rfl) (pa_cons (pe_ix ix_tup (pv 0) pe_int (fun _ _ => rfl)) pa_nil)))
    (pss_one (ps_ret (pe_ifExp (PW.pt (pw_or (pt_cmpR op_in_sign (pe_ix ix_tup (pv 0) pe_int (fun _ _ => rfl)) (pv 3) (by rfl)) (pw_or1 (pt_cmpR op_in_sign (pe_ix ix_tup (pv 0) pe_int (fun _ _ => rfl)) (pv 3) (by rfl))))) pe_str pe_non)))))))))))), ?_⟩
    obtain ⟨s0, v, d, rfl, hP, hin, hdep, q⟩ := h
    have r1 : ∀ z, d.due = some z → ∀ H', Same H H' → Q (.str z) H' := fun z e H' S => by have y := q H' S; rw [e] at y; exact y
    have r0 : d.due = none → ∀ H', Same H H' → Q .non H' := fun e H' S => by have y := q H' S; rw [e] at y; exact y
    cases d with
    | val u => exact absurd hdep (by show ¬ 1 ≤ 0; decide)
    | mk n m i =>
      obtain ⟨b, u, rfl, hne, hb, hI⟩ := hP
      obtain ⟨hn, hm, hi, hid⟩ := hin
      replace r1 : ∀ z, (if (!isSignB n) = true then (some "none" : Option Str) else if (!isSignB m || decide (m = n)) = true then some "mark" else iDue n m i) = some z → ∀ H', Same H H' → Q (.str z) H' := r1
      replace r0 : (if (!isSignB n) = true then (some "none" : Option Str) else if (!isSignB m || decide (m = n)) = true then some "mark" else iDue n m i) = none → ∀ H', Same H H' → Q .non H' := r0
      have fn := vM_facts n (mQ_vM hn)
      have fm := vM_facts m (mQ_vM hm)
      refine ⟨_, rfl, b, _, _, _, rfl, rfl, SqT.of hb, atI_nat (j := 0) rfl, rfl, _, rfl, itN (by decide +kernel) ?_⟩
      refine ⟨_, rfl, b, _, _, _, rfl, rfl, SqT.of hb, atI_nat (j := 0) rfl, rfl, _, rfl, itN (by decide +kernel) ?_⟩
      refine ⟨_, rfl, b, _, _, _, rfl, rfl, SqT.of hb, atI_nat (j := 0) rfl, rfl, _, rfl, itN (by decide +kernel) ?_⟩
      refine ⟨_, rfl, b, _, _, _, rfl, rfl, SqT.of hb, atI_nat (j := 0) rfl, rfl, _, rfl, itN (by decide +kernel) ?_⟩
      refine ⟨_, rfl, b, _, _, _, rfl, rfl, SqT.of hb, atI_nat (j := 0) rfl, rfl, _, rfl, itN (by decide +kernel) ?_⟩
      refine ⟨_, rfl, b, _, _, _, rfl, rfl, SqT.of hb, atI_nat (j := 1) rfl, n, rfl, mQ_vM hn, fun H1 S1 => ⟨_, rfl, ?_⟩⟩
      replace hb := S1 _ _ hb
      show if (!sgB n) = true then _ else _
      refine ite2 (fun h1 => r1 _ (by rw [fn.2.2.1, show sgB n = false by cases k : sgB n with | true => rw [k] at h1; cases h1 | false => rfl]; rfl) _ S1) (fun h1 => ?_)
      obtain ⟨zn, rfl⟩ := sgB_str (tr h1)
      refine ⟨_, rfl, b, _, _, _, rfl, rfl, SqT.of hb, atI_nat (j := 1) rfl, zn, rfl, small_line zn (Nat.le_trans fn.2.2.2 (by decide)), rfl, _, rfl, ?_⟩
      rw [← sign_of (mQ_vM hn) (tr h1)]
      refine ite2 (fun h2 => r1 _ (by rw [if_pos h2]) _ S1) (fun h2 => ?_)
      rw [if_neg h2] at r1 r0
      obtain ⟨en, cn⟩ := mQ_one _ hn (tr h2)
      refine ⟨_, rfl, b, _, _, _, rfl, rfl, SqT.of hb, atI_nat (j := 2) rfl, m, rfl, mQ_vM hm, fun H2 S2 => ⟨_, rfl, ?_⟩⟩
      replace hb := S2 _ _ hb
      have S2' := S1.trans S2
      show if (!sgB m) = true then _ else _
      refine ite2 (fun h3 => r1 _ (by rw [fm.2.2.1, show sgB m = false by cases k : sgB m with | true => rw [k] at h3; cases h3 | false => rfl]; rfl) _ S2') (fun h3 => ?_)
      obtain ⟨zm, rfl⟩ := sgB_str (tr h3)
      refine ⟨_, rfl, b, _, _, _, rfl, rfl, SqT.of hb, atI_nat (j := 2) rfl, zm, rfl, small_line zm (Nat.le_trans fm.2.2.2 (by decide)), rfl, _, rfl, ?_⟩
      rw [← sign_of (mQ_vM hm) (tr h3)]
      refine ite2 (fun h4 => r1 _ (by rw [h4]; rfl) _ S2') (fun h4 => ?_)
      obtain ⟨em, cm⟩ := mQ_one _ hm (tr h4)
      refine ⟨_, rfl, b, _, _, _, rfl, rfl, SqT.of hb, atI_nat (j := 2) rfl, _, rfl, b, _, _, _, rfl, rfl, SqT.of hb, atI_nat (j := 1) rfl, rfl, _, rfl, ?_⟩
      refine ite2 (fun h5 => r1 _ (by rw [h5, Bool.or_true]; rfl) _ S2') (fun h5 => ?_)
      rw [tr h4, Bool.eq_false_iff.mpr h5] at r1 r0
      replace r1 : ∀ z, iDue (.str zn) (.str zm) i = some z → ∀ H', Same H H' → Q (.str z) H' := r1
      replace r0 : iDue (.str zn) (.str zm) i = none → ∀ H', Same H H' → Q .non H' := r0
      cases i with
      | val y =>
        obtain ⟨rfl, rfl | rfl⟩ := hI
        · exact ⟨_, rfl, b, _, _, _, rfl, rfl, SqT.of hb, atI_nat (j := 3) rfl, _, _, _, _, _, rfl, .ty _, .x (.base .non), kit_ty kNT, _, rfl, iteT (r1 _ rfl _ S2')⟩
        · exact ⟨_, rfl, b, _, _, _, rfl, rfl, SqT.of hb, atI_nat (j := 3) rfl, _, _, _, _, _, rfl, .ty _, .x (.base (.str _)), kit_ty kST, _, rfl, iteT (r1 _ rfl _ S2')⟩
      | mk n2 m2 i2 =>
        obtain ⟨b2, u2, rfl, hne2, hb2, hI2⟩ := hI
        replace hb2 := S2' _ _ hb2
        refine ⟨_, rfl, b, _, _, _, rfl, rfl, SqT.of hb, atI_nat (j := 3) rfl, _, _, _, _, _, rfl, .ty _, .x (.base (.tup hb2)), kit_ty kTT, _, rfl, iteF ?_⟩
        exact ⟨_, rfl, b, _, _, _, rfl, rfl, SqT.of hb, atI_nat (j := 3) rfl, b2, _, _, _, rfl, rfl, SqT.of hb2, atI_nat (j := 0) rfl, rfl, _, rfl, itY (r1 _ rfl _ S2')⟩
      | pl dd =>
        have hI : PDAt s0 H u dd := hI
        obtain ⟨b2, nm, r, rfl, hb2, hnm⟩ := hI.tup
        replace hb2 := S2' _ _ hb2
        refine ⟨_, rfl, b, _, _, _, rfl, rfl, SqT.of hb, atI_nat (j := 3) rfl, _, _, _, _, _, rfl, .ty _, .x (.base (.tup hb2)), kit_ty kTT, _, rfl, iteF ?_⟩
        refine ⟨_, rfl, b, _, _, _, rfl, rfl, SqT.of hb, atI_nat (j := 3) rfl, b2, _, _, _, rfl, rfl, SqT.of hb2, atI_nat (j := 0) rfl, rfl, _, rfl, itN hnm ?_⟩
        refine ⟨_, rfl, b, _, _, _, rfl, rfl, SqT.of hb, atI_nat (j := 3) rfl, s0, _, dd, rfl, hI.same S2', hi, hid, fun H3 S3 => ?_⟩
        replace hb := S3 _ _ hb
        have S3' := S2'.trans S3
        have eI : iDue (.str zn) (.str zm) (.pl dd) = if (inB (strV (.str zn)) dd.held || inB (strV (.str zm)) dd.held) = true then (some "field" : Option Str) else none := rfl
        rw [eI] at r1 r0
        refine ⟨_, rfl, b, _, _, _, rfl, rfl, SqT.of hb, atI_nat (j := 1) rfl, _, rfl, _, dd.held, en, rfl, _, rfl, ?_⟩
        show if inB (strV (.str zn)) dd.held = true then _ else _
        refine ite2 (fun h6 => iteT (r1 _ (by rw [h6]; rfl) _ S3')) (fun h6 => ?_)
        refine ⟨_, rfl, b, _, _, _, rfl, rfl, SqT.of hb, atI_nat (j := 2) rfl, _, rfl, _, dd.held, em, rfl, _, rfl, ?_⟩
        show if inB (strV (.str zm)) dd.held = true then _ else _
        refine ite2 (fun h7 => r1 _ (by rw [h7, Bool.or_true]; rfl) _ S3') (fun h7 => r0 (by rw [Bool.eq_false_iff.mpr h6, Bool.eq_false_iff.mpr h7]; rfl) _ S3')
    | pl d =>
    cases d with
    | word s l m =>
      obtain ⟨b, rfl, hn, hb⟩ := hP
      obtain ⟨hs, hl, hm⟩ := hin
      refine ⟨_, rfl, b, _, _, _, rfl, rfl, SqT.of hb, atI_nat (j := 0) rfl, rfl, _, rfl, itY ?_⟩
      refine ⟨_, rfl, b, _, _, _, rfl, rfl, SqT.of hb, atI_nat (j := 1) rfl, s, rfl, hs, fun H1 S1 => ?_⟩
      replace hb := S1 _ _ hb
      by_cases h1 : sBad s = true
      · rw [if_pos h1]
        exact ⟨true, ⟨by rw [sizeLine_eq]; decide +kernel, by decide +kernel⟩, iteT (r1 _ (by show oDue s l m = _; unfold oDue; rw [if_pos h1]) _ S1)⟩
      · rw [if_neg h1]
        refine ⟨false, rfl, iteF ⟨_, rfl, b, _, _, _, rfl, rfl, SqT.of hb, atI_nat (j := 2) rfl, _, rfl, b, _, _, _, rfl, rfl, SqT.of hb, atI_nat (j := 3) rfl, l, m, rfl, nM_flat l (nh hl), nM_flat m (nh hm), ?_⟩⟩
        have e0 : oDue s l m = bDue l m := by unfold oDue; rw [if_neg h1]
        have z := q _ S1
        rw [show OD.due (.pl (.word s l m)) = bDue l m from e0] at z
        exact z
    | number l m =>
      obtain ⟨b, rfl, hn, hb⟩ := hP
      obtain ⟨hl, hm⟩ := hin
      refine ⟨_, rfl, b, _, _, _, rfl, rfl, SqT.of hb, atI_nat (j := 0) rfl, rfl, _, rfl, itN (by decide +kernel) ?_⟩
      refine ⟨_, rfl, b, _, _, _, rfl, rfl, SqT.of hb, atI_nat (j := 0) rfl, rfl, _, rfl, itY ?_⟩
      exact ⟨_, rfl, b, _, _, _, rfl, rfl, SqT.of hb, atI_nat (j := 1) rfl, _, rfl, b, _, _, _, rfl, rfl, SqT.of hb, atI_nat (j := 2) rfl, l, m, rfl, nM_flat l (nh hl), nM_flat m hm, q _ (Same.refl _)⟩
    | fixed v =>
      obtain ⟨b, rfl, hn, hb⟩ := hP
      refine ⟨_, rfl, b, _, _, _, rfl, rfl, SqT.of hb, atI_nat (j := 0) rfl, rfl, _, rfl, itN (by decide +kernel) ?_⟩
      refine ⟨_, rfl, b, _, _, _, rfl, rfl, SqT.of hb, atI_nat (j := 0) rfl, rfl, _, rfl, itN (by decide +kernel) ?_⟩
      refine ⟨_, rfl, b, _, _, _, rfl, rfl, SqT.of hb, atI_nat (j := 0) rfl, rfl, _, rfl, itY ?_⟩
      refine ⟨_, rfl, b, _, _, _, rfl, rfl, SqT.of hb, atI_nat (j := 1) rfl, v, rfl, wM_flat v hin, _, rfl, ?_⟩
      have e0 : OD.due (.pl (.fixed v)) = if (!numB v || ltV v (.int 1)) = true then (some "width" : Option Str) else none := rfl
      rw [e0] at r1 r0
      refine ite2 (fun h1 => ?_) (fun h1 => iteF (r1 _ (by rw [Bool.eq_false_iff.mpr h1]; rfl) _ (Same.refl _)))
      cases v with
      | int i =>
        refine ⟨_, rfl, b, _, _, _, rfl, rfl, SqT.of hb, atI_nat (j := 1) rfl, _, _, rfl, rfl, _, rfl, ?_⟩
        refine ite2 (fun h2 => r0 ?_ _ (Same.refl _)) (fun h2 => r1 _ ?_ _ (Same.refl _))
        · have : ¬ i < 1 := by have := of_decide_eq_true h2; omega
          show (if (!true || decide (i < 1)) = true then _ else _) = _
          rw [decide_eq_false this]
          rfl
        · have : i < 1 := by have k : ¬ 1 ≤ i := fun z => h2 (decide_eq_true z); omega
          show (if (!true || decide (i < 1)) = true then _ else _) = _
          rw [decide_eq_true this]
          rfl
      | _ => cases h1
    | listed x =>
      obtain ⟨b, u, rfl, hn, hb, hL, _⟩ := hP
      obtain ⟨hv, hz⟩ := lM_vM x hin
      obtain ⟨b1, b2, b3⟩ := lst_bad x hin
      replace r1 : ∀ z, lxDue x = some z → ∀ H', Same H H' → Q (.str z) H' := r1
      replace r0 : lxDue x = none → ∀ H', Same H H' → Q .non H' := r0
      refine ⟨_, rfl, b, _, _, _, rfl, rfl, SqT.of hb, atI_nat (j := 0) rfl, rfl, _, rfl, itN (by decide +kernel) ?_⟩
      refine ⟨_, rfl, b, _, _, _, rfl, rfl, SqT.of hb, atI_nat (j := 0) rfl, rfl, _, rfl, itN (by decide +kernel) ?_⟩
      refine ⟨_, rfl, b, _, _, _, rfl, rfl, SqT.of hb, atI_nat (j := 0) rfl, rfl, _, rfl, itN (by decide +kernel) ?_⟩
      refine ⟨_, rfl, b, _, _, _, rfl, rfl, SqT.of hb, atI_nat (j := 0) rfl, rfl, _, rfl, itY ?_⟩
      refine ⟨_, rfl, b, _, _, _, rfl, rfl, SqT.of hb, atI_nat (j := 1) rfl, ?_⟩
      cases x with
      | val y =>
        obtain rfl : u = y := hL
        rcases lst_kinds _ hin _ rfl with rfl | rfl
        · exact ⟨_, rfl, by show 2 ≤ 1000; decide, fun p0 H0 hp0 S0 e0 => ⟨_, p0, _, _, _, false, rfl, e0, .cons (.ty _) (.cons (.ty _) Paired.nil), .x (.base (.str _)), (kit_LT K).2.2.1, _, rfl, iteT (r1 _ rfl _ S0)⟩⟩
        · exact ⟨_, rfl, by show 2 ≤ 1000; decide, fun p0 H0 hp0 S0 e0 => ⟨_, p0, _, _, _, false, rfl, e0, .cons (.ty _) (.cons (.ty _) Paired.nil), .x (.base .non), (kit_LT K).2.2.2, _, rfl, iteT (r1 _ rfl _ S0)⟩⟩
      | lst xs =>
        obtain ⟨c, rfl, hc⟩ := hL
        have hz' : xs.length ≤ 10 := hz
        refine ⟨_, rfl, by show 2 ≤ 1000; decide, fun p0 H0 hp0 S0 e0 => ⟨_, p0, _, _, _, true, rfl, e0, .cons (.ty _) (.cons (.ty _) Paired.nil), .x (.base (.lst (S0 _ _ hc))), (kit_LT K).1, _, rfl, iteF ?_⟩⟩
        refine ⟨_, rfl, c, _, rfl, .inl (SqL.of (S0 _ _ hc)), rfl, _, rfl, ?_⟩
        refine ite2 (fun h1 => r1 _ (by show (if (decide (xs.length = 0) || _) = true then _ else _) = _; rw [show decide (xs.length = 0) = true from decide_eq_true (by have := of_decide_eq_true h1; simpa using this)]; rfl) _ S0) (fun h1 => ?_)
        have n0 : decide (xs.length = 0) = false := decide_eq_false (fun z => h1 (decide_eq_true (by rw [z]; rfl)))
        have eD : lxDue (.lst xs) = if xsBad xs = true then (some "texts" : Option Str) else none := by
          show (if (decide (xs.length = 0) || xsBad xs) = true then _ else _) = _
          rw [n0]
          rfl
        rw [eD] at r1 r0
        refine .inl ⟨_, rfl, c, rfl, ⟨_, SqL.of (S0 _ _ hc)⟩, fun D hD => ?_⟩
        refine lc_list (K := K) (a := c) (xs := xs) (LcP H0 D fun n => (xs.take n).filter fun v => !sgB v) (LcP.start hD rfl) (fun i J hi p => SqL.of (p.1 _ _ (S0 _ _ hc))) ?_ ?_
        · intro i v J hx p
          have hi := (List.getElem?_eq_some_iff.mp hx).1
          have e : (xs.take (i + 1)).filter (fun v => !sgB v) = (xs.take i).filter (fun v => !sgB v) ++ (if (!sgB v) = true then [v] else []) := by
            rw [List.take_add_one, hx, List.filter_append]
            show _ ++ List.filter (fun v => !sgB v) [v] = _
            by_cases k : (!sgB v) = true
            · rw [List.filter_cons_of_pos (p := fun v => !sgB v) k, if_pos k]; rfl
            · rw [List.filter_cons_of_neg (p := fun v => !sgB v) k, if_neg k]; rfl
          refine ⟨rfl, _, rfl, v, rfl, hv v (List.mem_of_getElem? hx), fun J' S' => ⟨_, rfl, ?_⟩⟩
          show if (!sgB v) = true then _ else _
          refine ite2 (fun k => ?_) (fun k => ?_)
          · exact ⟨_, rfl, p.put S' (by show (xs.take (i + 1)).filter _ = _; rw [e, if_pos k]) (by omega)⟩
          · exact p.pass S' (by show (xs.take (i + 1)).filter _ = _; rw [e, if_neg k, List.append_nil])
        · rintro J ⟨S1, _, eJ, _⟩
          have eJ2 : J D = some (.lst (xs.filter fun v => !sgB v)) := by rw [eJ]; show some (HO.lst ((xs.take xs.length).filter fun v => !sgB v)) = _; rw [List.take_length]
          refine ⟨by show 0 ≤ 1000; decide, fun p J2 hp S2 e2 => ⟨_, _, .lst (SqL.of (S2 _ _ eJ2)) (dpAll_flat b3), .lst (SqL.of e2) .nil, b1, shaped_nil, _, rfl, ?_⟩⟩
          have b2' : PyData.eqv (.list ((xs.filter fun v => !sgB v).map dV)) (.list []) = xs.all areB := b2
          rw [b2']
          have S3 : Same H J2 := (S0.trans S1).trans S2
          refine ite2 (fun h2 => r1 _ (by unfold xsBad; rw [h2]; rfl) _ S3) (fun h2 => ?_)
          have h2' : xs.all areB = true := tr h2
          refine ⟨_, rfl, c, xs.map strV, rfl, .inl (by rw [all_str xs h2']; exact SqL.of (S3 _ _ hc)), by rw [List.length_map]; omega, _, rfl, c, _, rfl, .inl (SqL.of (S3 _ _ hc)), _, _, rfl, rfl, _, rfl, ?_⟩
          refine ite2 (fun h3 => r1 _ ?_ _ S3) (fun h3 => r0 ?_ _ S3)
          · unfold xsBad
            rw [show decide ((newS (fun i => (xs.map strV).getD i Str.empty) (xs.map strV).length : Nat) < xs.length) = true from decide_eq_true (Int.ofNat_lt.mp (of_decide_eq_true h3)), Bool.or_true]
            rfl
          · unfold xsBad
            rw [h2', show decide ((newS (fun i => (xs.map strV).getD i Str.empty) (xs.map strV).length : Nat) < xs.length) = false from decide_eq_false (fun z => h3 (decide_eq_true (Int.ofNat_lt.mpr z)))]
            rfl
      | tup xs =>
        obtain ⟨c, rfl, hc⟩ := hL
        have hz' : xs.length ≤ 10 := hz
        refine ⟨_, rfl, by show 2 ≤ 1000; decide, fun p0 H0 hp0 S0 e0 => ⟨_, p0, _, _, _, true, rfl, e0, .cons (.ty _) (.cons (.ty _) Paired.nil), .x (.base (.tup (S0 _ _ hc))), (kit_LT K).2.1, _, rfl, iteF ?_⟩⟩
        refine ⟨_, rfl, c, _, rfl, .inr (SqT.of (S0 _ _ hc)), rfl, _, rfl, ?_⟩
        refine ite2 (fun h1 => r1 _ (by show (if (decide (xs.length = 0) || _) = true then _ else _) = _; rw [show decide (xs.length = 0) = true from decide_eq_true (by have := of_decide_eq_true h1; simpa using this)]; rfl) _ S0) (fun h1 => ?_)
        have n0 : decide (xs.length = 0) = false := decide_eq_false (fun z => h1 (decide_eq_true (by rw [z]; rfl)))
        have eD : lxDue (.tup xs) = if xsBad xs = true then (some "texts" : Option Str) else none := by
          show (if (decide (xs.length = 0) || xsBad xs) = true then _ else _) = _
          rw [n0]
          rfl
        rw [eD] at r1 r0
        refine .inr ⟨_, rfl, c, rfl, ⟨_, SqT.of (S0 _ _ hc)⟩, fun D hD => ?_⟩
        refine lc_tup (K := K) (a := c) (xs := xs) (LcP H0 D fun n => (xs.take n).filter fun v => !sgB v) (LcP.start hD rfl) (fun i J hi p => SqT.of (p.1 _ _ (S0 _ _ hc))) ?_ ?_
        · intro i v J hx p
          have hi := (List.getElem?_eq_some_iff.mp hx).1
          have e : (xs.take (i + 1)).filter (fun v => !sgB v) = (xs.take i).filter (fun v => !sgB v) ++ (if (!sgB v) = true then [v] else []) := by
            rw [List.take_add_one, hx, List.filter_append]
            show _ ++ List.filter (fun v => !sgB v) [v] = _
            by_cases k : (!sgB v) = true
            · rw [List.filter_cons_of_pos (p := fun v => !sgB v) k, if_pos k]; rfl
            · rw [List.filter_cons_of_neg (p := fun v => !sgB v) k, if_neg k]; rfl
          refine ⟨rfl, _, rfl, v, rfl, hv v (List.mem_of_getElem? hx), fun J' S' => ⟨_, rfl, ?_⟩⟩
          show if (!sgB v) = true then _ else _
          refine ite2 (fun k => ?_) (fun k => ?_)
          · exact ⟨_, rfl, p.put S' (by show (xs.take (i + 1)).filter _ = _; rw [e, if_pos k]) (by omega)⟩
          · exact p.pass S' (by show (xs.take (i + 1)).filter _ = _; rw [e, if_neg k, List.append_nil])
        · rintro J ⟨S1, _, eJ, _⟩
          have eJ2 : J D = some (.lst (xs.filter fun v => !sgB v)) := by rw [eJ]; show some (HO.lst ((xs.take xs.length).filter fun v => !sgB v)) = _; rw [List.take_length]
          refine ⟨by show 0 ≤ 1000; decide, fun p J2 hp S2 e2 => ⟨_, _, .lst (SqL.of (S2 _ _ eJ2)) (dpAll_flat b3), .lst (SqL.of e2) .nil, b1, shaped_nil, _, rfl, ?_⟩⟩
          have b2' : PyData.eqv (.list ((xs.filter fun v => !sgB v).map dV)) (.list []) = xs.all areB := b2
          rw [b2']
          have S3 : Same H J2 := (S0.trans S1).trans S2
          refine ite2 (fun h2 => r1 _ (by unfold xsBad; rw [h2]; rfl) _ S3) (fun h2 => ?_)
          have h2' : xs.all areB = true := tr h2
          refine ⟨_, rfl, c, xs.map strV, rfl, .inr (by rw [all_str xs h2']; exact SqT.of (S3 _ _ hc)), by rw [List.length_map]; omega, _, rfl, c, _, rfl, .inr (SqT.of (S3 _ _ hc)), _, _, rfl, rfl, _, rfl, ?_⟩
          refine ite2 (fun h3 => r1 _ ?_ _ S3) (fun h3 => r0 ?_ _ S3)
          · unfold xsBad
            rw [show decide ((newS (fun i => (xs.map strV).getD i Str.empty) (xs.map strV).length : Nat) < xs.length) = true from decide_eq_true (Int.ofNat_lt.mp (of_decide_eq_true h3)), Bool.or_true]
            rfl
          · unfold xsBad
            rw [h2', show decide ((newS (fun i => (xs.map strV).getD i Str.empty) (xs.map strV).length : Nat) < xs.length) = false from decide_eq_false (fun z => h3 (decide_eq_true (Int.ofNat_lt.mpr z)))]
            rfl
    | ended s e l m =>
      obtain ⟨b, rfl, hn, hb⟩ := hP
      obtain ⟨hs, he, hl, hm⟩ := hin
      replace q : ∀ H', Same H H' → Q (oV (eDue s e l m)) H' := q
      replace r1 : ∀ z, eDue s e l m = some z → ∀ H', Same H H' → Q (.str z) H' := r1
      refine ⟨_, rfl, b, _, _, _, rfl, rfl, SqT.of hb, atI_nat (j := 0) rfl, rfl, _, rfl, itN (by decide +kernel) ?_⟩
      refine ⟨_, rfl, b, _, _, _, rfl, rfl, SqT.of hb, atI_nat (j := 0) rfl, rfl, _, rfl, itN (by decide +kernel) ?_⟩
      refine ⟨_, rfl, b, _, _, _, rfl, rfl, SqT.of hb, atI_nat (j := 0) rfl, rfl, _, rfl, itN (by decide +kernel) ?_⟩
      refine ⟨_, rfl, b, _, _, _, rfl, rfl, SqT.of hb, atI_nat (j := 0) rfl, rfl, _, rfl, itN (by decide +kernel) ?_⟩
      refine ⟨_, rfl, b, _, _, _, rfl, rfl, SqT.of hb, atI_nat (j := 0) rfl, rfl, _, rfl, itY ?_⟩
      refine ⟨_, rfl, b, _, _, _, rfl, rfl, SqT.of hb, atI_nat (j := 1) rfl, s, rfl, hs, fun H1 S1 => ?_⟩
      replace hb := S1 _ _ hb
      by_cases h1 : sBad s = true
      · rw [if_pos h1]
        exact ⟨rfl, _, rfl, iteT (r1 _ (by unfold eDue; rw [if_pos h1]) _ S1)⟩
      rw [if_neg h1]
      have e0 : eDue s e l m = if (!isSignB e || inB (strV e) (strV s)) = true then (some "sign" : Option Str) else bDue l m := by unfold eDue; rw [if_neg h1]
      rw [e0] at q r1
      refine ⟨rfl, _, rfl, iteF ?_⟩
      refine ⟨_, rfl, b, _, _, _, rfl, rfl, SqT.of hb, atI_nat (j := 2) rfl, e, rfl, eM_vM he, fun H2 S2 => ⟨_, rfl, ?_⟩⟩
      replace hb := S2 _ _ hb
      have S2' := S1.trans S2
      have es := vM_facts e (eM_vM he)
      show if (!sgB e) = true then _ else _
      refine ite2 (fun h2 => r1 _ (by rw [es.2.2.1, show sgB e = false by cases k : sgB e with | true => rw [k] at h2; cases h2 | false => rfl]; rfl) _ S2') (fun h2 => ?_)
      obtain ⟨z, rfl⟩ := sgB_str (tr h2)
      refine ⟨_, rfl, b, _, _, _, rfl, rfl, SqT.of hb, atI_nat (j := 2) rfl, z, rfl, small_line z (Nat.le_trans es.2.2.2 (by decide)), rfl, _, rfl, ?_⟩
      rw [← sign_of (eM_vM he) (tr h2)]
      refine ite2 (fun h3 => r1 _ (by rw [h3]; rfl) _ S2') (fun h3 => ?_)
      have s3 := tr h3
      refine ⟨_, rfl, b, _, _, _, rfl, rfl, SqT.of hb, atI_nat (j := 2) rfl, _, rfl, b, _, _, _, rfl, rfl, SqT.of hb, atI_nat (j := 1) rfl, _, strV s, eM_one _ he s3, sM_str s hs (Bool.eq_false_iff.mpr h1), _, rfl, ?_⟩
      show if inB (strV (.str z)) (strV s) = true then _ else _
      refine ite2 (fun h4 => r1 _ (by rw [h4, Bool.or_true]; rfl) _ S2') (fun h4 => ?_)
      refine ⟨_, rfl, b, _, _, _, rfl, rfl, SqT.of hb, atI_nat (j := 3) rfl, _, rfl, b, _, _, _, rfl, rfl, SqT.of hb, atI_nat (j := 4) rfl, l, m, rfl, nM_flat l (nh hl), nM_flat m (nh hm), ?_⟩
      have y := q _ S2'
      rw [s3, Bool.eq_false_iff.mpr h4] at y
      exact y


structure G6 (P : Program) (w : World) (K : Frag) (mg : Str → Option Value) (base : Heap) : Prop extends GL1 P w K mg base where
  law_due : FnAt P w K mg base CX0 3 "_law_due" ["_law_one"] spDue
  exm : exmOne K (.ref (BF K)) (.ref (BF K)) = some true
  kWord : ClsAt P w K mg base (L2.CX P w) 4 "Word" (ca K 0) ["self", "signs", "least", "most"] (spWord K)
  kNumber : ClsAt P w K mg base (L2.CX P w) 4 "Number" (ca K 1) ["self", "least", "most"] (spNumber K)
  kFixed : ClsAt P w K mg base (L2.CX P w) 4 "Fixed" (ca K 2) ["self", "width"] (spFixed K)
  kListed : ClsAt P w K mg base (L2.CX P w) 4 "Listed" (ca K 3) ["self", "texts"] (spListed K)
  kEnded : ClsAt P w K mg base (L2.CX P w) 4 "Ended" (ca K 4) ["self", "signs", "sign", "least", "most"] (spEnded K)
  kMarked : ClsAt P w K mg base (L2.CX P w) 4 "Marked" (ca K 5) ["self", "none", "mark", "field"] (spMarked K)
/-- what is made of it -/
def RAt (K : Frag) (H : Hp) (r : V) : OD → Prop
  | .val u => r = u ∧ (u = .non ∨ u = .str "word")
  | .pl d => ∃ y, r = .ref y ∧ FieldAt K H y d
  | .mk n m (.pl d) => ∃ y, r = .ref y ∧ MkAt K H y n m d
  | .mk _ _ _ => False
theorem RAt.iv {K : Frag} {H : Hp} {r : V} : ∀ {i : OD}, RAt K H r i → i.In → i.due = none → IVAt K H r i
  | .val _, h, _, _ => h
  | .pl _, ⟨y, e, h⟩, i, u => ⟨y, e, h, i, u⟩
  | .mk _ _ (.pl _), ⟨y, e, dx, y2, h, _⟩, _, _ => ⟨y, dx, _, e, h⟩
theorem IVAt.same {K : Frag} {H H' : Hp} {r : V} (S : Same H H') : ∀ {i : OD}, IVAt K H r i → IVAt K H' r i
  | .val _, h => h
  | .pl _, ⟨y, e, h, i, u⟩ => ⟨y, e, h.same S, i, u⟩
  | .mk .., ⟨y, dx, fs, e, h⟩ => ⟨y, dx, fs, e, S _ _ h⟩
def spMd (K : Frag) (n : Nat) : Sp := fun vs H Q _ => ∃ (s0 : Addr) (v : V) (d : OD), vs = [v] ∧ ODAt s0 H v d ∧ d.In ∧ d.dep < n ∧ (∀ z, d.due = some z → ∀ H', Same H H' → Q (.str z) H') ∧ (d.due = none → ∀ r H', Same H H' → RAt K H' r d → Q r H')
theorem ix_tupK {X : Cx} {K : Frag} (h : X.K = K) : IxR X (rIxT K) := by
  subst h
  exact ix_tup
theorem what_look {z : V} : ([(("what" : Str), z)] : List (Str × V)).lookup ("what" : Str) = some z := by rw [lookup_put, if_pos rfl]

abbrev s_law_made : Stmt := top 33
theorem sc_law_made : FnScope ["_law_one", "_law_found", "e"] ["_law_one"] (defScope s_law_made) := ⟨rfl, rfl, rfl, by decide +kernel, rfl, by decide +kernel, by decide +kernel⟩

theorem ok_law_made (F : FunD K "_law_made" "_law_made" (defArgs s_law_made) (defBody s_law_made) (defScope s_law_made) [] [] f fd) (G : G6 P w K mg base) {n : Nat} (AM : FnAt P w K mg base CX0 (n + 5) "_law_made" ["_law_one"] (spMd K n)) : FnOk P w K mg base CX0 (n + 5 + 1) f fd ["_law_one"] (spMd K (n + 1)) := by
  refine F.ok (CX := CX0) sc_law_made (fun vs H Q E h => ?_) (fun cdv A outer s H vs Q E hr h => ?_)
  · obtain ⟨s0, v, d, rfl, _⟩ := h
    rfl
  · have hr5 : Room 5 _ := hr.mono (by omega)
    refine ⟨_, PSs.nox (pss_cons (ps_if (pt_not (pt_val (pe_callB call_ie (by rfl) G.isinstance (by decide +kernel) (pa_cons (pv 0) (pa_cons (pe_bty (n := "tuple") (by rfl) G.tuple (by decide +kernel)) pa_nil)))))
      (pss_one (ps_ret (pv 0)))
      pss_nil)
    (pss_cons (ps_set (i := 1) sc_law_made.nd rfl (Or.inl rfl) pe_non)
    (pss_cons (ps_try_as (i := 2) rfl rfl sc_law_made.nd rfl rfl ⟨rfl, by decide, .inl G.bf.mgC⟩ takes0
      (fun W pn xe tk _ =>
      (pss_one (ps_if (pt_cmpR op_eq (pe_ix (ix_tupK (K := K) rfl) (pv 0) pe_int (fun _ _ => rfl)) pe_str (nomark _))
        (pss_one (ps_set (i := 1) sc_law_made.nd rfl (Or.inl rfl) (pe_newS G.kWord hr5 (fun σ => passAt tk σ) (by rfl) (pa_cons (pe_ix (ix_tupK (K := K) rfl) (pv 0) pe_int (fun _ _ => rfl)) (pa_cons (pe_ix (ix_tupK (K := K) rfl) (pv 0) pe_int (fun _ _ => rfl)) (pa_cons (pe_ix (ix_tupK (K := K) rfl) (pv 0) pe_int (fun _ _ => rfl)) pa_nil))))))
        (pss_one (ps_if (pt_cmpR op_eq (pe_ix (ix_tupK (K := K) rfl) (pv 0) pe_int (fun _ _ => rfl)) pe_str (nomark _))
          (pss_one (ps_set (i := 1) sc_law_made.nd rfl (Or.inl rfl) (pe_newS G.kNumber hr5 (fun σ => passAt tk σ) (by rfl) (pa_cons (pe_ix (ix_tupK (K := K) rfl) (pv 0) pe_int (fun _ _ => rfl)) (pa_cons (pe_ix (ix_tupK (K := K) rfl) (pv 0) pe_int (fun _ _ => rfl)) pa_nil)))))
          (pss_one (ps_if (pt_cmpR op_eq (pe_ix (ix_tupK (K := K) rfl) (pv 0) pe_int (fun _ _ => rfl)) pe_str (nomark _))
            (pss_one (ps_set (i := 1) sc_law_made.nd rfl (Or.inl rfl) (pe_newS G.kFixed hr5 (fun σ => passAt tk σ) (by rfl) (pa_cons (pe_ix (ix_tupK (K := K) rfl) (pv 0) pe_int (fun _ _ => rfl)) pa_nil))))
            (pss_one (ps_if (pt_cmpR op_eq (pe_ix (ix_tupK (K := K) rfl) (pv 0) pe_int (fun _ _ => rfl)) pe_str (nomark _))
              (pss_one (ps_set (i := 1) sc_law_made.nd rfl (Or.inl rfl) (pe_newS G.kListed hr5 (fun σ => passAt tk σ) (by rfl) (pa_cons (pe_ix (ix_tupK (K := K) rfl) (pv 0) pe_int (fun _ _ => rfl)) pa_nil))))
              (pss_one (ps_if (pt_cmpR op_eq (pe_ix (ix_tupK (K := K) rfl) (pv 0) pe_int (fun _ _ => rfl)) pe_str (nomark _))
                (pss_one (ps_set (i := 1) sc_law_made.nd rfl (Or.inl rfl) (pe_newS G.kEnded hr5 (fun σ => passAt tk σ) (by rfl) (pa_cons (pe_ix (ix_tupK (K := K) rfl) (pv 0) pe_int (fun _ _ => rfl)) (pa_cons (pe_ix (ix_tupK (K := K) rfl) (pv 0) pe_int (fun _ _ => rfl)) (pa_cons (pe_ix (ix_tupK (K := K) rfl) (pv 0) pe_int (fun _ _ => rfl)) (pa_cons (pe_ix (ix_tupK (K := K) rfl) (pv 0) pe_int (fun _ _ => rfl)) pa_nil)))))))
                (pss_one (ps_set (i := 1) sc_law_made.nd rfl (Or.inl rfl) (pe_newS G.kMarked hr5 (fun σ => passAt tk σ) (by rfl) (pa_cons (pe_ix (ix_tupK (K := K) rfl) (pv 0) pe_int (fun _ _ => rfl)) (pa_cons (pe_ix (ix_tupK (K := K) rfl) (pv 0) pe_int (fun _ _ => rfl)) (pa_cons (pe_fn AM hr pass0 (by rfl) (pa_cons (pe_ix (ix_tupK (K := K) rfl) (pv 0) pe_int (fun _ _ => rfl)) pa_nil)) pa_nil)))))))))))))))))
      (fun a_ oe cls d_ pn hz hf =>
      (pss_one (ps_set (i := 1) sc_law_made.nd rfl (Or.inl rfl) (pe_xf G.bf.ex.ec.xf (G.bf.ex.no _ (by decide +kernel)) hz hf (pv 2))))))
    (pss_one (ps_ret (pv 1)))))), ?_⟩
    obtain ⟨s0, v, d, rfl, hP, hin, hdep, r1, r0⟩ := h
    cases d with
    | val u =>
      obtain ⟨rfl, hu⟩ := hP
      rcases hu with rfl | rfl
      · exact ⟨_, rfl, _, _, _, _, _, rfl, .ty _, .x (.base .non), kit_ty kNT, _, rfl, iteT ⟨_, rfl, r0 rfl _ _ (Same.refl _) ⟨rfl, .inl rfl⟩⟩⟩
      · exact ⟨_, rfl, _, _, _, _, _, rfl, .ty _, .x (.base (.str _)), kit_ty kST, _, rfl, iteT ⟨_, rfl, r0 rfl _ _ (Same.refl _) ⟨rfl, .inr rfl⟩⟩⟩
    | mk n m i =>
      obtain ⟨b, u, rfl, hne, hb, hI⟩ := hP
      obtain ⟨hn, hm, hi, hid⟩ := hin
      refine ⟨_, rfl, _, _, _, _, _, rfl, .ty _, .x (.base (.tup hb)), kit_ty kTT, _, rfl, iteF ?_⟩
      refine ⟨_, rfl, b, _, _, _, rfl, rfl, SqT.of hb, atI_nat (j := 0) rfl, rfl, _, rfl, itN (by decide +kernel) ?_⟩
      refine ⟨_, rfl, b, _, _, _, rfl, rfl, SqT.of hb, atI_nat (j := 0) rfl, rfl, _, rfl, itN (by decide +kernel) ?_⟩
      refine ⟨_, rfl, b, _, _, _, rfl, rfl, SqT.of hb, atI_nat (j := 0) rfl, rfl, _, rfl, itN (by decide +kernel) ?_⟩
      refine ⟨_, rfl, b, _, _, _, rfl, rfl, SqT.of hb, atI_nat (j := 0) rfl, rfl, _, rfl, itN (by decide +kernel) ?_⟩
      refine ⟨_, rfl, b, _, _, _, rfl, rfl, SqT.of hb, atI_nat (j := 0) rfl, rfl, _, rfl, itN (by decide +kernel) ?_⟩
      refine ⟨_, rfl, b, _, _, _, rfl, rfl, SqT.of hb, atI_nat (j := 1) rfl, _, rfl, b, _, _, _, rfl, rfl, SqT.of hb, atI_nat (j := 2) rfl, _, rfl, b, _, _, _, rfl, rfl, SqT.of hb, atI_nat (j := 3) rfl, s0, u, i, rfl, hI, hi, Nat.lt_of_succ_lt_succ hdep, fun z e => (by rw [hid] at e; cases e), fun _ r H1 S1 hR => ?_⟩
      intro a dx ha hd ne
      have SN := S1.trans (same_new (C := ca K 5) (fs := []) ha hd)
      refine ⟨a, dx, n, m, r, i, rfl, upd_same, hn, hm, (hR.iv hi hid).same (same_new ha hd), fun e H2 S2 => ⟨rfl, _, rfl, ?_⟩, fun z e dd H2 hdd S2 e2 => ⟨true, G.exm, fun _ a0 ha0 => ⟨_, rfl, rfl, rfl, dd, _, _, rfl, e2, what_look, _, rfl, r1 z e H2 (SN.trans S2)⟩, fun qq => Bool.noConfusion qq⟩⟩
      have SH : Same H1 H2 := (same_new ha hd).trans S2
      refine r0 e _ _ (S1.trans (same_put SH ha)) ?_
      cases i with
      | pl d =>
        obtain ⟨y, rfl, hy⟩ := hR
        exact ⟨a, rfl, dx, y, upd_same, hy.same (same_put SH ha)⟩
      | val u => exact absurd e (by
          intro e
          have e : (if (!isSignB n) = true then (some "none" : Option Str) else if (!isSignB m || decide (m = n)) = true then some "mark" else some "field") = none := e
          split at e
          · cases e
          · split at e <;> cases e)
      | mk n2 m2 i2 => exact absurd e (by
          intro e
          have e : (if (!isSignB n) = true then (some "none" : Option Str) else if (!isSignB m || decide (m = n)) = true then some "mark" else some "field") = none := e
          split at e
          · cases e
          · split at e <;> cases e)
    | pl d =>
    cases d with
    | word s l m =>
      obtain ⟨b, rfl, hn, hb⟩ := hP
      obtain ⟨hs, hl, hm⟩ := hin
      refine ⟨_, rfl, _, _, _, _, _, rfl, .ty _, .x (.base (.tup hb)), kit_ty kTT, _, rfl, iteF ?_⟩
      refine ⟨_, rfl, b, _, _, _, rfl, rfl, SqT.of hb, atI_nat (j := 0) rfl, rfl, _, rfl, itY ?_⟩
      refine ⟨_, rfl, b, _, _, _, rfl, rfl, SqT.of hb, atI_nat (j := 1) rfl, _, rfl, b, _, _, _, rfl, rfl, SqT.of hb, atI_nat (j := 2) rfl, _, rfl, b, _, _, _, rfl, rfl, SqT.of hb, atI_nat (j := 3) rfl, fun a dx ha hd ne => ?_⟩
      exact ⟨a, dx, s, l, m, rfl, upd_same, hs, hl, hm, fun e => ⟨rfl, _, rfl, r0 e _ _ (same_put (same_new ha hd) ha) ⟨a, rfl, dx, upd_same⟩⟩, fun z e dd H2 hdd S2 e2 => ⟨true, G.exm, fun _ a0 ha0 => ⟨_, rfl, rfl, rfl, dd, _, _, rfl, e2, what_look, _, rfl, r1 z e H2 ((same_new ha hd).trans S2)⟩, fun qq => Bool.noConfusion qq⟩⟩
    | number l m =>
      obtain ⟨b, rfl, hn, hb⟩ := hP
      obtain ⟨hl, hm⟩ := hin
      refine ⟨_, rfl, _, _, _, _, _, rfl, .ty _, .x (.base (.tup hb)), kit_ty kTT, _, rfl, iteF ?_⟩
      refine ⟨_, rfl, b, _, _, _, rfl, rfl, SqT.of hb, atI_nat (j := 0) rfl, rfl, _, rfl, itN (by decide +kernel) ?_⟩
      refine ⟨_, rfl, b, _, _, _, rfl, rfl, SqT.of hb, atI_nat (j := 0) rfl, rfl, _, rfl, itY ?_⟩
      refine ⟨_, rfl, b, _, _, _, rfl, rfl, SqT.of hb, atI_nat (j := 1) rfl, _, rfl, b, _, _, _, rfl, rfl, SqT.of hb, atI_nat (j := 2) rfl, fun a dx ha hd ne => ?_⟩
      exact ⟨a, dx, l, m, rfl, upd_same, hl, hm, fun e => ⟨rfl, _, rfl, r0 e _ _ (same_put (same_new ha hd) ha) ⟨a, rfl, dx, upd_same⟩⟩, fun z e dd H2 hdd S2 e2 => ⟨true, G.exm, fun _ a0 ha0 => ⟨_, rfl, rfl, rfl, dd, _, _, rfl, e2, what_look, _, rfl, r1 z e H2 ((same_new ha hd).trans S2)⟩, fun qq => Bool.noConfusion qq⟩⟩
    | fixed w =>
      obtain ⟨b, rfl, hn, hb⟩ := hP
      refine ⟨_, rfl, _, _, _, _, _, rfl, .ty _, .x (.base (.tup hb)), kit_ty kTT, _, rfl, iteF ?_⟩
      refine ⟨_, rfl, b, _, _, _, rfl, rfl, SqT.of hb, atI_nat (j := 0) rfl, rfl, _, rfl, itN (by decide +kernel) ?_⟩
      refine ⟨_, rfl, b, _, _, _, rfl, rfl, SqT.of hb, atI_nat (j := 0) rfl, rfl, _, rfl, itN (by decide +kernel) ?_⟩
      refine ⟨_, rfl, b, _, _, _, rfl, rfl, SqT.of hb, atI_nat (j := 0) rfl, rfl, _, rfl, itY ?_⟩
      refine ⟨_, rfl, b, _, _, _, rfl, rfl, SqT.of hb, atI_nat (j := 1) rfl, fun a dx ha hd ne => ?_⟩
      exact ⟨a, dx, w, rfl, upd_same, hin, fun e => ⟨rfl, _, rfl, r0 e _ _ (same_put (same_new ha hd) ha) ⟨a, rfl, dx, upd_same⟩⟩, fun z e dd H2 hdd S2 e2 => ⟨true, G.exm, fun _ a0 ha0 => ⟨_, rfl, rfl, rfl, dd, _, _, rfl, e2, what_look, _, rfl, r1 z e H2 ((same_new ha hd).trans S2)⟩, fun qq => Bool.noConfusion qq⟩⟩
    | ended s e l m =>
      obtain ⟨b, rfl, hn, hb⟩ := hP
      obtain ⟨hs, he, hl, hm⟩ := hin
      refine ⟨_, rfl, _, _, _, _, _, rfl, .ty _, .x (.base (.tup hb)), kit_ty kTT, _, rfl, iteF ?_⟩
      refine ⟨_, rfl, b, _, _, _, rfl, rfl, SqT.of hb, atI_nat (j := 0) rfl, rfl, _, rfl, itN (by decide +kernel) ?_⟩
      refine ⟨_, rfl, b, _, _, _, rfl, rfl, SqT.of hb, atI_nat (j := 0) rfl, rfl, _, rfl, itN (by decide +kernel) ?_⟩
      refine ⟨_, rfl, b, _, _, _, rfl, rfl, SqT.of hb, atI_nat (j := 0) rfl, rfl, _, rfl, itN (by decide +kernel) ?_⟩
      refine ⟨_, rfl, b, _, _, _, rfl, rfl, SqT.of hb, atI_nat (j := 0) rfl, rfl, _, rfl, itN (by decide +kernel) ?_⟩
      refine ⟨_, rfl, b, _, _, _, rfl, rfl, SqT.of hb, atI_nat (j := 0) rfl, rfl, _, rfl, itY ?_⟩
      refine ⟨_, rfl, b, _, _, _, rfl, rfl, SqT.of hb, atI_nat (j := 1) rfl, _, rfl, b, _, _, _, rfl, rfl, SqT.of hb, atI_nat (j := 2) rfl, _, rfl, b, _, _, _, rfl, rfl, SqT.of hb, atI_nat (j := 3) rfl, _, rfl, b, _, _, _, rfl, rfl, SqT.of hb, atI_nat (j := 4) rfl, fun a dx ha hd ne => ?_⟩
      exact ⟨a, dx, s, e, l, m, rfl, upd_same, hs, he, hl, hm, fun e => ⟨rfl, _, rfl, r0 e _ _ (same_put (same_new ha hd) ha) ⟨a, rfl, dx, upd_same⟩⟩, fun z e dd H2 hdd S2 e2 => ⟨true, G.exm, fun _ a0 ha0 => ⟨_, rfl, rfl, rfl, dd, _, _, rfl, e2, what_look, _, rfl, r1 z e H2 ((same_new ha hd).trans S2)⟩, fun qq => Bool.noConfusion qq⟩⟩
    | listed x =>
      obtain ⟨b, u, rfl, hn, hb, hL, _⟩ := hP
      refine ⟨_, rfl, _, _, _, _, _, rfl, .ty _, .x (.base (.tup hb)), kit_ty kTT, _, rfl, iteF ?_⟩
      refine ⟨_, rfl, b, _, _, _, rfl, rfl, SqT.of hb, atI_nat (j := 0) rfl, rfl, _, rfl, itN (by decide +kernel) ?_⟩
      refine ⟨_, rfl, b, _, _, _, rfl, rfl, SqT.of hb, atI_nat (j := 0) rfl, rfl, _, rfl, itN (by decide +kernel) ?_⟩
      refine ⟨_, rfl, b, _, _, _, rfl, rfl, SqT.of hb, atI_nat (j := 0) rfl, rfl, _, rfl, itN (by decide +kernel) ?_⟩
      refine ⟨_, rfl, b, _, _, _, rfl, rfl, SqT.of hb, atI_nat (j := 0) rfl, rfl, _, rfl, itY ?_⟩
      refine ⟨_, rfl, b, _, _, _, rfl, rfl, SqT.of hb, atI_nat (j := 1) rfl, fun a dx ha hd ne => ?_⟩
      refine ⟨a, dx, u, x, rfl, upd_same, hin, hL.same (same_new ha hd), fun e t H2 S2 e2 => ⟨rfl, _, rfl, ?_⟩, fun z e dd H2 hdd S2 e2 => ⟨true, G.exm, fun _ a0 ha0 => ⟨_, rfl, rfl, rfl, dd, _, _, rfl, e2, what_look, _, rfl, r1 z e H2 ((same_new ha hd).trans S2)⟩, fun qq => Bool.noConfusion qq⟩⟩
      have SH : Same H H2 := (same_new ha hd).trans S2
      have nt : t ≠ a := ne_of e2 (S2 _ _ upd_same) (fun z => by cases z)
      exact r0 e _ _ (same_put SH ha) ⟨a, rfl, dx, t, upd_same, by rw [upd_ne nt]; exact e2⟩


end
end L2.K03

set_option Elab.async false
set_option linter.all false
set_option maxRecDepth 100000
set_option maxHeartbeats 4000000
namespace L2.K03
open PySem PySem.W PySem.Spec PySem.Calls PyProof.Rows L2.Jk
theorem StAt.same {H H' : Hp} {a : Addr} (h : StAt H a) (s : Same H H') : StAt H' a := by
  obtain ⟨x, y, z, e, r⟩ := h
  exact ⟨x, y, z, s _ _ e, r⟩
theorem StAt.ne {H : Hp} {a b : Addr} (h : StAt H a) (n : H b = none) : b ≠ a := by
  obtain ⟨x, y, z, e, r⟩ := h
  exact ne_new e n
theorem pick {α : Type} {xs : List α} {i : Nat} (h : i < xs.length) : ∃ v, xs[i]? = some v ∧ v ∈ xs := ⟨xs[i], List.getElem?_eq_getElem h, List.getElem_mem h⟩
def spDraw (p : V → Prop) : Sp := fun vs H Q _ => ∃ a : Addr, vs = [.ref a] ∧ StAt H a ∧ ∀ v H', p v → But a H H' → StAt H' a → Q v H'
def spPlain : Sp := fun vs H Q _ => ∃ a : Addr, vs = [.ref a] ∧ StAt H a ∧ ∀ v d H', PD.In d → PDAt a H' v d → But a H H' → StAt H' a → Q v H'
def spAny : Sp := fun vs H Q _ => ∃ a : Addr, vs = [.ref a] ∧ StAt H a ∧ ∀ v d H', OD.In d → 1 ≤ d.dep → d.dep < 4 → ODAt a H' v d → But a H H' → StAt H' a → Q v H'
structure GR0 (P : Program) (w : World) (K : Frag) (mg : Str → Option Value) (base : Heap) : Prop extends G6 P w K mg base where
  law_state : FnAt P w K mg base CX0 1 "_law_state" ["_law_source"] spState
  law_digit : FnAt P w K mg base CX0 1 "_law_digit" ["_law_state_here", "_law_base"] spDigit
section
variable {P : Program} {w : World} {K : Frag} {mg : Str → Option Value} {base : Heap} {f : Addr} {fd : FuncData}

abbrev s_law_number : Stmt := top 34
theorem sc_law_number : FnScope ["_law_s"] ["_law_s"] (defScope s_law_number) := ⟨rfl, rfl, rfl, by decide +kernel, rfl, by decide +kernel, by decide +kernel⟩

theorem ok_law_number (F : FunD K "_law_number" "_law_number" (defArgs s_law_number) (defBody s_law_number) (defScope s_law_number) [] [] f fd) (G : GR0 P w K mg base) : FnOk P w K mg base CX0 2 f fd ["_law_s"] (spDraw (· ∈ nM)) := by
  refine F.ok (CX := CX0) sc_law_number (fun vs H Q E h => ?_) (fun cdv A outer s H vs Q E hr h => ?_)
  · obtain ⟨a, rfl, _⟩ := h
    rfl
  · refine ⟨_, PSs.nox (pss_one (ps_ret (pe_ix ix_list (pe_lstS (pa_cons pe_int (pa_cons pe_int (pa_cons pe_int (pa_cons pe_int (pa_cons pe_int (pa_cons pe_int (pa_cons pe_int (pa_cons (pe_un un_neg pe_int) (pa_cons pe_non (pa_cons pe_bl (pa_cons pe_str (pa_cons pe_int pa_nil))))))))))))) (pe_fn G.law_digit hr pass0 (by rfl) (pa_cons (pv 0) (pa_cons pe_int pa_nil))) (fun _ _ => rfl)))), ?_⟩
    obtain ⟨a, rfl, st, q⟩ := h
    refine ⟨_, rfl, by show 12 ≤ 1000; decide, fun p H1 hp S1 e1 => ⟨_, rfl, a, 12, rfl, st.same S1, by decide, by decide, fun dd H2 h0 h1 B2 st2 => ?_⟩⟩
    obtain ⟨i, rfl⟩ : ∃ i : Nat, dd = (i : Int) := ⟨dd.toNat, by omega⟩
    obtain ⟨v, hv, mv⟩ := pick (xs := nM) (i := i) (by show i < 12; omega)
    exact ⟨p, _, _, _, rfl, rfl, SqL.of (B2 _ _ (st.ne hp) e1), atI_nat (j := i) hv, q v _ mv ((But.of_same S1).trans B2) st2⟩

abbrev s_law_signs : Stmt := top 35
theorem sc_law_signs : FnScope ["_law_s"] ["_law_s"] (defScope s_law_signs) := ⟨rfl, rfl, rfl, by decide +kernel, rfl, by decide +kernel, by decide +kernel⟩

theorem ok_law_signs (F : FunD K "_law_signs" "_law_signs" (defArgs s_law_signs) (defBody s_law_signs) (defScope s_law_signs) [] [] f fd) (G : GR0 P w K mg base) : FnOk P w K mg base CX0 2 f fd ["_law_s"] (spDraw (· ∈ sM)) := by
  refine F.ok (CX := CX0) sc_law_signs (fun vs H Q E h => ?_) (fun cdv A outer s H vs Q E hr h => ?_)
  · obtain ⟨a, rfl, _⟩ := h
    rfl
  · refine ⟨_, PSs.nox (pss_one (ps_ret (pe_ix ix_list (pe_lstS (pa_cons pe_str (pa_cons pe_str (pa_cons pe_str (pa_cons pe_str (pa_cons pe_str (pa_cons pe_str (pa_cons pe_str (pa_cons pe_str (pa_cons pe_str (pa_cons pe_str (pa_cons pe_non (pa_cons pe_str (pa_cons pe_str (pa_cons pe_str pa_nil))))))))))))))) (pe_fn G.law_digit hr pass0 (by rfl) (pa_cons (pv 0) (pa_cons pe_int pa_nil))) (fun _ _ => rfl)))), ?_⟩
    obtain ⟨a, rfl, st, q⟩ := h
    refine ⟨by show 14 ≤ 1000; decide, fun p H1 hp S1 e1 => ⟨_, rfl, a, 14, rfl, st.same S1, by decide, by decide, fun dd H2 h0 h1 B2 st2 => ?_⟩⟩
    obtain ⟨i, rfl⟩ : ∃ i : Nat, dd = (i : Int) := ⟨dd.toNat, by omega⟩
    obtain ⟨v, hv, mv⟩ := pick (xs := sM) (i := i) (by show i < 14; omega)
    exact ⟨p, _, _, _, rfl, rfl, SqL.of (B2 _ _ (st.ne hp) e1), atI_nat (j := i) hv, q v _ mv ((But.of_same S1).trans B2) st2⟩

structure GR1 (P : Program) (w : World) (K : Frag) (mg : Str → Option Value) (base : Heap) : Prop extends GR0 P w K mg base where
  law_number : FnAt P w K mg base CX0 2 "_law_number" ["_law_s"] (spDraw (· ∈ nM))
  law_signs : FnAt P w K mg base CX0 2 "_law_signs" ["_law_s"] (spDraw (· ∈ sM))

abbrev s_law_plain : Stmt := top 36
theorem sc_law_plain : FnScope ["_law_s", "_law_way", "_law_low", "_law_high", "_law_some", "_law_end"] ["_law_s"] (defScope s_law_plain) := ⟨rfl, rfl, rfl, by decide +kernel, rfl, by decide +kernel, by decide +kernel⟩

theorem ok_law_plain (F : FunD K "_law_plain" "_law_plain" (defArgs s_law_plain) (defBody s_law_plain) (defScope s_law_plain) [] [] f fd) (G : GR1 P w K mg base) : FnOk P w K mg base CX0 3 f fd ["_law_s"] spPlain := by
  refine F.ok (CX := CX0) sc_law_plain (fun vs H Q E h => ?_) (fun cdv A outer s H vs Q E hr h => ?_)
  · obtain ⟨a, rfl, _⟩ := h
    rfl
  · have hr1 : Room 1 _ := hr.mono (by decide)
    refine ⟨_, PSs.nox (pss_cons (ps_set (i := 1) sc_law_plain.nd rfl (Or.inl rfl) (pe_fn G.law_digit hr1 pass0 (by rfl) (pa_cons (pv 0) (pa_cons pe_int pa_nil))))
    (pss_cons (ps_if (pt_cmpR op_eq (pv 1) pe_int (nomark _))
      (pss_one (ps_ret (pe_tupS (pa_cons pe_str (pa_cons (pe_fn G.law_signs hr pass0 (by rfl) (pa_cons (pv 0) pa_nil)) (pa_cons (pe_fn G.law_number hr pass0 (by rfl) (pa_cons (pv 0) pa_nil)) (pa_cons (pe_fn G.law_number hr pass0 (by rfl) (pa_cons (pv 0) pa_nil)) pa_nil)))))))
      pss_nil)
    (pss_cons (ps_if (pt_cmpR op_eq (pv 1) pe_int (nomark _))
      (pss_cons (ps_par (i := 2) (j := 3) (by rfl) sc_law_plain.nd rfl rfl (by decide) rfl rfl (pa_cons (pe_fn G.law_number hr pass0 (by rfl) (pa_cons (pv 0) pa_nil)) (pa_cons (pe_ix ix_list (pe_lstS (pa_cons (pe_fn G.law_number hr pass0 (by rfl) (pa_cons (pv 0) pa_nil)) (pa_cons pe_int (pa_cons (pe_op op_sub (pe_op op_pow pe_int pe_int) pe_int) pa_nil)))) (pe_fn G.law_digit hr1 pass0 (by rfl) (pa_cons (pv 0) (pa_cons pe_int pa_nil))) (fun _ _ => rfl)) pa_nil)) (by rfl))
      (pss_one (ps_ret (pe_tupS (pa_cons pe_str (pa_cons (pv 2) (pa_cons (pv 3) pa_nil)))))))
      pss_nil)
    (pss_cons (ps_if (pt_cmpR op_eq (pv 1) pe_int (nomark _))
      (pss_one (ps_ret (pe_tupS (pa_cons pe_str (pa_cons (pe_ix ix_list (pe_lstS (pa_cons pe_int (pa_cons pe_int (pa_cons pe_int (pa_cons pe_int (pa_cons (pe_un un_neg pe_int) (pa_cons pe_non (pa_cons pe_bl (pa_cons pe_str pa_nil))))))))) (pe_fn G.law_digit hr1 pass0 (by rfl) (pa_cons (pv 0) (pa_cons pe_int pa_nil))) (fun _ _ => rfl)) pa_nil)))))
      pss_nil)
    (pss_cons (ps_if (pt_cmpR op_eq (pv 1) pe_int (nomark _))
      (pss_cons (ps_set (i := 4) sc_law_plain.nd rfl (Or.inl rfl) (pe_lstS (pa_cons (pe_lstS (pa_cons pe_str pa_nil)) (pa_cons (pe_lstS (pa_cons pe_str (pa_cons pe_str pa_nil))) (pa_cons (pe_lstS (pa_cons pe_str (pa_cons pe_str (pa_cons pe_str pa_nil)))) (pa_cons (pe_lstS pa_nil) (pa_cons (pe_lstS (pa_cons pe_str (pa_cons pe_str pa_nil))) (pa_cons (pe_lstS (pa_cons pe_str pa_nil)) pa_nil))))))))
      (pss_cons (ps_set (i := 4) sc_law_plain.nd rfl (Or.inl rfl) (pe_op op_catS (pv 4) (pe_lstS (pa_cons pe_str (pa_cons pe_non (pa_cons (pe_lstS (pa_cons pe_str (pa_cons pe_non pa_nil))) (pa_cons (pe_tupS (pa_cons pe_str (pa_cons pe_str pa_nil))) (pa_cons (pe_lstS (pa_cons pe_str pa_nil)) (pa_cons (pe_lstS (pa_cons pe_int pa_nil)) pa_nil)))))))))
      (pss_one (ps_ret (pe_tupS (pa_cons pe_str (pa_cons (pe_ix ix_list (pv 4) (pe_fn G.law_digit hr1 pass0 (by rfl) (pa_cons (pv 0) (pa_cons pe_int pa_nil))) (fun _ _ => rfl)) pa_nil)))))))
      pss_nil)
    (pss_cons (ps_set (i := 5) sc_law_plain.nd rfl (Or.inl rfl) (pe_ix ix_list (pe_lstS (pa_cons pe_str (pa_cons pe_str (pa_cons pe_str (pa_cons pe_str (pa_cons pe_str (pa_cons pe_str (pa_cons pe_non (pa_cons pe_str (pa_cons pe_str pa_nil)))))))))) (pe_fn G.law_digit hr1 pass0 (by rfl) (pa_cons (pv 0) (pa_cons pe_int pa_nil))) (fun _ _ => rfl)))
    (pss_one (ps_ret (pe_tupS (pa_cons pe_str (pa_cons (pe_fn G.law_signs hr pass0 (by rfl) (pa_cons (pv 0) pa_nil)) (pa_cons (pv 5) (pa_cons (pe_fn G.law_number hr pass0 (by rfl) (pa_cons (pv 0) pa_nil)) (pa_cons (pe_fn G.law_number hr pass0 (by rfl) (pa_cons (pv 0) pa_nil)) pa_nil)))))))))))))), ?_⟩
    obtain ⟨a, rfl, st, q⟩ := h
    refine ⟨_, rfl, a, 5, rfl, st, by decide, by decide, fun dW HW h0W h1W BW stW => ?_⟩
    have done : ∀ v d H', PD.In d → PDAt a H' v d → But a HW H' → StAt H' a → Q v H' := fun v d H' i p b s => q v d H' i p (BW.trans b) s
    clear q
    refine ⟨_, rfl, rfl, _, rfl, ?_⟩
    refine ite2 (fun _ => ?_) (fun _ => ?_)
    · exact ⟨_, rfl, a, rfl, stW, fun v1 H1 m1 B1 st1 => ⟨_, rfl, a, rfl, st1, fun v2 H2 m2 B2 st2 => ⟨_, rfl, a, rfl, st2, fun v3 H3 m3 B3 st3 => ⟨by show 4 ≤ 1000; decide, fun p H4 hp S4 e4 => done _ (.word v1 v2 v3) H4 ⟨m1, m2, m3⟩ ⟨p, rfl, st3.ne hp, e4⟩ (((B1.trans B2).trans B3).trans (But.of_same S4)) (st3.same S4)⟩⟩⟩⟩
    refine ⟨_, rfl, rfl, _, rfl, ?_⟩
    refine ite2 (fun _ => ?_) (fun _ => ?_)
    · refine ⟨_, rfl, a, rfl, stW, fun v1 H1 m1 B1 st1 => ⟨_, rfl, a, rfl, st1, fun v2 H2 m2 B2 st2 => ⟨_, _, rfl, rfl, ⟨by decide, by decide, by decide⟩, _, _, rfl, rfl, by show 3 ≤ 1000; decide, fun p H3 hp S3 e3 => ⟨_, rfl, a, 3, rfl, (st2.same S3), by decide, by decide, fun d4 H4 h04 h14 B4 st4 => ?_⟩⟩⟩⟩
      have hm : ∀ v ∈ [v2, V.int 110, V.int (10 ^ (9 : Int).toNat - 1)], v ∈ hM := fun v hv => by
        rcases List.mem_cons.mp hv with e | hv
        · rw [e]; exact nh m2
        · exact List.mem_append_right _ (by
            have e : (10 : Int) ^ (9 : Int).toNat - 1 = 999999999 := by decide +kernel
            rw [e] at hv
            exact hv)
      obtain ⟨i, rfl⟩ : ∃ i : Nat, d4 = (i : Int) := ⟨d4.toNat, by omega⟩
      obtain ⟨v, hv, mv⟩ := pick (xs := [v2, V.int 110, V.int (10 ^ (9 : Int).toNat - 1)]) (i := i) (by show i < 3; omega)
      refine ⟨p, _, _, _, rfl, rfl, SqL.of (B4 _ _ (st2.ne hp) e3), atI_nat (j := i) hv, _, _, rfl, _, rfl, _, rfl, by show 3 ≤ 1000; decide, fun p5 H5 hp5 S5 e5 => ?_⟩
      exact done _ (.number v1 v) H5 ⟨m1, hm v mv⟩ ⟨p5, rfl, st4.ne hp5, e5⟩ ((((B1.trans B2).trans (But.of_same S3)).trans B4).trans (But.of_same S5)) (st4.same S5)
    refine ⟨_, rfl, rfl, _, rfl, ?_⟩
    refine ite2 (fun _ => ?_) (fun _ => ?_)
    · refine ⟨_, rfl, by show 8 ≤ 1000; decide, fun p H1 hp S1 e1 => ⟨_, rfl, a, 8, rfl, (stW.same S1), by decide, by decide, fun d2 H2 h02 h12 B2 st2 => ?_⟩⟩
      obtain ⟨i, rfl⟩ : ∃ i : Nat, d2 = (i : Int) := ⟨d2.toNat, by omega⟩
      obtain ⟨v, hv, mv⟩ := pick (xs := wM) (i := i) (by show i < 8; omega)
      refine ⟨p, _, _, _, rfl, rfl, SqL.of (B2 _ _ (stW.ne hp) e1), atI_nat (j := i) hv, by show 2 ≤ 1000; decide, fun p5 H5 hp5 S5 e5 => ?_⟩
      exact done _ (.fixed v) H5 mv ⟨p5, rfl, st2.ne hp5, e5⟩ (((But.of_same S1).trans B2).trans (But.of_same S5)) (st2.same S5)
    refine ⟨_, rfl, rfl, _, rfl, ?_⟩
    refine ite2 (fun _ => ?_) (fun _ => ?_)
    · refine ⟨by show 1 ≤ 1000; decide, fun pa Ha hpa Sa ea => ⟨by show 2 ≤ 1000; decide, fun pb Hb hpb Sb eb => ⟨by show 3 ≤ 1000; decide, fun pc Hc hpc Sc ec => ⟨by show 0 ≤ 1000; decide, fun pd Hd hpd Sd ed => ⟨by show 2 ≤ 1000; decide, fun pe He hpe Se ee => ⟨by show 1 ≤ 1000; decide, fun pf Hf hpf Sf ef => ⟨by show 6 ≤ 1000; decide, fun pg Hg hpg Sg eg => ⟨_, rfl, by show 2 ≤ 1000; decide, fun ph Hh hph Sh eh => ⟨by show 2 ≤ 1000; decide, fun pi Hi hpi Si ei => ⟨by show 1 ≤ 1000; decide, fun pj Hj hpj Sj ej => ⟨by show 1 ≤ 1000; decide, fun pk Hk hpk Sk ek => ⟨by show 6 ≤ 1000; decide, fun pl Hl hpl Sl el => ⟨pg, pl, _, _, rfl, rfl, SqL.of ((((((Sh.trans Si).trans Sj).trans Sk).trans Sl)) _ _ eg), SqL.of el, (by rw [sizeLine_eq]; show 6 + 6 ≤ 16777216; decide), fun pm Hm hpm Sm em => ⟨_, rfl, _, rfl, a, 12, rfl, (stW.same (((((((((((((Sa.trans Sb).trans Sc).trans Sd).trans Se).trans Sf).trans Sg).trans Sh).trans Si).trans Sj).trans Sk).trans Sl).trans Sm))), by decide, by decide, fun dn Hn h0n h1n Bn stn => ?_⟩⟩⟩⟩⟩⟩⟩⟩⟩⟩⟩⟩⟩⟩
      obtain ⟨i, rfl⟩ : ∃ i : Nat, dn = (i : Int) := ⟨dn.toNat, by omega⟩
      have SWm : Same HW Hm := ((((((((((((Sa.trans Sb).trans Sc).trans Sd).trans Se).trans Sf).trans Sg).trans Sh).trans Si).trans Sj).trans Sk).trans Sl).trans Sm)
      have nw : ∀ {c : Addr} {Hc : Hp}, Same HW Hc → Hc c = none → c ≠ a := fun S n => (stW.same S).ne n
      have nea : pa ≠ a := stW.ne hpa
      have neb : pb ≠ a := nw (Sa) hpb
      have nec : pc ≠ a := nw ((Sa.trans Sb)) hpc
      have ned : pd ≠ a := nw (((Sa.trans Sb).trans Sc)) hpd
      have nee : pe ≠ a := nw ((((Sa.trans Sb).trans Sc).trans Sd)) hpe
      have nef : pf ≠ a := nw (((((Sa.trans Sb).trans Sc).trans Sd).trans Se)) hpf
      have neh : ph ≠ a := nw (((((((Sa.trans Sb).trans Sc).trans Sd).trans Se).trans Sf).trans Sg)) hph
      have nei : pi ≠ a := nw ((((((((Sa.trans Sb).trans Sc).trans Sd).trans Se).trans Sf).trans Sg).trans Sh)) hpi
      have nej : pj ≠ a := nw (((((((((Sa.trans Sb).trans Sc).trans Sd).trans Se).trans Sf).trans Sg).trans Sh).trans Si)) hpj
      have nek : pk ≠ a := nw ((((((((((Sa.trans Sb).trans Sc).trans Sd).trans Se).trans Sf).trans Sg).trans Sh).trans Si).trans Sj)) hpk
      have stm := stW.same SWm
      have fa := Bn _ _ nea (((((((((((((Sb.trans Sc).trans Sd).trans Se).trans Sf).trans Sg).trans Sh).trans Si).trans Sj).trans Sk).trans Sl).trans Sm)) _ _ ea)
      have fb := Bn _ _ neb ((((((((((((Sc.trans Sd).trans Se).trans Sf).trans Sg).trans Sh).trans Si).trans Sj).trans Sk).trans Sl).trans Sm)) _ _ eb)
      have fc := Bn _ _ nec (((((((((((Sd.trans Se).trans Sf).trans Sg).trans Sh).trans Si).trans Sj).trans Sk).trans Sl).trans Sm)) _ _ ec)
      have fd' := Bn _ _ ned ((((((((((Se.trans Sf).trans Sg).trans Sh).trans Si).trans Sj).trans Sk).trans Sl).trans Sm)) _ _ ed)
      have fe := Bn _ _ nee (((((((((Sf.trans Sg).trans Sh).trans Si).trans Sj).trans Sk).trans Sl).trans Sm)) _ _ ee)
      have ff := Bn _ _ nef ((((((((Sg.trans Sh).trans Si).trans Sj).trans Sk).trans Sl).trans Sm)) _ _ ef)
      have fh := Bn _ _ neh ((((((Si.trans Sj).trans Sk).trans Sl).trans Sm)) _ _ eh)
      have fi := Bn _ _ nei (((((Sj.trans Sk).trans Sl).trans Sm)) _ _ ei)
      have fj := Bn _ _ nej ((((Sk.trans Sl).trans Sm)) _ _ ej)
      have fk := Bn _ _ nek (((Sl.trans Sm)) _ _ ek)
      have em' := Bn _ _ ((stW.same ((((((((((((Sa.trans Sb).trans Sc).trans Sd).trans Se).trans Sf).trans Sg).trans Sh).trans Si).trans Sj).trans Sk).trans Sl))).ne hpm) em
      suffices h : ∃ (x : LX) (u : V), ([V.ref pa, .ref pb, .ref pc, .ref pd, .ref pe, .ref pf] ++ [V.str "ab", .non, .ref ph, .ref pi, .ref pj, .ref pk])[i]? = some u ∧ x ∈ lM ∧ LXAt Hn u x ∧ (∀ c, u = .ref c → c ≠ a) by
        obtain ⟨x, u, hu, hx, hL, hne⟩ := h
        exact ⟨pm, _, _, _, rfl, rfl, SqL.of em', atI_nat (j := i) hu, by show 2 ≤ 1000; decide, fun pz Hz hpz Sz ez => done _ (.listed x) Hz hx ⟨pz, u, rfl, stn.ne hpz, ez, hL.same Sz, hne⟩ (((But.of_same SWm).trans Bn).trans (But.of_same Sz)) (stn.same Sz)⟩
      have ni : ∀ {c c' : Addr}, c ≠ a → V.ref c = V.ref c' → c' ≠ a := fun h e => by injection e with e; exact e ▸ h
      match i, (by omega : i < 12) with
      | 0, _ => exact ⟨.lst [.str "a"], (.ref pa), rfl, by decide, ⟨pa, rfl, fa⟩, (fun c e => ni nea e)⟩
      | 1, _ => exact ⟨.lst [.str "a", .str ""], (.ref pb), rfl, by decide, ⟨pb, rfl, fb⟩, (fun c e => ni neb e)⟩
      | 2, _ => exact ⟨.lst [.str "b", .str "a", .str "ab"], (.ref pc), rfl, by decide, ⟨pc, rfl, fc⟩, (fun c e => ni nec e)⟩
      | 3, _ => exact ⟨.lst [], (.ref pd), rfl, by decide, ⟨pd, rfl, fd'⟩, (fun c e => ni ned e)⟩
      | 4, _ => exact ⟨.lst [.str "a", .str "a"], (.ref pe), rfl, by decide, ⟨pe, rfl, fe⟩, (fun c e => ni nee e)⟩
      | 5, _ => exact ⟨.lst [.str "a!"], (.ref pf), rfl, by decide, ⟨pf, rfl, ff⟩, (fun c e => ni nef e)⟩
      | 6, _ => exact ⟨.val (.str "ab"), (.str "ab"), rfl, by decide, rfl, (fun c e => by cases e)⟩
      | 7, _ => exact ⟨.val .non, .non, rfl, by decide, rfl, (fun c e => by cases e)⟩
      | 8, _ => exact ⟨.lst [.str "a", .non], (.ref ph), rfl, by decide, ⟨ph, rfl, fh⟩, (fun c e => ni neh e)⟩
      | 9, _ => exact ⟨.tup [.str "x", .str "y"], (.ref pi), rfl, by decide, ⟨pi, rfl, fi⟩, (fun c e => ni nei e)⟩
      | 10, _ => exact ⟨.lst [.str ""], (.ref pj), rfl, by decide, ⟨pj, rfl, fj⟩, (fun c e => ni nej e)⟩
      | 11, _ => exact ⟨.lst [.int 5], (.ref pk), rfl, by decide, ⟨pk, rfl, fk⟩, (fun c e => ni nek e)⟩
      | j + 12, hj => exact absurd hj (by omega)
    refine ⟨by show 9 ≤ 1000; decide, fun p H1 hp S1 e1 => ⟨_, rfl, a, 9, rfl, (stW.same S1), by decide, by decide, fun d2 H2 h02 h12 B2 st2 => ?_⟩⟩
    obtain ⟨i, rfl⟩ : ∃ i : Nat, d2 = (i : Int) := ⟨d2.toNat, by omega⟩
    obtain ⟨v, hv, mv⟩ := pick (xs := eM) (i := i) (by show i < 9; omega)
    refine ⟨p, _, _, _, rfl, rfl, SqL.of (B2 _ _ (stW.ne hp) e1), atI_nat (j := i) hv, ?_⟩
    refine ⟨_, rfl, a, rfl, st2, fun v3 H3 m3 B3 st3 => ⟨_, rfl, _, rfl, a, rfl, st3, fun v4 H4 m4 B4 st4 => ⟨_, rfl, a, rfl, st4, fun v5 H5 m5 B5 st5 => ⟨by show 5 ≤ 1000; decide, fun p6 H6 hp6 S6 e6 => ?_⟩⟩⟩⟩
    exact done _ (.ended v3 v v4 v5) H6 ⟨m3, mv, m4, m5⟩ ⟨p6, rfl, st5.ne hp6, e6⟩ ((((((But.of_same S1).trans B2).trans B3).trans B4).trans B5).trans (But.of_same S6)) (st5.same S6)

structure GR2 (P : Program) (w : World) (K : Frag) (mg : Str → Option Value) (base : Heap) : Prop extends GR1 P w K mg base where
  law_plain : FnAt P w K mg base CX0 3 "_law_plain" ["_law_s"] spPlain
theorem oV_none {o : Option Str} (h : ¬ (!decide (oV o = .non)) = true) : o = none := by
  cases o with
  | none => rfl
  | some z => exact absurd (show (!decide (V.str z = .non)) = true by rw [decide_eq_false (fun e => nomatch e)]; rfl) h
abbrev tMark (K : Frag) : TE := tOp (rIxL K) (tVar 1) (tCall spDigit [] E0 (tCons (tVar 0) (tCons (tC (V.int 10)) tNil)))
theorem fix2 : wDue (.int 2) = none ∧ (.int 2 : V) ∈ wM ∧ (.str "P" : V) ∈ mQ ∧ (.str "Q" : V) ∈ mQ ∧ OD.due (.mk (.str "P") (.str "Q") (.pl (.fixed (.int 2)))) = none := by decide +kernel

abbrev s_law_any : Stmt := top 37
theorem sc_law_any : FnScope ["_law_s", "_law_marks", "_law_inner", "_law_turn"] ["_law_s"] (defScope s_law_any) := ⟨rfl, rfl, rfl, by decide +kernel, rfl, by decide +kernel, by decide +kernel⟩

theorem ok_law_any (F : FunD K "_law_any" "_law_any" (defArgs s_law_any) (defBody s_law_any) (defScope s_law_any) [] [] f fd) (G : GR2 P w K mg base) : FnOk P w K mg base CX0 4 f fd ["_law_s"] spAny := by
  refine F.ok (CX := CX0) sc_law_any (fun vs H Q E h => ?_) (fun cdv A outer s H vs Q E hr h => ?_)
  · obtain ⟨a, rfl, _⟩ := h
    rfl
  · have hr1 : Room 1 _ := hr.mono (by decide)
    refine ⟨_, PSs.nox (pss_cons (ps_if (pt_cmpR op_gt (pe_fn G.law_digit hr1 pass0 (by rfl) (pa_cons (pv 0) (pa_cons pe_int pa_nil))) pe_int (nomark _))
      (pss_one (ps_ret (pe_fn G.law_plain hr pass0 (by rfl) (pa_cons (pv 0) pa_nil))))
      pss_nil)
    (pss_cons (ps_set (i := 1) sc_law_any.nd rfl (Or.inl rfl) (pe_lstS (pa_cons pe_str (pa_cons pe_str (pa_cons pe_str (pa_cons pe_str (pa_cons pe_str (pa_cons pe_str (pa_cons pe_str (pa_cons pe_str (pa_cons pe_non (pa_cons pe_str pa_nil))))))))))))
    (pss_cons (ps_set (i := 2) sc_law_any.nd rfl (Or.inl rfl) (pe_fn G.law_plain hr pass0 (by rfl) (pa_cons (pv 0) pa_nil)))
    (pss_cons (ps_for PassesOwn.never rfl (pi_range1 (by rfl) G.range (pa_cons pe_int pa_nil)) (pg_name (i := 3) sc_law_any.nd rfl (Or.inl rfl))
      (pss_one (ps_if (pt_cmpR op_notN (pe_fn G.law_due hr pass0 (by rfl) (pa_cons (pv 2) pa_nil)) pe_non (nomark _))
        (pss_one (ps_set (i := 2) sc_law_any.nd rfl (Or.inl rfl) (pe_fn G.law_plain hr pass0 (by rfl) (pa_cons (pv 0) pa_nil))))
        pss_nil)))
    (pss_cons (ps_if (PW.pt (pw_or (pt_cmpR op_notN (pe_fn G.law_due hr pass0 (by rfl) (pa_cons (pv 2) pa_nil)) pe_non (nomark _)) (pw_or1 (pt_cmpR op_eq (pe_fn G.law_digit hr1 pass0 (by rfl) (pa_cons (pv 0) (pa_cons pe_int pa_nil))) pe_int (nomark _)))))
      (pss_one (ps_set (i := 2) sc_law_any.nd rfl (Or.inl rfl) (pe_ix ix_list (pe_lstS (pa_cons pe_non (pa_cons pe_str (pa_cons (pe_tupS (pa_cons pe_str (pa_cons pe_str (pa_cons pe_str (pa_cons (pe_tupS (pa_cons pe_str (pa_cons pe_int pa_nil))) pa_nil))))) pa_nil)))) (pe_fn G.law_digit hr1 pass0 (by rfl) (pa_cons (pv 0) (pa_cons pe_int pa_nil))) (fun _ _ => rfl))))
      pss_nil)
    (pss_one (ps_ret (pe_tupS (pa_cons pe_str (pa_cons (pe_ix ix_list (pv 1) (pe_fn G.law_digit hr1 pass0 (by rfl) (pa_cons (pv 0) (pa_cons pe_int pa_nil))) (fun _ _ => rfl)) (pa_cons (pe_ix ix_list (pv 1) (pe_fn G.law_digit hr1 pass0 (by rfl) (pa_cons (pv 0) (pa_cons pe_int pa_nil))) (fun _ _ => rfl)) (pa_cons (pv 2) pa_nil)))))))))))), ?_⟩
    obtain ⟨a, rfl, st, q⟩ := h
    refine ⟨_, rfl, a, 3, rfl, st, by decide, by decide, fun dW HW h0W h1W BW stW => ?_⟩
    refine ⟨_, _, rfl, rfl, _, rfl, ?_⟩
    refine ite2 (fun _ => ?_) (fun _ => ?_)
    · exact ⟨_, rfl, a, rfl, stW, fun v d H1 hi hP B1 st1 => q v (.pl d) H1 hi (by show 1 ≤ 1; decide) (by show 1 < 4; decide) hP (BW.trans B1) st1⟩
    refine ⟨by show 10 ≤ 1000; decide, fun pm H1 hpm Sm em => ⟨_, rfl, a, rfl, stW.same Sm, fun v0 d0 H2 hi0 hP0 B2 st2 => ?_⟩⟩
    have npm : pm ≠ a := stW.ne hpm
    have em2 := B2 _ _ npm em
    have B02 := (BW.trans (But.of_same Sm)).trans B2
    have fin : ∀ (t : Option V) (u : V) (i : OD) (H' : Hp), i.In → i.due = none → i.dep < 3 → ODAt a H' u i → StAt H' a → But a H2 H' → tRet (tTupS (tCons (tC (V.str "marked")) (tCons (tMark K) (tCons (tMark K) (tCons (tVar 2) tNil))))) { nx := fun _ H' => Q .non H', rt := Q } [some (.ref a), some (.ref pm), some u, t] H' := fun t u i H' hi hd hdep hO st' B' =>
      ⟨_, rfl, _, rfl, a, 10, rfl, st', by decide, by decide, fun d3 H3 h03 h13 B3 st3 => by
        obtain ⟨i3, rfl⟩ : ∃ i : Nat, d3 = (i : Int) := ⟨d3.toNat, by omega⟩
        obtain ⟨n, hn, mn⟩ := pick (xs := mM) (i := i3) (by show i3 < 10; omega)
        refine ⟨pm, _, _, _, rfl, rfl, SqL.of (B3 _ _ npm (B' _ _ npm em2)), atI_nat (j := i3) hn, ?_⟩
        refine ⟨_, rfl, _, rfl, a, 10, rfl, st3, by decide, by decide, fun d4 H4 h04 h14 B4 st4 => ?_⟩
        obtain ⟨i4, rfl⟩ : ∃ i : Nat, d4 = (i : Int) := ⟨d4.toNat, by omega⟩
        obtain ⟨m, hm, mm⟩ := pick (xs := mM) (i := i4) (by show i4 < 10; omega)
        refine ⟨pm, _, _, _, rfl, rfl, SqL.of (B4 _ _ npm (B3 _ _ npm (B' _ _ npm em2))), atI_nat (j := i4) hm, _, rfl, by show 4 ≤ 1000; decide, fun p5 H5 hp5 S5 e5 => ?_⟩
        exact q _ (.mk n m i) H5 ⟨List.mem_append_left _ mn, List.mem_append_left _ mm, hi, hd⟩ (by show 1 ≤ i.dep + 1; omega) (by show i.dep + 1 < 4; omega) ⟨p5, u, rfl, st4.ne hp5, e5, (hO.but (B3.trans B4)).same S5⟩ ((((B02.trans B').trans B3).trans B4).trans (But.of_same S5)) (st4.same S5)⟩
    refine ⟨8, rfl, by decide, by decide, for_range (n := 8) (fun _ σ H' => ∃ (v : V) (d : PD) (t : Option V), σ = [some (.ref a), some (.ref pm), some v, t] ∧ d.In ∧ PDAt a H' v d ∧ StAt H' a ∧ But a H2 H') ⟨v0, d0, _, rfl, hi0, hP0, st2, But.refl _ _⟩ ?_ ?_⟩
    · rintro k σ H' hk ⟨v, d, t, rfl, hi, hP, st', B'⟩
      refine ⟨_, rfl, a, v, .pl d, rfl, hP, hi, by show 1 ≤ 1; decide, fun H3 S3 => ⟨rfl, _, rfl, ?_⟩⟩
      refine ite2 (fun _ => ?_) (fun _ => ?_)
      · exact ⟨_, rfl, a, rfl, st'.same S3, fun v4 d4 H4 hi4 hP4 B4 st4 => ⟨v4, d4, _, rfl, hi4, hP4, st4, (B'.trans (But.of_same S3)).trans B4⟩⟩
      · exact ⟨v, d, _, rfl, hi, hP.same S3, st'.same S3, B'.trans (But.of_same S3)⟩
    · rintro σ H' ⟨v, d, t, rfl, hi, hP, st', B'⟩
      refine ⟨_, rfl, a, v, .pl d, rfl, hP, hi, by show 1 ≤ 1; decide, fun H3 S3 => ⟨rfl, _, rfl, ?_⟩⟩
      replace hP := hP.same S3
      replace st' := st'.same S3
      replace B' := B'.trans (But.of_same S3)
      refine ite2 (fun _ => iteT ?_) (fun h1 => ?_)
      · refine ⟨by show 2 ≤ 1000; decide, fun p1 I1 hp1 S1 e1 => ⟨by show 4 ≤ 1000; decide, fun p2 I2 hp2 S2 e2 => ⟨by show 3 ≤ 1000; decide, fun p3 I3 hp3 S3 e3 => ⟨_, rfl, a, 3, rfl, st'.same ((S1.trans S2).trans S3), by decide, by decide, fun dd I4 h0 h1 B4 st4 => ?_⟩⟩⟩⟩
        have n1 : p1 ≠ a := st'.ne hp1
        have n2 : p2 ≠ a := (st'.same S1).ne hp2
        have n3 : p3 ≠ a := (st'.same (S1.trans S2)).ne hp3
        have g1 := B4 _ _ n1 ((S2.trans S3) _ _ e1)
        have g2 := B4 _ _ n2 (S3 _ _ e2)
        have g3 := B4 _ _ n3 e3
        have BB := (But.of_same (a := a) ((S1.trans S2).trans S3)).trans B4
        obtain ⟨i, rfl⟩ : ∃ i : Nat, dd = (i : Int) := ⟨dd.toNat, by omega⟩
        match i, (by omega : i < 3) with
        | 0, _ => exact ⟨p3, _, _, _, rfl, rfl, SqL.of g3, atI_nat (j := 0) rfl, fin t .non (.val .non) I4 trivial rfl (by show 0 < 3; decide) ⟨rfl, .inl rfl⟩ st4 (B'.trans BB)⟩
        | 1, _ => exact ⟨p3, _, _, _, rfl, rfl, SqL.of g3, atI_nat (j := 1) rfl, fin t (.str "word") (.val (.str "word")) I4 trivial rfl (by show 0 < 3; decide) ⟨rfl, .inr rfl⟩ st4 (B'.trans BB)⟩
        | 2, _ => exact ⟨p3, _, _, _, rfl, rfl, SqL.of g3, atI_nat (j := 2) rfl, fin t (.ref p2) (.mk (.str "P") (.str "Q") (.pl (.fixed (.int 2)))) I4 ⟨fix2.2.2.1, fix2.2.2.2.1, fix2.2.1, fix2.1⟩ fix2.2.2.2.2 (by show 2 < 3; decide) ⟨p2, .ref p1, rfl, n2, g2, p1, rfl, n1, g1⟩ st4 (B'.trans BB)⟩
        | j + 3, hj => exact absurd hj (by omega)
      have hd : PD.due d = none := oV_none h1
      refine ⟨_, rfl, a, 6, rfl, st', by decide, by decide, fun d5 H5 h05 h15 B5 st5 => ?_⟩
      refine ⟨rfl, _, rfl, ?_⟩
      replace hP := hP.but B5
      replace st' := st5
      replace B' := B'.trans B5
      refine ite2 (fun _ => ?_) (fun _ => ?_)
      · refine ⟨by show 2 ≤ 1000; decide, fun p1 I1 hp1 S1 e1 => ⟨by show 4 ≤ 1000; decide, fun p2 I2 hp2 S2 e2 => ⟨by show 3 ≤ 1000; decide, fun p3 I3 hp3 S3 e3 => ⟨_, rfl, a, 3, rfl, st'.same ((S1.trans S2).trans S3), by decide, by decide, fun dd I4 h0 h1 B4 st4 => ?_⟩⟩⟩⟩
        have n1 : p1 ≠ a := st'.ne hp1
        have n2 : p2 ≠ a := (st'.same S1).ne hp2
        have n3 : p3 ≠ a := (st'.same (S1.trans S2)).ne hp3
        have g1 := B4 _ _ n1 ((S2.trans S3) _ _ e1)
        have g2 := B4 _ _ n2 (S3 _ _ e2)
        have g3 := B4 _ _ n3 e3
        have BB := (But.of_same (a := a) ((S1.trans S2).trans S3)).trans B4
        obtain ⟨i, rfl⟩ : ∃ i : Nat, dd = (i : Int) := ⟨dd.toNat, by omega⟩
        match i, (by omega : i < 3) with
        | 0, _ => exact ⟨p3, _, _, _, rfl, rfl, SqL.of g3, atI_nat (j := 0) rfl, fin t .non (.val .non) I4 trivial rfl (by show 0 < 3; decide) ⟨rfl, .inl rfl⟩ st4 (B'.trans BB)⟩
        | 1, _ => exact ⟨p3, _, _, _, rfl, rfl, SqL.of g3, atI_nat (j := 1) rfl, fin t (.str "word") (.val (.str "word")) I4 trivial rfl (by show 0 < 3; decide) ⟨rfl, .inr rfl⟩ st4 (B'.trans BB)⟩
        | 2, _ => exact ⟨p3, _, _, _, rfl, rfl, SqL.of g3, atI_nat (j := 2) rfl, fin t (.ref p2) (.mk (.str "P") (.str "Q") (.pl (.fixed (.int 2)))) I4 ⟨fix2.2.2.1, fix2.2.2.2.1, fix2.2.1, fix2.1⟩ fix2.2.2.2.2 (by show 2 < 3; decide) ⟨p2, .ref p1, rfl, n2, g2, p1, rfl, n1, g1⟩ st4 (B'.trans BB)⟩
        | j + 3, hj => exact absurd hj (by omega)
      · exact fin t v (.pl d) _ hi hd (by show 1 < 3; decide) hP st' B'

end
end L2.K03

set_option Elab.async false
set_option linter.all false
set_option maxRecDepth 100000
set_option maxHeartbeats 4000000
namespace L2.K03
open PySem PySem.W PySem.Spec PySem.Calls PyProof.Rows L2.Jk
theorem cut_int {ns : List Int} {i : Nat} {x : V} (h : (cutV (ns.map V.int ++ [V.int 0]) none (some 3))[i]? = some x) : ∃ n, x = V.int n := by
  have m := List.mem_of_getElem? h
  unfold cutV at m
  have m2 := List.mem_of_mem_drop (List.mem_of_mem_take m)
  rcases List.mem_append.mp m2 with m3 | m3
  · obtain ⟨n, _, e⟩ := List.mem_map.mp m3
    exact ⟨n, e.symm⟩
  · exact ⟨0, List.mem_singleton.mp m3⟩
theorem same_but {sa : Addr} {H H1 H2 : Hp} (S : Same H H1) (n : H sa = none) (B : But sa H1 H2) : Same H H2 := fun b o e => B b o (ne_of_none e n) (S b o e)
structure EQ2 (P : Program) (w : World) (K : Frag) (mg : Str → Option Value) (base : Heap) (C : Addr) (sp : Sp) : Prop where
  ok : ∃ fd, FnOk P w K mg base CX0 2 (He.ma K C "__eq__") fd ["self", "other"] sp ∧ Binds K fd ["self", "other"] []
structure GZ (P : Program) (w : World) (K : Frag) (mg : Str → Option Value) (base : Heap) : Prop extends GR2 P w K mg base where
  law_any : FnAt P w K mg base CX0 4 "_law_any" ["_law_s"] spAny
  law_made : FnAt P w K mg base CX0 9 "_law_made" ["_law_one"] (spMd K 4)
  kitT : ∀ i, i < 6 → kitOne K (.ref (ca K i)) (.type "str") = some false
  eMarked : EQ2 P w K mg base (ca K 5) (spEqMarked K)
/-- values that == finds equal: flat ones, fields -/
def DFd (K : Frag) : Eqv := fun x y H => ∃ (a b : Addr) (d : PD), x = .ref a ∧ y = .ref b ∧ FieldAt K H a d ∧ FieldAt K H b d ∧ d.In ∧ d.due = none
def DF (K : Frag) : Eqv := fun x y H => DFlat x y H ∨ DFd K x y H
theorem monF {K : Frag} : Mon (DF K) := Mon.or mon_flat fun x y H H' e ⟨a, b, d, h1, h2, h3, h4, h5, h6⟩ => ⟨a, b, d, h1, h2, h3.same e, h4.same e, h5, h6⟩
section
variable {P : Program} {w : World} {K : Frag} {mg : Str → Option Value} {base : Heap} {f : Addr} {fd : FuncData}
theorem eqF (G : GZ P w K mg base) {X : Cx} (e1 : X.prog = P) (e2 : X.w = w) (e3 : X.K = K) (e4 : X.mg = mg) (e5 : X.base = base) : EqG X 1 (DF K) := by
  subst e1 e2 e3 e4 e5
  have h0 : EqG X 1 (DIns (ca X.K 0) fun a b H => ∃ s l m : V, FieldAt X.K H a (.word s l m) ∧ FieldAt X.K H b (.word s l m) ∧ PD.In (.word s l m) ∧ PD.due (.word s l m) = none) := by
    obtain ⟨fde, Fe, Be⟩ := G.eWord.ok
    exact eqG_ins (E := E0) (Fe.imp fun vs H Q E ⟨a, b, e, ⟨s, l, m, g1, g2, g3, g4⟩, q⟩ => ⟨a, .ref b, s, l, m, e, g1, g3, g4, .inl ⟨b, rfl, g2, q _ Ext.rfl'⟩⟩) (G.kc 0 (by decide)).eq.find (G.kc 0 (by decide)).eq.fn Be pass0
  have h1 : EqG X 1 (DIns (ca X.K 1) fun a b H => ∃ l m : V, FieldAt X.K H a (.number l m) ∧ FieldAt X.K H b (.number l m) ∧ PD.In (.number l m) ∧ PD.due (.number l m) = none) := by
    obtain ⟨fde, Fe, Be⟩ := G.eNumber.ok
    exact eqG_ins (E := E0) (Fe.imp fun vs H Q E ⟨a, b, e, ⟨l, m, g1, g2, g3, g4⟩, q⟩ => ⟨a, .ref b, l, m, e, g1, g3, g4, .inl ⟨b, rfl, g2, q _ Ext.rfl'⟩⟩) (G.kc 1 (by decide)).eq.find (G.kc 1 (by decide)).eq.fn Be pass0
  have h2 : EqG X 1 (DIns (ca X.K 2) fun a b H => ∃ v : V, FieldAt X.K H a (.fixed v) ∧ FieldAt X.K H b (.fixed v) ∧ PD.In (.fixed v) ∧ PD.due (.fixed v) = none) := by
    obtain ⟨fde, Fe, Be⟩ := G.eFixed.ok
    exact eqG_ins (E := E0) (Fe.imp fun vs H Q E ⟨a, b, e, ⟨v, g1, g2, g3, g4⟩, q⟩ => ⟨a, .ref b, v, e, g1, g3, g4, .inl ⟨b, rfl, g2, q _ Ext.rfl'⟩⟩) (G.kc 2 (by decide)).eq.find (G.kc 2 (by decide)).eq.fn Be pass0
  have h3 : EqG X 1 (DIns (ca X.K 3) fun a b H => ∃ x : LX, FieldAt X.K H a (.listed x) ∧ FieldAt X.K H b (.listed x) ∧ PD.In (.listed x) ∧ PD.due (.listed x) = none) := by
    obtain ⟨fde, Fe, Be⟩ := G.eListed.ok
    exact eqG_ins (E := E0) (Fe.imp fun vs H Q E ⟨a, b, e, ⟨x, g1, g2, g3, g4⟩, q⟩ => ⟨a, .ref b, x, e, g1, g3, g4, .inl ⟨b, rfl, g2, q _ Ext.rfl'⟩⟩) (G.kc 3 (by decide)).eq.find (G.kc 3 (by decide)).eq.fn Be pass0
  have h4 : EqG X 1 (DIns (ca X.K 4) fun a b H => ∃ s e l m : V, FieldAt X.K H a (.ended s e l m) ∧ FieldAt X.K H b (.ended s e l m) ∧ PD.In (.ended s e l m) ∧ PD.due (.ended s e l m) = none) := by
    obtain ⟨fde, Fe, Be⟩ := G.eEnded.ok
    exact eqG_ins (E := E0) (Fe.imp fun vs H Q E ⟨a, b, ee, ⟨s, e, l, m, g1, g2, g3, g4⟩, q⟩ => ⟨a, .ref b, s, e, l, m, ee, g1, g3, g4, .inl ⟨b, rfl, g2, q _ Ext.rfl'⟩⟩) (G.kc 4 (by decide)).eq.find (G.kc 4 (by decide)).eq.fn Be pass0
  refine EqG.or (eqG_flat.mono (by decide)) ((EqG.or h0 (EqG.or h1 (EqG.or h2 (EqG.or h3 h4)))).imp fun x y H ⟨a, b, d, q1, q2, q3, q4, q5, q6⟩ => ?_)
  obtain ⟨dx, fs, hi, _⟩ := q3.ins
  obtain ⟨dy, gs, hj, _⟩ := q4.ins
  cases d with
  | word s l m => exact .inl ⟨a, b, dx, dy, fs, gs, q1, q2, hi, hj, s, l, m, q3, q4, q5, q6⟩
  | number l m => exact .inr (.inl ⟨a, b, dx, dy, fs, gs, q1, q2, hi, hj, l, m, q3, q4, q5, q6⟩)
  | fixed v => exact .inr (.inr (.inl ⟨a, b, dx, dy, fs, gs, q1, q2, hi, hj, v, q3, q4, q5, q6⟩))
  | listed x => exact .inr (.inr (.inr (.inl ⟨a, b, dx, dy, fs, gs, q1, q2, hi, hj, x, q3, q4, q5, q6⟩)))
  | ended s e l m => exact .inr (.inr (.inr (.inr ⟨a, b, dx, dy, fs, gs, q1, q2, hi, hj, s, e, l, m, q3, q4, q5, q6⟩)))
theorem mk_due {n m : V} {i : OD} (h : OD.due (.mk n m i) = none) : isSignB n = true ∧ isSignB m = true := by
  have h : (if (!isSignB n) = true then (some "none" : Option Str) else if (!isSignB m || decide (m = n)) = true then some "mark" else iDue n m i) = none := h
  cases k : isSignB n with
  | false => rw [k] at h; cases h
  | true =>
    rw [k] at h
    cases k2 : isSignB m with
    | false => rw [k2] at h; cases h
    | true => exact ⟨rfl, rfl⟩
theorem flat_same : ∀ {v : V}, flatV v = true → eqV v v = true
  | .non, _ => rfl
  | .bl b, _ => by cases b <;> rfl
  | .int i, _ => by show (i == i) = true; exact beq_self_eq_true i
  | .str z, _ => by show (z == z) = true; exact beq_self_eq_true z
theorem prs_flat {K : Frag} {H : Hp} {xs : List V} (h : xs.all flatV = true) : Prs (DF K) xs xs H := ⟨rfl, fun i x y h1 h2 => by
  rw [h1] at h2
  cases h2
  have f := List.all_eq_true.mp h x (List.mem_of_getElem? h1)
  exact .inl ⟨f, f, flat_same f⟩⟩
theorem eM_flat : ∀ v ∈ eM, flatV v = true := by decide +kernel
theorem sM_flat : ∀ v ∈ sM, flatV v = true := by decide +kernel
theorem mQ_flat : ∀ v ∈ mQ, flatV v = true ∧ (isSignB v = true → scal v v = true) := by decide +kernel
def spLaw (K : Frag) : Sp := fun vs H Q _ => ∃ (a : Addr) (ns : List Int), vs = [.ref a] ∧ SqL K H a (ns.map V.int) ∧ ns.length ≤ 63 ∧ ∀ H', Q (.bl true) H'
theorem MkAt.same {K : Frag} {H H' : Hp} {a : Addr} {n m : V} {d : PD} (S : Same H H') (h : MkAt K H a n m d) : MkAt K H' a n m d := by
  obtain ⟨dx, y, h1, h2⟩ := h
  exact ⟨dx, y, S _ _ h1, h2.same S⟩

abbrev s_law : Stmt := top 38
theorem sc_law : FnScope ["_law_script", "_law_cell", "_law_s", "_law_turn", "_law_one", "_law_due_here", "_law_found"] ["_law_script"] (defScope s_law) := ⟨rfl, rfl, rfl, by decide +kernel, rfl, by decide +kernel, by decide +kernel⟩

theorem ok_law (F : FunD K "law" "law" (defArgs s_law) (defBody s_law) (defScope s_law) [] [] f fd) (G : GZ P w K mg base) : FnOk P w K mg base CX0 10 f fd ["_law_script"] (spLaw K) := by
  refine F.ok sc_law (fun vs H Q E h => ?_) (fun cdv A outer s H vs Q E hr h => ?_)
  · obtain ⟨a, ns, rfl, _⟩ := h
    rfl
  · obtain ⟨a, ns, rfl, hS, hl, k⟩ := h
    have hr' : Room 1 _ := hr.mono (by decide)
    have hr2 : Room 2 _ := hr.mono (by decide)
    refine ⟨_, PSs.nox (pss_cons (ps_for PassesOwn.never rfl (pi_list (pe_slice sl_listS (pe_op op_catS (pv 0) (pe_lstS (pa_cons pe_int pa_nil))) po_none (po_some pe_int))) (pg_name (i := 1) sc_law.nd rfl (Or.inl rfl))
      (pss_cons (ps_set (i := 2) sc_law.nd rfl (Or.inl rfl) (pe_fn G.law_state (hr.mono (by decide)) pass0 (by rfl) (pa_cons (pv 1) pa_nil)))
      (pss_one (ps_for PassesOwn.never rfl (pi_range1 (by rfl) G.range (pa_cons pe_int pa_nil)) (pg_name (i := 3) sc_law.nd rfl (Or.inl rfl))
        (pss_cons (ps_set (i := 4) sc_law.nd rfl (Or.inl rfl) (pe_fn G.law_any (hr.mono (by decide)) pass0 (by rfl) (pa_cons (pv 2) pa_nil)))
        (pss_cons (ps_par (i := 5) (j := 6) (by rfl) sc_law.nd rfl rfl (by decide) rfl rfl (pa_cons (pe_fn G.law_due (hr.mono (by decide)) pass0 (by rfl) (pa_cons (pv 4) pa_nil)) (pa_cons (pe_fn G.law_made hr pass0 (by rfl) (pa_cons (pv 4) pa_nil)) pa_nil)) (by rfl))
        (pss_cons (ps_if (pt_cmpR op_notN (pv 5) pe_non (nomark _))
          (pss_cons (ps_if (pt_cmpR op_ne (pv 6) (pv 5) (nomark _))
            (pss_one (ps_ret pe_bl))
            pss_nil)
          (pss_one ps_continue))
          pss_nil)
        (pss_cons (ps_if (pt_val (pe_callB call_ie (by rfl) G.isinstance (by decide +kernel) (pa_cons (pv 6) (pa_cons (pe_bty (n := "str") (by rfl) G.str (by decide +kernel)) pa_nil))))
          (pss_one (ps_ret pe_bl))
          pss_nil)
        (pss_cons (ps_if (PW.pt (pw_and (pt_val (pe_callB call_ie (by rfl) G.isinstance (by decide +kernel) (pa_cons (pv 6) (pa_cons (pe_gref (by rfl) G.cListed.mgC) pa_nil)))) (pw_and1 (PW.pt (pw_or (pt_cmpR (op_neT (n := 1) monF (eqF G rfl rfl rfl rfl rfl) hr2) (pe_fld (pv 6) rfl) (pe_callTy call_tuple_of (by rfl) G.tuple (by decide +kernel) (pa_cons (pe_ix ix_tup (pv 4) pe_int (fun _ _ => rfl)) pa_nil)) (nomark _)) (pw_or1 (pt_not (pt_val (pe_callB call_ie (by rfl) G.isinstance (by decide +kernel) (pa_cons (pe_fld (pv 6) rfl) (pa_cons (pe_bty (n := "tuple") (by rfl) G.tuple (by decide +kernel)) pa_nil)))))))))))
          (pss_one (ps_ret pe_bl))
          pss_nil)
        (pss_cons (ps_if (PW.pt (pw_and (pt_val (pe_callB call_ie (by rfl) G.isinstance (by decide +kernel) (pa_cons (pv 6) (pa_cons (pe_gref (by rfl) G.cEnded.mgC) pa_nil)))) (pw_and1 (pt_cmpR (op_neT (n := 1) monF (eqF G rfl rfl rfl rfl rfl) hr2) (pe_tupS (pa_cons (pe_fld (pv 6) rfl) (pa_cons (pe_fld (pv 6) rfl) (pa_cons (pe_fld (pv 6) rfl) (pa_cons (pe_fld (pv 6) rfl) pa_nil))))) (pe_slice sl_tup (pv 4) (po_some pe_int) po_none) (nomark _)))))
          (pss_one (ps_ret pe_bl))
          pss_nil)
        (pss_cons (ps_if (PW.pt (pw_and (pt_val (pe_callB call_ie (by rfl) G.isinstance (by decide +kernel) (pa_cons (pv 6) (pa_cons (pe_gref (by rfl) G.cMarked.mgC) pa_nil)))) (pw_and1 (pt_cmpR (op_neT (n := 1) monF (eqF G rfl rfl rfl rfl rfl) hr2) (pe_tupS (pa_cons (pe_fld (pv 6) rfl) (pa_cons (pe_fld (pv 6) rfl) (pa_cons (pe_fld (pv 6) rfl) pa_nil)))) (pe_op op_catT (pe_slice sl_tup (pv 4) (po_some pe_int) (po_some pe_int)) (pe_tupS (pa_cons (pe_fn G.law_made hr pass0 (by rfl) (pa_cons (pe_ix ix_tup (pv 4) pe_int (fun _ _ => rfl)) pa_nil)) pa_nil))) (nomark _)))))
          (pss_one (ps_ret pe_bl))
          pss_nil)
        (pss_one (ps_if (PW.pt (pw_or (pt_cmpR (op_neO (CX := CX0) pass0) (pv 6) (pe_fn G.law_made hr pass0 (by rfl) (pa_cons (pv 4) pa_nil)) (nomark _)) (pw_or1 (pt_cmpR (op_eqO (CX := CX0) pass0) (pv 6) (pv 4) (nomark _)))))
          (pss_one (ps_ret pe_bl))
          pss_nil)))))))))))))
    (pss_one (ps_ret pe_bl))), ?_⟩
    refine ⟨_, rfl, by show 1 ≤ 1000; decide, fun p0 H0 hp0 S0 e0 => ⟨a, _, _, _, rfl, rfl, S0.seq hS, SqL.of e0, by rw [List.length_map, sizeLine_eq]; show ns.length + 1 ≤ 16777216; omega, fun p1 H1 hp1 S1 e1 => ⟨_, rfl, _, _, rfl, SqL.of e1, fun p2 H2 hp2 S2 e2 => ?_⟩⟩⟩
    refine ⟨p2, rfl, ⟨_, SqL.of e2⟩, for_list (K := K) (a := p2) (xs := cutV (ns.map V.int ++ [V.int 0]) none (some 3)) (fun i σ H' => ∃ v1 v2 v3 v4 v5 v6, σ = [some (.ref a), v1, v2, v3, v4, v5, v6] ∧ Same H2 H')
      ⟨_, _, _, _, _, _, rfl, Same.refl _⟩ (fun i σ H' _ ⟨_, _, _, _, _, _, _, S⟩ => SqL.of (S _ _ e2)) ?_ ?_⟩
    · rintro i x0 σ H3 hx0 ⟨v1, v2, v3, v4, v5, v6, rfl, S3⟩
      obtain ⟨c, rfl⟩ := cut_int hx0
      refine ⟨_, rfl, c, rfl, fun sa H4 hsa S4 st4 => ?_⟩
      refine ⟨20, rfl, by decide, by decide, for_range (n := 20) (fun _ σ H' => ∃ v3 v4 v5 v6, σ = [some (.ref a), some (.int c), some (.ref sa), v3, v4, v5, v6] ∧ But sa H4 H' ∧ StAt H' sa) ⟨_, _, _, _, rfl, But.refl _ _, st4⟩ ?_ ?_⟩
      · rintro k σ H' hk ⟨w3, w4, w5, w6, rfl, B', st'⟩
        refine ⟨_, rfl, sa, rfl, st', fun one od H5 hin hd1 hd4 hO B5 st5 => ?_⟩
        cases hq : od.due with
        | some z =>
          refine ⟨_, rfl, sa, one, od, rfl, hO, hin, hd1, fun H6 S6 => ?_⟩
          rw [hq]
          refine ⟨_, rfl, sa, one, od, rfl, hO.same S6, hin, hd4, fun z2 e2 H7 S7 => ?_, fun e2 => (by rw [hq] at e2; cases e2)⟩
          obtain rfl : z = z2 := by rw [hq] at e2; exact Option.some.inj e2
          refine ⟨_, _, rfl, _, rfl, rfl, _, rfl, ?_⟩
          refine ite2 (fun _ => ?_) (fun h => absurd (show (!decide (V.str z = .non)) = true by rw [decide_eq_false (fun e => nomatch e)]; rfl) h)
          refine ⟨_, rfl, _, rfl, rfl, _, rfl, ?_⟩
          refine iteNS rfl ?_
          exact ⟨_, _, _, _, rfl, (B'.trans B5).trans (But.of_same (S6.trans S7)), st5.same (S6.trans S7)⟩
        | none =>
          refine ⟨_, rfl, sa, one, od, rfl, hO, hin, hd1, fun H6 S6 => ?_⟩
          rw [hq]
          refine ⟨_, rfl, sa, one, od, rfl, hO.same S6, hin, hd4, fun z2 e2 => (by rw [hq] at e2; cases e2), fun _ r H7 S7 R => ?_⟩
          refine ⟨_, _, rfl, _, rfl, rfl, _, rfl, ?_⟩
          refine ite2 (fun h => absurd h (by show ¬ (!decide (V.non = V.non)) = true; rw [decide_eq_true rfl]; decide)) (fun _ => ?_)
          have S7' := S6.trans S7
          cases od with
          | val u => exact absurd hd1 (by show ¬ 1 ≤ 0; decide)
          | mk n m i =>
            obtain ⟨hn, hm, hi, hid⟩ := id hin
            cases i with
            | val u => exact False.elim R
            | mk n2 m2 i2 => exact False.elim R
            | pl d =>
              obtain ⟨y, rfl, hM⟩ := R
              obtain ⟨sn, sm⟩ := mk_due hq
              have fn := mQ_flat n hn
              have fm := mQ_flat m hm
              have hid' : PD.due d = none := hid
              have hi' : d.In := hi
              obtain ⟨dx, yf, hy, hyf⟩ := id hM
              obtain ⟨b, u, hbe0, hbn, hb, hI⟩ : ODAt sa H7 one (.mk n m (.pl d)) := hO.same S7'
              subst hbe0
              replace hI : PDAt sa H7 u d := hI
              refine ⟨_, rfl, _, _, _, _, _, rfl, .ty _, (G.ty (i := 5) (by decide) hy), G.kitT 5 (by decide), _, rfl, iteF ?_⟩
              refine ⟨_, rfl, _, _, _, _, _, rfl, .own _, (G.ty (i := 5) (by decide) hy), (show kitOne K _ _ = some false from G.kit 5 3 (by decide) (by decide)), _, rfl, iteF (iteF ?_)⟩
              refine ⟨_, rfl, _, _, _, _, _, rfl, .own _, (G.ty (i := 5) (by decide) hy), (show kitOne K _ _ = some false from G.kit 5 4 (by decide) (by decide)), _, rfl, iteF (iteF ?_)⟩
              refine ⟨_, rfl, _, _, _, _, _, rfl, .own _, (G.ty (i := 5) (by decide) hy), (show kitOne K _ _ = some true from G.kit 5 5 (by decide) (by decide)), _, rfl, iteT ⟨_, rfl, y, _, dx, _, _, rfl, hy, G.cMarked.cl, G.cMarked.no _ (by decide +kernel), lMarked_none, _, rfl, y, _, dx, _, _, rfl, hy, G.cMarked.cl, G.cMarked.no _ (by decide +kernel), lMarked_mark, _, rfl, y, _, dx, _, _, rfl, hy, G.cMarked.cl, G.cMarked.no _ (by decide +kernel), lMarked_field, by show 3 ≤ 1000; decide, fun p8 H8 hp8 S8 e8 => ⟨_, rfl, 1, rfl, 3, rfl, b, _, rfl, SqT.of (S8 _ _ hb), (by show ¬ (HT.sIx 4 0 (some 1) = 0 ∧ HT.sIx 4 4 (some 3) = 4); decide +kernel), fun p9 hp9 => ?_⟩⟩⟩
              have S9 := S8.trans (same_upd (o := .tup (cutV [.str "marked", n, m, u] (some 1) (some 3))) hp9)
              refine ⟨_, rfl, b, _, _, _, rfl, rfl, SqT.of (S9 _ _ hb), atI_nat (j := 3) rfl, sa, u, .pl d, rfl, PDAt.same S9 hI, hi, (by show 1 < 4; decide), (fun z e => (by have e3 := hid.symm.trans e; cases e3)), fun _ r3 H10 S10 R3 => ?_⟩
              obtain ⟨y3, rfl, hF3⟩ := R3
              refine ⟨by show 1 ≤ 1000; decide, fun p11 H11 hp11 S11 e11 => ?_⟩
              have S11' := S10.trans S11
              refine ⟨p9, p11, [n, m], [.ref y3], rfl, rfl, SqT.of (S11' _ _ upd_same), SqT.of e11, (fun z => nomatch z), (by rw [sizeLine_eq]; show 2 + 1 ≤ 16777216; decide), (fun z => nomatch z), fun _ p12 hp12 => ?_⟩
              have S12 := S11'.trans (same_upd (o := .tup ([n, m] ++ [.ref y3])) hp12)
              refine ⟨⟨p8, p12, [n, m, .ref yf], [n, m, .ref y3], rfl, rfl, SqT.of (S12 _ _ (same_upd hp9 _ _ e8)), SqT.of upd_same, ?_⟩, fun H13 S13 => ⟨_, rfl, iteF ?_⟩⟩
              · exact Prs.cons (.inl ⟨fn.1, fn.1, flat_same fn.1⟩) (Prs.cons (.inl ⟨fm.1, fm.1, flat_same fm.1⟩) (Prs.cons (.inr ⟨yf, y3, d, rfl, rfl, hyf.same (S9.trans S12), hF3.same (S11.trans (same_upd hp12)), hi', hid'⟩) Prs.nil))
              have S9' : Same H7 H13 := (S9.trans S12).trans S13
              have hO9 : ODAt sa H13 (.ref b) (.mk n m (.pl d)) := ODAt.same (S7'.trans S9') hO
              refine ⟨_, rfl, _, rfl, sa, .ref b, .mk n m (.pl d), rfl, hO9, hin, hd4, (fun z e => (by have e3 := hq.symm.trans e; cases e3)), fun _ r2 H14 S14 R2 => ?_⟩
              obtain ⟨y2, rfl, hM2⟩ := R2
              have S10' := (S7'.trans S9').trans S14
              have hM1 := hM.same (S9'.trans S14)
              obtain ⟨fde, Fe, Be⟩ := G.eMarked.ok
              obtain ⟨dx1, y1, hi1, hf1⟩ := id hM1
              obtain ⟨dx2, yy2, hi2, hf2⟩ := id hM2
              have hbt := (S9'.trans S14) _ _ hb
              refine ⟨y, y2, ca K 5, dx1, dx2, _, _, rfl, rfl, hi1, hi2, (G.kc 5 (by decide)).eq, 2, fde, _, _, (G.kc 5 (by decide)).ke, Fe, hr.mono (by decide), Be, ⟨y, .ref y2, n, m, d, rfl, hM1, hi', hid', fn.2 sn, fm.2 sm, .inl ⟨y2, rfl, hM2, true, rfl, _, rfl, iteF ?_⟩⟩⟩
              refine ⟨_, rfl, _, rfl, y, ca K 5, dx1, _, .type "tuple", rfl, hi1, (G.kc 5 (by decide)).eq, .x (.base (.tup hbt)), (G.kc 5 (by decide)).nf, 2, fde, _, _, (G.kc 5 (by decide)).ke, Fe, hr2, Be, ⟨y, .ref b, n, m, d, rfl, hM1, hi', hid', fn.2 sn, fm.2 sm, .inr ⟨b, _, rfl, hbt, false, rfl, _, rfl, iteF ?_⟩⟩⟩
              exact ⟨_, _, _, _, rfl, (B'.trans B5).trans (But.of_same S10'), st5.same S10'⟩
          | pl d =>
            replace hq : PD.due d = none := hq
            replace hO : PDAt sa H5 one d := hO
            replace hin : d.In := hin
            obtain ⟨y, rfl, hF⟩ := R
            cases d with
            | word s l m =>
              obtain ⟨dx, hy⟩ := id hF
              refine ⟨_, rfl, _, _, _, _, _, rfl, .ty _, (G.ty (i := 0) (by decide) hy), G.kitT 0 (by decide), _, rfl, iteF ?_⟩
              refine ⟨_, rfl, _, _, _, _, _, rfl, .own _, (G.ty (i := 0) (by decide) hy), (show kitOne K _ _ = some false from G.kit 0 3 (by decide) (by decide)), _, rfl, iteF (iteF ?_)⟩
              refine ⟨_, rfl, _, _, _, _, _, rfl, .own _, (G.ty (i := 0) (by decide) hy), (show kitOne K _ _ = some false from G.kit 0 4 (by decide) (by decide)), _, rfl, iteF (iteF ?_)⟩
              refine ⟨_, rfl, _, _, _, _, _, rfl, .own _, (G.ty (i := 0) (by decide) hy), (show kitOne K _ _ = some false from G.kit 0 5 (by decide) (by decide)), _, rfl, iteF (iteF ?_)⟩
              have S9' : Same H7 H7 := Same.refl _
              have hO9 : PDAt sa H7 one (.word s l m) := PDAt.same (S7'.trans S9') hO
              obtain ⟨bb, nm, rr, hbe, hbt, _⟩ := hO9.tup
              refine ⟨_, rfl, _, rfl, sa, one, .pl (.word s l m), rfl, hO9, hin, hd4, (fun z e => (by have e3 := hq.symm.trans e; cases e3)), fun _ r2 H10 S10 R2 => ?_⟩
              obtain ⟨y2, rfl, hF2⟩ := R2
              have S10' := (S7'.trans S9').trans S10
              have hF1 := hF.same (S9'.trans S10)
              replace hbt := S10 _ _ hbt
              obtain ⟨sp, M, Hs⟩ := G.eqs hF1 hin hq
              obtain ⟨fde, Fe, Be⟩ := M.ok
              obtain ⟨dx1, fs1, hi1, _⟩ := hF1.ins
              obtain ⟨dx2, fs2, hi2, _⟩ := hF2.ins
              refine ⟨y, y2, ca K 0, dx1, dx2, fs1, fs2, rfl, rfl, hi1, hi2, (G.kc 0 (by decide)).eq, 1, fde, _, sp, (G.kc 0 (by decide)).ke, Fe, hr2, Be, Hs _ _ _ (.inl ⟨y2, rfl, hF2, true, rfl, _, rfl, iteF ?_⟩)⟩
              refine ⟨_, rfl, _, rfl, y, ca K 0, dx1, fs1, .type "tuple", rfl, hi1, (G.kc 0 (by decide)).eq, (by rw [hbe]; exact .x (.base (.tup hbt))), (G.kc 0 (by decide)).nf, 1, fde, _, sp, (G.kc 0 (by decide)).ke, Fe, hr', Be, Hs _ _ _ (.inr ⟨bb, _, hbe, hbt, false, rfl, _, rfl, iteF ?_⟩)⟩
              exact ⟨_, _, _, _, rfl, (B'.trans B5).trans (But.of_same S10'), st5.same S10'⟩
            | number l m =>
              obtain ⟨dx, hy⟩ := id hF
              refine ⟨_, rfl, _, _, _, _, _, rfl, .ty _, (G.ty (i := 1) (by decide) hy), G.kitT 1 (by decide), _, rfl, iteF ?_⟩
              refine ⟨_, rfl, _, _, _, _, _, rfl, .own _, (G.ty (i := 1) (by decide) hy), (show kitOne K _ _ = some false from G.kit 1 3 (by decide) (by decide)), _, rfl, iteF (iteF ?_)⟩
              refine ⟨_, rfl, _, _, _, _, _, rfl, .own _, (G.ty (i := 1) (by decide) hy), (show kitOne K _ _ = some false from G.kit 1 4 (by decide) (by decide)), _, rfl, iteF (iteF ?_)⟩
              refine ⟨_, rfl, _, _, _, _, _, rfl, .own _, (G.ty (i := 1) (by decide) hy), (show kitOne K _ _ = some false from G.kit 1 5 (by decide) (by decide)), _, rfl, iteF (iteF ?_)⟩
              have S9' : Same H7 H7 := Same.refl _
              have hO9 : PDAt sa H7 one (.number l m) := PDAt.same (S7'.trans S9') hO
              obtain ⟨bb, nm, rr, hbe, hbt, _⟩ := hO9.tup
              refine ⟨_, rfl, _, rfl, sa, one, .pl (.number l m), rfl, hO9, hin, hd4, (fun z e => (by have e3 := hq.symm.trans e; cases e3)), fun _ r2 H10 S10 R2 => ?_⟩
              obtain ⟨y2, rfl, hF2⟩ := R2
              have S10' := (S7'.trans S9').trans S10
              have hF1 := hF.same (S9'.trans S10)
              replace hbt := S10 _ _ hbt
              obtain ⟨sp, M, Hs⟩ := G.eqs hF1 hin hq
              obtain ⟨fde, Fe, Be⟩ := M.ok
              obtain ⟨dx1, fs1, hi1, _⟩ := hF1.ins
              obtain ⟨dx2, fs2, hi2, _⟩ := hF2.ins
              refine ⟨y, y2, ca K 1, dx1, dx2, fs1, fs2, rfl, rfl, hi1, hi2, (G.kc 1 (by decide)).eq, 1, fde, _, sp, (G.kc 1 (by decide)).ke, Fe, hr2, Be, Hs _ _ _ (.inl ⟨y2, rfl, hF2, true, rfl, _, rfl, iteF ?_⟩)⟩
              refine ⟨_, rfl, _, rfl, y, ca K 1, dx1, fs1, .type "tuple", rfl, hi1, (G.kc 1 (by decide)).eq, (by rw [hbe]; exact .x (.base (.tup hbt))), (G.kc 1 (by decide)).nf, 1, fde, _, sp, (G.kc 1 (by decide)).ke, Fe, hr', Be, Hs _ _ _ (.inr ⟨bb, _, hbe, hbt, false, rfl, _, rfl, iteF ?_⟩)⟩
              exact ⟨_, _, _, _, rfl, (B'.trans B5).trans (But.of_same S10'), st5.same S10'⟩
            | fixed v =>
              obtain ⟨dx, hy⟩ := id hF
              refine ⟨_, rfl, _, _, _, _, _, rfl, .ty _, (G.ty (i := 2) (by decide) hy), G.kitT 2 (by decide), _, rfl, iteF ?_⟩
              refine ⟨_, rfl, _, _, _, _, _, rfl, .own _, (G.ty (i := 2) (by decide) hy), (show kitOne K _ _ = some false from G.kit 2 3 (by decide) (by decide)), _, rfl, iteF (iteF ?_)⟩
              refine ⟨_, rfl, _, _, _, _, _, rfl, .own _, (G.ty (i := 2) (by decide) hy), (show kitOne K _ _ = some false from G.kit 2 4 (by decide) (by decide)), _, rfl, iteF (iteF ?_)⟩
              refine ⟨_, rfl, _, _, _, _, _, rfl, .own _, (G.ty (i := 2) (by decide) hy), (show kitOne K _ _ = some false from G.kit 2 5 (by decide) (by decide)), _, rfl, iteF (iteF ?_)⟩
              have S9' : Same H7 H7 := Same.refl _
              have hO9 : PDAt sa H7 one (.fixed v) := PDAt.same (S7'.trans S9') hO
              obtain ⟨bb, nm, rr, hbe, hbt, _⟩ := hO9.tup
              refine ⟨_, rfl, _, rfl, sa, one, .pl (.fixed v), rfl, hO9, hin, hd4, (fun z e => (by have e3 := hq.symm.trans e; cases e3)), fun _ r2 H10 S10 R2 => ?_⟩
              obtain ⟨y2, rfl, hF2⟩ := R2
              have S10' := (S7'.trans S9').trans S10
              have hF1 := hF.same (S9'.trans S10)
              replace hbt := S10 _ _ hbt
              obtain ⟨sp, M, Hs⟩ := G.eqs hF1 hin hq
              obtain ⟨fde, Fe, Be⟩ := M.ok
              obtain ⟨dx1, fs1, hi1, _⟩ := hF1.ins
              obtain ⟨dx2, fs2, hi2, _⟩ := hF2.ins
              refine ⟨y, y2, ca K 2, dx1, dx2, fs1, fs2, rfl, rfl, hi1, hi2, (G.kc 2 (by decide)).eq, 1, fde, _, sp, (G.kc 2 (by decide)).ke, Fe, hr2, Be, Hs _ _ _ (.inl ⟨y2, rfl, hF2, true, rfl, _, rfl, iteF ?_⟩)⟩
              refine ⟨_, rfl, _, rfl, y, ca K 2, dx1, fs1, .type "tuple", rfl, hi1, (G.kc 2 (by decide)).eq, (by rw [hbe]; exact .x (.base (.tup hbt))), (G.kc 2 (by decide)).nf, 1, fde, _, sp, (G.kc 2 (by decide)).ke, Fe, hr', Be, Hs _ _ _ (.inr ⟨bb, _, hbe, hbt, false, rfl, _, rfl, iteF ?_⟩)⟩
              exact ⟨_, _, _, _, rfl, (B'.trans B5).trans (But.of_same S10'), st5.same S10'⟩
            | listed x =>
              obtain ⟨dx, tx, hy, ht⟩ := id hF
              refine ⟨_, rfl, _, _, _, _, _, rfl, .ty _, (G.ty (i := 3) (by decide) hy), G.kitT 3 (by decide), _, rfl, iteF ?_⟩
              have hO7 : PDAt sa H7 one (.listed x) := (PDAt.same S7' hO)
              obtain ⟨hfl, _⟩ := lM_shaped x hin hq
              obtain ⟨b, u, hbe0, hbn, hb, hL, _⟩ := id hO7
              subst hbe0
              cases x with
              | val u => cases hq
              | lst xs =>
                obtain ⟨c, rfl, hc⟩ := hL
                refine ⟨_, rfl, _, _, _, _, _, rfl, .own _, (G.ty (i := 3) (by decide) hy), (show kitOne K _ _ = some true from G.kit 3 3 (by decide) (by decide)), _, rfl, iteT ⟨_, rfl, y, _, dx, _, _, rfl, hy, G.cListed.cl, G.cListed.no _ (by decide +kernel), lListed_texts, _, rfl, b, _, _, _, rfl, rfl, SqT.of hb, atI_nat (j := 1) rfl, c, xs, rfl, .inl ⟨SqL.of hc, fun t2 ht2 => ⟨⟨tx, t2, xs, xs, rfl, rfl, SqT.of ((same_upd ht2) _ _ ht), SqT.of upd_same, prs_flat hfl⟩, fun H9 S9 => ⟨_, rfl, iteF ?_⟩⟩⟩⟩⟩
                have S9' : Same H7 H9 := (same_upd ht2).trans S9
                refine ⟨_, rfl, y, _, dx, _, _, rfl, S9' _ _ hy, G.cListed.cl, G.cListed.no _ (by decide +kernel), lListed_texts, _, _, _, _, _, rfl, .ty _, .x (.base (.tup (S9' _ _ ht))), kit_ty kTT, _, rfl, iteF ?_⟩
                have hy9 := S9' _ _ hy
                refine ⟨_, rfl, _, _, _, _, _, rfl, .own _, (G.ty (i := 3) (by decide) hy9), (show kitOne K _ _ = some false from G.kit 3 4 (by decide) (by decide)), _, rfl, iteF (iteF ?_)⟩
                refine ⟨_, rfl, _, _, _, _, _, rfl, .own _, (G.ty (i := 3) (by decide) hy9), (show kitOne K _ _ = some false from G.kit 3 5 (by decide) (by decide)), _, rfl, iteF (iteF ?_)⟩
                have hO9 : PDAt sa H9 (.ref b) (.listed (.lst xs)) := PDAt.same (S7'.trans S9') hO
                obtain ⟨bb, nm, rr, hbe, hbt, _⟩ := hO9.tup
                refine ⟨_, rfl, _, rfl, sa, .ref b, .pl (.listed (.lst xs)), rfl, hO9, hin, hd4, (fun z e => (by have e3 := hq.symm.trans e; cases e3)), fun _ r2 H10 S10 R2 => ?_⟩
                obtain ⟨y2, rfl, hF2⟩ := R2
                have S10' := (S7'.trans S9').trans S10
                have hF1 := hF.same (S9'.trans S10)
                replace hbt := S10 _ _ hbt
                obtain ⟨sp, M, Hs⟩ := G.eqs hF1 hin hq
                obtain ⟨fde, Fe, Be⟩ := M.ok
                obtain ⟨dx1, fs1, hi1, _⟩ := hF1.ins
                obtain ⟨dx2, fs2, hi2, _⟩ := hF2.ins
                refine ⟨y, y2, ca K 3, dx1, dx2, fs1, fs2, rfl, rfl, hi1, hi2, (G.kc 3 (by decide)).eq, 1, fde, _, sp, (G.kc 3 (by decide)).ke, Fe, hr2, Be, Hs _ _ _ (.inl ⟨y2, rfl, hF2, true, rfl, _, rfl, iteF ?_⟩)⟩
                refine ⟨_, rfl, _, rfl, y, ca K 3, dx1, fs1, .type "tuple", rfl, hi1, (G.kc 3 (by decide)).eq, (by rw [hbe]; exact .x (.base (.tup hbt))), (G.kc 3 (by decide)).nf, 1, fde, _, sp, (G.kc 3 (by decide)).ke, Fe, hr', Be, Hs _ _ _ (.inr ⟨bb, _, hbe, hbt, false, rfl, _, rfl, iteF ?_⟩)⟩
                exact ⟨_, _, _, _, rfl, (B'.trans B5).trans (But.of_same S10'), st5.same S10'⟩
              | tup xs =>
                obtain ⟨c, rfl, hc⟩ := hL
                refine ⟨_, rfl, _, _, _, _, _, rfl, .own _, (G.ty (i := 3) (by decide) hy), (show kitOne K _ _ = some true from G.kit 3 3 (by decide) (by decide)), _, rfl, iteT ⟨_, rfl, y, _, dx, _, _, rfl, hy, G.cListed.cl, G.cListed.no _ (by decide +kernel), lListed_texts, _, rfl, b, _, _, _, rfl, rfl, SqT.of hb, atI_nat (j := 1) rfl, c, xs, rfl, .inr ⟨SqT.of hc, ⟨⟨tx, c, xs, xs, rfl, rfl, SqT.of ht, SqT.of hc, prs_flat hfl⟩, fun H9 S9 => ⟨_, rfl, iteF ?_⟩⟩⟩⟩⟩
                have S9' : Same H7 H9 := S9
                refine ⟨_, rfl, y, _, dx, _, _, rfl, S9' _ _ hy, G.cListed.cl, G.cListed.no _ (by decide +kernel), lListed_texts, _, _, _, _, _, rfl, .ty _, .x (.base (.tup (S9' _ _ ht))), kit_ty kTT, _, rfl, iteF ?_⟩
                have hy9 := S9' _ _ hy
                refine ⟨_, rfl, _, _, _, _, _, rfl, .own _, (G.ty (i := 3) (by decide) hy9), (show kitOne K _ _ = some false from G.kit 3 4 (by decide) (by decide)), _, rfl, iteF (iteF ?_)⟩
                refine ⟨_, rfl, _, _, _, _, _, rfl, .own _, (G.ty (i := 3) (by decide) hy9), (show kitOne K _ _ = some false from G.kit 3 5 (by decide) (by decide)), _, rfl, iteF (iteF ?_)⟩
                have hO9 : PDAt sa H9 (.ref b) (.listed (.tup xs)) := PDAt.same (S7'.trans S9') hO
                obtain ⟨bb, nm, rr, hbe, hbt, _⟩ := hO9.tup
                refine ⟨_, rfl, _, rfl, sa, .ref b, .pl (.listed (.tup xs)), rfl, hO9, hin, hd4, (fun z e => (by have e3 := hq.symm.trans e; cases e3)), fun _ r2 H10 S10 R2 => ?_⟩
                obtain ⟨y2, rfl, hF2⟩ := R2
                have S10' := (S7'.trans S9').trans S10
                have hF1 := hF.same (S9'.trans S10)
                replace hbt := S10 _ _ hbt
                obtain ⟨sp, M, Hs⟩ := G.eqs hF1 hin hq
                obtain ⟨fde, Fe, Be⟩ := M.ok
                obtain ⟨dx1, fs1, hi1, _⟩ := hF1.ins
                obtain ⟨dx2, fs2, hi2, _⟩ := hF2.ins
                refine ⟨y, y2, ca K 3, dx1, dx2, fs1, fs2, rfl, rfl, hi1, hi2, (G.kc 3 (by decide)).eq, 1, fde, _, sp, (G.kc 3 (by decide)).ke, Fe, hr2, Be, Hs _ _ _ (.inl ⟨y2, rfl, hF2, true, rfl, _, rfl, iteF ?_⟩)⟩
                refine ⟨_, rfl, _, rfl, y, ca K 3, dx1, fs1, .type "tuple", rfl, hi1, (G.kc 3 (by decide)).eq, (by rw [hbe]; exact .x (.base (.tup hbt))), (G.kc 3 (by decide)).nf, 1, fde, _, sp, (G.kc 3 (by decide)).ke, Fe, hr', Be, Hs _ _ _ (.inr ⟨bb, _, hbe, hbt, false, rfl, _, rfl, iteF ?_⟩)⟩
                exact ⟨_, _, _, _, rfl, (B'.trans B5).trans (But.of_same S10'), st5.same S10'⟩
            | ended s e l m =>
              obtain ⟨dx, hy⟩ := id hF
              refine ⟨_, rfl, _, _, _, _, _, rfl, .ty _, (G.ty (i := 4) (by decide) hy), G.kitT 4 (by decide), _, rfl, iteF ?_⟩
              refine ⟨_, rfl, _, _, _, _, _, rfl, .own _, (G.ty (i := 4) (by decide) hy), (show kitOne K _ _ = some false from G.kit 4 3 (by decide) (by decide)), _, rfl, iteF (iteF ?_)⟩
              obtain ⟨hs, he, hl, hm⟩ := id hin
              obtain ⟨b, hbe0, hbn, hb⟩ : PDAt sa H7 one (.ended s e l m) := PDAt.same S7' hO
              subst hbe0
              refine ⟨_, rfl, _, _, _, _, _, rfl, .own _, (G.ty (i := 4) (by decide) hy), (show kitOne K _ _ = some true from G.kit 4 4 (by decide) (by decide)), _, rfl, iteT ⟨_, rfl, y, _, dx, _, _, rfl, hy, G.cEnded.cl, G.cEnded.no _ (by decide +kernel), lEnded_signs, _, rfl, y, _, dx, _, _, rfl, hy, G.cEnded.cl, G.cEnded.no _ (by decide +kernel), lEnded_sign, _, rfl, y, _, dx, _, _, rfl, hy, G.cEnded.cl, G.cEnded.no _ (by decide +kernel), lEnded_least, _, rfl, y, _, dx, _, _, rfl, hy, G.cEnded.cl, G.cEnded.no _ (by decide +kernel), lEnded_most, by show 4 ≤ 1000; decide, fun p8 H8 hp8 S8 e8 => ⟨_, rfl, 1, rfl, b, _, rfl, SqT.of (S8 _ _ hb), (by show ¬ (HT.sIx 5 0 (some 1) = 0 ∧ HT.sIx 5 5 none = 5); decide +kernel), fun p9 hp9 => ⟨⟨p8, p9, _, _, rfl, rfl, SqT.of ((same_upd hp9) _ _ e8), SqT.of upd_same, prs_flat (xs := [s, e, l, m]) ?_⟩, fun H9 S9 => ⟨_, rfl, iteF ?_⟩⟩⟩⟩⟩
              · show (flatV s && (flatV e && (flatV l && (flatV m && true)))) = true
                rw [sM_flat s hs, eM_flat e he, nM_flat l (nh hl), nM_flat m (nh hm)]
                rfl
              have S9' : Same H7 H9 := (S8.trans (same_upd hp9)).trans S9
              have hy9 := S9' _ _ hy
              refine ⟨_, rfl, _, _, _, _, _, rfl, .own _, (G.ty (i := 4) (by decide) hy9), (show kitOne K _ _ = some false from G.kit 4 5 (by decide) (by decide)), _, rfl, iteF (iteF ?_)⟩
              have hO9 : PDAt sa H9 (.ref b) (.ended s e l m) := PDAt.same (S7'.trans S9') hO
              obtain ⟨bb, nm, rr, hbe, hbt, _⟩ := hO9.tup
              refine ⟨_, rfl, _, rfl, sa, .ref b, .pl (.ended s e l m), rfl, hO9, hin, hd4, (fun z e => (by have e3 := hq.symm.trans e; cases e3)), fun _ r2 H10 S10 R2 => ?_⟩
              obtain ⟨y2, rfl, hF2⟩ := R2
              have S10' := (S7'.trans S9').trans S10
              have hF1 := hF.same (S9'.trans S10)
              replace hbt := S10 _ _ hbt
              obtain ⟨sp, M, Hs⟩ := G.eqs hF1 hin hq
              obtain ⟨fde, Fe, Be⟩ := M.ok
              obtain ⟨dx1, fs1, hi1, _⟩ := hF1.ins
              obtain ⟨dx2, fs2, hi2, _⟩ := hF2.ins
              refine ⟨y, y2, ca K 4, dx1, dx2, fs1, fs2, rfl, rfl, hi1, hi2, (G.kc 4 (by decide)).eq, 1, fde, _, sp, (G.kc 4 (by decide)).ke, Fe, hr2, Be, Hs _ _ _ (.inl ⟨y2, rfl, hF2, true, rfl, _, rfl, iteF ?_⟩)⟩
              refine ⟨_, rfl, _, rfl, y, ca K 4, dx1, fs1, .type "tuple", rfl, hi1, (G.kc 4 (by decide)).eq, (by rw [hbe]; exact .x (.base (.tup hbt))), (G.kc 4 (by decide)).nf, 1, fde, _, sp, (G.kc 4 (by decide)).ke, Fe, hr', Be, Hs _ _ _ (.inr ⟨bb, _, hbe, hbt, false, rfl, _, rfl, iteF ?_⟩)⟩
              exact ⟨_, _, _, _, rfl, (B'.trans B5).trans (But.of_same S10'), st5.same S10'⟩
            
      · rintro σ H' ⟨w3, w4, w5, w6, rfl, B', st'⟩
        exact ⟨_, _, _, _, _, _, rfl, S3.trans (same_but S4 hsa B')⟩
    · rintro σ H' ⟨v1, v2, v3, v4, v5, v6, rfl, S⟩
      exact k H'

end
end L2.K03

set_option Elab.async false
set_option linter.all false
set_option maxRecDepth 100000
set_option maxHeartbeats 0
namespace L2.K03
open PySem PySem.W PySem.Spec PySem.Calls PyProof.Rows L2.Jk

def fn : List He.DefD := [⟨("BadField", some "__init__"), "__init__", "BadField.__init__", defArgs (inClass (top 3) 0), defBody (inClass (top 3) 0), defScope (inClass (top 3) 0), [], []⟩,
  ⟨("BadField", some "told"), "told", "BadField.told", defArgs (inClass (top 3) 1), defBody (inClass (top 3) 1), defScope (inClass (top 3) 1), [], []⟩,
  ⟨("Word", some "__init__"), "__init__", "Word.__init__", defArgs (inClass (top 17) 0), defBody (inClass (top 17) 0), defScope (inClass (top 17) 0), [], []⟩,
  ⟨("Word", some "__eq__"), "__eq__", "Word.__eq__", defArgs (inClass (top 17) 1), defBody (inClass (top 17) 1), defScope (inClass (top 17) 1), [], []⟩,
  ⟨("Word", some "has_sign"), "has_sign", "Word.has_sign", defArgs (inClass (top 17) 7), defBody (inClass (top 17) 7), defScope (inClass (top 17) 7), [], []⟩,
  ⟨("Number", some "__init__"), "__init__", "Number.__init__", defArgs (inClass (top 18) 0), defBody (inClass (top 18) 0), defScope (inClass (top 18) 0), [], []⟩,
  ⟨("Number", some "__eq__"), "__eq__", "Number.__eq__", defArgs (inClass (top 18) 1), defBody (inClass (top 18) 1), defScope (inClass (top 18) 1), [], []⟩,
  ⟨("Number", some "has_sign"), "has_sign", "Number.has_sign", defArgs (inClass (top 18) 7), defBody (inClass (top 18) 7), defScope (inClass (top 18) 7), [], []⟩,
  ⟨("Fixed", some "__init__"), "__init__", "Fixed.__init__", defArgs (inClass (top 19) 0), defBody (inClass (top 19) 0), defScope (inClass (top 19) 0), [], []⟩,
  ⟨("Fixed", some "__eq__"), "__eq__", "Fixed.__eq__", defArgs (inClass (top 19) 1), defBody (inClass (top 19) 1), defScope (inClass (top 19) 1), [], []⟩,
  ⟨("Fixed", some "has_sign"), "has_sign", "Fixed.has_sign", defArgs (inClass (top 19) 7), defBody (inClass (top 19) 7), defScope (inClass (top 19) 7), [], []⟩,
  ⟨("Listed", some "__init__"), "__init__", "Listed.__init__", defArgs (inClass (top 20) 0), defBody (inClass (top 20) 0), defScope (inClass (top 20) 0), [], []⟩,
  ⟨("Listed", some "__eq__"), "__eq__", "Listed.__eq__", defArgs (inClass (top 20) 1), defBody (inClass (top 20) 1), defScope (inClass (top 20) 1), [], []⟩,
  ⟨("Listed", some "has_sign"), "has_sign", "Listed.has_sign", defArgs (inClass (top 20) 7), defBody (inClass (top 20) 7), defScope (inClass (top 20) 7), [], []⟩,
  ⟨("Ended", some "__init__"), "__init__", "Ended.__init__", defArgs (inClass (top 21) 0), defBody (inClass (top 21) 0), defScope (inClass (top 21) 0), [], []⟩,
  ⟨("Ended", some "__eq__"), "__eq__", "Ended.__eq__", defArgs (inClass (top 21) 1), defBody (inClass (top 21) 1), defScope (inClass (top 21) 1), [], []⟩,
  ⟨("Ended", some "has_sign"), "has_sign", "Ended.has_sign", defArgs (inClass (top 21) 7), defBody (inClass (top 21) 7), defScope (inClass (top 21) 7), [], []⟩,
  ⟨("Marked", some "__init__"), "__init__", "Marked.__init__", defArgs (inClass (top 22) 0), defBody (inClass (top 22) 0), defScope (inClass (top 22) 0), [], []⟩,
  ⟨("Marked", some "__eq__"), "__eq__", "Marked.__eq__", defArgs (inClass (top 22) 1), defBody (inClass (top 22) 1), defScope (inClass (top 22) 1), [], []⟩,
  ⟨("is_made_of", none), "is_made_of", "is_made_of", defArgs (top 7), defBody (top 7), defScope (top 7), [], []⟩,
  ⟨("is_sign", none), "is_sign", "is_sign", defArgs (top 8), defBody (top 8), defScope (top 8), [], []⟩,
  ⟨("are_signs", none), "are_signs", "are_signs", defArgs (top 9), defBody (top 9), defScope (top 9), [], []⟩,
  ⟨("is_number", none), "is_number", "is_number", defArgs (top 11), defBody (top 11), defScope (top 11), [], []⟩,
  ⟨("digits_of", none), "digits_of", "digits_of", defArgs (top 12), defBody (top 12), defScope (top 12), [], []⟩,
  ⟨("check_signs", none), "check_signs", "check_signs", defArgs (top 14), defBody (top 14), defScope (top 14), [], []⟩,
  ⟨("check_span", none), "check_span", "check_span", defArgs (top 15), defBody (top 15), defScope (top 15), [], []⟩,
  ⟨("has_words_with", none), "has_words_with", "has_words_with", defArgs (top 16), defBody (top 16), defScope (top 16), [], []⟩,
  ⟨("_law_state", none), "_law_state", "_law_state", defArgs (top 25), defBody (top 25), defScope (top 25), [], []⟩,
  ⟨("_law_digit", none), "_law_digit", "_law_digit", defArgs (top 26), defBody (top 26), defScope (top 26), [], []⟩,
  ⟨("_law_is_signs", none), "_law_is_signs", "_law_is_signs", defArgs (top 27), defBody (top 27), defScope (top 27), [], []⟩,
  ⟨("_law_is_number", none), "_law_is_number", "_law_is_number", defArgs (top 28), defBody (top 28), defScope (top 28), [], []⟩,
  ⟨("_law_bounds_due", none), "_law_bounds_due", "_law_bounds_due", defArgs (top 29), defBody (top 29), defScope (top 29), [], []⟩,
  ⟨("_law_signs_due", none), "_law_signs_due", "_law_signs_due", defArgs (top 30), defBody (top 30), defScope (top 30), [], []⟩,
  ⟨("_law_in_texts", none), "_law_in_texts", "_law_in_texts", defArgs (top 31), defBody (top 31), defScope (top 31), [], []⟩,
  ⟨("_law_due", none), "_law_due", "_law_due", defArgs (top 32), defBody (top 32), defScope (top 32), [], []⟩,
  ⟨("_law_made", none), "_law_made", "_law_made", defArgs (top 33), defBody (top 33), defScope (top 33), [], []⟩,
  ⟨("_law_number", none), "_law_number", "_law_number", defArgs (top 34), defBody (top 34), defScope (top 34), [], []⟩,
  ⟨("_law_signs", none), "_law_signs", "_law_signs", defArgs (top 35), defBody (top 35), defScope (top 35), [], []⟩,
  ⟨("_law_plain", none), "_law_plain", "_law_plain", defArgs (top 36), defBody (top 36), defScope (top 36), [], []⟩,
  ⟨("_law_any", none), "_law_any", "_law_any", defArgs (top 37), defBody (top 37), defScope (top 37), [], []⟩,
  ⟨("law", none), "law", "law", defArgs (top 38), defBody (top 38), defScope (top 38), [], []⟩]

def fa : List He.Fa := [.glo "BadField", .glo "Word", .glo "Number", .glo "Fixed", .glo "Listed", .glo "Ended", .glo "Marked", .glo "is_made_of", .glo "is_sign", .glo "are_signs", .glo "is_number", .glo "digits_of", .glo "check_signs", .glo "check_span", .glo "has_words_with", .glo "_law_state", .glo "_law_digit", .glo "_law_is_signs", .glo "_law_is_number", .glo "_law_bounds_due", .glo "_law_signs_due", .glo "_law_in_texts", .glo "_law_due", .glo "_law_made", .glo "_law_number", .glo "_law_signs", .glo "_law_plain", .glo "_law_any", .glo "law", .free "abs", .free "int", .free "bool", .free "isinstance", .free "range", .free "len", .free "set", .free "type", .free "str", .free "reversed", .free "tuple", .free "list", .free "any", .free "all", .str "SIGNS" SG, .str "DIGITS" DG, .cls "Word", .mkr "Word", .noat "Word" "signs", .noat "Word" "least", .noat "Word" "most", .meth "Word" "has_sign", .cls "Number", .mkr "Number", .noat "Number" "least", .noat "Number" "most", .meth "Number" "has_sign", .cls "Fixed", .mkr "Fixed", .noat "Fixed" "width", .meth "Fixed" "has_sign", .cls "Listed", .mkr "Listed", .noat "Listed" "texts", .meth "Listed" "has_sign", .cls "Ended", .mkr "Ended", .noat "Ended" "signs", .noat "Ended" "sign", .noat "Ended" "least", .noat "Ended" "most", .meth "Ended" "has_sign", .cls "Marked", .mkr "Marked", .noat "Marked" "none", .noat "Marked" "mark", .noat "Marked" "field"]

def kcB (K : Frag) (C : Addr) : Bool := He.eqO (findIn K (.ref C) "__class__") (some (some (.builtin "object.__class__"))) && (decide (mroIn K C (.type "object") = some true) && (notFirst K C (.type "tuple") && (eqcB K C && keepIn K (.ref (He.ma K C "__eq__")))))
def ex (K : Frag) : Bool := (errB K (BF K) ["what"] ["told"] && (He.eqO (findIn K (.ref (BF K)) "__init__") (some (some (.ref (He.ma K (BF K) "__init__")))) && (decide (typeIn K (.ref (He.ma K (BF K) "__init__")) = some (.type "function")) &&
  (decide (exmOne K (.ref (BF K)) (.ref (BF K)) = some true) && (He.eqO (specialIn K (.builtin "object.__class__") "__get__") (some (some (.builtin "getset_descriptor.__get__"))) && decide (takesIn K (.builtin "object.__class__") = some true)))))) &&
  (List.range 6).all fun i => kcB K (ca K i) && (decide (kitOne K (.type "NoneType") (.ref (ca K i)) = some false) && (decide (kitOne K (.type "str") (.ref (ca K i)) = some false) && (decide (kitOne K (.ref (ca K i)) (.type "str") = some false) &&
  (List.range 6).all fun j => decide (kitOne K (.ref (ca K i)) (.ref (ca K j)) = some (decide (i = j))))))
abbrev R : PySem.W.OpenRow := PySem.W.OpenLaw.row PySem.Challenge.rw_jointkeys_k03_fields_refused
abbrev hk : PySem.W.Hook := He.hookX 6 fa fn [] [] ex
def ob (s : PySem.W.SharedT) : He.AlX := He.obsX 6 fa fn [] [] ex (HandSHeadRun.getT s)
theorem ob_eq (s : PySem.W.SharedT) : ob s = hk.obs s.abs := He.obsX_eq (HandSHeadRun.getT_eq s)
def names : List PySem.Str := (["_wall", "__name__", "JointError", "BadField", "SIGNS", "DIGITS", "is_made_of", "is_sign", "are_signs", "is_number", "digits_of", "check_signs", "check_span", "has_words_with", "Word", "Number", "Fixed", "Listed", "Ended", "Marked", "_law_cell_at", "_law_state", "_law_digit", "_law_is_signs", "_law_is_number", "_law_bounds_due", "_law_signs_due", "_law_in_texts", "_law_due", "_law_made"] : List PySem.Str) ++ (["_law_number", "_law_signs", "_law_plain", "_law_any"] : List PySem.Str)
theorem run (w : World) : HandSHeadRun.RunEq R (PySem.W.view R.prog [38]) hk ob 6000 names w := by
  intro os
  kernel_rfl
end L2.K03

set_option Elab.async false
set_option linter.all false
set_option maxRecDepth 100000
set_option maxHeartbeats 4000000
namespace L2.K03
open PySem PySem.W PySem.Spec PySem.Calls PyProof.Rows L2.Jk

theorem facts {P : Program} {w : World} {K : Frag} {h : Heap} {mg : Str → Option Value} {base : Heap} (X : K.In h) (G : h.Ns mainGlobals mg) (c : He.SaysD fa fn K) (m : ex K = true) :
    GZ P w K mg base := by
  obtain ⟨m0, m1⟩ := Bool.and_eq_true_iff.mp m
  obtain ⟨z1, m0⟩ := Bool.and_eq_true_iff.mp m0
  obtain ⟨z2, m0⟩ := Bool.and_eq_true_iff.mp m0
  obtain ⟨z3, m0⟩ := Bool.and_eq_true_iff.mp m0
  obtain ⟨z4, m0⟩ := Bool.and_eq_true_iff.mp m0
  obtain ⟨z5, z6⟩ := Bool.and_eq_true_iff.mp m0
  have more : ∀ i, i < 6 → KC K (ca K i) ∧ kitOne K (.type "NoneType") (.ref (ca K i)) = some false ∧ kitOne K (.type "str") (.ref (ca K i)) = some false ∧ kitOne K (.ref (ca K i)) (.type "str") = some false ∧ ∀ j, j < 6 → kitOne K (.ref (ca K i)) (.ref (ca K j)) = some (decide (i = j)) := fun i hi => by
    have y := List.all_eq_true.mp m1 i (List.mem_range.mpr hi)
    obtain ⟨y1, y⟩ := Bool.and_eq_true_iff.mp y
    obtain ⟨y2, y⟩ := Bool.and_eq_true_iff.mp y
    obtain ⟨y3, y⟩ := Bool.and_eq_true_iff.mp y
    obtain ⟨y4, y5⟩ := Bool.and_eq_true_iff.mp y
    obtain ⟨x1, y1⟩ := Bool.and_eq_true_iff.mp y1
    obtain ⟨x2, y1⟩ := Bool.and_eq_true_iff.mp y1
    obtain ⟨x3, y1⟩ := Bool.and_eq_true_iff.mp y1
    obtain ⟨x4, x5⟩ := Bool.and_eq_true_iff.mp y1
    exact ⟨⟨He.eqO_ok x1, of_decide_eq_true x2, x3, eqcB_ok x4, x5⟩, of_decide_eq_true y2, of_decide_eq_true y3, of_decide_eq_true y4, fun j hj => of_decide_eq_true (List.all_eq_true.mp y5 j (List.mem_range.mpr hj))⟩
  have X0 := errB_ok z1
  obtain ⟨fdbi, Fbi⟩ := c.def_ 0 (d := ⟨("BadField", some "__init__"), "__init__", "BadField.__init__", defArgs (inClass (top 3) 0), defBody (inClass (top 3) 0), defScope (inClass (top 3) 0), [], []⟩) rfl
  obtain ⟨fdbt, Fbt⟩ := c.def_ 1 (d := ⟨("BadField", some "told"), "told", "BadField.told", defArgs (inClass (top 3) 1), defBody (inClass (top 3) 1), defScope (inClass (top 3) 1), [], []⟩) rfl
  have eb : ErrAt P w K mg base "BadField" (BF K) ["what"] "refused badfield" := ⟨He.glo_ok X G (c.fact 0 (f := .glo "BadField") rfl), X0, ⟨He.eqO_ok z2, of_decide_eq_true z3⟩, ⟨fdbi, FunD.bindsN (ps := ["self", "what"]) Fbi (fun _ _ _ _ _ _ us hl => match us, hl with | [_, _], _ => rfl), ok_init1 Fbi (⟨rfl, rfl, rfl, by decide +kernel, rfl, by decide +kernel, by decide +kernel⟩ : FnScope ["self", "what"] ["self", "what"] (defScope (inClass (top 3) 0))) X0 rfl rfl (by decide +kernel) (by decide +kernel)⟩,
    ⟨fdbt, FunD.bindsN (ps := ["self"]) Fbt (fun _ _ _ _ _ _ us hl => match us, hl with | [_], _ => rfl), Fbt.kp, ok_told Fbt (⟨rfl, rfl, rfl, by decide +kernel, rfl, by decide +kernel, by decide +kernel⟩ : FnScope ["self"] ["self"] (defScope (inClass (top 3) 1)))⟩⟩
  have g0 : G0 P w K mg base := ⟨⟨He.free_ok X G (c.fact 29 (f := .free "abs") rfl), He.free_ok X G (c.fact 30 (f := .free "int") rfl), He.free_ok X G (c.fact 31 (f := .free "bool") rfl), He.free_ok X G (c.fact 32 (f := .free "isinstance") rfl), He.free_ok X G (c.fact 33 (f := .free "range") rfl), He.free_ok X G (c.fact 34 (f := .free "len") rfl), He.free_ok X G (c.fact 35 (f := .free "set") rfl), He.free_ok X G (c.fact 36 (f := .free "type") rfl), He.free_ok X G (c.fact 37 (f := .free "str") rfl), He.free_ok X G (c.fact 38 (f := .free "reversed") rfl), He.free_ok X G (c.fact 39 (f := .free "tuple") rfl), He.free_ok X G (c.fact 40 (f := .free "list") rfl), He.free_ok X G (c.fact 41 (f := .free "any") rfl), He.free_ok X G (c.fact 42 (f := .free "all") rfl)⟩, He.str_ok X G (c.fact 43 (f := .str "SIGNS" SG) rfl), He.str_ok X G (c.fact 44 (f := .str "DIGITS" DG) rfl), eb⟩
  obtain ⟨fdf1, Ff1⟩ := c.def_ 19 (d := ⟨("is_made_of", none), "is_made_of", "is_made_of", defArgs (top 7), defBody (top 7), defScope (top 7), [], []⟩) rfl
  have Af1 : FnAt P w K mg base CX0 1 "is_made_of" ["text", "signs"] _ := ⟨_, fdf1, He.glo_ok X G (c.fact 7 (f := .glo "is_made_of") rfl), Ff1.kp, ok_made_of Ff1 g0, FunD.bindsN (ps := ["text", "signs"]) Ff1 (fun _ _ _ _ _ _ us hl => match us, hl with | [_, _], _ => rfl)⟩
  obtain ⟨fdf2, Ff2⟩ := c.def_ 20 (d := ⟨("is_sign", none), "is_sign", "is_sign", defArgs (top 8), defBody (top 8), defScope (top 8), [], []⟩) rfl
  have Af2 : FnAt P w K mg base CX0 1 "is_sign" ["thing"] _ := ⟨_, fdf2, He.glo_ok X G (c.fact 8 (f := .glo "is_sign") rfl), Ff2.kp, ok_is_sign Ff2 g0, FunD.bindsN (ps := ["thing"]) Ff2 (fun _ _ _ _ _ _ us hl => match us, hl with | [_], _ => rfl)⟩
  obtain ⟨fdf3, Ff3⟩ := c.def_ 22 (d := ⟨("is_number", none), "is_number", "is_number", defArgs (top 11), defBody (top 11), defScope (top 11), [], []⟩) rfl
  have Af3 : FnAt P w K mg base CX0 1 "is_number" ["thing"] _ := ⟨_, fdf3, He.glo_ok X G (c.fact 10 (f := .glo "is_number") rfl), Ff3.kp, ok_is_number Ff3 g0, FunD.bindsN (ps := ["thing"]) Ff3 (fun _ _ _ _ _ _ us hl => match us, hl with | [_], _ => rfl)⟩
  obtain ⟨fdf4, Ff4⟩ := c.def_ 23 (d := ⟨("digits_of", none), "digits_of", "digits_of", defArgs (top 12), defBody (top 12), defScope (top 12), [], []⟩) rfl
  have Af4 : FnAt P w K mg base CX0 1 "digits_of" ["number"] _ := ⟨_, fdf4, He.glo_ok X G (c.fact 11 (f := .glo "digits_of") rfl), Ff4.kp, ok_digits_of Ff4 g0, FunD.bindsN (ps := ["number"]) Ff4 (fun _ _ _ _ _ _ us hl => match us, hl with | [_], _ => rfl)⟩
  have g1 : G1 P w K mg base := ⟨g0, Af1, Af2, Af3, Af4⟩
  obtain ⟨fdf5, Ff5⟩ := c.def_ 21 (d := ⟨("are_signs", none), "are_signs", "are_signs", defArgs (top 9), defBody (top 9), defScope (top 9), [], []⟩) rfl
  have Af5 : FnAt P w K mg base CX0 2 "are_signs" ["thing"] _ := ⟨_, fdf5, He.glo_ok X G (c.fact 9 (f := .glo "are_signs") rfl), Ff5.kp, ok_are_signs Ff5 g1, FunD.bindsN (ps := ["thing"]) Ff5 (fun _ _ _ _ _ _ us hl => match us, hl with | [_], _ => rfl)⟩
  have g2 : G2 P w K mg base := ⟨g1, Af5⟩
  obtain ⟨fdf6, Ff6⟩ := c.def_ 24 (d := ⟨("check_signs", none), "check_signs", "check_signs", defArgs (top 14), defBody (top 14), defScope (top 14), [], []⟩) rfl
  have Af6 : FnAt P w K mg base (L2.CX P w) 3 "check_signs" ["signs"] _ := ⟨_, fdf6, He.glo_ok X G (c.fact 12 (f := .glo "check_signs") rfl), Ff6.kp, ok_check_signs Ff6 g2, FunD.bindsN (ps := ["signs"]) Ff6 (fun _ _ _ _ _ _ us hl => match us, hl with | [_], _ => rfl)⟩
  obtain ⟨fdf7, Ff7⟩ := c.def_ 25 (d := ⟨("check_span", none), "check_span", "check_span", defArgs (top 15), defBody (top 15), defScope (top 15), [], []⟩) rfl
  have Af7 : FnAt P w K mg base (L2.CX P w) 3 "check_span" ["least", "most"] _ := ⟨_, fdf7, He.glo_ok X G (c.fact 13 (f := .glo "check_span") rfl), Ff7.kp, ok_check_span Ff7 g2, FunD.bindsN (ps := ["least", "most"]) Ff7 (fun _ _ _ _ _ _ us hl => match us, hl with | [_, _], _ => rfl)⟩
  obtain ⟨fdf8, Ff8⟩ := c.def_ 26 (d := ⟨("has_words_with", none), "has_words_with", "has_words_with", defArgs (top 16), defBody (top 16), defScope (top 16), [], []⟩) rfl
  have Af8 : FnAt P w K mg base CX0 1 "has_words_with" ["field", "sign"] _ := ⟨_, fdf8, He.glo_ok X G (c.fact 14 (f := .glo "has_words_with") rfl), Ff8.kp, ok_has_words Ff8 g0, FunD.bindsN (ps := ["field", "sign"]) Ff8 (fun _ _ _ _ _ _ us hl => match us, hl with | [_, _], _ => rfl)⟩
  have cWord : C0 K mg "Word" ["signs", "least", "most"] := ⟨He.glo_ok X G (c.fact 1 (f := .glo "Word") rfl), He.cls_ok (c.fact 45 (f := .cls "Word") rfl), (fun f hf => by
    rcases List.mem_cons.mp hf with rfl | hf
    · exact He.noat_ok (c.fact 47 (f := .noat "Word" "signs") rfl)
    rcases List.mem_cons.mp hf with rfl | hf
    · exact He.noat_ok (c.fact 48 (f := .noat "Word" "least") rfl)
    rcases List.mem_cons.mp hf with rfl | hf
    · exact He.noat_ok (c.fact 49 (f := .noat "Word" "most") rfl)
    cases hf)⟩
  have cNumber : C0 K mg "Number" ["least", "most"] := ⟨He.glo_ok X G (c.fact 2 (f := .glo "Number") rfl), He.cls_ok (c.fact 51 (f := .cls "Number") rfl), (fun f hf => by
    rcases List.mem_cons.mp hf with rfl | hf
    · exact He.noat_ok (c.fact 53 (f := .noat "Number" "least") rfl)
    rcases List.mem_cons.mp hf with rfl | hf
    · exact He.noat_ok (c.fact 54 (f := .noat "Number" "most") rfl)
    cases hf)⟩
  have cFixed : C0 K mg "Fixed" ["width"] := ⟨He.glo_ok X G (c.fact 3 (f := .glo "Fixed") rfl), He.cls_ok (c.fact 56 (f := .cls "Fixed") rfl), (fun f hf => by
    rcases List.mem_cons.mp hf with rfl | hf
    · exact He.noat_ok (c.fact 58 (f := .noat "Fixed" "width") rfl)
    cases hf)⟩
  have cListed : C0 K mg "Listed" ["texts"] := ⟨He.glo_ok X G (c.fact 4 (f := .glo "Listed") rfl), He.cls_ok (c.fact 60 (f := .cls "Listed") rfl), (fun f hf => by
    rcases List.mem_cons.mp hf with rfl | hf
    · exact He.noat_ok (c.fact 62 (f := .noat "Listed" "texts") rfl)
    cases hf)⟩
  have cEnded : C0 K mg "Ended" ["signs", "sign", "least", "most"] := ⟨He.glo_ok X G (c.fact 5 (f := .glo "Ended") rfl), He.cls_ok (c.fact 64 (f := .cls "Ended") rfl), (fun f hf => by
    rcases List.mem_cons.mp hf with rfl | hf
    · exact He.noat_ok (c.fact 66 (f := .noat "Ended" "signs") rfl)
    rcases List.mem_cons.mp hf with rfl | hf
    · exact He.noat_ok (c.fact 67 (f := .noat "Ended" "sign") rfl)
    rcases List.mem_cons.mp hf with rfl | hf
    · exact He.noat_ok (c.fact 68 (f := .noat "Ended" "least") rfl)
    rcases List.mem_cons.mp hf with rfl | hf
    · exact He.noat_ok (c.fact 69 (f := .noat "Ended" "most") rfl)
    cases hf)⟩
  have cMarked : C0 K mg "Marked" ["none", "mark", "field"] := ⟨He.glo_ok X G (c.fact 6 (f := .glo "Marked") rfl), He.cls_ok (c.fact 71 (f := .cls "Marked") rfl), (fun f hf => by
    rcases List.mem_cons.mp hf with rfl | hf
    · exact He.noat_ok (c.fact 73 (f := .noat "Marked" "none") rfl)
    rcases List.mem_cons.mp hf with rfl | hf
    · exact He.noat_ok (c.fact 74 (f := .noat "Marked" "mark") rfl)
    rcases List.mem_cons.mp hf with rfl | hf
    · exact He.noat_ok (c.fact 75 (f := .noat "Marked" "field") rfl)
    cases hf)⟩
  have g3 : G3 P w K mg base := ⟨g2, Af6, Af7, Af8, cWord, cNumber, cFixed, cListed, cEnded, cMarked⟩
  have g4 : G4 P w K mg base := ⟨g3, fun i hi => (more i hi).1, He.eqO_ok z5, of_decide_eq_true z6, fun i j hi hj => (more i hi).2.2.2.2 j hj, fun j hj => (more j hj).2.1, fun j hj => (more j hj).2.2.1⟩
  obtain ⟨fdhWord, FhWord⟩ := c.def_ 4 (d := ⟨("Word", some "has_sign"), "has_sign", "Word.has_sign", defArgs (inClass (top 17) 7), defBody (inClass (top 17) 7), defScope (inClass (top 17) 7), [], []⟩) rfl
  obtain ⟨fdeWord, FeWord⟩ := c.def_ 3 (d := ⟨("Word", some "__eq__"), "__eq__", "Word.__eq__", defArgs (inClass (top 17) 1), defBody (inClass (top 17) 1), defScope (inClass (top 17) 1), [], []⟩) rfl
  have hWord : HM P w K mg base 2 (ca K 0) "has_sign" ["self", "sign"] (spHasWord K) := ⟨He.meth_ok (c.fact 50 (f := .meth "Word" "has_sign") rfl), fdhWord, ok_Word_has FhWord g3, FunD.bindsN (ps := ["self", "sign"]) FhWord (fun _ _ _ _ _ _ us hl => match us, hl with | [_, _], _ => rfl)⟩
  have eWord : EQ P w K mg base (ca K 0) (spEqWord K) := ⟨fdeWord, ok_Word_eq FeWord g4, FunD.bindsN (ps := ["self", "other"]) FeWord (fun _ _ _ _ _ _ us hl => match us, hl with | [_, _], _ => rfl)⟩
  obtain ⟨fdhNumber, FhNumber⟩ := c.def_ 7 (d := ⟨("Number", some "has_sign"), "has_sign", "Number.has_sign", defArgs (inClass (top 18) 7), defBody (inClass (top 18) 7), defScope (inClass (top 18) 7), [], []⟩) rfl
  obtain ⟨fdeNumber, FeNumber⟩ := c.def_ 6 (d := ⟨("Number", some "__eq__"), "__eq__", "Number.__eq__", defArgs (inClass (top 18) 1), defBody (inClass (top 18) 1), defScope (inClass (top 18) 1), [], []⟩) rfl
  have hNumber : HM P w K mg base 2 (ca K 1) "has_sign" ["self", "sign"] (spHasNumber K) := ⟨He.meth_ok (c.fact 55 (f := .meth "Number" "has_sign") rfl), fdhNumber, ok_Number_has FhNumber g3, FunD.bindsN (ps := ["self", "sign"]) FhNumber (fun _ _ _ _ _ _ us hl => match us, hl with | [_, _], _ => rfl)⟩
  have eNumber : EQ P w K mg base (ca K 1) (spEqNumber K) := ⟨fdeNumber, ok_Number_eq FeNumber g4, FunD.bindsN (ps := ["self", "other"]) FeNumber (fun _ _ _ _ _ _ us hl => match us, hl with | [_, _], _ => rfl)⟩
  obtain ⟨fdhFixed, FhFixed⟩ := c.def_ 10 (d := ⟨("Fixed", some "has_sign"), "has_sign", "Fixed.has_sign", defArgs (inClass (top 19) 7), defBody (inClass (top 19) 7), defScope (inClass (top 19) 7), [], []⟩) rfl
  obtain ⟨fdeFixed, FeFixed⟩ := c.def_ 9 (d := ⟨("Fixed", some "__eq__"), "__eq__", "Fixed.__eq__", defArgs (inClass (top 19) 1), defBody (inClass (top 19) 1), defScope (inClass (top 19) 1), [], []⟩) rfl
  have hFixed : HM P w K mg base 2 (ca K 2) "has_sign" ["self", "sign"] (spHasFixed K) := ⟨He.meth_ok (c.fact 59 (f := .meth "Fixed" "has_sign") rfl), fdhFixed, ok_Fixed_has FhFixed g3, FunD.bindsN (ps := ["self", "sign"]) FhFixed (fun _ _ _ _ _ _ us hl => match us, hl with | [_, _], _ => rfl)⟩
  have eFixed : EQ P w K mg base (ca K 2) (spEqFixed K) := ⟨fdeFixed, ok_Fixed_eq FeFixed g4, FunD.bindsN (ps := ["self", "other"]) FeFixed (fun _ _ _ _ _ _ us hl => match us, hl with | [_, _], _ => rfl)⟩
  obtain ⟨fdhListed, FhListed⟩ := c.def_ 13 (d := ⟨("Listed", some "has_sign"), "has_sign", "Listed.has_sign", defArgs (inClass (top 20) 7), defBody (inClass (top 20) 7), defScope (inClass (top 20) 7), [], []⟩) rfl
  obtain ⟨fdeListed, FeListed⟩ := c.def_ 12 (d := ⟨("Listed", some "__eq__"), "__eq__", "Listed.__eq__", defArgs (inClass (top 20) 1), defBody (inClass (top 20) 1), defScope (inClass (top 20) 1), [], []⟩) rfl
  have hListed : HM P w K mg base 2 (ca K 3) "has_sign" ["self", "sign"] (spHasListed K) := ⟨He.meth_ok (c.fact 63 (f := .meth "Listed" "has_sign") rfl), fdhListed, ok_Listed_has FhListed g3, FunD.bindsN (ps := ["self", "sign"]) FhListed (fun _ _ _ _ _ _ us hl => match us, hl with | [_, _], _ => rfl)⟩
  have eListed : EQ P w K mg base (ca K 3) (spEqListed K) := ⟨fdeListed, ok_Listed_eq FeListed g4, FunD.bindsN (ps := ["self", "other"]) FeListed (fun _ _ _ _ _ _ us hl => match us, hl with | [_, _], _ => rfl)⟩
  obtain ⟨fdhEnded, FhEnded⟩ := c.def_ 16 (d := ⟨("Ended", some "has_sign"), "has_sign", "Ended.has_sign", defArgs (inClass (top 21) 7), defBody (inClass (top 21) 7), defScope (inClass (top 21) 7), [], []⟩) rfl
  obtain ⟨fdeEnded, FeEnded⟩ := c.def_ 15 (d := ⟨("Ended", some "__eq__"), "__eq__", "Ended.__eq__", defArgs (inClass (top 21) 1), defBody (inClass (top 21) 1), defScope (inClass (top 21) 1), [], []⟩) rfl
  have hEnded : HM P w K mg base 2 (ca K 4) "has_sign" ["self", "sign"] (spHasEnded K) := ⟨He.meth_ok (c.fact 70 (f := .meth "Ended" "has_sign") rfl), fdhEnded, ok_Ended_has FhEnded g3, FunD.bindsN (ps := ["self", "sign"]) FhEnded (fun _ _ _ _ _ _ us hl => match us, hl with | [_, _], _ => rfl)⟩
  have eEnded : EQ P w K mg base (ca K 4) (spEqEnded K) := ⟨fdeEnded, ok_Ended_eq FeEnded g4, FunD.bindsN (ps := ["self", "other"]) FeEnded (fun _ _ _ _ _ _ us hl => match us, hl with | [_, _], _ => rfl)⟩
  have g5 : G5 P w K mg base := ⟨g4, hWord, eWord, hNumber, eNumber, hFixed, eFixed, hListed, eListed, hEnded, eEnded⟩
  obtain ⟨fdl1, Fl1⟩ := c.def_ 29 (d := ⟨("_law_is_signs", none), "_law_is_signs", "_law_is_signs", defArgs (top 27), defBody (top 27), defScope (top 27), [], []⟩) rfl
  have Al1 : FnAt P w K mg base CX0 1 "_law_is_signs" ["_law_thing"] _ := ⟨_, fdl1, He.glo_ok X G (c.fact 17 (f := .glo "_law_is_signs") rfl), Fl1.kp, ok_law_is_signs Fl1 g0, FunD.bindsN (ps := ["_law_thing"]) Fl1 (fun _ _ _ _ _ _ us hl => match us, hl with | [_], _ => rfl)⟩
  obtain ⟨fdl2, Fl2⟩ := c.def_ 30 (d := ⟨("_law_is_number", none), "_law_is_number", "_law_is_number", defArgs (top 28), defBody (top 28), defScope (top 28), [], []⟩) rfl
  have Al2 : FnAt P w K mg base CX0 1 "_law_is_number" ["_law_thing"] _ := ⟨_, fdl2, He.glo_ok X G (c.fact 18 (f := .glo "_law_is_number") rfl), Fl2.kp, ok_law_is_number Fl2 g0, FunD.bindsN (ps := ["_law_thing"]) Fl2 (fun _ _ _ _ _ _ us hl => match us, hl with | [_], _ => rfl)⟩
  have gl0 : GL0 P w K mg base := ⟨g5, Al1, Al2⟩
  obtain ⟨fdl3, Fl3⟩ := c.def_ 31 (d := ⟨("_law_bounds_due", none), "_law_bounds_due", "_law_bounds_due", defArgs (top 29), defBody (top 29), defScope (top 29), [], []⟩) rfl
  have Al3 : FnAt P w K mg base CX0 2 "_law_bounds_due" ["_law_least", "_law_most"] _ := ⟨_, fdl3, He.glo_ok X G (c.fact 19 (f := .glo "_law_bounds_due") rfl), Fl3.kp, ok_law_bounds_due Fl3 gl0, FunD.bindsN (ps := ["_law_least", "_law_most"]) Fl3 (fun _ _ _ _ _ _ us hl => match us, hl with | [_, _], _ => rfl)⟩
  obtain ⟨fdl4, Fl4⟩ := c.def_ 32 (d := ⟨("_law_signs_due", none), "_law_signs_due", "_law_signs_due", defArgs (top 30), defBody (top 30), defScope (top 30), [], []⟩) rfl
  have Al4 : FnAt P w K mg base CX0 2 "_law_signs_due" ["_law_signs_here"] _ := ⟨_, fdl4, He.glo_ok X G (c.fact 20 (f := .glo "_law_signs_due") rfl), Fl4.kp, ok_law_signs_due Fl4 gl0, FunD.bindsN (ps := ["_law_signs_here"]) Fl4 (fun _ _ _ _ _ _ us hl => match us, hl with | [_], _ => rfl)⟩
  obtain ⟨fdl5, Fl5⟩ := c.def_ 33 (d := ⟨("_law_in_texts", none), "_law_in_texts", "_law_in_texts", defArgs (top 31), defBody (top 31), defScope (top 31), [], []⟩) rfl
  have Al5 : FnAt P w K mg base CX0 1 "_law_in_texts" ["_law_one"] _ := ⟨_, fdl5, He.glo_ok X G (c.fact 21 (f := .glo "_law_in_texts") rfl), Fl5.kp, ok_law_in_texts Fl5 gl0, FunD.bindsN (ps := ["_law_one"]) Fl5 (fun _ _ _ _ _ _ us hl => match us, hl with | [_], _ => rfl)⟩
  have gl1 : GL1 P w K mg base := ⟨gl0, Al3, Al4, Al5⟩
  obtain ⟨fdl6, Fl6⟩ := c.def_ 34 (d := ⟨("_law_due", none), "_law_due", "_law_due", defArgs (top 32), defBody (top 32), defScope (top 32), [], []⟩) rfl
  have Al6 : FnAt P w K mg base CX0 3 "_law_due" ["_law_one"] _ := ⟨_, fdl6, He.glo_ok X G (c.fact 22 (f := .glo "_law_due") rfl), Fl6.kp, ok_law_due Fl6 gl1, FunD.bindsN (ps := ["_law_one"]) Fl6 (fun _ _ _ _ _ _ us hl => match us, hl with | [_], _ => rfl)⟩
  obtain ⟨fdiWord, FiWord⟩ := c.def_ 2 (d := ⟨("Word", some "__init__"), "__init__", "Word.__init__", defArgs (inClass (top 17) 0), defBody (inClass (top 17) 0), defScope (inClass (top 17) 0), [], []⟩) rfl
  have kWord : ClsAt P w K mg base (L2.CX P w) 4 "Word" (ca K 0) ["self", "signs", "least", "most"] (spWord K) := ⟨cWord.mgC, cWord.cl, He.mkr_ok (c.fact 46 (f := .mkr "Word") rfl), fdiWord, ok_Word_init FiWord g3, FunD.bindsN (ps := ["self", "signs", "least", "most"]) FiWord (fun _ _ _ _ _ _ us hl => match us, hl with | [_, _, _, _], _ => rfl)⟩
  obtain ⟨fdiNumber, FiNumber⟩ := c.def_ 5 (d := ⟨("Number", some "__init__"), "__init__", "Number.__init__", defArgs (inClass (top 18) 0), defBody (inClass (top 18) 0), defScope (inClass (top 18) 0), [], []⟩) rfl
  have kNumber : ClsAt P w K mg base (L2.CX P w) 4 "Number" (ca K 1) ["self", "least", "most"] (spNumber K) := ⟨cNumber.mgC, cNumber.cl, He.mkr_ok (c.fact 52 (f := .mkr "Number") rfl), fdiNumber, ok_Number_init FiNumber g3, FunD.bindsN (ps := ["self", "least", "most"]) FiNumber (fun _ _ _ _ _ _ us hl => match us, hl with | [_, _, _], _ => rfl)⟩
  obtain ⟨fdiFixed, FiFixed⟩ := c.def_ 8 (d := ⟨("Fixed", some "__init__"), "__init__", "Fixed.__init__", defArgs (inClass (top 19) 0), defBody (inClass (top 19) 0), defScope (inClass (top 19) 0), [], []⟩) rfl
  have kFixed : ClsAt P w K mg base (L2.CX P w) 4 "Fixed" (ca K 2) ["self", "width"] (spFixed K) := ⟨cFixed.mgC, cFixed.cl, He.mkr_ok (c.fact 57 (f := .mkr "Fixed") rfl), fdiFixed, ok_Fixed_init FiFixed g3, FunD.bindsN (ps := ["self", "width"]) FiFixed (fun _ _ _ _ _ _ us hl => match us, hl with | [_, _], _ => rfl)⟩
  obtain ⟨fdiListed, FiListed⟩ := c.def_ 11 (d := ⟨("Listed", some "__init__"), "__init__", "Listed.__init__", defArgs (inClass (top 20) 0), defBody (inClass (top 20) 0), defScope (inClass (top 20) 0), [], []⟩) rfl
  have kListed : ClsAt P w K mg base (L2.CX P w) 4 "Listed" (ca K 3) ["self", "texts"] (spListed K) := ⟨cListed.mgC, cListed.cl, He.mkr_ok (c.fact 61 (f := .mkr "Listed") rfl), fdiListed, ok_Listed_init FiListed g3, FunD.bindsN (ps := ["self", "texts"]) FiListed (fun _ _ _ _ _ _ us hl => match us, hl with | [_, _], _ => rfl)⟩
  obtain ⟨fdiEnded, FiEnded⟩ := c.def_ 14 (d := ⟨("Ended", some "__init__"), "__init__", "Ended.__init__", defArgs (inClass (top 21) 0), defBody (inClass (top 21) 0), defScope (inClass (top 21) 0), [], []⟩) rfl
  have kEnded : ClsAt P w K mg base (L2.CX P w) 4 "Ended" (ca K 4) ["self", "signs", "sign", "least", "most"] (spEnded K) := ⟨cEnded.mgC, cEnded.cl, He.mkr_ok (c.fact 65 (f := .mkr "Ended") rfl), fdiEnded, ok_Ended_init FiEnded g3, FunD.bindsN (ps := ["self", "signs", "sign", "least", "most"]) FiEnded (fun _ _ _ _ _ _ us hl => match us, hl with | [_, _, _, _, _], _ => rfl)⟩
  obtain ⟨fdiMarked, FiMarked⟩ := c.def_ 17 (d := ⟨("Marked", some "__init__"), "__init__", "Marked.__init__", defArgs (inClass (top 22) 0), defBody (inClass (top 22) 0), defScope (inClass (top 22) 0), [], []⟩) rfl
  have kMarked : ClsAt P w K mg base (L2.CX P w) 4 "Marked" (ca K 5) ["self", "none", "mark", "field"] (spMarked K) := ⟨cMarked.mgC, cMarked.cl, He.mkr_ok (c.fact 72 (f := .mkr "Marked") rfl), fdiMarked, ok_Marked_init FiMarked g5, FunD.bindsN (ps := ["self", "none", "mark", "field"]) FiMarked (fun _ _ _ _ _ _ us hl => match us, hl with | [_, _, _, _], _ => rfl)⟩
  have g6 : G6 P w K mg base := ⟨gl1, Al6, of_decide_eq_true z4, kWord, kNumber, kFixed, kListed, kEnded, kMarked⟩
  obtain ⟨fdmd, Fmd⟩ := c.def_ 35 (d := ⟨("_law_made", none), "_law_made", "_law_made", defArgs (top 33), defBody (top 33), defScope (top 33), [], []⟩) rfl
  have gmd := He.glo_ok X G (c.fact 23 (f := .glo "_law_made") rfl)
  have bmd := FunD.bindsN (ps := ["_law_one"]) Fmd (fun _ _ _ _ _ _ us hl => match us, hl with | [_], _ => rfl)
  have M0 : FnAt P w K mg base CX0 (0 + 5) "_law_made" ["_law_one"] (spMd K 0) := ⟨_, fdmd, gmd, Fmd.kp, fn_never.imp fun vs H Q E h => (by obtain ⟨_, _, d, _, _, _, hd, _⟩ := h; exact absurd hd (Nat.not_lt_zero _)), bmd⟩
  have step : ∀ n, FnAt P w K mg base CX0 (n + 5) "_law_made" ["_law_one"] (spMd K n) → FnAt P w K mg base CX0 (n + 1 + 5) "_law_made" ["_law_one"] (spMd K (n + 1)) := fun n A => ⟨_, fdmd, gmd, Fmd.kp, ok_law_made Fmd g6 A, bmd⟩
  have M4 := step 3 (step 2 (step 1 (step 0 M0)))
  obtain ⟨fdr1, Fr1⟩ := c.def_ 27 (d := ⟨("_law_state", none), "_law_state", "_law_state", defArgs (top 25), defBody (top 25), defScope (top 25), [], []⟩) rfl
  have Ar1 : FnAt P w K mg base CX0 1 "_law_state" ["_law_source"] _ := ⟨_, fdr1, He.glo_ok X G (c.fact 15 (f := .glo "_law_state") rfl), Fr1.kp, ok_state Fr1 g0.toBl, FunD.bindsN (ps := ["_law_source"]) Fr1 (fun _ _ _ _ _ _ us hl => match us, hl with | [_], _ => rfl)⟩
  obtain ⟨fdr2, Fr2⟩ := c.def_ 28 (d := ⟨("_law_digit", none), "_law_digit", "_law_digit", defArgs (top 26), defBody (top 26), defScope (top 26), [], []⟩) rfl
  have Ar2 : FnAt P w K mg base CX0 1 "_law_digit" ["_law_state_here", "_law_base"] _ := ⟨_, fdr2, He.glo_ok X G (c.fact 16 (f := .glo "_law_digit") rfl), Fr2.kp, ok_digit Fr2 g0.toBl, FunD.bindsN (ps := ["_law_state_here", "_law_base"]) Fr2 (fun _ _ _ _ _ _ us hl => match us, hl with | [_, _], _ => rfl)⟩
  have gr0 : GR0 P w K mg base := ⟨g6, Ar1, Ar2⟩
  obtain ⟨fdr3, Fr3⟩ := c.def_ 36 (d := ⟨("_law_number", none), "_law_number", "_law_number", defArgs (top 34), defBody (top 34), defScope (top 34), [], []⟩) rfl
  have Ar3 : FnAt P w K mg base CX0 2 "_law_number" ["_law_s"] _ := ⟨_, fdr3, He.glo_ok X G (c.fact 24 (f := .glo "_law_number") rfl), Fr3.kp, ok_law_number Fr3 gr0, FunD.bindsN (ps := ["_law_s"]) Fr3 (fun _ _ _ _ _ _ us hl => match us, hl with | [_], _ => rfl)⟩
  obtain ⟨fdr4, Fr4⟩ := c.def_ 37 (d := ⟨("_law_signs", none), "_law_signs", "_law_signs", defArgs (top 35), defBody (top 35), defScope (top 35), [], []⟩) rfl
  have Ar4 : FnAt P w K mg base CX0 2 "_law_signs" ["_law_s"] _ := ⟨_, fdr4, He.glo_ok X G (c.fact 25 (f := .glo "_law_signs") rfl), Fr4.kp, ok_law_signs Fr4 gr0, FunD.bindsN (ps := ["_law_s"]) Fr4 (fun _ _ _ _ _ _ us hl => match us, hl with | [_], _ => rfl)⟩
  have gr1 : GR1 P w K mg base := ⟨gr0, Ar3, Ar4⟩
  obtain ⟨fdr5, Fr5⟩ := c.def_ 38 (d := ⟨("_law_plain", none), "_law_plain", "_law_plain", defArgs (top 36), defBody (top 36), defScope (top 36), [], []⟩) rfl
  have Ar5 : FnAt P w K mg base CX0 3 "_law_plain" ["_law_s"] _ := ⟨_, fdr5, He.glo_ok X G (c.fact 26 (f := .glo "_law_plain") rfl), Fr5.kp, ok_law_plain Fr5 gr1, FunD.bindsN (ps := ["_law_s"]) Fr5 (fun _ _ _ _ _ _ us hl => match us, hl with | [_], _ => rfl)⟩
  have gr2 : GR2 P w K mg base := ⟨gr1, Ar5⟩
  obtain ⟨fdr6, Fr6⟩ := c.def_ 39 (d := ⟨("_law_any", none), "_law_any", "_law_any", defArgs (top 37), defBody (top 37), defScope (top 37), [], []⟩) rfl
  have Ar6 : FnAt P w K mg base CX0 4 "_law_any" ["_law_s"] _ := ⟨_, fdr6, He.glo_ok X G (c.fact 27 (f := .glo "_law_any") rfl), Fr6.kp, ok_law_any Fr6 gr2, FunD.bindsN (ps := ["_law_s"]) Fr6 (fun _ _ _ _ _ _ us hl => match us, hl with | [_], _ => rfl)⟩
  obtain ⟨fdeM, FeM⟩ := c.def_ 18 (d := ⟨("Marked", some "__eq__"), "__eq__", "Marked.__eq__", defArgs (inClass (top 22) 1), defBody (inClass (top 22) 1), defScope (inClass (top 22) 1), [], []⟩) rfl
  exact ⟨gr2, Ar6, M4, fun i hi => (more i hi).2.2.2.1, fdeM, ok_Marked_eq FeM g5, FunD.bindsN (ps := ["self", "other"]) FeM (fun _ _ _ _ _ _ us hl => match us, hl with | [_, _], _ => rfl)⟩

end L2.K03
open PySem PySem.W PySem.Calls PyProof.Rows
set_option maxRecDepth 100000 in
set_option maxHeartbeats 0 in
theorem PySem.Challenge.cw_jointkeys_k03_fields_refused_holds : PySem.Challenge.rw_jointkeys_k03_fields_refused.Holds := by
  w_on; o_law
  refine HandSHeadRun.head_any (r := OpenLaw.row PySem.Challenge.rw_jointkeys_k03_fields_refused) (q := view (OpenLaw.row PySem.Challenge.rw_jointkeys_k03_fields_refused).prog [38]) (H := L2.K03.hk) (ob := L2.K03.ob) (M := 6000) (loose := L2.K03.names) (d := HandSHeadRun.topDef (OpenLaw.row PySem.Challenge.rw_jointkeys_k03_fields_refused).prog 38) (kwd := []) L2.K03.ob_eq
    (by kernel_rfl) (fun s => by kernel_rfl) L2.K03.run (by kernel_rfl) (by kernel_rfl) (by kernel_rfl) (by rfl) (by first | assumption | decide +kernel) (by decide +kernel) ⟨rfl, rfl, rfl, rfl, rfl, by decide +kernel⟩ ?hw ?hc
  case hw => w_witness2
  case hc =>
    refine L2.walk_ofE (l := PySem.Challenge.rw_jointkeys_k03_fields_refused) (n := 63) (k := 10) (x := "_law_script") (CX := L2.CX0) rfl (by decide) (by kernel_rfl) ⟨rfl, by decide, by decide⟩ ?F (fun _ _ _ _ z => z)
    intro w mg fa h Y G hmg0
    obtain ⟨K, KX, c⟩ := Y
    have hmg : mg ("law" : PySem.Str) = some (.ref fa) := by
      have e : (HandSHeadRun.topDef (OpenLaw.row PySem.Challenge.rw_jointkeys_k03_fields_refused).prog 38).name = ("law" : PySem.Str) := by kernel_rfl
      rw [← e]
      exact hmg0
    obtain ⟨fd, F⟩ := c.t.d.def_ 40 (d := ⟨("law", none), "law", "law", L2.defArgs L2.K03.s_law, L2.defBody L2.K03.s_law, L2.defScope L2.K03.s_law, [], []⟩) rfl
    have e := hmg.symm.trans (He.glo_ok KX G (c.t.d.fact 28 (f := .glo "law") rfl))
    cases e
    have b := L2.FunD.bindsA (ps := ["_law_script"]) F fun _ _ _ _ _ _ us hl => match us, hl with | [_], _ => rfl
    exact ⟨K, fd, L2.K03.spLaw K, KX, fun s v => b s [v] rfl, fun H a ns hl _ hS => ⟨a, ns, rfl, hS, hl, fun _ => rfl⟩, fun base _ _ => L2.K03.ok_law F (L2.K03.facts KX G c.t.d c.more)⟩
#print axioms PySem.Challenge.cw_jointkeys_k03_fields_refused_holds
