import PyProof.Rows.All
import Wide.All
import OpenK.AllK
import Wide.FinOn
import HandS.ForMost
import HandS.ForExc
import HandS.ExcInit
import HandS.ExcIs
import HandS.ExcField
import HandS.IsInst
import KE.KStateDown
import HandS.Defaults
import HandS.Head0
import HandS.Head1
import HandS.Head2
import HandS.Head3
import HandS.Head4
import HandS.HeadEnd
import HandS.HeadHook1
import HandS.HeadHook2
import HandS.HeadHook3
import HandS.HeadHook4
import HandS.Walk
import HandS.OwnEq
import PyProof.InstNe
import PyProof.WalksS
import PyProof.StrWalks
import PyProof.EnumMake
import PyProof.Rows.SetFrom
import PyProof.SetKind
import HandS.Strs
import HandS.Rev
import HandS.Zip
import PyProof.JoinWalk
import PyProof.ListStr
import HandS.ExcOwn
import HandS.WordsExc
import PyProof.StrOps2
import HandS.StrMore
import HandS.Wide
import HandS.MakeKwOnly
import HandS.Conv
import HandS.TupAny
import HandS.Style
import PySem.Challenge.RW_jointkeys_k51_wishes_stretches_and_mends
set_option Elab.async false
set_option linter.all false
set_option maxRecDepth 100000
set_option maxHeartbeats 4000000
/-! Own exceptions as plain values: made, their fields read, their methods called, isinstance asked of them. -/
namespace L2.Jk
open PySem PySem.W PySem.Spec PySem.Calls PyProof.Rows

/-- what an own error class says of itself, for its instances as values -/
structure ErrC (K : Frag) (C : Addr) : Prop where
  ox : OexC K C
  xf : XfC K C
  kk : findIn K (.ref C) "__class__" = some (some (.builtin "object.__class__"))
  kn : specialIn K (.builtin "object.__class__") "__get__" = some (some (.builtin "getset_descriptor.__get__"))
  kt : takesIn K (.builtin "object.__class__") = some true
  km : mroIn K C (.type "object") = some true

section
variable {prog : Program} {w : World} {A : Around} {E : Value → Shared → Prop} {s : Shared} {K : Frag} {e C f : Addr} {oe od : Obj}

/-- e.__class__ of an error with a dict of its own -/
theorem err_class {Q : Option Value → Shared → Prop} (T : ErrC K C) (X : K.In s.heap) (I : InstAt s.heap e oe C (some od)) (h : Q (some (.ref C)) { s with toks := s.toks + 1 }) :
    wpAny (model prog w) A (getAttr? (.ref e) "__class__") Q E s := by
  obtain ⟨cd, hcd, _⟩ := any_some T.xf.hdC
  have look := findObj_data (od := od) (show (clsIn K C).isSome = true by rw [hcd]; rfl) T.kk T.kn T.kt
  obtain ⟨hp, gn, dr, tk, os⟩ := s
  have lt := I.type (M := model prog w)
  have lg := looks_findIn (M := model prog w) X T.xf.ga
  have lh := looks_findIn (M := model prog w) X T.xf.gg
  have lf := looks_find (M := model prog w) X I look
  have inB : Looks (model prog w) hp (isInstance (.ref e) (.type "BaseException")) true := lt.andThen (looks_subIn X T.xf.exC)
  have n2 : (Value.builtin "BaseException.__getattribute__" == Value.builtin "object.__getattribute__") = false := by decide +kernel
  have n1 : (onTheHeap (Value.ref C) && Value.builtin "BaseException.__getattribute__" == Value.builtin "object.__getattribute__") = false := by rw [n2] <;> rfl
  unfold getAttr? getAttrBy? getAttrBy
  refine wpAny_bind (wpAny_mkText (wpAny_bind (wpAny_attempt (wpAny_holding (wpAny_bind (lt.at (wpAny_bind (lg.at ?_))))))))
  show wpAny _ _ (if (onTheHeap (Value.ref C) && Value.builtin "BaseException.__getattribute__" == Value.builtin "object.__getattribute__") = true then _ else _) _ _ _
  rw [n1, if_neg Bool.false_ne_true]
  unfold getAttrByItsOwn hookBefore
  refine wpAny_bind ?_
  rw [if_pos (show onTheHeap (Value.ref C) = true from rfl)]
  refine lh.at (wpAny_bind (wpAny_attempt (wpAny_holding ?_)))
  unfold callGetattribute
  rw [show (false && onTheHeap (Value.builtin "BaseException.__getattribute__")) = false from rfl, if_neg Bool.false_ne_true]
  unfold boundAndCalled
  rw [PySem.F.excAttr_ValueError.ga.bind (.ref e)]
  refine wpAny_bind (wpAny_pure ?_)
  show wpAny _ _ (call (.builtin "BaseException.__getattribute__") [.ref e, .str "__class__" tk]) _ _ _
  refine wpAny_call (codeAny_call_builtin PySem.F.excAttr_ValueError.ga.plain PySem.F.entry_bexc_ga ?_)
  refine @check_slot (model prog w) _ _ ⟨hp, gn, dr, tk + 1, os⟩ "BaseException.__getattribute__" "BaseException" "__getattribute__" (.ref e) [.str "__class__" tk] [] _
    (by decide +kernel) (by decide +kernel) inB (PySem.F.args_bexc_ga (.ref e) (.str "__class__" tk)) ?_
  unfold Builtin.«object.__getattribute__»
  refine wpAny_bind (wpAny_of_eq (a := ((Value.ref e : Value), [Value.str "__class__" tk])) (by first | rfl | (simp only [slotArgs]; rfl)) ?_)
  refine wpAny_bind (wpAny_pure (wpAny_bind (lt.at (wpAny_bind (lf.at ?_)))))
  show wpAny _ _ (holding [Value.builtin "object.__class__"] (call (.builtin "getset_descriptor.__get__") [.builtin "object.__class__", .ref e, .ref C]) >>= ret) _ _ _
  refine wpAny_bind (wpAny_holding (wpAny_call (class_get (s := ⟨hp, gn, dr, tk + 1, os⟩) (ox := oe) (od := some od) X I T.km ?_)))
  refine wpAny_pure ?_
  show wpAny _ _ (handedOut (.ref C)) _ _ _
  rw [handedOut_of (v := .ref C) rfl]
  first
    | exact wpAny_pure (wpAny_pure h)
    | exact wpAny_pure h
    | exact wpAny_pure (wpAny_bind (wpAny_pure (wpAny_pure h)))
/-- isinstance may be asked of it -/
theorem err_kit (T : ErrC K C) : KitX K (.ref e) (.ref C) (fun h => ∃ o d, InstAt h e o C (some d)) where
  ty := fun _ _ _ ⟨_, _, I⟩ => I.type
  it := fun _ _ X _ => by
    obtain ⟨cd, hc, _⟩ := any_some T.xf.hdC
    unfold clsIn at hc
    split at hc
    · rename_i ho
      intro _ _ _ _ k q
      unfold isType loadHead
      exact wpAny_bind (wpAny_loadPart (k _ _ (X _ _ ho)) (wpAny_pure q))
    · cases hc
  ne := fun h tp dd its n sl X htp => by
    obtain ⟨cd, hc, _⟩ := any_some T.xf.hdC
    refine Bool.eq_false_iff.mpr fun q => ?_
    have z : C = tp := Value.ref.inj (beq_iff_eq.mp q)
    subst z
    unfold clsIn at hc
    split at hc
    · rename_i ho
      have y := (X _ _ ho).symm.trans htp
      cases y
    · cases hc
  ca := fun X ⟨_, _, I⟩ k => err_class T X I k

/-- the method of an error, found in its class -/
theorem err_meth {name : Str} {pl : Sem Bool} {Q : Value × List Value → Shared → Prop} (T : ErrC K C) (X : K.In s.heap) (I : InstAt s.heap e oe C (some od))
    (hf : findIn K (.ref C) name = some (some (.ref f))) (ht : isFn K (.ref f) = true) (hs : shadowIn (some od) name = some false) (h : Q (.ref f, [.ref e]) s) :
    wpAny (model prog w) A (getMethod (.ref e) name pl) Q E s := by
  have cn : Manifest.canonical "BaseException.__getattribute__" = "object.__getattribute__" := by first | kernel_rfl | decide +kernel
  obtain ⟨r, ra, rb⟩ := Option.map_eq_some_iff.mp hs
  have dd := I.dict
  unfold getMethod specialOf
  refine wpAny_bind (wpAny_bind (I.type.here ((looks_findIn X T.xf.ga).here ?_)))
  dsimp only
  rw [cn, if_neg (by decide)]
  refine wpAny_bind (wpAny_bind (I.type.here ((looks_findIn X T.xf.gg).here ?_)))
  refine wpAny_bind (wpAny_bind (I.type.here ((looks_findIn X hf).here (wpAny_bind ((looks_typeIn X (beq_iff_eq.mp ht)).here ?_)))))
  rw [if_neg (by decide +kernel)]
  refine wpAny_bind (wpAny_loadPart I.at_ ?_)
  cases q : oe.dict with
  | none => exact wpAny_bind (wpAny_rule (wpAny_pure h))
  | some dx =>
    rw [q] at dd
    refine wpAny_bind (wpAny_bind (wpAny_loadPart dd ?_))
    rw [nsLook_of ra]
    refine wpAny_pure ?_
    rw [rb]
    exact wpAny_bind (wpAny_rule (wpAny_pure h))
end

section
variable {X : Cx} {pins : List (Addr × Obj)} {σ : St} {H : Hp} {s : Shared} {C a d : Addr} {fs : List (Str × V)}
/-- an error as the heap holds it -/
theorem err_at (I : Inv X pins σ H s) (ha : H a = some (exo a C (some d))) (hd : H d = some (exd d fs)) :
    ∃ o od mA, InstAt s.heap a o C (some od) ∧ s.heap.Ns1 d mA ∧ (∀ f, RelO (fs.lookup f) (mA f)) ∧ s.heap.get? d = some od ∧ ∀ f, lookIn f od = some (mA f) := by
  obtain ⟨t1, ho⟩ := exo_at I.hok ha
  obtain ⟨mA, hn, r⟩ := exd_at I.hok hd
  obtain ⟨od, hod, hl⟩ := lookIn_ns hn
  exact ⟨_, od, mA, ⟨ho, rfl, rfl, hod⟩, hn, r, hod, hl⟩
/-- e.f of an error -/
def tEf (K : Frag) (f : Str) (te : TE) : TE := fun σ H Q => te σ H fun x H1 => ∃ (a C d : Addr) (fs : List (Str × V)) (v : V), x = .ref a ∧ ErrC K C ∧ findIn K (.ref C) f = some none ∧
  H1 a = some (exo a C (some d)) ∧ H1 d = some (exd d fs) ∧ fs.lookup f = some v ∧ Q v H1
theorem pe_ef {e : Expr} {te : TE} {pos : Pos} {n : Str} (he : PE X e te) (hb : attributeBase e n X.env (eval e X.env) = eval e X.env := by rfl) :
    PE X (.Attribute e n pos) (tEf X.K n te) := by
  refine ⟨fun pins s σ H Q I h => ?_⟩
  refine attr_of hb (thn (he.run pins s σ H _ I h) fun u s1 hh => ?_)
  obtain ⟨x, H1, I1, rx, a, C, d, fs, v, ex, T, hno, ha, hd, l, q⟩ := hh
  subst ex
  obtain rfl : u = Value.ref a := rx
  obtain ⟨o, od, mA, J, hn, r, hod, hl⟩ := err_at I1 ha hd
  obtain ⟨u, hu, ru⟩ := RelO.some_of (v := v) (o := mA n) (by rw [← l]; exact r n)
  exact HandSPX.exc_get I1.kIn J T.xf.ga T.xf.gg T.xf.exC (findObj_own T.xf.hdC hno rfl (by rw [hl, hu])) (handed_of ru) ⟨v, H1, I1.tok _, ru, q⟩
/-- what a def promises, met when it is called: which def it is shows in the heap -/
def Does (X : Cx) (CX : CXT) (f : Addr) (vs : List V) (H : Hp) (Q : VK) (E : XK) : Prop :=
  ∃ (k : Nat) (fd : FuncData) (ps : List Str) (sp : Sp), keepIn X.K (.ref f) = true ∧ FnOk X.prog X.w X.K X.mg X.base CX k f fd ps sp ∧ Room k X.A ∧ Binds X.K fd ps [] ∧ sp vs H Q E
/-- e.m() of an error -/
def tEm0 (X : Cx) (CX : CXT) (m : Str) (E : XK) (te : TE) : TE := fun σ H Q => te σ H fun x H1 => ∃ (a C d f : Addr) (fs : List (Str × V)), x = .ref a ∧ ErrC X.K C ∧
  H1 a = some (exo a C (some d)) ∧ H1 d = some (exd d fs) ∧ fs.lookup m = none ∧ findIn X.K (.ref C) m = some (some (.ref f)) ∧ isFn X.K (.ref f) = true ∧ Does X CX f [.ref a] H1 Q E
theorem pe_em0 {CX : CXT} {E : XK} {o : Expr} {m : Str} {ta : TE} {apos pos : Pos} {pl : Sem Bool} (he : PE X o ta) (hx : Passes CX X E)
    (ht : eval (.Call (.Attribute o m apos) [] [] pos) X.env = (do
      let ov ← eval o X.env
      standAt apos.atName
      let (f, first) ← holding [ov] (getMethod ov m pl)
      callWith pos f first (backTo pos (starEach [] X.env)) (backToKw pos (keywordEach [] X.env))) := by rfl) :
    PE X (.Call (.Attribute o m apos) [] [] pos) (tEm0 X CX m E ta) := by
  refine ⟨fun pins s σ H Q I h => ?_⟩
  refine methodCall_KW (pl := pl) (thn (he.run pins s σ H _ I h) fun u s1 hh => ?_) ht
  obtain ⟨x, H1, I1, rx, a, C, d, f, fs, ex, T, ha, hd, l, hf, hfn, k, fd, ps, sp, kp, F, hr, hb, q⟩ := hh
  subst ex
  obtain rfl : u = Value.ref a := rx
  obtain ⟨o, od, mA, J, hn, r, hod, hl⟩ := err_at I1 ha hd
  have hno : mA m = none := RelO.none_of (by rw [← l]; exact r m)
  refine err_meth T I1.kIn J hf hfn (by show (lookIn m od).map _ = _; rw [hl, hno]; rfl) ?_
  exact callWith_K0 (first := [.ref a]) I1.kIn kp (run_fn (us := [.ref a]) (vs := [.ref a]) F hr hb .nil hx I1 (.cons rfl .nil) q)
/-- C(e, ..), an own error made and kept -/
def tMkE (C : Addr) (sp : Sp) (ta : TA) : TE := fun σ H Q => ta σ H fun vs H1 => vs.length ≤ 1000 ∧ ∀ a, H1 a = none → sp (.ref a :: vs) (upd H1 a (exo a C none)) (fun v H2 => v = .non ∧ Q (.ref a) H2) (fun _ _ _ => False)
theorem run_mkE {CX : CXT} {fI : Addr} {k : Nat} {fd : FuncData} {ps : List Str} {sp : Sp} {us : List Value} {vs : List V} {Q : VK} (T : OexC X.K C) (iC : findIn X.K (.ref C) "__init__" = some (some (.ref fI))) (tI : typeIn X.K (.ref fI) = some (.type "function"))
    (F1 : FnOk X.prog X.w X.K X.mg X.base CX k fI fd ps sp) (hr : Room (k + 1) X.A) (hb : Binds X.K fd ps []) (hx : Passes CX X (fun _ _ _ => False)) (I1 : Inv X pins σ H s) (r1 : Vals vs us) (hz : vs.length ≤ 1000)
    (q1 : ∀ a, H a = none → sp (.ref a :: vs) (upd H a (exo a C none)) (fun v H2 => v = .non ∧ Q (.ref a) H2) (fun _ _ _ => False)) :
    wpAny (model X.prog X.w) X.A (call (.ref C) us) (EP X pins σ Q) X.xe s := by
  obtain ⟨nm, q, N, bs, bm, sn, sub, ab, col, dd, k0, k1, k2, k3, k5, hC, hbm⟩ := T.cls
  obtain ⟨hp, g, dr, tk, os⟩ := s
  have sz : hp.objs.size ≤ hp.objs.size + 1 := Nat.le_succ _
  have fresh : H (hp.objs.size + 1) = none := I1.hok.fresh sz
  have pr := q1 (hp.objs.size + 1) fresh
  have keep : ∀ b o, hp.get? b = some o → ((hp.push (kdv_tup us)).push (HandSPX.excO C hp.objs.size)).get? b = some o := fun b o e => Heap.get?_push_of_some _ (Heap.get?_push_of_some _ e)
  have there : ((hp.push (kdv_tup us)).push (HandSPX.excO C hp.objs.size)).get? (hp.objs.size + 1) = some (HandSPX.excO C hp.objs.size) := by heap_get
  have I2 : Inv X pins σ (upd H (hp.objs.size + 1) (exo (hp.objs.size + 1) C none)) ⟨(hp.push (kdv_tup us)).push (HandSPX.excO C hp.objs.size), g, dr, tk, os⟩ :=
    I1.laid (t' := tk) (a := hp.objs.size + 1) (o := exo (hp.objs.size + 1) C none) (h' := (hp.push (kdv_tup us)).push (HandSPX.excO C hp.objs.size)) keep sz (exo_ok there)
  have r2 : Vals (V.ref (hp.objs.size + 1) :: vs) (Value.ref (hp.objs.size + 1) :: us) := .cons rfl r1
  have hl : (Value.ref (hp.objs.size + 1) :: us ++ []).length = ps.length := by
    rw [List.append_nil, ← r2.length]
    exact F1.len _ _ _ _ pr
  have hus : us.length ≤ sizeLine := by
    rw [← Paired.length r1, sizeLine_eq]
    omega
  have hb' := hb ⟨(hp.push (kdv_tup us)).push (HandSPX.excO C hp.objs.size), g, dr, tk, os⟩ (Value.ref (hp.objs.size + 1) :: us) I2.kIn hl
  rw [List.append_nil] at hb'
  refine wpAny_call (HandSPX.call_own F.excBase_ValueError (fun Y => HandSPX.refsVE_contains Y bm hbm) (I1.kIn _ _ hC) (looks_findIn I1.kIn iC) (fun self => bind_fn I1.kIn self tI) hus
    (codeAny_mono (F1.run _ X.stack _ _ ⟨Value.ref (hp.objs.size + 1) :: us, []⟩ (Value.ref (hp.objs.size + 1) :: us) _ _ (fun _ _ _ => False) (hr.make C us []) (I2.env0.make C us []) hb' r2 pr) fun r s' hq' => ?_))
  cases r with
  | error er => exact hx pins σ _ _ er s' I2 hq'
  | ok fl =>
    cases fl with
    | ret u =>
      obtain ⟨v, H2, I3, rv, ev, q3⟩ := I2.after hq'
      subst ev
      -- nothing was tracked at the new place
      exact ⟨rv, ⟨V.ref (hp.objs.size + 1), H2, I3, rfl, q3⟩⟩
    | next => exact False.elim hq'
    | brk => exact False.elim hq'
    | cont => exact False.elim hq'
theorem pe_mkE {CX : CXT} {x : Str} {fI : Addr} {k : Nat} {fd : FuncData} {ps : List Str} {sp : Sp} {e : Expr} {es : List Expr} {ta : TA} {p pos : Pos} (T : OexC X.K C) (iC : findIn X.K (.ref C) "__init__" = some (some (.ref fI))) (tI : typeIn X.K (.ref fI) = some (.type "function"))
    (F1 : FnOk X.prog X.w X.K X.mg X.base CX k fI fd ps sp) (hr : Room (k + 1) X.A) (hb : Binds X.K fd ps []) (hx : Passes CX X (fun _ _ _ => False)) (hg : Gl X x) (hm : X.mg x = some (.ref C)) (ha : PA X (e :: es) ta)
    (hdb : (x == ("__debug__" : Str)) = false := by decide) (he : starEach (e :: es) X.env = (false, eval e X.env) :: starEach es X.env := by rfl) (hpl : (backTo pos (starEach es X.env)).any (·.1) = false := by rfl) :
    PE X (.Call (.Name x p) (e :: es) [] pos) (tMkE C sp ta) := by
  refine ⟨fun pins s σ H Q I h => ?_⟩
  refine wpAny_Call_Name_kw (ld_glob I hg hm ?_ hdb)
  refine callWith_K (h₀ := X.base) I.ok.mod.kin T.kC (thn (ha.run pos pins s σ H _ I h) fun us s1 ⟨vs, H1, I1, r1, hz, q1⟩ => ⟨I1.kIn, ?_⟩) he hpl
  exact run_mkE T iC tI F1 hr hb hx I1 r1 hz q1
/-- a value's type, an error's too -/
inductive TyE (K : Frag) (H : Hp) : V → Value → Prop where
  | x {x : V} {t : Value} (h : TyX K H x t) : TyE K H x t
  | err {a C d : Addr} {fs : List (Str × V)} (T : ErrC K C) (ha : H a = some (exo a C (some d))) (hd : H d = some (exd d fs)) : TyE K H (.ref a) (.ref C)
theorem kit_ofE {x : V} {u t : Value} (I : Inv X pins σ H s) (rx : RelV x u) (ty : TyE X.K H x t) : ∃ P : Heap → Prop, KitX X.K u t P ∧ P s.heap ∧ u ≠ .builtin "__main__.__loader__#opaque" := by
  cases ty with
  | x h => exact kit_of I rx h
  | err T ha hd =>
    cases (show u = Value.ref _ from rx)
    obtain ⟨o, od, mA, J, _⟩ := err_at I ha hd
    exact ⟨_, err_kit T, ⟨o, od, J⟩, fun z => nomatch z⟩
def rIe (K : Frag) : List V → Hp → VK → Prop := fun xs H Q => ∃ (x c : V) (t u : Value) (b : Bool), xs = [x, c] ∧ ClsV c u ∧ TyE K H x t ∧ kitOne K t u = some b ∧ Q (.bl b) H
def rIeT (K : Frag) : List V → Hp → VK → Prop := fun xs H Q => ∃ (x : V) (tp : Addr) (cs : List V) (t : Value) (us : List Value) (b : Bool), xs = [x, .ref tp] ∧ H tp = some (.tup cs) ∧ Paired ClsV cs us ∧ TyE K H x t ∧ kitAny K t us = some b ∧ Q (.bl b) H
theorem call_ie : CallR X (.builtin "isinstance") (rIe X.K) := by
  intro pins s σ H xs us Q I r h
  obtain ⟨x, c, t, u, b, rfl, k, ty, e, q⟩ := h
  obtain ⟨u1, u2, rfl, r1, r2⟩ := vals2 r
  obtain rfl := k.eq r2
  obtain ⟨P, Z, p, hx⟩ := kit_ofE I r1 ty
  exact kia_one Z I.kIn p e hx fun tk => ⟨.bl b, H, I.tok tk, rfl, q⟩
theorem call_ieT : CallR X (.builtin "isinstance") (rIeT X.K) := by
  intro pins s σ H xs us Q I r h
  obtain ⟨x, tp, cs, t, ws, b, rfl, hT, k, ty, e, q⟩ := h
  obtain ⟨u1, u2, rfl, r1, r2⟩ := vals2 r
  cases (show u2 = Value.ref tp from r2)
  obtain ⟨P, Z, p, hx⟩ := kit_ofE I r1 ty
  obtain ⟨_, its, rv, o, h1, h2, n, h3⟩ := (show ObjOk X.prog X.w H s.heap tp (.tup cs) from I.hok tp _ hT)
  obtain rfl := ClsV.all k rv
  obtain ⟨oc, od, dt, sl⟩ := o
  dsimp only at h2 h3
  subst h2 h3
  exact kia_tup Z I.kIn p h1 e hx fun tk => ⟨.bl b, H, I.tok tk, rfl, q⟩
end
end L2.Jk

set_option Elab.async false
set_option linter.all false
set_option maxRecDepth 100000
set_option maxHeartbeats 4000000
/-! Defs and error classes as the head tells them; calls of them. -/
namespace L2.Jk
open PySem PySem.W PySem.Spec PySem.Calls PyProof.Rows

/-! ### what the head says of an error class, by one Bool -/
def oexB (K : Frag) (C : Addr) : Bool := (match K.lookup C with
  | some ⟨.type "type", _, .cls cd, sl⟩ => (match cd.mro, sl.toList with
    | .ref D :: bm, [_, _, _, _, some (.builtin n), _] => decide (D = C) && (decide (n = "ValueError.__new__") && (HandSPX.refsVE bm && (cd.hasDict && !cd.hasDel)))
    | _, _ => false)
  | _ => false) && (He.eqO (findIn K (.ref C) "__setattr__") (some (some (.builtin "object.__setattr__"))) && (decide (subIn K (.ref C) (.type "BaseException") = some true) &&
    (decide (typeIn K (.ref C) = some (.type "type")) && keepIn K (.ref C))))
theorem oexB_ok {K : Frag} {C : Addr} (h : oexB K C = true) : OexC K C := by
  obtain ⟨h1, h⟩ := Bool.and_eq_true_iff.mp h
  obtain ⟨h2, h⟩ := Bool.and_eq_true_iff.mp h
  obtain ⟨h3, h⟩ := Bool.and_eq_true_iff.mp h
  obtain ⟨h4, h5⟩ := Bool.and_eq_true_iff.mp h
  refine ⟨?_, He.eqO_ok h2, of_decide_eq_true h3, of_decide_eq_true h4, h5⟩
  split at h1
  · rename_i dd cd sl ho
    split at h1
    · rename_i D bm k0 k1 k2 k3 n k5 hm hs
      obtain ⟨a1, h1⟩ := Bool.and_eq_true_iff.mp h1
      obtain ⟨a2, h1⟩ := Bool.and_eq_true_iff.mp h1
      obtain ⟨a3, h1⟩ := Bool.and_eq_true_iff.mp h1
      obtain ⟨a4, a5⟩ := Bool.and_eq_true_iff.mp h1
      obtain rfl := of_decide_eq_true a1
      obtain rfl := of_decide_eq_true a2
      obtain ⟨nm, bs, mro, ns, qn, hd, sn, sub, ab, col, del⟩ := cd
      dsimp only at hm a4 a5
      subst hm
      subst a4
      obtain rfl : del = false := by cases del <;> first | rfl | cases a5
      have e : sl = #[k0, k1, k2, k3, some (.builtin "ValueError.__new__"), k5] := by
        obtain ⟨l⟩ := sl
        dsimp only at hs
        rw [hs]
      subst e
      exact ⟨nm, qn, ns, bs, bm, sn, sub, ab, col, dd, k0, k1, k2, k3, k5, ho, a3⟩
    · cases h1
  · cases h1
def errB (K : Frag) (C : Addr) (fs ms : List Str) : Bool := oexB K C && (xfB K C && (He.eqO (findIn K (.ref C) "__class__") (some (some (.builtin "object.__class__"))) &&
  (He.eqO (specialIn K (.builtin "object.__class__") "__get__") (some (some (.builtin "getset_descriptor.__get__"))) && (decide (takesIn K (.builtin "object.__class__") = some true) && (decide (mroIn K C (.type "object") = some true) &&
  ((fs.all fun f => He.eqO (findIn K (.ref C) f) (some none)) && ((ms.all fun m => He.eqO (findIn K (.ref C) m) (some (some (.ref (He.ma K C m)))) && isFn K (.ref (He.ma K C m))))))))))
structure ErrX (K : Frag) (C : Addr) (fs ms : List Str) : Prop where
  ec : ErrC K C
  no : ∀ f ∈ fs, findIn K (.ref C) f = some none
  me : ∀ m ∈ ms, findIn K (.ref C) m = some (some (.ref (He.ma K C m))) ∧ isFn K (.ref (He.ma K C m)) = true
theorem errB_ok {K : Frag} {C : Addr} {fs ms : List Str} (h : errB K C fs ms = true) : ErrX K C fs ms := by
  obtain ⟨h1, h⟩ := Bool.and_eq_true_iff.mp h
  obtain ⟨h2, h⟩ := Bool.and_eq_true_iff.mp h
  obtain ⟨h3, h⟩ := Bool.and_eq_true_iff.mp h
  obtain ⟨h4, h⟩ := Bool.and_eq_true_iff.mp h
  obtain ⟨h5, h⟩ := Bool.and_eq_true_iff.mp h
  obtain ⟨h6, h⟩ := Bool.and_eq_true_iff.mp h
  obtain ⟨h7, h8⟩ := Bool.and_eq_true_iff.mp h
  refine ⟨⟨oexB_ok h1, xfB_ok h2, He.eqO_ok h3, He.eqO_ok h4, of_decide_eq_true h5, of_decide_eq_true h6⟩, fun f hf => He.eqO_ok (List.all_eq_true.mp h7 f hf), fun m hm => ?_⟩
  obtain ⟨a, b⟩ := Bool.and_eq_true_iff.mp (List.all_eq_true.mp h8 m hm)
  exact ⟨He.eqO_ok a, b⟩

/-! ### a def of the module, called by its name -/
structure FnAt (P : Program) (w : World) (K : Frag) (mg : Str → Option Value) (base : Heap) (CX : CXT) (k : Nat) (x : Str) (ps : List Str) (sp : Sp) : Prop where
  ex : ∃ (f : Addr) (fd : FuncData), mg x = some (.ref f) ∧ keepIn K (.ref f) = true ∧ FnOk P w K mg base CX k f fd ps sp ∧ Binds K fd ps []
section
variable {X : Cx} {CX : CXT} {k : Nat} {x : Str} {ps : List Str} {sp : Sp} {E : XK} {e : Expr} {es : List Expr} {t : TA} {p pos : Pos}
theorem pe_fn (G : FnAt X.prog X.w X.K X.mg X.base CX k x ps sp) (hr : Room k X.A) (hx : Passes CX X E) (hg : Gl X x) (ha : PA X (e :: es) t)
    (hdb : (x == ("__debug__" : Str)) = false := by decide) (he : starEach (e :: es) X.env = (false, eval e X.env) :: starEach es X.env := by rfl) (hpl : (backTo pos (starEach es X.env)).any (·.1) = false := by rfl) :
    PE X (.Call (.Name x p) (e :: es) [] pos) (tCall sp [] E t) := by
  obtain ⟨f, fd, hm, kp, F, hb⟩ := G.ex
  exact pe_call F hr hg hm kp hb .nil hx ha hdb he hpl
end
/-! ### an error class, its instances as values -/
/-- at a: an error of the class at C, its dict at d holds fs -/
def mkE (H : Hp) (a C d : Addr) (fs : List (Str × V)) : Hp := upd (upd H d (exd d fs)) a (exo a C (some d))
/-- __init__(self, f): self.f = f -/
def spI1 (C : Addr) (f : Str) : Sp := fun vs H Q _ => ∃ (a : Addr) (v : V), vs = [.ref a, v] ∧ H a = some (exo a C none) ∧ ∀ d, H d = none → d ≠ a → Q .non (mkE H a C d [(f, v)])
def spI2 (C : Addr) (f g : Str) : Sp := fun vs H Q _ => ∃ (a : Addr) (v u : V), vs = [.ref a, v, u] ∧ H a = some (exo a C none) ∧ ∀ d, H d = none → d ≠ a → Q .non (mkE H a C d [(g, u), (f, v)])
def spS (z : Str) : Sp := fun vs H Q _ => ∃ v, vs = [v] ∧ Q (.str z) H
theorem mkE_new {H : Hp} {a C d : Addr} {fs : List (Str × V)} (ne : d ≠ a) : mkE (upd H a (exo a C none)) a C d fs = mkE H a C d fs := by
  funext b
  unfold mkE
  by_cases h : b = a
  · rw [h, upd_same, upd_same]
  · rw [upd_ne h, upd_ne h]
    by_cases h2 : b = d
    · rw [h2, upd_same, upd_same]
    · rw [upd_ne h2, upd_ne h2, upd_ne h]
/-- an error as a value -/
def ErrV (H : Hp) (v : V) (C : Addr) (fs : List (Str × V)) : Prop := ∃ a d, v = .ref a ∧ H a = some (exo a C (some d)) ∧ H d = some (exd d fs)
theorem ErrV.same {H H' : Hp} {v : V} {C : Addr} {fs : List (Str × V)} (h : ErrV H v C fs) (s : Same H H') : ErrV H' v C fs := by
  obtain ⟨a, d, e, h1, h2⟩ := h
  exact ⟨a, d, e, s _ _ h1, s _ _ h2⟩
theorem mkE_same {H : Hp} {a C d : Addr} {fs : List (Str × V)} (ha : H a = none) (hd : H d = none) : Same H (mkE H a C d fs) := fun b o e => by
  unfold mkE
  rw [upd_ne (ne_of_none e ha), upd_ne (ne_of_none e hd)]
  exact e
theorem mkE_err {H : Hp} {a C d : Addr} {fs : List (Str × V)} (ne : d ≠ a) : ErrV (mkE H a C d fs) (.ref a) C fs :=
  ⟨a, d, rfl, upd_same, by unfold mkE; rw [upd_ne ne, upd_same]⟩
def IniOk (P : Program) (w : World) (K : Frag) (mg : Str → Option Value) (base : Heap) (C : Addr) (fs : List Str) (fd : FuncData) : Prop := match fs with
  | [f] => FnOk P w K mg base CX0 1 (He.ma K C "__init__") fd ["self", f] (spI1 C f)
  | [f, g] => FnOk P w K mg base CX0 1 (He.ma K C "__init__") fd ["self", f, g] (spI2 C f g)
  | _ => False
/-- the class x, its __init__ (f or f, g), its told -/
structure ErrAt (P : Program) (w : World) (K : Frag) (mg : Str → Option Value) (base : Heap) (x : Str) (C : Addr) (fs : List Str) (z : Str) : Prop where
  mgC : mg x = some (.ref C)
  ex : ErrX K C fs ["told"]
  ini : findIn K (.ref C) "__init__" = some (some (.ref (He.ma K C "__init__"))) ∧ typeIn K (.ref (He.ma K C "__init__")) = some (.type "function")
  iok : ∃ fd, Binds K fd ("self" :: fs) [] ∧ IniOk P w K mg base C fs fd
  tok : ∃ fd, Binds K fd ["self"] [] ∧ keepIn K (.ref (He.ma K C "told")) = true ∧ FnOk P w K mg base CX0 1 (He.ma K C "told") fd ["self"] (spS z)
/-- the fields of an error that is made, as its dict holds them -/
def fldE : List Str → List V → List (Str × V)
  | [f], [v] => [(f, v)]
  | [f, g], [v, u] => [(g, u), (f, v)]
  | _, _ => []
def tErr (C : Addr) (fs : List Str) (ta : TA) : TE := fun σ H Q => ta σ H fun vs H1 => vs.length = fs.length ∧ ∀ v H2, Same H1 H2 → ErrV H2 v C (fldE fs vs) → Q v H2
section
variable {X : Cx} {x z : Str} {C : Addr} {fs : List Str} {e : Expr} {es : List Expr} {ta : TA} {p pos : Pos}
theorem pe_err (T : ErrAt X.prog X.w X.K X.mg X.base x C fs z) (hr : Room 2 X.A) (hx : Passes CX0 X (fun _ _ _ => False)) (hg : Gl X x) (ha : PA X (e :: es) ta)
    (hdb : (x == ("__debug__" : Str)) = false := by decide) (he : starEach (e :: es) X.env = (false, eval e X.env) :: starEach es X.env := by rfl) (hpl : (backTo pos (starEach es X.env)).any (·.1) = false := by rfl) :
    PE X (.Call (.Name x p) (e :: es) [] pos) (tErr C fs ta) := by
  obtain ⟨fd, hb, iok⟩ := T.iok
  refine ⟨fun pins s σ H Q I h => ?_⟩
  refine wpAny_Call_Name_kw (ld_glob I hg T.mgC ?_ hdb)
  refine callWith_K (h₀ := X.base) I.ok.mod.kin T.ex.ec.ox.kC (thn (ha.run pos pins s σ H _ I h) fun us s1 ⟨vs, H1, I1, r1, hz, q1⟩ => ⟨I1.kIn, ?_⟩) he hpl
  have ox := T.ex.ec.ox
  have i1 := T.ini.1
  have i2 := T.ini.2
  clear T
  match fs, vs, iok, hz, hb, q1 with
  | [f], [v], iok, _, hb, q1 =>
    exact run_mkE ox i1 i2 iok hr hb hx I1 r1 (by show 1 ≤ 1000; decide) fun a ha1 => ⟨a, v, rfl, upd_same, fun d hd ne => ⟨rfl, by
      rw [upd_ne ne] at hd
      rw [mkE_new ne]
      exact q1 _ _ (mkE_same ha1 hd) (mkE_err ne)⟩⟩
  | [f, g], [v, u], iok, _, hb, q1 =>
    exact run_mkE ox i1 i2 iok hr hb hx I1 r1 (by show 2 ≤ 1000; decide) fun a ha1 => ⟨a, v, u, rfl, upd_same, fun d hd ne => ⟨rfl, by
      rw [upd_ne ne] at hd
      rw [mkE_new ne]
      exact q1 _ _ (mkE_same ha1 hd) (mkE_err ne)⟩⟩
end

/-! ### the bodies of such a class's methods -/
section
variable {P : Program} {w : World} {K : Frag} {mg : Str → Option Value} {base : Heap} {x qual f g z : Str} {pa : Arguments} {sc : Scope} {dvs : List V} {kws : List (Str × V)} {fA : Addr} {fd : FuncData} {C : Addr} {p1 p2 p3 p4 q1 q2 q3 q4 : Pos} {j : Nat}
theorem ok_told {kk} (F : FunD K x qual pa [.Return (some (.Constant (.str z) kk p1)) p2] sc dvs kws fA fd) (S : FnScope ["self"] ["self"] sc) : FnOk P w K mg base CX0 1 fA fd ["self"] (spS z) := by
  refine F.ok S (fun vs H Q E h => ?_) (fun cdv A outer s H vs Q E hr h => ⟨_, PSs.nox (pss_one (ps_ret pe_str)), ?_⟩)
  · obtain ⟨v, rfl, _⟩ := h
    rfl
  · obtain ⟨v, rfl, q⟩ := h
    exact q
theorem ok_init1 (F : FunD K x qual pa [.Assign [.Attribute (.Name "self" p1) f p2] (.Name f p3) p4] sc dvs kws fA fd) (S : FnScope ["self", f] ["self", f] sc) (T : ErrX K C [f] ["told"])
    (ls : sc.names.lookup ("self" : Str) = some NameKind.local) (lf : sc.names.lookup f = some NameKind.local) (d1 : (f == ("__debug__" : Str)) = false) (d2 : (f == ("__classdict__" : Str)) = false) : FnOk P w K mg base CX0 1 fA fd ["self", f] (spI1 C f) := by
  refine F.ok S (fun vs H Q E h => ?_) (fun cdv A outer s H vs Q E hr h => ⟨_, PSs.nox (pss_one (ps_ost (pe_var (i := 0) rfl (.inl ls)) (pe_var (i := 1) rfl (.inl lf) d1 d2))), ?_⟩)
  · obtain ⟨a, v, rfl, _⟩ := h
    rfl
  · obtain ⟨a, v, rfl, ha, q⟩ := h
    exact ⟨_, rfl, _, rfl, a, C, rfl, T.ec.ox, T.no f (List.mem_singleton_self _), .inl ⟨ha, q⟩⟩
theorem ok_init2 (F : FunD K x qual pa [.Assign [.Attribute (.Name "self" p1) f p2] (.Name f p3) p4, .Assign [.Attribute (.Name "self" q1) g q2] (.Name g q3) q4] sc dvs kws fA fd) (S : FnScope ["self", f, g] ["self", f, g] sc) (T : ErrX K C [f, g] ["told"])
    (ls : sc.names.lookup ("self" : Str) = some NameKind.local) (lf : sc.names.lookup f = some NameKind.local) (d1 : (f == ("__debug__" : Str)) = false) (d2 : (f == ("__classdict__" : Str)) = false)
    (lg : sc.names.lookup g = some NameKind.local) (d3 : (g == ("__debug__" : Str)) = false) (d4 : (g == ("__classdict__" : Str)) = false) : FnOk P w K mg base CX0 1 fA fd ["self", f, g] (spI2 C f g) := by
  refine F.ok S (fun vs H Q E h => ?_) (fun cdv A outer s H vs Q E hr h => ⟨_, PSs.nox (pss_cons (ps_ost (pe_var (i := 0) rfl (.inl ls)) (pe_var (i := 1) rfl (.inl lf) d1 d2))
    (pss_one (ps_ost (pe_var (i := 0) rfl (.inl ls)) (pe_var (i := 2) rfl (.inl lg) d3 d4)))), ?_⟩)
  · obtain ⟨a, v, u, rfl, _⟩ := h
    rfl
  · obtain ⟨a, v, u, rfl, ha, q⟩ := h
    refine ⟨_, rfl, _, rfl, a, C, rfl, T.ec.ox, T.no f (List.mem_cons_self ..), .inl ⟨ha, fun d hd ne => ?_⟩⟩
    refine ⟨_, rfl, _, rfl, a, C, rfl, T.ec.ox, T.no g (List.mem_cons_of_mem _ (List.mem_singleton_self _)), .inr ⟨d, _, upd_same, by rw [upd_ne ne, upd_same], by show 1 ≤ 900; decide, ?_⟩⟩
    have z := q d hd ne
    have e : mkE H a C d [(g, u), (f, v)] = upd (upd (upd H d (exd d [(f, v)])) a (exo a C (some d))) d (exd d [(g, u), (f, v)]) := by
      funext b
      unfold mkE
      by_cases h1 : b = a
      · rw [h1, upd_same, upd_ne (Ne.symm ne), upd_same]
      · by_cases h2 : b = d
        · rw [h2, upd_ne ne, upd_same, upd_same]
        · rw [upd_ne h1, upd_ne h2, upd_ne h2, upd_ne h1, upd_ne h2]
    rw [e] at z
    exact z
end
end L2.Jk

set_option Elab.async false
set_option linter.all false
set_option maxRecDepth 100000
set_option maxHeartbeats 4000000
/-! A few operations over lists that may be read only; displays whose heap behind is not told but for what is new. -/
namespace L2.Jk
open PySem PySem.W PySem.Spec PySem.Calls PyProof.Rows

section
variable {X : Cx}
/-- xs + ys, whatever lists they are -/
def rCatS (K : Frag) : R2 := fun x y H Q => ∃ l b xs zs, x = .ref l ∧ y = .ref b ∧ SqL K H l xs ∧ SqL K H b zs ∧ xs.length + zs.length ≤ sizeLine ∧ ∀ p H', H p = none → Same H H' → H' p = some (.lst (xs ++ zs)) → Q (.ref p) H'
theorem op_catS : OpR X (binaryOp .Add) (rCatS X.K) := by
  intro pins s σ H x y v u Q I rx ry h
  obtain ⟨l, b, xs, zs, rfl, rfl, hl, hb, hz, q⟩ := h
  cases rx
  cases ry
  obtain ⟨i1, r1, ⟨o1, n1, g1, c1, d1, e1⟩, z1⟩ := I.list hl
  obtain ⟨i2, r2, ⟨o2, n2, g2, c2, d2, e2⟩, z2⟩ := I.list hb
  obtain ⟨k1, f1, t1, s1⟩ := o1
  obtain ⟨k2, f2, t2, s2⟩ := o2
  dsimp only at c1 d1 e1 c2 d2 e2
  subst c1 d1 e1 c2 d2 e2
  have hs : i1.length + i2.length ≤ sizeLine := by rw [← r1.length, ← r2.length]; exact hz
  refine concat_meets ⟨_, g1, rfl⟩ ⟨_, g2, rfl⟩ noFill_list_add seq_list_add PySem.F.slot_list_add PySem.F.entry_list_add (PySem.F.args_list_add_2 _ _)
    (list_addW l b i1.toArray i2.toArray n1 n2 none none s1 s2 (by simpa using hs)) ⟨g1, g2, ?_⟩
  rw [show i1.toArray ++ i2.toArray = (i1 ++ i2).toArray by simp]
  refine ⟨.ref _, _, I.lnew (t' := s.toks) (r1.append r2) (by rw [List.length_append]; exact hz), rfl, q _ _ I.fresh (fun c o z => ?_) upd_same⟩
  rw [upd_ne (ne_of_none z I.fresh)]
  exact z
/-- a display: where it stands is new, all else as before -/
def tLstS (t : TA) : TE := fun σ H Q => t σ H fun xs H1 => xs.length ≤ 1000 ∧ ∀ p H', H1 p = none → Same H1 H' → H' p = some (.lst xs) → Q (.ref p) H'
def tTupS (t : TA) : TE := fun σ H Q => t σ H fun xs H1 => xs.length ≤ 1000 ∧ ∀ p H', H1 p = none → Same H1 H' → H' p = some (.tup xs) → Q (.ref p) H'
theorem same_upd {H : Hp} {p : Addr} {o : HO} (h : H p = none) : Same H (upd H p o) := fun c u z => by
  rw [upd_ne (ne_of_none z h)]
  exact z
theorem pe_lstS {es : List Expr} {t : TA} {pos : Pos} (ha : PA X es t) : PE X (.List es pos) (tLstS t) := by
  constructor
  intro pins s σ H Q I h
  refine wpAny_List_spliced (thn (ha.run pos pins s σ H _ I h) fun us s1 ⟨xs, H1, I1, r, z, q⟩ => ?_)
  have z' := Nat.le_of_lt (small1000 z)
  have n : H1 s1.heap.objs.size = none := I1.fresh
  exact ⟨by rw [← r.length]; exact z', .ref s1.heap.objs.size, _, I1.lnew (t' := s1.toks) r z', rfl, q _ _ n (same_upd n) upd_same⟩
theorem pe_tupS {es : List Expr} {t : TA} {pos : Pos} {k} (ha : PA X es t) : PE X (.Tuple es k pos) (tTupS t) := by
  constructor
  intro pins s σ H Q I h
  refine wpAny_Tuple_spliced (thn (ha.run pos pins s σ H _ I h) fun us s1 ⟨xs, H1, I1, r, z, q⟩ => ?_)
  have z' := Nat.le_of_lt (small1000 z)
  have n : H1 s1.heap.objs.size = none := I1.fresh
  refine ⟨by rw [← r.length]; exact z', .ref s1.heap.objs.size, _, I1.laid (t' := s1.toks) (o := .tup xs) (fun b u e => Heap.get?_push_of_some _ e) (Nat.le_refl _) ?_, rfl, q _ _ n (same_upd n) upd_same⟩
  exact ⟨z', us, r, IsTup.new _ _⟩
/-- xs[lo:hi] of a list -/
def rSlS (K : Frag) : V → Option Int → Option Int → Hp → VK → Prop := fun x lo hi H Q => ∃ a xs, x = .ref a ∧ SqL K H a xs ∧ ∀ p H', H p = none → Same H H' → H' p = some (.lst (cutV xs lo hi)) → Q (.ref p) H'
theorem sl_listS : SlR X (rSlS X.K) := by
  intro pins s σ H x v vl vu lo hi sl Q I rx hs pl pu h
  obtain ⟨a, xs, e, hx, q⟩ := h
  exact sl_list pins s σ H x v vl vu lo hi sl Q I rx hs pl pu ⟨a, xs, e, hx, fun p hp => q p _ hp (same_upd hp) upd_same⟩
end
/-- what may change at one place alone -/
def But (a : Addr) (H H' : Hp) : Prop := ∀ c o, c ≠ a → H c = some o → H' c = some o
theorem But.of_same {a : Addr} {H H' : Hp} (s : Same H H') : But a H H' := fun c o _ h => s c o h
theorem But.refl (a : Addr) (H : Hp) : But a H H := fun _ _ _ h => h
theorem But.trans {a : Addr} {H H1 H2 : Hp} (x : But a H H1) (y : But a H1 H2) : But a H H2 := fun c o n h => y c o n (x c o n h)
theorem but_upd (H : Hp) (a : Addr) (o : HO) : But a H (upd H a o) := fun c u n h => by
  rw [upd_ne n]
  exact h
/-! ### data stays -/
theorem SqT.same {K : Frag} {H H' : Hp} {a : Addr} {xs : List V} (e : Same H H') (h : SqT K H a xs) : SqT K H' a xs := by
  rcases h with (h | ⟨o, h⟩) | h
  · exact .inl (.inl (e _ _ h))
  · exact .inl (.inr ⟨o, e _ _ h⟩)
  · exact .inr h
/-- a class or a def of the module, a built-in type, as a value -/
theorem pe_gref {X : Cx} {x : Str} {a : Addr} {pos : Pos} (hg : Gl X x) (hm : X.mg x = some (.ref a)) (hd : (x == ("__debug__" : Str)) = false := by decide) : PE X (.Name x pos) (tC (.ref a)) := pe_glob (v := .ref a) hg hm rfl hd
theorem pe_bty {X : Cx} {x : Str} {n : String} {pos : Pos} (hg : Gl X x) (hm : X.mg x = none) (hv : bootBuiltins x = some (.type n)) (hn : x ≠ "__name__" := by decide) (hd : (x == ("__debug__" : Str)) = false := by decide) : PE X (.Name x pos) (tC (.ty n)) :=
  pe_bltn (v := .ty n) hg hm hv rfl hn hd
/-! ### a new list that a comprehension fills: fm i is what it holds behind i turns -/
def LcP (H1 : Hp) (D : Addr) (fm : Nat → List V) (i : Nat) (H : Hp) : Prop := Same H1 H ∧ H1 D = none ∧ H D = some (.lst (fm i)) ∧ (fm i).length ≤ i
theorem LcP.start {H1 : Hp} {D : Addr} {fm : Nat → List V} (h : H1 D = none) (e : fm 0 = []) : LcP H1 D fm 0 (upd H1 D (.lst [])) :=
  ⟨same_upd h, h, by rw [upd_same, e], by rw [e]; exact Nat.le_refl _⟩
theorem LcP.put {H1 H H4 : Hp} {D : Addr} {fm : Nat → List V} {i : Nat} {y : V} (p : LcP H1 D fm i H) (s : Same H H4) (e : fm (i + 1) = fm i ++ [y]) (hi : i < 10000) :
    ∃ acc, H4 D = some (.lst acc) ∧ acc.length < sizeLine ∧ LcP H1 D fm (i + 1) (upd H4 D (.lst (acc ++ [y]))) := by
  obtain ⟨s0, n, d, l⟩ := p
  refine ⟨fm i, s _ _ d, ?_, fun c o z => ?_, n, by rw [upd_same, e], by rw [e, List.length_append, List.length_singleton]; omega⟩
  · rw [sizeLine_eq]
    omega
  · rw [upd_ne (ne_of_none z n)]
    exact s _ _ (s0 _ _ z)
theorem LcP.pass {H1 H H4 : Hp} {D : Addr} {fm : Nat → List V} {i : Nat} (p : LcP H1 D fm i H) (s : Same H H4) (e : fm (i + 1) = fm i) : LcP H1 D fm (i + 1) H4 := by
  obtain ⟨s0, n, d, l⟩ := p
  exact ⟨s0.trans s, n, by rw [e]; exact s _ _ d, by rw [e]; omega⟩
/-! ### data that stays where one place alone changes -/
def Per (a : Addr) (K : Frag) (H : Hp) (x : V) (d : PyData) : Prop := ∀ H', But a H H' → Dp K H' x d
theorem Per.but {a : Addr} {K : Frag} {H H1 : Hp} {x : V} {d : PyData} (p : Per a K H x d) (b : But a H H1) : Per a K H1 x d := fun H' b' => p H' (b.trans b')
theorem Per.same {a : Addr} {K : Frag} {H H1 : Hp} {x : V} {d : PyData} (p : Per a K H x d) (s : Same H H1) : Per a K H1 x d := p.but (But.of_same s)
theorem Per.dp {a : Addr} {K : Frag} {H : Hp} {x : V} {d : PyData} (p : Per a K H x d) : Dp K H x d := p H (But.refl a H)
theorem Per.lst {a p : Addr} {K : Frag} {H : Hp} {xs : List V} {ds : List PyData} (ne : p ≠ a) (h : H p = some (.lst xs)) (q : ∀ H', But a H H' → DpAll K H' xs ds) : Per a K H (.ref p) (.list ds) :=
  fun H' b => .lst (SqL.of (b _ _ ne h)) (q H' b)
theorem Per.tup {a p : Addr} {K : Frag} {H : Hp} {xs : List V} {ds : List PyData} (ne : p ≠ a) (h : H p = some (.tup xs)) (q : ∀ H', But a H H' → DpAll K H' xs ds) : Per a K H (.ref p) (.tuple ds) :=
  fun H' b => .tup (SqT.of (b _ _ ne h)) (q H' b)
theorem dp_one {K : Frag} {H : Hp} {p : Addr} {x : V} {d : PyData} (h : H p = some (.lst [x])) (q : Dp K H x d) : Dp K H (.ref p) (.list [d]) := .lst (SqL.of h) (.cons q .nil)
theorem dp_two {K : Frag} {H : Hp} {p : Addr} {x y : V} {d e : PyData} (h : H p = some (.lst [x, y])) (q : Dp K H x d) (r : Dp K H y e) : Dp K H (.ref p) (.list [d, e]) := .lst (SqL.of h) (.cons q (.cons r .nil))
theorem eqv_same {d : PyData} (h : SeqAt.shaped d = true) : PyData.eqv d d = true := SeqAt.eqv_refl d (SeqAt.canLay_of_shaped h)
theorem ne_new {H : Hp} {a b : Addr} {o : HO} (h : H a = some o) (n : H b = none) : b ≠ a := Ne.symm (ne_of_none h n)
end L2.Jk

set_option Elab.async false
set_option linter.all false
set_option maxRecDepth 100000
set_option maxHeartbeats 4000000
/-! == and != of instances by the text's own __eq__, whatever it answers. -/
namespace L2.Jk
open PySem PySem.W PySem.Spec PySem.Calls PyProof.Rows

/-! ### what the head says of a class with an own __eq__ and no __ne__, by one Bool -/
def eqcB (K : Frag) (C : Addr) : Bool := He.eqO (findIn K (.ref C) "__eq__") (some (some (.ref (He.ma K C "__eq__")))) && (isFn K (.ref (He.ma K C "__eq__")) && (match K.lookup C with
  | some ⟨.type "type", _, .cls cd, sl⟩ => (match cd.mro, sl.toList with
    | .ref D :: bm, [_, _, _, _, some (.builtin _), _] => decide (D = C) && (decide (bm = [.type "object"]) && (!cd.hasDel && (nsOkIn K cd.ns && (decide (nsIn K cd.ns "__eq__" = some (some (.ref (He.ma K C "__eq__")))) && decide (nsIn K cd.ns "__ne__" = some none)))))
    | _, _ => false)
  | _ => false))
structure EqcC (K : Frag) (C : Addr) : Prop where
  find : findIn K (.ref C) "__eq__" = some (some (.ref (He.ma K C "__eq__")))
  fn : isFn K (.ref (He.ma K C "__eq__")) = true
  cls : ∃ nm q N bs hdct sn sub ab col dd k0 k1 k2 k3 k5 nid, K.lookup C = some (excClassObj nm q C N bs [.type "object"] hdct sn sub ab col dd k0 k1 k2 k3 k5 nid) ∧ nsOkIn K N = true ∧
    nsIn K N "__eq__" = some (some (.ref (He.ma K C "__eq__"))) ∧ nsIn K N "__ne__" = some none
theorem eqcB_ok {K : Frag} {C : Addr} (h : eqcB K C = true) : EqcC K C := by
  obtain ⟨h1, h⟩ := Bool.and_eq_true_iff.mp h
  obtain ⟨h2, h3⟩ := Bool.and_eq_true_iff.mp h
  refine ⟨He.eqO_ok h1, h2, ?_⟩
  split at h3
  · rename_i dd cd sl ho
    split at h3
    · rename_i D bm k0 k1 k2 k3 n k5 hm hs
      obtain ⟨a1, h3⟩ := Bool.and_eq_true_iff.mp h3
      obtain ⟨a2, h3⟩ := Bool.and_eq_true_iff.mp h3
      obtain ⟨a3, h3⟩ := Bool.and_eq_true_iff.mp h3
      obtain ⟨a4, h3⟩ := Bool.and_eq_true_iff.mp h3
      obtain ⟨a5, a6⟩ := Bool.and_eq_true_iff.mp h3
      obtain rfl := of_decide_eq_true a1
      obtain rfl := of_decide_eq_true a2
      obtain ⟨nm, bs, mro, ns, qn, hd, sn, sub, ab, col, del⟩ := cd
      dsimp only at hm a3 a4 a5 a6
      subst hm
      obtain rfl : del = false := by cases del <;> first | rfl | cases a3
      have e : sl = #[k0, k1, k2, k3, some (.builtin n), k5] := by
        obtain ⟨l⟩ := sl
        dsimp only at hs
        rw [hs]
      subst e
      exact ⟨nm, qn, ns, bs, hd, sn, sub, ab, col, dd, k0, k1, k2, k3, k5, n, ho, a4, of_decide_eq_true a5, of_decide_eq_true a6⟩
    · cases h3
  · cases h3

section
variable {X : Cx} {CX : CXT} {E : XK}
/-- x == y, x an instance with an own __eq__: what that answers -/
def rEqO (X : Cx) (CX : CXT) (E : XK) : R2 := fun x y H Q => ∃ (a C dx : Addr) (fs : List (Str × V)) (t : Value), x = .ref a ∧ H a = some (.ins C dx fs) ∧ EqcC X.K C ∧ TyE X.K H y t ∧ notFirst X.K C t = true ∧
  Does X CX (He.ma X.K C "__eq__") [x, y] H (fun v H' => ∃ b, v = .bl b ∧ Q (.bl b) H') E
theorem op_eqO (hx : Passes CX X E) : OpR X (compareOp .Eq) (rEqO X CX E) := by
  intro pins s σ H x y v u Q I rx ry h
  obtain ⟨a, C, dx, fs, t, rfl, ha, T, ty, nf, k, fd, ps, sp, kp, F, hr, hb, q⟩ := h
  cases rx
  obtain ⟨mA, J, _⟩ := ins_get I.hok ha
  obtain ⟨od, J, _⟩ := J.look
  obtain ⟨m, hF⟩ := I.fr
  obtain ⟨P, Z, p, _⟩ := kit_ofE I ry ty
  have hty : Looks (model X.prog X.w) s.heap (typeOf u) t := Z.ty _ _ I.kIn p
  show wpAny (model X.prog X.w) X.A (richCompare .Eq (.ref a) u) (EP X pins σ Q) X.xe s
  refine cmp_K (op := .Eq) (tb := t) hr.units0 hF I.ok.mod.kin J hty nf T.find T.fn ?_
  refine wpAny_mono (run_fn (us := [.ref a, u]) (vs := [.ref a, y]) F hr hb .nil hx I (.cons rfl (.cons ry .nil)) q) (fun z s' hz => ?_) fun _ _ e => e
  obtain ⟨v', H', I', r', b, rfl, q'⟩ := hz
  obtain rfl : z = Value.bool b := r'
  exact ⟨.bl b, H', I', rfl, q'⟩
theorem ns_at_of {K : Frag} {h : Heap} {N : Addr} {mN : Str → Option Value} {n : Str} {v : Value} (X : K.In h) (G : h.Ns N mN) (e : nsIn K N n = some (some v)) : mN n = some v := by
  obtain ⟨o, es, ep, ho, hd, _, hf⟩ := G
  unfold nsIn at e
  split at e
  · rename_i q
    have z := X _ _ q
    rw [ho] at z
    cases z
    cases hd
    split at e
    · rename_i en he
      have ev : en.val = v := Option.some.inj (Option.some.inj e)
      rw [← hf]
      unfold nsFind findBy
      rw [← Array.find?_toList, he]
      exact congrArg some ev
    · split at e <;> cases e
  · cases e
/-- a call below a builtin -/
theorem run_in1 {k : Nat} {f : Addr} {fd : FuncData} {ps : List Str} {sp : Sp} {pins : List (Addr × Obj)} {σ : St} {H : Hp} {s : Shared} {Q : VK} {us : List Value} {vs : List V} (F : FnOk X.prog X.w X.K X.mg X.base CX k f fd ps sp) (hr : Room k X.A.in1)
    (hb : Binds X.K fd ps []) (hx : Passes CX X E) (I : Inv X pins σ H s) (r : Vals vs us) (h : sp vs H Q E) : wpAny (model X.prog X.w) X.A.in1 (call (.ref f) us) (EP X pins σ Q) X.xe s := by
  have hl : us.length = ps.length := by rw [← r.length]; exact F.len _ _ _ _ h
  have hb' := hb s us I.kIn (by rw [List.append_nil]; exact hl)
  rw [List.append_nil] at hb'
  refine wpAny_call (codeAny_mono (F.run X.A.in1 X.stack s H ⟨us, []⟩ us vs Q E hr I.env0.in1 hb' r h) fun r s' hq => ?_)
  cases r with
  | error e => exact hx pins σ H s e s' I hq
  | ok fl =>
    cases fl with
    | ret u => exact I.after hq
    | next => exact False.elim hq
    | brk => exact False.elim hq
    | cont => exact False.elim hq
/-- x != y, both instances of the class at C -/
def rNeO (X : Cx) (CX : CXT) (E : XK) : R2 := fun x y H Q => ∃ (a b C dx dy : Addr) (fs gs : List (Str × V)), x = .ref a ∧ y = .ref b ∧ H a = some (.ins C dx fs) ∧ H b = some (.ins C dy gs) ∧ EqcC X.K C ∧
  ∃ (k : Nat) (fd : FuncData) (ps : List Str) (sp : Sp), keepIn X.K (.ref (He.ma X.K C "__eq__")) = true ∧ FnOk X.prog X.w X.K X.mg X.base CX k (He.ma X.K C "__eq__") fd ps sp ∧ Room (k + 1) X.A ∧ Binds X.K fd ps [] ∧ sp [x, y] H (fun v H' => ∃ b, v = .bl b ∧ Q (.bl !b) H') E
theorem op_neO (hx : Passes CX X E) : OpR X (compareOp .NotEq) (rNeO X CX E) := by
  intro pins s σ H x y v u Q I rx ry h
  obtain ⟨a, b, C, dx, dy, fs, gs, rfl, rfl, ha, hb', T, k, fd, ps, sp, kp, G, hr, hb, q⟩ := h
  cases rx
  cases ry
  obtain ⟨mA, J, _⟩ := ins_get I.hok ha
  obtain ⟨mB, J', _⟩ := ins_get I.hok hb'
  obtain ⟨od, J, _⟩ := J.look
  obtain ⟨od', J', _⟩ := J'.look
  obtain ⟨nm, qn, N, bs, hdct, sn, sub, ab, col, dd, k0, k1, k2, k3, k5, nid, hC, ok, ne1, ne2⟩ := T.cls
  have hn : s.heap.Ns N (s.heap.nsMap N) := .of_isNs (isNs_of_in I.kIn ok)
  obtain ⟨of, hof, hcl⟩ := Option.map_eq_some_iff.mp (show (X.K.lookup (He.ma X.K C "__eq__")).map (·.cls) = some (.type "function") from beq_iff_eq.mp T.fn)
  have own : s.heap.OwnEqNoNe a C (He.ma X.K C "__eq__") "object" [.type "object"] := ⟨_, of, nm, qn, N, bs, hdct, sn, sub, ab, col, dd, k0, k1, k2, k3, k5, nid, _, _, J.at_, rfl, I.kIn _ _ hC, hn, ns_at_of I.kIn hn ne1,
    I.kIn _ _ hof, hcl, F.cmp_object.mro, F.cmp_object.eq.lookup, ns_none_of I.kIn hn ne2⟩
  obtain ⟨hp, g, d, tk, os⟩ := s
  refine compareOp_ne_ownEq F.cmp_object own J'.at_ rfl (by have := hr.units; omega) ?_
  refine wpAny_mono (run_in1 (us := [.ref a, .ref b]) (vs := [.ref a, .ref b]) G hr.in1 hb hx I (.cons rfl (.cons rfl .nil)) q) (fun z s' hz => ?_) fun _ _ e => e
  obtain ⟨v', H', I', r', b', rfl, q'⟩ := hz
  obtain rfl : z = Value.bool b' := r'
  exact ⟨b', rfl, .bl !b', H', I', rfl, q'⟩
end
end L2.Jk

set_option Elab.async false
set_option linter.all false
set_option maxRecDepth 100000
set_option maxHeartbeats 0
namespace L2.K51
open PySem PySem.W PySem.Spec PySem.Calls PyProof.Rows L2.Jk
def top (i : Nat) : Stmt := PySem.Challenge.pw_jointkeys_k51_wishes_stretches_and_mends.main.body.getD i (.Pass ⟨0, 0, 0, 0⟩)
abbrev CA (K : Frag) (x : Str) : Addr := He.ga K x

def fn : List He.DefD := [⟨("Pair", some "__init__"), "__init__", "Pair.__init__", defArgs (inClass (top 4) 0), defBody (inClass (top 4) 0), defScope (inClass (top 4) 0), [], []⟩,
  ⟨("Pair", some "__eq__"), "__eq__", "Pair.__eq__", defArgs (inClass (top 4) 1), defBody (inClass (top 4) 1), defScope (inClass (top 4) 1), [], []⟩,
  ⟨("Wish", some "__init__"), "__init__", "Wish.__init__", defArgs (inClass (top 6) 0), defBody (inClass (top 6) 0), defScope (inClass (top 6) 0), [], []⟩,
  ⟨("Wish", some "__eq__"), "__eq__", "Wish.__eq__", defArgs (inClass (top 6) 1), defBody (inClass (top 6) 1), defScope (inClass (top 6) 1), [], []⟩,
  ⟨("Stretch", some "__init__"), "__init__", "Stretch.__init__", defArgs (inClass (top 7) 0), defBody (inClass (top 7) 0), defScope (inClass (top 7) 0), [], []⟩,
  ⟨("Stretch", some "__eq__"), "__eq__", "Stretch.__eq__", defArgs (inClass (top 7) 1), defBody (inClass (top 7) 1), defScope (inClass (top 7) 1), [], []⟩,
  ⟨("Mend", some "__init__"), "__init__", "Mend.__init__", defArgs (inClass (top 8) 0), defBody (inClass (top 8) 0), defScope (inClass (top 8) 0), [], []⟩,
  ⟨("Mend", some "__eq__"), "__eq__", "Mend.__eq__", defArgs (inClass (top 8) 1), defBody (inClass (top 8) 1), defScope (inClass (top 8) 1), [], []⟩,
  ⟨("is_sequence", none), "is_sequence", "is_sequence", defArgs (top 1), defBody (top 1), defScope (top 1), [], []⟩,
  ⟨("as_tuples", none), "as_tuples", "as_tuples", defArgs (top 3), defBody (top 3), defScope (top 3), [], []⟩,
  ⟨("_law_mixed", none), "_law_mixed", "_law_mixed", defArgs (top 10), defBody (top 10), defScope (top 10), [], []⟩,
  ⟨("_law_source", none), "_law_source", "_law_source", defArgs (top 11), defBody (top 11), defScope (top 11), [], []⟩,
  ⟨("_law_take", none), "_law_take", "_law_take", defArgs (top 12), defBody (top 12), defScope (top 12), [], []⟩,
  ⟨("_law_pick", none), "_law_pick", "_law_pick", defArgs (top 13), defBody (top 13), defScope (top 13), [], []⟩,
  ⟨("_law_pair", none), "_law_pair", "_law_pair", defArgs (top 14), defBody (top 14), defScope (top 14), [], []⟩,
  ⟨("_law_wish_right", none), "_law_wish_right", "_law_wish_right", defArgs (top 15), defBody (top 15), defScope (top 15), [], []⟩,
  ⟨("_law_stretch_right", none), "_law_stretch_right", "_law_stretch_right", defArgs (top 16), defBody (top 16), defScope (top 16), [], []⟩,
  ⟨("law", none), "law", "law", defArgs (top 17), defBody (top 17), defScope (top 17), [], []⟩]

def fa : List He.Fa := [.glo "Pair", .glo "Wish", .glo "Stretch", .glo "Mend", .glo "is_sequence", .glo "as_tuples", .glo "_law_mixed", .glo "_law_source", .glo "_law_take", .glo "_law_pick", .glo "_law_pair", .glo "_law_wish_right", .glo "_law_stretch_right", .glo "law", .free "isinstance", .free "list", .free "tuple", .free "type", .free "int", .free "len", .free "range", .cls "Pair", .mkr "Pair", .noat "Pair" "one", .noat "Pair" "other", .cls "Wish", .mkr "Wish", .noat "Wish" "order", .noat "Wish" "scans", .cls "Stretch", .mkr "Stretch", .noat "Stretch" "kind", .noat "Stretch" "first", .noat "Stretch" "last", .noat "Stretch" "pair", .cls "Mend", .mkr "Mend", .noat "Mend" "joints", .noat "Mend" "stretches"]

def kcB (K : Frag) (C : Addr) : Bool := He.eqO (findIn K (.ref C) "__class__") (some (some (.builtin "object.__class__"))) && (decide (mroIn K C (.type "object") = some true) && (notFirst K C (.type "tuple") && (eqcB K C && (keepIn K (.ref (He.ma K C "__eq__")) &&
  (decide (kitOne K (.ref C) (.type "list") = some false) && decide (kitOne K (.ref C) (.type "tuple") = some false))))))
def ex (K : Frag) : Bool := He.eqO (specialIn K (.builtin "object.__class__") "__get__") (some (some (.builtin "getset_descriptor.__get__"))) && (decide (takesIn K (.builtin "object.__class__") = some true) && (notFirst K (CA K "Stretch") (.ref (CA K "Mend")) &&
  (notFirst K (CA K "Mend") (.ref (CA K "Stretch")) && (notFirst K (CA K "Mend") (.ref (CA K "Wish")) && (decide (CA K "Stretch" ≠ CA K "Mend") && (decide (CA K "Mend" ≠ CA K "Wish") &&
  (kcB K (CA K "Pair") && (kcB K (CA K "Wish") && (kcB K (CA K "Stretch") && kcB K (CA K "Mend"))))))))))
abbrev R : PySem.W.OpenRow := PySem.W.OpenLaw.row PySem.Challenge.rw_jointkeys_k51_wishes_stretches_and_mends
abbrev hk : PySem.W.Hook := He.hookX 4 fa fn [] [] ex
def ob (s : PySem.W.SharedT) : He.AlX := He.obsX 4 fa fn [] [] ex (HandSHeadRun.getT s)
theorem ob_eq (s : PySem.W.SharedT) : ob s = hk.obs s.abs := He.obsX_eq (HandSHeadRun.getT_eq s)
def names : List PySem.Str := (["__name__", "is_sequence", "as_tuples", "Pair", "Wish", "Stretch", "Mend", "_law_mixed", "_law_source", "_law_take", "_law_pick", "_law_pair", "_law_wish_right", "_law_stretch_right"] : List PySem.Str)
theorem run (w : World) : HandSHeadRun.RunEq R (PySem.W.view R.prog [17]) hk ob 4000 names w := by
  intro os
  kernel_rfl
end L2.K51

set_option Elab.async false
set_option linter.all false
set_option maxRecDepth 100000
set_option maxHeartbeats 4000000
/-! != of two tuples that are equal item by item, instances with an own __eq__ among the items. -/
namespace L2.Jk
open PySem PySem.W PySem.Spec PySem.Calls PyProof.Rows PySem.SeqAt
open AutoSeq1 (wpAny_loadPart')

section
variable {prog : Program} {w : World} {A : Around} {R : Result → Shared → Prop} {E : Value → Shared → Prop} {s : Shared}
theorem tup_ne_same (l b : Addr) (its jts : Array Value) (n n2 : Nat) (dd dd2 : Option Addr) (sl sl2 : Array (Option Value)) (hsz : its.size = jts.size) (J : Nat → Shared → Prop)
    (turn : ∀ i (h1 : i < its.size) (h2 : i < jts.size) s, J i s → wpAny (model prog w) A.in1 (eqBool its[i] jts[i]) (fun r s' => r = true ∧ J (i + 1) s') (fun e s' => R (.error e) s') s)
    (fin : ∀ s, J its.size s → R (.ok (.ret (.bool false))) s) (hl : s.heap.get? l = some { cls := .type "tuple", dict := dd, data := .seq its n, slots := sl }) (hb : s.heap.get? b = some { cls := .type "tuple", dict := dd2, data := .seq jts n2, slots := sl2 })
    (h : J 0 s) : wpAny (model prog w) A.in1 (Builtin.«tuple.__ne__» ⟨[.ref l, .ref b], []⟩) (GQ.FinOf prog w A R) (fun e s' => R (.error e) s') s := by
  have f2 := AutoSeq1.sub_tuple_tuple
  have len : (its.toList.zip jts.toList).length = its.size := by simp [hsz]
  have h0 := h
  obtain ⟨hp, g, d, tk, os⟩ := s
  wp_walk using wpAny_loadPart' hl, wpAny_loadPart' hb, wpAny_forIn_list _ (fun rest b s' => b.1 = none ∧ ∃ i, rest = (its.toList.zip jts.toList).drop i ∧ i ≤ its.size ∧ J i s') _
  case turn =>
    rintro ⟨y, x⟩ rest b s' ⟨hb', i, hz, hi, hJ⟩
    have lt : i < (its.toList.zip jts.toList).length := by
      refine Nat.lt_of_not_le fun z => ?_
      rw [List.drop_of_length_le z] at hz
      cases hz
    have h1 : i < its.size := len ▸ lt
    have h2 : i < jts.size := hsz ▸ h1
    rw [List.drop_eq_getElem_cons lt] at hz
    obtain ⟨e1, e2⟩ := List.cons.inj hz
    obtain rfl : y = its[i] := by simpa using congrArg Prod.fst e1
    obtain rfl : x = jts[i] := by simpa using congrArg Prod.snd e1
    refine wpAny_bind (wpAny_mono (turn i h1 h2 s' hJ) (fun r s2 q2 => ?_) fun _ _ x => x)
    obtain ⟨rfl, q2⟩ := q2
    wp_walk
    exact ⟨rfl, i + 1, e2, h1, q2⟩
  case fin =>
    rintro ⟨b1, b2⟩ s' ⟨hb', i, hz, hi, hJ⟩
    dsimp only at hb'
    subst hb'
    have ge : its.size ≤ i := by
      refine Nat.le_of_not_lt fun z => ?_
      rw [List.drop_eq_getElem_cons (by rw [len]; exact z)] at hz
      cases hz
    obtain rfl : i = its.size := by omega
    have hR := fin s' hJ
    wp_walk
    simpa [Builtin.Tuple.tupleCompareSizes, hsz] using hR
  case h => exact ⟨rfl, 0, rfl, Nat.zero_le _, h0⟩
theorem tup_ne_rich {l b : Addr} {its jts : Array Value} {Q : Value → Shared → Prop} (hsz : its.size = jts.size) (hu : A.units < cLine) (J : Nat → Shared → Prop) (hl : s.heap.IsTuple l its) (hb : s.heap.IsTuple b jts)
    (turn : ∀ i (h1 : i < its.size) (h2 : i < jts.size) s, J i s → wpAny (model prog w) A.in1 (eqBool its[i] jts[i]) (fun r s' => r = true ∧ J (i + 1) s') E s)
    (fin : ∀ s, J its.size s → Q (.bool false) s) (h : J 0 s) : wpAny (model prog w) A (richCompare .NotEq (.ref l) (.ref b)) Q E s := by
  obtain ⟨⟨c1, d1, t1, s1⟩, g1, k1, n1, e1⟩ := id hl
  obtain ⟨⟨c2, d2, t2, s2⟩, g2, k2, n2, e2⟩ := id hb
  dsimp only at k1 e1 k2 e2
  subst k1 e1 k2 e2
  refine wpAny_richCompare_same_room (op := .NotEq) ⟨_, g1, rfl⟩ ⟨_, g2, rfl⟩ PySem.F.slot_tuple_ne (GQ.call_here PySem.F.slot_tuple_ne ⟨_, g1, rfl⟩ PySem.F.entry_tuple_ne (PySem.F.args_tuple_ne_2 _ _) ?_) hu
  exact tup_ne_same (R := wants (fun v s' => v ≠ .notImplemented ∧ Q v s') E) l b its jts n1 n2 d1 d2 s1 s2 hsz J turn (fun s' q => ⟨(fun x => nomatch x), fin s' q⟩) g1 g2 h
end
section
variable {X : Cx} {n : Nat} {D : Eqv}
/-- t != u of two tuples whose items D says to be equal -/
def rNeT (X : Cx) (D : Eqv) : R2 := fun x y H Q => DTup X.K D x y H ∧ ∀ H', Same H H' → Q (.bl false) H'
theorem op_neT (hD : Mon D) (h : EqG X n D) (hr : Room (n + 1) X.A) : OpR X (compareOp .NotEq) (rNeT X D) := by
  intro pins s σ H x y v u Q I rx ry hq
  obtain ⟨⟨a, b, xs, ys, rfl, rfl, ha, hb, p⟩, q⟩ := hq
  cases rx
  cases ry
  obtain ⟨its, r, e, z⟩ := I.tuple ha
  obtain ⟨jts, r2, e2, z2⟩ := I.tuple hb
  have hsz : its.toArray.size = jts.toArray.size := by rw [List.size_toArray, List.size_toArray, ← r.length, ← r2.length]; exact p.1
  show wpAny (model X.prog X.w) X.A (richCompare .NotEq (.ref a) (.ref b)) (EP X pins σ Q) X.xe s
  refine tup_ne_rich hsz hr.units0 (fun _ s' => LoopI X pins σ H s') e e2 (fun i h1 h2 s' k => turnG hD h ⟨hr, rfl⟩ p r r2 i h1 h2 s' k) (fun s' k => ?_) ⟨H, I, Ext.rfl'⟩
  obtain ⟨H', I', x⟩ := k
  exact ⟨.bl false, H', I', rfl, q H' x⟩
end
end L2.Jk

set_option Elab.async false
set_option linter.all false
set_option maxRecDepth 100000
set_option maxHeartbeats 4000000
/-! set(..) of texts: how many members it has. -/
namespace L2.Jk
open PySem PySem.W PySem.Spec PySem.Calls PyProof.Rows

/-- how many of the first i are new -/
def newS (ks : Nat → Str) : Nat → Nat
  | 0 => 0
  | i + 1 => if (List.range i).any (fun j => ks j == ks i) then newS ks i else newS ks i + 1
theorem newS_le (ks : Nat → Str) : ∀ i, newS ks i ≤ i
  | 0 => Nat.le_refl _
  | i + 1 => by
    have := newS_le ks i
    unfold newS
    split <;> omega
section
variable {prog : Program} {w : World} {A : Around} {R : Result → Shared → Prop} {I : Addr} {fp wr : List Addr} {G : Array GenState → Array GenState → Prop} {n : Nat} {P : Nat → Value → Prop} {Z : Nat → Shared → Prop}
/-- what the set holds behind i items -/
def HeldS (prog : Program) (w : World) (h : Heap) (S : Addr) (ks : Nat → Str) (i : Nat) : Prop := h.SetOf (PySem.strKind prog w) S (fun k => (List.range i).any fun j => ks j == k) (newS ks i)
theorem HeldS.at {h h' : Heap} {S : Addr} {ks : Nat → Str} {i : Nat} (H : HeldS prog w h S ks i) (k : ∀ o, h.get? S = some o → h'.get? S = some o) : HeldS prog w h' S ks i := by
  obtain ⟨o, es, ep, t, ho, r⟩ := H
  exact ⟨o, es, ep, t, k o ho, r⟩
theorem set_loop (W : WalksS prog w A.in1 I fp wr G n P Z) (S : Addr) (hS : S ∉ fp) (ks : Nat → Str) (hn : n + 1 < scanBound) (hv : ∀ i v, P i v → ∃ t, v = .str (ks i) t) :
    ∀ (k i : Nat) (s : Shared), n - i = k → i ≤ n → Z i s → HeldS prog w s.heap S ks i →
      (∀ s', Moved (S :: wr) G s s' → HeldS prog w s'.heap S ks n → R (.ok (.ret .none)) s') → codeAny (model prog w) A (.builtin "set.update.loop" ⟨[.ref S, .ref I], []⟩) R s := by
  have sw : S ∉ wr := fun z => hS (W.sub _ z)
  have up : ∀ b ∈ wr, b ∈ S :: wr := fun b z => List.mem_cons_of_mem _ z
  intro k
  induction k with
  | zero =>
    intro i s hk hi hz H hR
    obtain rfl : i = n := by omega
    refine codeAny_builtin PyProof.Rows.F.entry_set_update_loop ?_
    rw [Around.under_plainId PyProof.Rows.F.plain_set_update_loop _]
    show wpAny _ A.in1 (pyNext (.ref I) >>= _) _ _ s
    refine wpAny_bind (W.done s _ _ hz fun s' m => ?_)
    show wpAny _ A.in1 (ret Value.none) _ _ s'
    exact wpAny_pure (hR s' (m.mono up) (H.at fun o e => m.heap S o sw e))
  | succ k ih =>
    intro i s hk hi hz H hR
    have lt : i < n := by omega
    refine codeAny_builtin PyProof.Rows.F.entry_set_update_loop ?_
    rw [Around.under_plainId PyProof.Rows.F.plain_set_update_loop _]
    show wpAny _ A.in1 (pyNext (.ref I) >>= _) _ _ s
    refine wpAny_bind (W.item i s _ _ lt hz fun v s' hp hz' m => ?_)
    obtain ⟨t, rfl⟩ := hv i v hp
    have H' : HeldS prog w s'.heap S ks i := H.at fun o e => m.heap S o sw e
    show wpAny _ A.in1 (holding [Value.str (ks i) t] (setAdd S (.str (ks i) t)) >>= _) _ _ s'
    refine wpAny_bind (wpAny_holding ?_)
    unfold setAdd
    refine wpAny_holding (wpAny_bind ((PySem.strKind prog w).pyHash (k := ks i) (strKind_is _ _ _ _) ?_))
    have few := newS_le ks i
    refine wpAny_setAddHashed_of (knd := PySem.strKind prog w) (s := { s' with toks := s'.toks + 1 }) (strKind_is _ _ _ _) rfl H' (by omega) fun h' sb H2 => ?_
    have H3 : HeldS prog w h' S ks (i + 1) := by
      refine PyProof.Rows.SetOf_congr H2 (fun q => ?_) ?_
      · show ((List.range i).any (fun j => ks j == q) || decide (q = ks i)) = (List.range (i + 1)).any fun j => ks j == q
        rw [List.range_succ, List.any_append]
        congr 1
        by_cases e : q = ks i
        · subst e
          simp
        · have e2 : (ks i == q) = false := beq_eq_false_iff_ne.mpr fun z => e z.symm
          simp [e, e2]
      · show (if (List.range i).any (fun j => ks j == ks i) = true then newS ks i else newS ks i + 1) = newS ks (i + 1)
        rfl
    refine wpAny_pure ⟨plainId_quiet PyProof.Rows.F.plain_set_update_loop _, ih (i + 1) _ (by omega) lt (W.frame _ s' _ _ hz' (Nat.le_succ _) fun b hb o e => ?_) H3 fun s2 m2 H4 => ?_⟩
    · rw [sb.2 b (fun z : b = S => hS (z ▸ hb))]
      exact e
    · refine hR s2 (Moved.trans W.gtrans ((m.mono up).then_heap (Nat.le_succ _) fun b o hb e => ?_) m2) H4
      rw [sb.2 b (fun z : b = S => hb (z ▸ List.mem_cons_self))]
      exact e
end
theorem sign_at {x : Str} {i : Nat} {v : Value} (z : SignAt x i v) : ∃ t, v = .str ⟨#[x.cps.getD i 0]⟩ t := by
  obtain ⟨c, t, h, e⟩ := z
  refine ⟨t, ?_⟩
  subst e
  rw [Array.getD_eq_getD_getElem?, h]
  rfl
end L2.Jk

set_option Elab.async false
set_option linter.all false
set_option maxRecDepth 100000
set_option maxHeartbeats 8000000
namespace L2.Jk
open PySem PySem.W PySem.Spec PySem.Calls PyProof.Rows
section
variable {prog : Program} {w : World} {A : Around} {E : Value → Shared → Prop} {s : Shared}
set_option maxHeartbeats 8000000 in
theorem set_callStr {x : Str} {tk0 : Tok} {Q : Value → Shared → Prop} (hh : A.handled = none)  (hn : x.cps.size + 1 < scanBound)
    (h : ∀ (h' : Heap) (tk : Nat), HeldS prog w h' s.heap.objs.size (fun i => ⟨#[x.cps.getD i 0]⟩) (x.cps.size) → (∀ b o, b < s.heap.objs.size → s.heap.get? b = some o → h'.get? b = some o) → Q (.ref s.heap.objs.size) { s with heap := h', toks := tk }) :
    wpAny (model prog w) A (call (.type "set") [(.str x tk0)]) Q E s := by
  obtain ⟨c, tl, hmro⟩ := PySem.F.called_set.mro
  have c1 := PySem.F.called_set.made
  have c2 := PySem.F.called_set.sub
  refine wpAny_call (codeAny_of_tree ?_)
  show wpAny _ _ (callAny (.type "set") _) _ _ _
  refine wpAny_pure ⟨Code.quiet_builtin _ (by decide +kernel), codeAny_builtin PySem.F.entry_type_call ?_⟩
  rw [Around.under_plain (weight_type_call_type "set" [(.str x tk0)] []) rfl]
  have c3 := PySem.F.called_set.notType
  have c4 := PySem.F.called_set.canCreate
  have c5 := PySem.F.typeCall_set_1 (.str x tk0)
  repeat (any_goals (first | assumption | wp_step))
  refine codeAny_mono (code_set_new_1 (.str x tk0) (E := E) (Q₁ := fun ob s₁ => ∃ led : Bool, ob = .ref s.heap.objs.size ∧ s₁ = { s with heap := s.heap.push { cls := .type "set", dict := none, data := .set #[] 0 (.fresh 0 0 led) } }) fun led => ⟨led, rfl, rfl⟩) fun r s₁ hr => ?_
  cases r with
  | error e => exact hr
  | ok fl =>
    cases fl with
    | ret ob =>
      obtain ⟨led, rfl, rfl⟩ := hr
      have hS : (s.heap.push { cls := .type "set", dict := none, data := .set #[] 0 (.fresh 0 0 led) }).get? s.heap.objs.size = some { cls := .type "set", dict := none, data := .set #[] 0 (.fresh 0 0 led) } := Heap.get?_push_size _ rfl
      have hT : Shared.TypeIs { s with heap := s.heap.push { cls := .type "set", dict := none, data := .set #[] 0 (.fresh 0 0 led) } } (.ref s.heap.objs.size) "set" := ⟨_, hS, rfl⟩
      have c6 := PySem.F.called_set.init.lookup
      have c7 := PySem.F.called_set.init.bind (.ref s.heap.objs.size)
      repeat (any_goals (first | assumption | wp_step))
      refine codeAny_mono (codeAny_call_builtin (R := wants (fun r s₂ => r = .none ∧ ∃ h' tk, s₂ = { s with heap := h', toks := tk } ∧ HeldS prog w h' s.heap.objs.size (fun i => ⟨#[x.cps.getD i 0]⟩) (x.cps.size) ∧
          (∀ b o, b < s.heap.objs.size → s.heap.get? b = some o → h'.get? b = some o)) E) PySem.F.called_set.init.plain PySem.F.entry_set_init (check_set_init_1 hT ?_)) fun r₂ s₂ hr₂ => ?_
      · have a1 := PySem.F.sub_str_set
        have a2 := PySem.F.sub_str_frozenset
        have a3 : (Value.type "str" == Value.type "dict") = false := by decide
        unfold Builtin.«set.__init__» noKeywords Builtin.Frozenset.updateFrom
        generalize hPI : pyIter = PI
        wp_walk
        subst hPI
        refine wpAny_pyIter_strU ?_
        refine wpAny_bind (wpAny_runValue ?_)
        have sf : s.heap.objs.size ∉ [(s.heap.push { cls := .type "set", dict := none, data := .set #[] 0 (.fresh 0 0 led) }).objs.size] := by
          rw [Heap.size_push]
          simp only [List.mem_cons, List.mem_singleton, List.not_mem_nil, or_false, not_or]
          exact Nat.ne_of_lt (Nat.lt_succ_self _)
        have h3 : A.in1.in1.in1.handled = none := by simp [hh]
        have sv : ∀ i v, SignAt x i v → ∃ t, v = .str ⟨#[x.cps.getD i 0]⟩ t := fun i v z => sign_at z
        have got : ∀ T, ((s.heap.push { cls := .type "set", dict := none, data := .set #[] 0 (.fresh 0 0 led) }).push { cls := .type T, data := .fields #[.str x tk0, .int 0 0] }).IsStrIter (s.heap.push { cls := .type "set", dict := none, data := .set #[] 0 (.fresh 0 0 led) }).objs.size T x tk0 0 := fun T => ⟨_, Heap.get?_push_size _ rfl, rfl, rfl⟩
        cases ha : x.cps.all (· < 128) with
        | false =>
          rw [show strIterType x = "str_iterator" by unfold strIterType; rw [ha]; rfl]
          refine set_loop ((Walks.strWide h3 _ x tk0).toS) s.heap.objs.size sf _ hn sv (x.cps.size - 0) 0 _ (by omega) (Nat.zero_le _) (got _) (PyProof.Rows.SetOf_congr ((PyProof.Rows.setObjOf_fresh (knd := PySem.strKind prog w) led).setOf (Heap.get?_push_of_some _ hS) (by unfold scanBound; omega)) (fun _ => rfl) rfl) ?hR
          case hR =>
            intro s' m H'
            obtain ⟨h', g', d', tk', os'⟩ := s'
            obtain rfl : g' = s.gens := m.gens
            obtain rfl : d' = s.drawn := m.drawn
            obtain rfl : os' = s.os := m.os
            show wpAny _ _ _ _ _ _
            refine wpAny_pure ?_
            show wpAny _ _ (ret Value.none) _ _ _
            refine wpAny_pure ⟨rfl, h', tk', rfl, H', fun b o hb e => ?_⟩
            have b1 : b ≠ s.heap.objs.size := Nat.ne_of_lt hb
            have b2 : b ≠ (s.heap.push { cls := .type "set", dict := none, data := .set #[] 0 (.fresh 0 0 led) }).objs.size := by
              rw [Heap.size_push]
              exact Nat.ne_of_lt (Nat.lt_succ_of_lt hb)
            exact m.heap b o (by simp only [List.mem_cons, List.mem_singleton, List.not_mem_nil, or_false, not_or]; exact ⟨b1, b2⟩) (Heap.get?_push_of_some _ (Heap.get?_push_of_some _ e))
        | true =>
          rw [show strIterType x = "str_ascii_iterator" by unfold strIterType; rw [ha]; rfl]
          refine set_loop ((Walks.strAscii h3 _ x tk0).toS) s.heap.objs.size sf _ hn sv (x.cps.size - 0) 0 _ (by omega) (Nat.zero_le _) (got _) (PyProof.Rows.SetOf_congr ((PyProof.Rows.setObjOf_fresh (knd := PySem.strKind prog w) led).setOf (Heap.get?_push_of_some _ hS) (by unfold scanBound; omega)) (fun _ => rfl) rfl) ?hR
          case hR =>
            intro s' m H'
            obtain ⟨h', g', d', tk', os'⟩ := s'
            obtain rfl : g' = s.gens := m.gens
            obtain rfl : d' = s.drawn := m.drawn
            obtain rfl : os' = s.os := m.os
            show wpAny _ _ _ _ _ _
            refine wpAny_pure ?_
            show wpAny _ _ (ret Value.none) _ _ _
            refine wpAny_pure ⟨rfl, h', tk', rfl, H', fun b o hb e => ?_⟩
            have b1 : b ≠ s.heap.objs.size := Nat.ne_of_lt hb
            have b2 : b ≠ (s.heap.push { cls := .type "set", dict := none, data := .set #[] 0 (.fresh 0 0 led) }).objs.size := by
              rw [Heap.size_push]
              exact Nat.ne_of_lt (Nat.lt_succ_of_lt hb)
            exact m.heap b o (by simp only [List.mem_cons, List.mem_singleton, List.not_mem_nil, or_false, not_or]; exact ⟨b1, b2⟩) (Heap.get?_push_of_some _ (Heap.get?_push_of_some _ e))

      · cases r₂ with
        | error e => exact hr₂
        | ok f2 =>
          cases f2 with
          | ret r =>
            obtain ⟨rfl, h', tk, rfl, H', k'⟩ := hr₂
            repeat (any_goals (first | assumption | wp_step))
            exact h _ _ H' k'
          | _ => exact hr₂.elim
    | _ => exact hr.elim
end
end L2.Jk

set_option Elab.async false
set_option linter.all false
set_option maxRecDepth 100000
set_option maxHeartbeats 8000000
namespace L2.Jk
open PySem PySem.W PySem.Spec PySem.Calls PyProof.Rows
section
variable {prog : Program} {w : World} {A : Around} {E : Value → Shared → Prop} {s : Shared}
set_option maxHeartbeats 8000000 in
theorem set_callTup {l : Addr} {its : Array Value} {ks : Nat → Str} {Q : Value → Shared → Prop} (hh : A.handled = none) (hl : s.heap.IsTuple l its) (hk : ∀ i v, its[i]? = some v → ∃ t : Tok, v = Value.str (ks i) t) (hn : its.size + 1 < scanBound)
    (h : ∀ (h' : Heap) (tk : Nat), HeldS prog w h' s.heap.objs.size (ks) (its.size) → (∀ b o, b < s.heap.objs.size → s.heap.get? b = some o → h'.get? b = some o) → Q (.ref s.heap.objs.size) { s with heap := h', toks := tk }) :
    wpAny (model prog w) A (call (.type "set") [(.ref l)]) Q E s := by
  obtain ⟨c, tl, hmro⟩ := PySem.F.called_set.mro
  have c1 := PySem.F.called_set.made
  have c2 := PySem.F.called_set.sub
  refine wpAny_call (codeAny_of_tree ?_)
  show wpAny _ _ (callAny (.type "set") _) _ _ _
  refine wpAny_pure ⟨Code.quiet_builtin _ (by decide +kernel), codeAny_builtin PySem.F.entry_type_call ?_⟩
  rw [Around.under_plain (weight_type_call_type "set" [(.ref l)] []) rfl]
  have c3 := PySem.F.called_set.notType
  have c4 := PySem.F.called_set.canCreate
  have c5 := PySem.F.typeCall_set_1 (.ref l)
  repeat (any_goals (first | assumption | wp_step))
  refine codeAny_mono (code_set_new_1 (.ref l) (E := E) (Q₁ := fun ob s₁ => ∃ led : Bool, ob = .ref s.heap.objs.size ∧ s₁ = { s with heap := s.heap.push { cls := .type "set", dict := none, data := .set #[] 0 (.fresh 0 0 led) } }) fun led => ⟨led, rfl, rfl⟩) fun r s₁ hr => ?_
  cases r with
  | error e => exact hr
  | ok fl =>
    cases fl with
    | ret ob =>
      obtain ⟨led, rfl, rfl⟩ := hr
      have hS : (s.heap.push { cls := .type "set", dict := none, data := .set #[] 0 (.fresh 0 0 led) }).get? s.heap.objs.size = some { cls := .type "set", dict := none, data := .set #[] 0 (.fresh 0 0 led) } := Heap.get?_push_size _ rfl
      have hT : Shared.TypeIs { s with heap := s.heap.push { cls := .type "set", dict := none, data := .set #[] 0 (.fresh 0 0 led) } } (.ref s.heap.objs.size) "set" := ⟨_, hS, rfl⟩
      have c6 := PySem.F.called_set.init.lookup
      have c7 := PySem.F.called_set.init.bind (.ref s.heap.objs.size)
      repeat (any_goals (first | assumption | wp_step))
      refine codeAny_mono (codeAny_call_builtin (R := wants (fun r s₂ => r = .none ∧ ∃ h' tk, s₂ = { s with heap := h', toks := tk } ∧ HeldS prog w h' s.heap.objs.size (ks) (its.size) ∧
          (∀ b o, b < s.heap.objs.size → s.heap.get? b = some o → h'.get? b = some o)) E) PySem.F.called_set.init.plain PySem.F.entry_set_init (check_set_init_1 hT ?_)) fun r₂ s₂ hr₂ => ?_
      · obtain ⟨⟨oc, od, odt, osl⟩, hol, hcl, nl, hdl⟩ := id hl
        dsimp only at hcl hdl
        subst hcl; subst hdl
        have old := Heap.get?_push_of_some ({ cls := .type "set", dict := none, data := .set #[] 0 (.fresh 0 0 led) } : Obj) hol
        have a1 := PySem.F.sub_tuple_set
        have a2 := PySem.F.sub_tuple_frozenset
        have a3 : (Value.type "tuple" == Value.type "dict") = false := by decide
        have hl1 : (s.heap.push { cls := .type "set", dict := none, data := .set #[] 0 (.fresh 0 0 led) }).IsTuple l its := ⟨_, old, rfl, nl, rfl⟩
        unfold Builtin.«set.__init__» noKeywords Builtin.Frozenset.updateFrom
        generalize hPI : pyIter = PI
        wp_walk
        subst hPI
        refine wpAny_pyIter_tuple hl1 ?_
        refine wpAny_bind (wpAny_runValue ?_)
        have h3 : A.in1.in1.in1.handled = none := by simp [hh]
        have nI : l ≠ (s.heap.push { cls := .type "set", dict := none, data := .set #[] 0 (.fresh 0 0 led) }).objs.size := by
          rw [Heap.size_push]
          exact Nat.ne_of_lt (Nat.lt_succ_of_lt (Heap.lt_size hol))
        have sf : s.heap.objs.size ∉ [(s.heap.push { cls := .type "set", dict := none, data := .set #[] 0 (.fresh 0 0 led) }).objs.size, l] := by
          rw [Heap.size_push]
          simp only [List.mem_cons, List.mem_singleton, List.not_mem_nil, or_false, not_or]
          exact ⟨Nat.ne_of_lt (Nat.lt_succ_self _), Nat.ne_of_gt (Heap.lt_size hol)⟩
        refine set_loop ((Walks.tuple h3 _ l nI its).toS) s.heap.objs.size sf ks hn (fun i v z => hk i v z) (its.size - 0) 0 _ (by omega) (Nat.zero_le _) ⟨⟨_, Heap.get?_push_size _ rfl, rfl, rfl⟩, (hl1.push _)⟩ (PyProof.Rows.SetOf_congr ((PyProof.Rows.setObjOf_fresh (knd := PySem.strKind prog w) led).setOf (Heap.get?_push_of_some _ hS) (by unfold scanBound; omega)) (fun _ => rfl) rfl) ?hR
        case hR =>
          intro s' m H'
          obtain ⟨h', g', d', tk', os'⟩ := s'
          obtain rfl : g' = s.gens := m.gens
          obtain rfl : d' = s.drawn := m.drawn
          obtain rfl : os' = s.os := m.os
          show wpAny _ _ _ _ _ _
          refine wpAny_pure ?_
          show wpAny _ _ (ret Value.none) _ _ _
          refine wpAny_pure ⟨rfl, h', tk', rfl, H', fun b o hb e => ?_⟩
          have b1 : b ≠ s.heap.objs.size := Nat.ne_of_lt hb
          have b2 : b ≠ (s.heap.push { cls := .type "set", dict := none, data := .set #[] 0 (.fresh 0 0 led) }).objs.size := by
            rw [Heap.size_push]
            exact Nat.ne_of_lt (Nat.lt_succ_of_lt hb)
          exact m.heap b o (by simp only [List.mem_cons, List.mem_singleton, List.not_mem_nil, or_false, not_or]; exact ⟨b1, b2⟩) (Heap.get?_push_of_some _ (Heap.get?_push_of_some _ e))

      · cases r₂ with
        | error e => exact hr₂
        | ok f2 =>
          cases f2 with
          | ret r =>
            obtain ⟨rfl, h', tk, rfl, H', k'⟩ := hr₂
            repeat (any_goals (first | assumption | wp_step))
            exact h _ _ H' k'
          | _ => exact hr₂.elim
    | _ => exact hr.elim
end
end L2.Jk

set_option Elab.async false
set_option linter.all false
set_option maxRecDepth 100000
set_option maxHeartbeats 8000000
namespace L2.Jk
open PySem PySem.W PySem.Spec PySem.Calls PyProof.Rows
section
variable {prog : Program} {w : World} {A : Around} {E : Value → Shared → Prop} {s : Shared}
set_option maxHeartbeats 8000000 in
theorem set_callList {l : Addr} {its : Array Value} {ks : Nat → Str} {Q : Value → Shared → Prop} (hh : A.handled = none) (hl : s.heap.IsList l its) (hk : ∀ i v, its[i]? = some v → ∃ t : Tok, v = Value.str (ks i) t) (hn : its.size + 1 < scanBound)
    (h : ∀ (h' : Heap) (tk : Nat), HeldS prog w h' s.heap.objs.size (ks) (its.size) → (∀ b o, b < s.heap.objs.size → s.heap.get? b = some o → h'.get? b = some o) → Q (.ref s.heap.objs.size) { s with heap := h', toks := tk }) :
    wpAny (model prog w) A (call (.type "set") [(.ref l)]) Q E s := by
  obtain ⟨c, tl, hmro⟩ := PySem.F.called_set.mro
  have c1 := PySem.F.called_set.made
  have c2 := PySem.F.called_set.sub
  refine wpAny_call (codeAny_of_tree ?_)
  show wpAny _ _ (callAny (.type "set") _) _ _ _
  refine wpAny_pure ⟨Code.quiet_builtin _ (by decide +kernel), codeAny_builtin PySem.F.entry_type_call ?_⟩
  rw [Around.under_plain (weight_type_call_type "set" [(.ref l)] []) rfl]
  have c3 := PySem.F.called_set.notType
  have c4 := PySem.F.called_set.canCreate
  have c5 := PySem.F.typeCall_set_1 (.ref l)
  repeat (any_goals (first | assumption | wp_step))
  refine codeAny_mono (code_set_new_1 (.ref l) (E := E) (Q₁ := fun ob s₁ => ∃ led : Bool, ob = .ref s.heap.objs.size ∧ s₁ = { s with heap := s.heap.push { cls := .type "set", dict := none, data := .set #[] 0 (.fresh 0 0 led) } }) fun led => ⟨led, rfl, rfl⟩) fun r s₁ hr => ?_
  cases r with
  | error e => exact hr
  | ok fl =>
    cases fl with
    | ret ob =>
      obtain ⟨led, rfl, rfl⟩ := hr
      have hS : (s.heap.push { cls := .type "set", dict := none, data := .set #[] 0 (.fresh 0 0 led) }).get? s.heap.objs.size = some { cls := .type "set", dict := none, data := .set #[] 0 (.fresh 0 0 led) } := Heap.get?_push_size _ rfl
      have hT : Shared.TypeIs { s with heap := s.heap.push { cls := .type "set", dict := none, data := .set #[] 0 (.fresh 0 0 led) } } (.ref s.heap.objs.size) "set" := ⟨_, hS, rfl⟩
      have c6 := PySem.F.called_set.init.lookup
      have c7 := PySem.F.called_set.init.bind (.ref s.heap.objs.size)
      repeat (any_goals (first | assumption | wp_step))
      refine codeAny_mono (codeAny_call_builtin (R := wants (fun r s₂ => r = .none ∧ ∃ h' tk, s₂ = { s with heap := h', toks := tk } ∧ HeldS prog w h' s.heap.objs.size (ks) (its.size) ∧
          (∀ b o, b < s.heap.objs.size → s.heap.get? b = some o → h'.get? b = some o)) E) PySem.F.called_set.init.plain PySem.F.entry_set_init (check_set_init_1 hT ?_)) fun r₂ s₂ hr₂ => ?_
      · obtain ⟨⟨oc, od, odt, osl⟩, hol, hcl, nl, hdl⟩ := id hl
        dsimp only at hcl hdl
        subst hcl; subst hdl
        have old := Heap.get?_push_of_some ({ cls := .type "set", dict := none, data := .set #[] 0 (.fresh 0 0 led) } : Obj) hol
        have a1 := PySem.F.sub_list_set
        have a2 := PySem.F.sub_list_frozenset
        have a3 : (Value.type "list" == Value.type "dict") = false := by decide
        have hl1 : (s.heap.push { cls := .type "set", dict := none, data := .set #[] 0 (.fresh 0 0 led) }).IsList l its := ⟨_, old, rfl, nl, rfl⟩
        unfold Builtin.«set.__init__» noKeywords Builtin.Frozenset.updateFrom
        generalize hPI : pyIter = PI
        wp_walk
        subst hPI
        refine wpAny_pyIter_list hl1 ?_
        refine wpAny_bind (wpAny_runValue ?_)
        have h3 : A.in1.in1.in1.handled = none := by simp [hh]
        have nI : l ≠ (s.heap.push { cls := .type "set", dict := none, data := .set #[] 0 (.fresh 0 0 led) }).objs.size := by
          rw [Heap.size_push]
          exact Nat.ne_of_lt (Nat.lt_succ_of_lt (Heap.lt_size hol))
        have sf : s.heap.objs.size ∉ [(s.heap.push { cls := .type "set", dict := none, data := .set #[] 0 (.fresh 0 0 led) }).objs.size, l] := by
          rw [Heap.size_push]
          simp only [List.mem_cons, List.mem_singleton, List.not_mem_nil, or_false, not_or]
          exact ⟨Nat.ne_of_lt (Nat.lt_succ_self _), Nat.ne_of_gt (Heap.lt_size hol)⟩
        refine set_loop ((Walks.list h3 _ l nI its).toS) s.heap.objs.size sf ks hn (fun i v z => hk i v z) (its.size - 0) 0 _ (by omega) (Nat.zero_le _) ⟨⟨_, Heap.get?_push_size _ rfl, rfl, rfl⟩, (hl1.push _)⟩ (PyProof.Rows.SetOf_congr ((PyProof.Rows.setObjOf_fresh (knd := PySem.strKind prog w) led).setOf (Heap.get?_push_of_some _ hS) (by unfold scanBound; omega)) (fun _ => rfl) rfl) ?hR
        case hR =>
          intro s' m H'
          obtain ⟨h', g', d', tk', os'⟩ := s'
          obtain rfl : g' = s.gens := m.gens
          obtain rfl : d' = s.drawn := m.drawn
          obtain rfl : os' = s.os := m.os
          show wpAny _ _ _ _ _ _
          refine wpAny_pure ?_
          show wpAny _ _ (ret Value.none) _ _ _
          refine wpAny_pure ⟨rfl, h', tk', rfl, H', fun b o hb e => ?_⟩
          have b1 : b ≠ s.heap.objs.size := Nat.ne_of_lt hb
          have b2 : b ≠ (s.heap.push { cls := .type "set", dict := none, data := .set #[] 0 (.fresh 0 0 led) }).objs.size := by
            rw [Heap.size_push]
            exact Nat.ne_of_lt (Nat.lt_succ_of_lt hb)
          exact m.heap b o (by simp only [List.mem_cons, List.mem_singleton, List.not_mem_nil, or_false, not_or]; exact ⟨b1, b2⟩) (Heap.get?_push_of_some _ (Heap.get?_push_of_some _ e))

      · cases r₂ with
        | error e => exact hr₂
        | ok f2 =>
          cases f2 with
          | ret r =>
            obtain ⟨rfl, h', tk, rfl, H', k'⟩ := hr₂
            repeat (any_goals (first | assumption | wp_step))
            exact h _ _ H' k'
          | _ => exact hr₂.elim
    | _ => exact hr.elim
end
end L2.Jk

set_option Elab.async false
set_option linter.all false
set_option maxRecDepth 100000
set_option maxHeartbeats 4000000
/-! ''.join(reversed(xs)), list(text), len(set(..)), type(x) is type(y). -/
namespace L2.Jk
open PySem PySem.W PySem.Spec PySem.Calls PyProof.Rows

theorem paired_of {α β : Type} {F : α → β → Prop} : ∀ {xs : List α} {ys : List β}, xs.length = ys.length → (∀ (i : Nat) x y, xs[i]? = some x → ys[i]? = some y → F x y) → Paired F xs ys
  | [], [], _, _ => .nil
  | [], _ :: _, e, _ => by cases e
  | _ :: _, [], e, _ => by cases e
  | x :: xs, y :: ys, e, h => .cons (h 0 x y rfl rfl) (paired_of (Nat.succ.inj e) fun i a b h1 h2 => h (i + 1) a b h1 h2)
section
variable {X : Cx}
/-! ### list(text) -/
/-- its signs, one text each -/
def signsV (z : Str) : List V := (List.range z.cps.size).map fun i => V.str ⟨#[z.cps.getD i 0]⟩
theorem call_listStr (hc : X.calm = true) : CallR X (.type "list") (fun xs H Q => ∃ z : Str, xs = [.str z] ∧ z.cps.size ≤ 1000 ∧ ∀ p H', H p = none → Same H H' → H' p = some (.lst (signsV z)) → Q (.ref p) H') := by
  intro pins s σ H xs us Q I r h
  obtain ⟨z, rfl, hz, q⟩ := h
  obtain ⟨u, rfl, t, rfl⟩ := vals1 r
  have hz' : z.cps.size ≤ sizeLine := by rw [sizeLine_eq]; omega
  refine call_list_str (I.ok.hd hc) z t (fun h' tk acc c k hp ha => ?_) hz'
  obtain ⟨al, ai⟩ := ha
  have vs : Vals (signsV z) acc.toList := by
    refine paired_of (show (signsV z).length = acc.toList.length by
      have e : acc.toList.length = acc.size := Array.length_toList
      rw [e, al]
      simp [signsV]) fun i x v hx hv => ?_
    have hi : i < z.cps.size := by
      have := (List.getElem?_eq_some_iff.mp hx).1
      simpa [signsV] using this
    obtain ⟨t', e⟩ := sign_at (ai i v (by rw [← Array.getElem?_toList]; exact hv))
    subst e
    have e2 : x = V.str ⟨#[z.cps.getD i 0]⟩ := by
      unfold signsV at hx
      rw [List.getElem?_map, List.getElem?_range hi] at hx
      exact (Option.some.inj hx).symm
    subst e2
    exact ⟨t', rfl⟩
  have n := I.fresh
  refine ⟨.ref s.heap.objs.size, _, I.laid (t' := tk) (h' := h') (o := .lst (signsV z)) k (Nat.le_refl _) ⟨?_, acc.toList, c, vs, by simpa using hp⟩, rfl, q _ _ n (same_upd n) upd_same⟩
  simp only [signsV, List.length_map, List.length_range]
  exact hz'
/-! ### len(set(..)) -/
def tLenSetStr (te : TE) : TE := fun σ H Q => te σ H fun x H1 => ∃ z : Str, x = .str z ∧ z.cps.size ≤ 4000 ∧ Q (.int (newS (fun i => ⟨#[z.cps.getD i 0]⟩) z.cps.size : Nat)) H1
theorem held_len {h : Heap} {S : Addr} {ks : Nat → Str} {i : Nat} {A : Around} {E : Value → Shared → Prop} {Q : Value → Shared → Prop} {s : Shared} (H : HeldS X.prog X.w s.heap S ks i) (hi : i ≤ 4000)
    (q : ∀ tk, Q (.int (newS ks i : Nat) tk) { s with toks := tk + 1 }) : wpAny (model X.prog X.w) A (call (.builtin "len") [.ref S]) Q E s := by
  have few := newS_le ks i
  obtain ⟨o, es, ep, t, ho, hex, hd, _, _, _, hf, hn⟩ := H
  exact call_len_set ho hex hd hf (by rw [hn]; omega) (by rw [hn]; exact q _)
theorem pe_lenSetStr {a : Expr} {ta : TE} {p p2 q pos : Pos} (hc : X.calm = true) (hg : Gl X "len") (hm : X.mg "len" = none) (hg2 : Gl X "set") (hm2 : X.mg "set" = none) (ha : PE X a ta)
    (na : starEach [a] X.env = (false, eval a X.env) :: starEach [] X.env := by rfl) : PE X (.Call (.Name "len" p) [.Call (.Name "set" p2) [a] [] q] [] pos) (tLenSetStr ta) := by
  constructor
  intro pins s σ H Q I h
  refine Call_ (ld_blt I hg hm boot_len (PyProof.Rows.callWith_builtin1 (PyProof.Rows.args_cons ?_ rfl) rfl rfl))
  refine Call_ (ld_blt I hg2 hm2 boot_set (PyProof.Rows.callWith_type1 (PyProof.Rows.args_cons (thn (ha.run pins s σ H _ I h) fun v s1 ⟨x, H1, I1, r1, z, ex, hz, q1⟩ => PyProof.Rows.args_nil ?_) na) na rfl))
  subst ex
  obtain ⟨t, rfl⟩ := r1
  refine set_callStr (I1.ok.hd hc) (by unfold scanBound; omega) fun h' tk hS hk => PyProof.Rows.args_nil ?_
  have I2 : Inv X pins σ H1 { s1 with heap := h', toks := tk } := I1.kept fun b o e => hk b o (Heap.lt_size e) e
  exact held_len (h := h') (s := { s1 with heap := h', toks := tk }) hS hz fun tk' => ⟨.int _, H1, I2.tok _, ⟨_, rfl⟩, q1⟩
/-- .. of a list or a tuple of texts -/
def tLenSetSeq (K : Frag) (te : TE) : TE := fun σ H Q => te σ H fun x H1 => ∃ (l : Addr) (ys : List Str), x = .ref l ∧ (SqL K H1 l (ys.map V.str) ∨ SqT K H1 l (ys.map V.str)) ∧ ys.length ≤ 4000 ∧ Q (.int (newS (fun i => ys.getD i Str.empty) ys.length : Nat)) H1
theorem strs_get {ys : List Str} {us : List Value} (r : Vals (ys.map V.str) us) (i : Nat) (v : Value) (h : us.toArray[i]? = some v) : ∃ t : Tok, v = Value.str (ys.getD i Str.empty) t := by
  have h' : us[i]? = some v := by simpa using h
  have lt : i < ys.length := by
    have := (List.getElem?_eq_some_iff.mp h').1
    rw [← r.length, List.length_map] at this
    exact this
  obtain ⟨u, hu, ru⟩ := r.get (i := i) (x := V.str (ys.getD i Str.empty)) (by rw [List.getElem?_map, List.getElem?_eq_getElem lt, List.getD_eq_getElem?_getD, List.getElem?_eq_getElem lt]; rfl)
  rw [h'] at hu
  cases hu
  exact ru
theorem pe_lenSetSeq {a : Expr} {ta : TE} {p p2 q pos : Pos} (hc : X.calm = true) (hg : Gl X "len") (hm : X.mg "len" = none) (hg2 : Gl X "set") (hm2 : X.mg "set" = none) (ha : PE X a ta)
    (na : starEach [a] X.env = (false, eval a X.env) :: starEach [] X.env := by rfl) : PE X (.Call (.Name "len" p) [.Call (.Name "set" p2) [a] [] q] [] pos) (tLenSetSeq X.K ta) := by
  constructor
  intro pins s σ H Q I h
  refine Call_ (ld_blt I hg hm boot_len (PyProof.Rows.callWith_builtin1 (PyProof.Rows.args_cons ?_ rfl) rfl rfl))
  refine Call_ (ld_blt I hg2 hm2 boot_set (PyProof.Rows.callWith_type1 (PyProof.Rows.args_cons (thn (ha.run pins s σ H _ I h) fun v s1 ⟨x, H1, I1, r1, l, ys, ex, hq, hz, q1⟩ => PyProof.Rows.args_nil ?_) na) na rfl))
  subst ex
  cases r1
  have fin : ∀ (its : List Value), Vals (ys.map V.str) its → ∀ (h' : Heap) (tk : Nat), HeldS X.prog X.w h' s1.heap.objs.size (fun i => ys.getD i Str.empty) its.toArray.size → (∀ b o, b < s1.heap.objs.size → s1.heap.get? b = some o → h'.get? b = some o) →
      wpAny (model X.prog X.w) X.A (spliced (backTo pos (starEach [] X.env))) (fun vs s₂ => wpAny (model X.prog X.w) X.A (call (.builtin "len") (Value.ref s1.heap.objs.size :: vs)) (EP X pins σ Q) X.xe s₂) X.xe { s1 with heap := h', toks := tk } := fun its r h' tk hS hk => by
    have hl : its.toArray.size = ys.length := by rw [List.size_toArray, ← r.length, List.length_map]
    rw [hl] at hS
    have I2 : Inv X pins σ H1 { s1 with heap := h', toks := tk } := I1.kept fun b o e => hk b o (Heap.lt_size e) e
    exact PyProof.Rows.args_nil (held_len (h := h') (s := { s1 with heap := h', toks := tk }) hS hz fun tk' => ⟨.int _, H1, I2.tok _, ⟨_, rfl⟩, q1⟩)
  rcases hq with hq | hq
  · obtain ⟨its, r, pl, _⟩ := I1.list hq
    have hl : its.toArray.size = ys.length := by rw [List.size_toArray, ← r.length, List.length_map]
    exact set_callList (I1.ok.hd hc) pl.isList (strs_get r) (by unfold scanBound; omega) fun h' tk hS hk => fin its r h' tk hS hk
  · obtain ⟨its, r, pl, _⟩ := I1.tuple hq
    have hl : its.toArray.size = ys.length := by rw [List.size_toArray, ← r.length, List.length_map]
    exact set_callTup (I1.ok.hd hc) pl (strs_get r) (by unfold scanBound; omega) fun h' tk hS hk => fin its r h' tk hS hk
/-! ### type(x) is type(y) -/
def rTyA (X : Cx) : List V → Hp → VK → Prop := fun xs H Q => ∃ x, xs = [x] ∧ ((∃ a C dx fs, x = .ref a ∧ H a = some (.ins C dx fs) ∧ Q (.ref C) H) ∨ ∃ T, RZ.Ty4 H x T ∧ Q (.ty T) H)
theorem call_tyA : CallR X (.type "type") (rTyA X) := by
  intro pins s σ H xs us Q I r h
  obtain ⟨x, rfl, h | h⟩ := h
  · obtain ⟨a, C, dx, fs, rfl, ha, q⟩ := h
    exact cr_type pins s σ H _ us Q I r ⟨a, C, dx, fs, rfl, ha, q⟩
  · obtain ⟨T, t, q⟩ := h
    exact RZ.call_type4 pins s σ H _ us Q I r ⟨x, T, rfl, t, q⟩
def rIsA (X : Cx) : R2 := fun x y H Q => ∃ a, x = .ref a ∧ ((∃ b, y = .ref b ∧ (a = b ∨ (makesIn X.K a = true ∧ makesIn X.K b = true)) ∧ Q (.bl (decide (a = b))) H) ∨ ∃ T, y = .ty T ∧ Q (.bl false) H)
theorem op_isA : OpR X (compareOp .Is) (rIsA X) := by
  intro pins s σ H x y v u Q I rx ry h
  obtain ⟨a, rfl, h | h⟩ := h
  · obtain ⟨b, rfl, hab, q⟩ := h
    exact op_is_cls pins s σ H _ _ v u Q I rx ry ⟨a, b, rfl, rfl, hab, q⟩
  · obtain ⟨T, rfl, q⟩ := h
    cases rx
    cases ry
    show wpAny _ _ (do return Value.bool (← isSame (.ref a) (.type T))) _ _ _
    exact wpAny_bind (wpAny_of_eq (a := false) rfl (wpAny_pure ⟨.bl false, H, I, rfl, q⟩))
/-! ### ''.join(reversed(xs)) -/
def tJoinRev (K : Frag) (to te : TE) : TE := fun σ H Q => to σ H fun o H0 => ∃ z : Str, o = .str z ∧ te σ H0 fun v H1 => ∃ (a : Addr) (ys : List Str), v = .ref a ∧ SqL K H1 a (ys.map V.str) ∧ JoinOk z ys.reverse = true ∧ Q (.str (Txt.join z ys.reverse)) H1
theorem strs_pairs : ∀ {ys : List Str} {us : List Value}, Vals (ys.map V.str) us → ∃ l : List (Str × Tok), strValues l = us ∧ l.map (·.1) = ys
  | [], _, .nil => ⟨[], rfl, rfl⟩
  | y :: ys, _, .cons r t => by
    obtain ⟨k, rfl⟩ := r
    obtain ⟨l, e1, e2⟩ := strs_pairs t
    exact ⟨(y, k) :: l, by rw [← e1]; rfl, by rw [← e2]; rfl⟩
theorem joined_tail (z : Str) : ∀ l : List (Str × Tok), Builtin.Str.tooLong ((l.map (·.1)).toArray.foldl (· + ·.length + z.length) 0) = false → Gives (joinTail z (strValues l)) (joinMade z l)
  | [], h => gives_joinTail z [] h
  | [p], h => gives_joinTail z [p] h
  | p :: q :: r, h => gives_joinTail z (p :: q :: r) h
theorem pe_joinRev {o e : Expr} {to te : TE} {apos p2 pos2 cpos : Pos} (hc : X.calm = true) (hg2 : Gl X "reversed") (hm2 : X.mg "reversed" = none) (ho : PE X o to) (he : PE X e te)
    (hbase : attributeBase o "join" X.env (eval o X.env) = eval o X.env := by rfl)
    (hfew : ((backTo cpos (starEach [Expr.Call (.Name "reversed" p2) [e] [] pos2] X.env)).all (fun x => !x.1) && (backToKw cpos (keywordEach [] X.env)).all (fun x => x.1.isSome)
      && decide ([Expr.Call (.Name "reversed" p2) [e] [] pos2].length + ([] : List Keyword).length + (if ([] : List Keyword).isEmpty then 0 else 1) < 30)) = true := by rfl)
    (hline : (apos.endLine == cpos.line) = true := by rfl) (hs : starEach [e] X.env = (false, eval e X.env) :: starEach [] X.env := by rfl)
    (hs2 : starEach [Expr.Call (.Name "reversed" p2) [e] [] pos2] X.env = (false, eval (.Call (.Name "reversed" p2) [e] [] pos2) X.env) :: starEach [] X.env := by rfl) :
    PE X (.Call (.Attribute o "join" apos) [.Call (.Name "reversed" p2) [e] [] pos2] [] cpos) (tJoinRev X.K to te) := by
  constructor
  intro pins s σ H Q I h
  refine wpAny_Call_method_late hbase hfew hline rfl (thn (ho.run pins s σ H _ I h) fun v s1 ⟨x, H0, I0, r0, z, ex, q0⟩ => ?_)
  subst ex
  obtain ⟨t, rfl⟩ := r0
  refine ⟨"str", "str.join", PySem.F.plainAttrs_str, PySem.F.slot_str_join, PySem.F.type_str_join, typeIs_str _ _ _, (fun a e => nomatch e), ?_⟩
  refine Calls.callWith_builtin (by rw [hs2]; rfl) ?_
  rw [hs2]
  refine Calls.evalArgs_plain (Calls.spliced_cons ?_)
  refine Call_ (ld_blt I0 hg2 hm2 PyProof.Rows.boot_reversed (PyProof.Rows.callWith_type1 (PyProof.Rows.args_cons (thn (he.run pins s1 σ H0 _ I0 q0) fun u s2 ⟨y, H1, I1, r1, a, ys, ey, hq, ok, q1⟩ => PyProof.Rows.args_nil ?_) hs) hs rfl))
  subst ey
  obtain rfl : u = Value.ref a := r1
  obtain ⟨its, rv, pl, hz⟩ := I1.list hq
  refine call_reversed_list pl.isList (Calls.spliced_nil ?_)
  have k0 : ∀ b o, s2.heap.get? b = some o → (s2.heap.push (revObj a ((its.toArray.size : Int) - 1))).get? b = some o := fun b o e => Heap.get?_push_of_some _ e
  have I2 : Inv X pins σ H1 { s2 with heap := s2.heap.push (revObj a ((its.toArray.size : Int) - 1)) } := I1.kept (t' := s2.toks) k0
  obtain ⟨f0, f1, f2, f3, f4, f5⟩ := I1.fpOk (H' := H1) (b := s2.heap.objs.size) (Nat.le_refl _) (I1.hok.fresh (Nat.le_refl _))
  have hl := pl.isList
  obtain ⟨ol, hol, _⟩ := id hl
  have ne : a ≠ s2.heap.objs.size := Nat.ne_of_lt (Heap.lt_size hol)
  have sm : its.toArray.size ≤ sizeLine := by rw [List.size_toArray, ← rv.length]; exact hz
  have hit : (s2.heap.push (revObj a ((its.toArray.size : Int) - 1))).IsRevIter s2.heap.objs.size a ((its.toArray.size : Int) - 1) := ⟨_, Heap.get?_push_size _ rfl, rfl, rfl⟩
  refine wpAny_call (codeAny_call_builtin F.slot_str_join.plain F.entry_str_join (F.slot_str_join.check _ _ _ _ _ _ _ _ (typeIs_str _ _ _) (F.args_str_join_2 _ _) ?_))
  show wpAny _ _ (Builtin.«str.join» ⟨[.str z t, .ref s2.heap.objs.size], []⟩) _ _ _
  rw [join_tree_other]
  refine wpAny_bind (wpAny_typeOf hit.typeIs ?_)
  show wpAny _ X.A.in1 ((pyIter (.ref s2.heap.objs.size)).tryCatch _ >>= fun it => collect it >>= fun items => joinTail z items) _ _ _
  refine wpAny_bind (wpAny_tryCatch (wpAny_pyIter_revIter hit ?_))
  refine wpAny_bind (RT.collect_rev (I1.ok.hd hc) hit (hl.push _) ne sm fun h' tk acc hk hi => ?_)
  have I3 : Inv X pins σ H1 { s2 with heap := h', toks := tk } := I2.turned (t' := tk) (fun b o hb e => hk b o hb e) f0 f1 f3 f4 f5
  have rr := RT.vals_rev rv hi
  rw [← List.map_reverse] at rr
  obtain ⟨l, el, em⟩ := strs_pairs rr
  rw [← el]
  have fit : Builtin.Str.tooLong ((l.map (·.1)).toArray.foldl (· + ·.length + z.length) 0) = false := by
    rw [em]
    unfold JoinOk at ok
    rwa [Bool.not_eq_true'] at ok
  have g : Gives (joinTail z (strValues l)) (joinMade z l) := joined_tail z l fit
  refine g X.prog X.w X.A (wants (EP X pins σ Q) X.xe) _ (post_join l ⟨?_, fun t' k => ?_⟩)
  · exact joinFit_length fit
  · rw [em]
    exact ⟨.str _, H1, I3.tok k, ⟨t', rfl⟩, q1⟩
end
end L2.Jk

set_option Elab.async false
set_option linter.all false
set_option maxRecDepth 100000
set_option maxHeartbeats 4000000
/-! Errors raised, instances made where their __init__ may raise, isinstance of flat values. -/
namespace L2.Jk
open PySem PySem.W PySem.Spec PySem.Calls PyProof.Rows

section
variable {X : Cx} {CX : CXT} {k : Nat} {x : Str} {ps : List Str} {sp : Sp} {e : Expr} {es : List Expr} {t : TA} {p pos : Pos} {W : WX}
theorem pe_fnS (G : FnAt X.prog X.w X.K X.mg X.base CX k x ps sp) (hr : Room k X.A) {E : St → XK} (hx : ∀ σ, PassesAt CX X σ (E σ)) (hg : Gl X x) (ha : PA X (e :: es) t)
    (hdb : (x == ("__debug__" : Str)) = false := by decide) (he : starEach (e :: es) X.env = (false, eval e X.env) :: starEach es X.env := by rfl) (hpl : (backTo pos (starEach es X.env)).any (·.1) = false := by rfl) :
    PE X (.Call (.Name x p) (e :: es) [] pos) (tCallS sp E t) := by
  obtain ⟨f, fd, hm, kp, F, hb⟩ := G.ex
  exact pe_callS F hr hg hm kp hb hx ha hdb he hpl
/-! ### an error that is raised -/
def tMkErr (C : Addr) (fs : List Str) (ta : TA) : St → Hp → XK → Prop := fun σ H Q => ta σ H fun vs H1 => vs.length = fs.length ∧ ∀ d H2, H1 d = none → Same H1 H2 → H2 d = some (.xd (fldE fs vs)) → Q (.ref C) (some d) H2
theorem same_raise {H : Hp} {a C d : Addr} {fs : List (Str × V)} (ha : H a = none) (hd : H d = none) (ne : d ≠ a) : Same H (upd (del (mkE H a C d fs) a) d (.xd fs)) := fun b o e => by
  have n1 := ne_of_none e ha
  have n2 := ne_of_none e hd
  rw [upd_ne n2, del_ne n1]
  unfold mkE
  rw [upd_ne n1, upd_ne n2]
  exact e
end
/-- what is wished of an error C(v) that is raised at H -/
def RaiseE (C : Addr) (f : Str) (v : V) (H : Hp) (Q : XK) : Prop := ∀ d H2, H d = none → Same H H2 → H2 d = some (.xd [(f, v)]) → Q (.ref C) (some d) H2
theorem mkO_1 {C : Addr} {f : Str} {v : V} {H : Hp} {Q : XK} (q : RaiseE C f v H Q) : ([v] : List V).length ≤ 1000 ∧ ∀ a, H a = none → spI1 C f (.ref a :: ([v] ++ [])) (upd H a (exo a C none))
    (fun u H2 => u = .non ∧ ∃ (d : Addr) (fs : List (Str × V)), H2 a = some (exo a C (some d)) ∧ H2 d = some (exd d fs) ∧ H d = none ∧ Q (.ref C) (some d) (upd (del H2 a) d (.xd fs))) (fun _ _ _ => False) := by
  refine ⟨by show 1 ≤ 1000; decide, fun a ha => ⟨a, v, rfl, upd_same, fun d hd ne => ⟨rfl, d, [(f, v)], ?_, ?_, ?_, ?_⟩⟩⟩
  · rw [mkE_new ne]
    exact upd_same
  · rw [mkE_new ne]
    unfold mkE
    rw [upd_ne ne, upd_same]
  · rw [upd_ne ne] at hd
    exact hd
  · rw [mkE_new ne]
    rw [upd_ne ne] at hd
    exact q d _ hd (same_raise ha hd ne) upd_same
section
variable {X : Cx} {x : Str} {e : Expr} {es : List Expr} {ta : TA} {p pos : Pos}
/-- raise C(e), C an error of one field -/
theorem pmk_1 {C : Addr} {f z : Str} (T : ErrAt X.prog X.w X.K X.mg X.base x C [f] z) (hr : Room 2 X.A) (hg : Gl X x) (ha : PA X (e :: es) ta)
    (hdb : (x == ("__debug__" : Str)) = false := by decide) (he : starEach (e :: es) X.env = (false, eval e X.env) :: starEach es X.env := by rfl) (hpl : (backTo pos (starEach es X.env)).any (·.1) = false := by rfl) :
    PMk X (.Call (.Name x p) (e :: es) [] pos) (tMkO C (spI1 C f) [] ta) := by
  obtain ⟨fd, hb, iok⟩ := T.iok
  exact pmk_oex (X := X) (ta := ta) T.ex.ec.ox T.ini.1 T.ini.2 iok hr hb .nil pass0 hg T.mgC ha hdb he hpl
/-! ### an instance made by a class whose __init__ may raise -/
structure ClsAt (P : Program) (w : World) (K : Frag) (mg : Str → Option Value) (base : Heap) (CX : CXT) (k : Nat) (x : Str) (C : Addr) (ps : List Str) (sp : Sp) : Prop where
  mgC : mg x = some (.ref C)
  cl : Cls K C
  mkr : Mk K C (He.ma K C "__init__")
  ok : ∃ fd, FnOk P w K mg base CX k (He.ma K C "__init__") fd ps sp ∧ Binds K fd ps []
def tNewS (C : Addr) (sp : Sp) (E : St → XK) (t : TA) : TE := fun σ H Q => t σ H fun vs H1 => ∀ a dx, H1 a = none → H1 dx = none → dx ≠ a → sp (.ref a :: vs) (upd (upd H1 dx (.own a)) a (.ins C dx [])) (fun v H2 => v = .non ∧ Q (.ref a) H2) (E σ)
theorem pe_newS {CX : CXT} {k : Nat} {C : Addr} {ps : List Str} {sp : Sp} {E : St → XK} (G : ClsAt X.prog X.w X.K X.mg X.base CX k x C ps sp) (hr : Room (k + 1) X.A) (hx : ∀ σ, PassesAt CX X σ (E σ)) (hg : Gl X x) (ha : PA X (e :: es) ta)
    (hdb : (x == ("__debug__" : Str)) = false := by decide) (he : starEach (e :: es) X.env = (false, eval e X.env) :: starEach es X.env := by rfl) (hpl : (backTo pos (starEach es X.env)).any (·.1) = false := by rfl) :
    PE X (.Call (.Name x p) (e :: es) [] pos) (tNewS C sp E ta) := by
  obtain ⟨fd, F, hb⟩ := G.ok
  have M := G.mkr
  constructor
  intro pins s σ H Q I h
  refine wpAny_Call_Name_kw (ld_glob I hg G.mgC ?_ hdb)
  refine callWith_K (h₀ := X.base) I.ok.mod.kin M.kp (thn (ha.run pos pins s σ H _ I h) fun us s1 ⟨vs, H1, I1, r, q⟩ => ⟨I1.kIn, ?_⟩) he hpl
  show wpAny _ _ (call (.ref C) us) _ _ _
  have pr := q (s1.heap.objs.size + 1) s1.heap.objs.size (I1.hok.fresh (Nat.le_succ _)) I1.fresh (Nat.ne_of_lt (Nat.lt_succ_self _))
  have I2 := Inv.made (C := C) I1
  have r2 : Vals (V.ref (s1.heap.objs.size + 1) :: vs) (Value.ref (s1.heap.objs.size + 1) :: us) := .cons rfl r
  have hl : (Value.ref (s1.heap.objs.size + 1) :: us).length = ps.length := by
    rw [← r2.length]
    exact F.len _ _ _ _ pr
  have hb' := hb _ (Value.ref (s1.heap.objs.size + 1) :: us) I2.kIn (by rw [List.append_nil]; exact hl)
  rw [List.append_nil] at hb'
  refine wpAny_call (make_map (f := He.ma X.K C "__init__") I1.kIn M.makes M.init (beq_iff_eq.mp M.fn) (codeAny_mono (F.run _ X.stack _ _ ⟨Value.ref (s1.heap.objs.size + 1) :: us, []⟩ (Value.ref (s1.heap.objs.size + 1) :: us) _ _ (E σ) (hr.make C us [])
    (I2.env0.make C us []) hb' r2 pr) fun r s' hq' => ?_))
  cases r with
  | error er => exact hx σ pins _ _ er s' I2 hq'
  | ok fl =>
    cases fl with
    | ret u =>
      obtain ⟨v, H', I3, rv, ev, q3⟩ := I2.after hq'
      subst ev
      exact ⟨rv, ⟨V.ref (s1.heap.objs.size + 1), H', I3, rfl, q3⟩⟩
    | next => exact False.elim hq'
    | brk => exact False.elim hq'
    | cont => exact False.elim hq'
end
/-! ### isinstance of flat values against built-in types -/
def tyN : V → String
  | .non => "NoneType"
  | .bl _ => "bool"
  | .int _ => "int"
  | .str _ => "str"
  | _ => ""
theorem flat_ty {K : Frag} {H : Hp} {v : V} (h : flatV v = true) : TyE K H v (.type (tyN v)) := by
  cases v with
  | non => exact .x (.base .non)
  | bl b => exact .x (.base (.bl b))
  | int i => exact .x (.base (.int i))
  | str z => exact .x (.base (.str z))
  | _ => cases h
def isStr : V → Bool
  | .str _ => true
  | _ => false
/-- an int or a bool -/
def isInt : V → Bool
  | .int _ => true
  | .bl _ => true
  | _ => false
def isBl : V → Bool
  | .bl _ => true
  | _ => false
theorem kit_str {v : V} (h : flatV v = true) : kitB (tyN v) "str" = some (isStr v) := by
  cases v with
  | non => show kitB "NoneType" "str" = some false; decide +kernel
  | bl b => show kitB "bool" "str" = some false; decide +kernel
  | int i => show kitB "int" "str" = some false; decide +kernel
  | str z => show kitB "str" "str" = some true; decide +kernel
  | _ => cases h
theorem kit_int {v : V} (h : flatV v = true) : kitB (tyN v) "int" = some (isInt v) := by
  cases v with
  | non => show kitB "NoneType" "int" = some false; decide +kernel
  | bl b => show kitB "bool" "int" = some true; decide +kernel
  | int i => show kitB "int" "int" = some true; decide +kernel
  | str z => show kitB "str" "int" = some false; decide +kernel
  | _ => cases h
theorem kit_bool {v : V} (h : flatV v = true) : kitB (tyN v) "bool" = some (isBl v) := by
  cases v with
  | non => show kitB "NoneType" "bool" = some false; decide +kernel
  | bl b => show kitB "bool" "bool" = some true; decide +kernel
  | int i => show kitB "int" "bool" = some false; decide +kernel
  | str z => show kitB "str" "bool" = some false; decide +kernel
  | _ => cases h
theorem ie_of {K : Frag} {H : Hp} {v : V} {S T : String} {b : Bool} {Q : VK} (ty : TyE K H v (.type S)) (k : kitB S T = some b) (q : Q (.bl b) H) : rIe K [v, .ty T] H Q :=
  ⟨v, .ty T, .type S, .type T, b, rfl, .ty T, ty, kit_ty k, q⟩
end L2.Jk

set_option Elab.async false
set_option linter.all false
set_option maxRecDepth 100000
set_option maxHeartbeats 4000000
/-! A comprehension over a text; a method of an instance whose class shows in the heap; what happens to an error that is raised in a make. -/
namespace L2.Jk
open PySem PySem.W PySem.Spec PySem.Calls PyProof.Rows

theorem lc_str {x : Str} {g : TG} {tt : TT} {te : TE} {vs : List Nat} {σ : St} {H1 : Hp} {D : Addr} {Qd : Hp → Prop} (Pv : Nat → Hp → Prop) (h0 : Pv 0 (upd H1 D (.lst [])))
    (hs : ∀ (i c : Nat) H, x.cps[i]? = some c → Pv i H → g (.str ⟨#[c]⟩) (wipe σ vs) H fun σ2 H2 => wipe σ2 vs = wipe σ vs ∧ tt σ2 H2 fun b H3 =>
      if b = true then te σ2 H3 fun y H4 => ∃ acc, H4 D = some (.lst acc) ∧ acc.length < sizeLine ∧ Pv (i + 1) (upd H4 D (.lst (acc ++ [y]))) else Pv (i + 1) H3) (hd : ∀ H, Pv x.cps.size H → Qd H) :
    ∃ W : Nat → Nat → Hp → Prop, (∃ m, W 0 m (upd H1 D (.lst []))) ∧ ∀ i m H, W i m H →
      ((Its x).stop i H ∧ Qd H) ∨ ((Its x).go i H ∧ ∃ Nx : Hp → Prop, (∀ H', Nx H' → ∃ m', m' < m ∧ W (i + 1) m' H') ∧ ∀ y H', (Its x).yld i H y H' → g y (wipe σ vs) H' fun σ2 H2 => wipe σ2 vs = wipe σ vs ∧ tt σ2 H2 fun b H3 =>
        if b = true then te σ2 H3 fun y H4 => ∃ acc, H4 D = some (.lst acc) ∧ acc.length < sizeLine ∧ Nx (upd H4 D (.lst (acc ++ [y]))) else Nx H3) := by
  refine ⟨fun i m H => m = x.cps.size - i ∧ i ≤ x.cps.size ∧ Pv i H, ⟨x.cps.size, by simp, Nat.zero_le _, h0⟩, ?_⟩
  rintro i m H ⟨rfl, hi, p⟩
  by_cases hlt : i < x.cps.size
  · refine .inr ⟨hlt, Pv (i + 1), fun H' p' => ⟨x.cps.size - (i + 1), by omega, rfl, hlt, p'⟩, fun y H' z => ?_⟩
    obtain ⟨e, c, hc, ev⟩ := z
    subst e ev
    exact hs i c _ hc p
  · have e : i = x.cps.size := by omega
    subst e
    exact .inl ⟨Nat.le_refl _, hd H p⟩
/-- o.m(e, ..), the class of o as the heap has it -/
def tMethD (X : Cx) (CX : CXT) (m : Str) (E : XK) (ta : TE) (t : TA) : TE := fun σ H Q => ta σ H fun x H1 => ∃ (a C dx f : Addr) (fs : List (Str × V)) (k : Nat) (fd : FuncData) (ps : List Str) (sp : Sp), x = .ref a ∧ H1 a = some (.ins C dx fs) ∧ fs.lookup m = none ∧
  Cls X.K C ∧ Meth X.K C m f ∧ FnOk X.prog X.w X.K X.mg X.base CX k f fd ps sp ∧ Room k X.A ∧ Binds X.K fd ps [] ∧ t σ H1 fun vs H2 => sp (x :: vs) H2 Q E
section
variable {X : Cx} {CX : CXT} {E : XK} {o e : Expr} {es : List Expr} {m : Str} {ta : TE} {t : TA} {apos pos : Pos}
theorem pe_methD {pl : Sem Bool} (he : PE X o ta) (hx : Passes CX X E) (ha : PA X (e :: es) t)
    (hst : starEach (e :: es) X.env = (false, eval e X.env) :: starEach es X.env := by rfl) (hpl : (backTo pos (starEach es X.env)).any (·.1) = false := by rfl)
    (ht : eval (.Call (.Attribute o m apos) (e :: es) [] pos) X.env = (do
      let ov ← eval o X.env
      standAt apos.atName
      let (f, first) ← holding [ov] (getMethod ov m pl)
      callWith pos f first (backTo pos (starEach (e :: es) X.env)) (backToKw pos (keywordEach [] X.env))) := by rfl) :
    PE X (.Call (.Attribute o m apos) (e :: es) [] pos) (tMethD X CX m E ta t) := by
  refine ⟨fun pins s σ H Q I h => ?_⟩
  refine PySem.W.methodCall_KW (pl := pl) (thn (he.run pins s σ H _ I h) fun u s1 hh => ?_) ht
  obtain ⟨x, H1, I1, rx, a, C, dx, f, fs, k, fd, ps, sp, ex, ea, l, c, hm, F, hr, hb, q⟩ := hh
  subst ex
  obtain rfl : u = Value.ref a := rx
  refine getmeth_ok I1 ea c hm l ?_
  refine PySem.W.callWith_K (first := [.ref a]) (h₀ := X.base) I.ok.mod.kin hm.kp (thn (ha.run pos pins s1 σ H1 _ I1 q) fun us s2 ⟨vs, H2, I2, r, q2⟩ => ⟨I2.kIn, ?_⟩) hst hpl
  have q2' : sp (V.ref a :: (vs ++ [])) H2 Q E := by rw [List.append_nil]; exact q2
  exact run_fn (us := .ref a :: us) (vs := .ref a :: vs) (dvs := []) (ds := []) F hr hb .nil hx I2 (.cons rfl r) q2'
end
/-- a call that the reading never comes to -/
theorem fn_never {P : Program} {w : World} {K : Frag} {mg : Str → Option Value} {base : Heap} {CX : CXT} {k : Nat} {f : Addr} {fd : FuncData} {ps : List Str} : FnOk P w K mg base CX k f fd ps (fun _ _ _ _ => False) where
  len := fun _ _ _ _ h => False.elim h
  run := fun _ _ _ _ _ _ _ _ _ _ _ _ _ h => False.elim h
theorem same_new {H : Hp} {a dx C : Addr} {fs : List (Str × V)} (ha : H a = none) (hd : H dx = none) : Same H (upd (upd H dx (.own a)) a (.ins C dx fs)) := fun b o e => by
  rw [upd_ne (ne_of_none e ha), upd_ne (ne_of_none e hd)]
  exact e
theorem same_put {H H1 : Hp} {p : Addr} {o : HO} (S : Same H H1) (n : H p = none) : Same H (upd H1 p o) := fun b u e => by
  rw [upd_ne (ne_of_none e n)]
  exact S b u e
end L2.Jk

set_option Elab.async false
set_option linter.all false
set_option maxRecDepth 100000
set_option maxHeartbeats 4000000
/-! Comparisons with instances in them: lists by !=, tuples of unlike lengths by ==, an instance != anything that is no subclass' instance. -/
namespace L2.Jk
open PySem PySem.W PySem.Spec PySem.Calls PyProof.Rows PySem.SeqAt
open AutoSeq1 (wpAny_loadPart')
open MeetsSeq MeetsSeq2 MeetsSeq3 SeqRoads2
section
variable {prog : Program} {w : World} {A : Around} {R : Result → Shared → Prop} {E : Value → Shared → Prop} {s : Shared}
/-- the two lists, read anew each turn, have N items each, and the next two are equal -/
def LsI (prog : Program) (w : World) (A : Around) (E : Value → Shared → Prop) (a b : Addr) (N : Nat) (J : Nat → Shared → Prop) : Prop :=
  ∀ i s, J i s → ∃ (its jts : Array Value) (n m : Nat), s.heap.get? a = some { cls := .type "list", data := .seq its n } ∧ s.heap.get? b = some { cls := .type "list", data := .seq jts m } ∧ its.size = N ∧ jts.size = N ∧
    ∀ (h1 : i < its.size) (h2 : i < jts.size), wpAny (model prog w) A.in1 (eqBool its[i] jts[i]) (fun r s' => r = true ∧ J (i + 1) s') E s
theorem ne_turns (a b : Addr) (N : Nat) (J : Nat → Shared → Prop) (hJ : LsI prog w A (fun e s' => R (.error e) s') a b N J) (fin : ∀ s, J N s → R (.ok (.ret (.bool false))) s) (m : Nat) :
    ∀ i : Nat, N - i = m → i ≤ N → ∀ s, J i s → wpAny (model prog w) A.in1 (Builtin.«list.__eq__.loop» ⟨[.ref a, .ref b, rawInt i, rawInt 3], []⟩) (GQ.FinOf prog w A R) (fun e s' => R (.error e) s') s := by
  induction m with
  | zero =>
    intro i hm hi s h
    obtain ⟨its, jts, n, m, ea, eb, sa, sb, _⟩ := hJ _ _ h
    obtain rfl : i = N := by omega
    have done : R (.ok (.ret (.bool false))) s := fin s h
    obtain ⟨hp, g, d, tk, os⟩ := s
    wp_walk using wpAny_loadPart' ea, wpAny_loadPart' eb
    rw [show its[((i : Nat) : Int).toNat]? = none by simp; omega, show jts[((i : Nat) : Int).toNat]? = none by simp; omega]
    wp_walk using wpAny_loadPart' ea, wpAny_loadPart' eb
    show R (.ok (.ret (.bool (its.size != jts.size)))) _
    rw [sa, sb]
    simpa using done
  | succ m ih =>
    intro i hm hi s h
    obtain ⟨its, jts, n, k, ea, eb, sa, sb, turn⟩ := hJ _ _ h
    have l1 : i < its.size := by omega
    have l2 : i < jts.size := by omega
    have one := turn l1 l2
    obtain ⟨hp, g, d, tk, os⟩ := s
    wp_walk using wpAny_loadPart' ea, wpAny_loadPart' eb
    rw [show its[((i : Nat) : Int).toNat]? = some its[i] by simp [l1], show jts[((i : Nat) : Int).toNat]? = some jts[i] by simp [l2]]
    refine wpAny_bind (wpAny_mono one (fun r s2 q2 => ?_) fun _ _ x => x)
    obtain ⟨rfl, q2⟩ := q2
    have next := ih (i + 1) (by omega) (by omega) s2 q2
    obtain ⟨hp2, g2, d2, tk2, os2⟩ := s2
    wp_walk
    rw [show ((i : Int) + 1) = ((i + 1 : Nat) : Int) by omega]
    refine ⟨plainId_quiet plain_eq_loop _, codeAny_builtin entry_eq_loop ?_⟩
    rw [Around.under_plainId plain_eq_loop _]
    exact next
theorem list_ne_same (a b : Addr) (N : Nat) (J : Nat → Shared → Prop) (hJ : LsI prog w A (fun e s' => R (.error e) s') a b N J) (fin : ∀ s, J N s → R (.ok (.ret (.bool false))) s) (h : J 0 s) :
    wpAny (model prog w) A.in1 (Builtin.«list.__ne__» ⟨[.ref a, .ref b], []⟩) (GQ.FinOf prog w A R) (fun e s' => R (.error e) s') s := by
  obtain ⟨its, jts, n, m, ea, eb, sa, sb, _⟩ := hJ _ _ h
  have all := ne_turns (A := A) (R := R) a b N J hJ fin _ 0 rfl (Nat.zero_le _) s h
  obtain ⟨hp, g, d, tk, os⟩ := s
  have f3 := AutoSeq1.sub_list_list
  have same : ¬ (its.size != jts.size) = true := by simp [sa, sb]
  wp_walk using wpAny_loadPart' ea, wpAny_loadPart' eb
  refine ⟨plainId_quiet plain_eq_loop _, codeAny_builtin entry_eq_loop ?_⟩
  rw [Around.under_plainId plain_eq_loop _]
  exact all
/-- == of tuples of unlike lengths whose items are equal as far as both go -/
theorem tup_eq_pre (l b : Addr) (its jts : Array Value) (n n2 : Nat) (dd dd2 : Option Addr) (sl sl2 : Array (Option Value)) (hsz : jts.size < its.size) (J : Nat → Shared → Prop)
    (turn : ∀ i (h1 : i < its.size) (h2 : i < jts.size) s, J i s → wpAny (model prog w) A.in1 (eqBool its[i] jts[i]) (fun r s' => r = true ∧ J (i + 1) s') (fun e s' => R (.error e) s') s)
    (fin : ∀ s, J jts.size s → R (.ok (.ret (.bool false))) s) (hl : s.heap.get? l = some { cls := .type "tuple", dict := dd, data := .seq its n, slots := sl }) (hb : s.heap.get? b = some { cls := .type "tuple", dict := dd2, data := .seq jts n2, slots := sl2 })
    (h : J 0 s) : wpAny (model prog w) A.in1 (Builtin.«tuple.__eq__» ⟨[.ref l, .ref b], []⟩) (GQ.FinOf prog w A R) (fun e s' => R (.error e) s') s := by
  have f2 := AutoSeq1.sub_tuple_tuple
  have len : (its.toList.zip jts.toList).length = jts.size := by simp; omega
  have h0 := h
  obtain ⟨hp, g, d, tk, os⟩ := s
  wp_walk using wpAny_loadPart' hl, wpAny_loadPart' hb, wpAny_forIn_list _ (fun rest b s' => b.1 = none ∧ ∃ i, rest = (its.toList.zip jts.toList).drop i ∧ i ≤ jts.size ∧ J i s') _
  case turn =>
    rintro ⟨y, x⟩ rest b s' ⟨hb', i, hz, hi, hJ⟩
    have lt : i < (its.toList.zip jts.toList).length := by
      refine Nat.lt_of_not_le fun z => ?_
      rw [List.drop_of_length_le z] at hz
      cases hz
    have h2 : i < jts.size := len ▸ lt
    have h1 : i < its.size := by omega
    rw [List.drop_eq_getElem_cons lt] at hz
    obtain ⟨e1, e2⟩ := List.cons.inj hz
    obtain rfl : y = its[i] := by simpa using congrArg Prod.fst e1
    obtain rfl : x = jts[i] := by simpa using congrArg Prod.snd e1
    refine wpAny_bind (wpAny_mono (turn i h1 h2 s' hJ) (fun r s2 q2 => ?_) fun _ _ x => x)
    obtain ⟨rfl, q2⟩ := q2
    wp_walk
    exact ⟨rfl, i + 1, e2, h2, q2⟩
  case fin =>
    rintro ⟨b1, b2⟩ s' ⟨hb', i, hz, hi, hJ⟩
    dsimp only at hb'
    subst hb'
    have ge : jts.size ≤ i := by
      refine Nat.le_of_not_lt fun z => ?_
      rw [List.drop_eq_getElem_cons (by rw [len]; exact z)] at hz
      cases hz
    obtain rfl : i = jts.size := by omega
    have hR := fin s' hJ
    have ns : (its.size == jts.size) = false := beq_eq_false_iff_ne.mpr (by omega)
    wp_walk
    simpa [Builtin.Tuple.tupleCompareSizes, ns] using hR
  case h => exact ⟨rfl, 0, rfl, Nat.zero_le _, h0⟩
end
section
variable {X : Cx} {n : Nat} {D : Eqv}
/-- xs != ys of two lists whose items D says to be equal -/
def rNeL (D : Eqv) : R2 := fun x y H Q => DList D x y H ∧ ∀ H', Same H H' → Q (.bl false) H'
theorem op_neL (hD : Mon D) (h : EqG X n D) (hr : Room (n + 1) X.A) : OpR X (compareOp .NotEq) (rNeL D) := by
  intro pins s σ H x y v u Q I rx ry hq
  obtain ⟨⟨a, b, xs, ys, rfl, rfl, ha, hb, p⟩, q⟩ := hq
  cases rx
  cases ry
  obtain ⟨_, its, n1, r, e⟩ := I.hok a _ ha
  obtain ⟨_, jts, n2, r2, e2⟩ := I.hok b _ hb
  show wpAny (model X.prog X.w) X.A (richCompare .NotEq (.ref a) (.ref b)) (EP X pins σ Q) X.xe s
  refine wpAny_richCompare_same_room (op := .NotEq) ⟨_, e, rfl⟩ ⟨_, e2, rfl⟩ PySem.F.slot_list_ne (GQ.call_here PySem.F.slot_list_ne ⟨_, e, rfl⟩ PySem.F.entry_list_ne (PySem.F.args_list_ne_2 _ _) ?_) hr.units0
  refine list_ne_same (R := wants (fun v s' => v ≠ .notImplemented ∧ EP X pins σ Q v s') X.xe) a b xs.length (fun _ s' => LoopI X pins σ H s') (fun i s' q => ?_) (fun s' k => ⟨(fun x => nomatch x), ?_⟩) ⟨H, I, Ext.rfl'⟩
  · obtain ⟨H1, I1, e1⟩ := id q
    obtain ⟨z, its, k, r, e⟩ := I1.hok a _ (e1 _ _ ha)
    obtain ⟨z2, its2, k2, r2, e2⟩ := I1.hok b _ (e1 _ _ hb)
    refine ⟨its.toArray, its2.toArray, k, k2, e, e2, by rw [List.size_toArray, ← r.length], by rw [List.size_toArray, ← r2.length, ← p.1], fun h1 h2 => ?_⟩
    exact turnG hD h ⟨hr, rfl⟩ p r r2 i h1 h2 s' q
  · obtain ⟨H', I', x⟩ := k
    exact ⟨.bl false, H', I', rfl, q H' x⟩
/-- t == u of two tuples, the second one shorter, whose items D says to be equal as far as it goes -/
def rEqP (X : Cx) (D : Eqv) : R2 := fun x y H Q => ∃ a b xs ys, x = .ref a ∧ y = .ref b ∧ SqT X.K H a xs ∧ SqT X.K H b ys ∧ ys.length < xs.length ∧ Prs D (xs.take ys.length) ys H ∧ ∀ H', Same H H' → Q (.bl false) H'
theorem op_eqP (hD : Mon D) (h : EqG X n D) (hr : Room (n + 1) X.A) : OpR X (compareOp .Eq) (rEqP X D) := by
  intro pins s σ H x y v u Q I rx ry hq
  obtain ⟨a, b, xs, ys, rfl, rfl, ha, hb, hlt, p, q⟩ := hq
  cases rx
  cases ry
  obtain ⟨its, r, e, z⟩ := I.tuple ha
  obtain ⟨jts, r2, e2, z2⟩ := I.tuple hb
  have hsz : jts.toArray.size < its.toArray.size := by rw [List.size_toArray, List.size_toArray, ← r.length, ← r2.length]; exact hlt
  obtain ⟨⟨c1, d1, t1, s1⟩, g1, k1, n1, e1⟩ := id e
  obtain ⟨⟨c2, d2, t2, s2⟩, g2, k2, n2, e22⟩ := id e2
  dsimp only at k1 e1 k2 e22
  subst k1 e1 k2 e22
  show wpAny (model X.prog X.w) X.A (richCompare .Eq (.ref a) (.ref b)) (EP X pins σ Q) X.xe s
  refine wpAny_richCompare_same_room (op := .Eq) ⟨_, g1, rfl⟩ ⟨_, g2, rfl⟩ PySem.F.slot_tuple_eq (GQ.call_here PySem.F.slot_tuple_eq ⟨_, g1, rfl⟩ PySem.F.entry_tuple_eq (PySem.F.args_tuple_eq_2 _ _) ?_) hr.units0
  refine tup_eq_pre (R := wants (fun v s' => v ≠ .notImplemented ∧ EP X pins σ Q v s') X.xe) a b its.toArray jts.toArray n1 n2 d1 d2 s1 s2 hsz (fun _ s' => LoopI X pins σ H s') (fun i h1 h2 s' k => ?_) (fun s' k => ⟨(fun x => nomatch x), ?_⟩) g1 g2 ⟨H, I, Ext.rfl'⟩
  · have h1' : i < (its.take ys.length).toArray.size := by
      rw [List.size_toArray, List.length_take, ← r.length]
      rw [List.size_toArray, ← r2.length] at h2
      omega
    have t := turnG hD h ⟨hr, rfl⟩ p (Vals.take ys.length r) r2 i h1' h2 s' k
    have et : (its.take ys.length).toArray[i] = its.toArray[i] := by simp
    rw [et] at t
    exact t
  · obtain ⟨H', I', x⟩ := k
    exact ⟨.bl false, H', I', rfl, q H' x⟩
end
section
variable {X : Cx} {CX : CXT} {E : XK}
/-- x != y, x an instance with an own __eq__ and no __ne__, y a reference whose class does not come first -/
def rNeA (X : Cx) (CX : CXT) (E : XK) : R2 := fun x y H Q => ∃ (a b C dx : Addr) (fs : List (Str × V)) (t : Value), x = .ref a ∧ y = .ref b ∧ H a = some (.ins C dx fs) ∧ EqcC X.K C ∧ TyE X.K H y t ∧ notFirst X.K C t = true ∧
  ∃ (k : Nat) (fd : FuncData) (ps : List Str) (sp : Sp), keepIn X.K (.ref (He.ma X.K C "__eq__")) = true ∧ FnOk X.prog X.w X.K X.mg X.base CX k (He.ma X.K C "__eq__") fd ps sp ∧ Room (k + 1) X.A ∧ Binds X.K fd ps [] ∧ sp [x, y] H (fun v H' => ∃ b, v = .bl b ∧ Q (.bl !b) H') E
theorem op_neA (hx : Passes CX X E) : OpR X (compareOp .NotEq) (rNeA X CX E) := by
  intro pins s σ H x y v u Q I rx ry h
  obtain ⟨a, b, C, dx, fs, t, rfl, rfl, ha, T, ty, nf, k, fd, ps, sp, kp, G, hr, hb, q⟩ := h
  cases rx
  obtain ⟨mA, J, _⟩ := ins_get I.hok ha
  obtain ⟨od, J, _⟩ := J.look
  obtain ⟨P, Z, p, _⟩ := kit_ofE I ry ty
  cases ry
  have hty : Looks (model X.prog X.w) s.heap (typeOf (.ref b)) t := Z.ty _ _ I.kIn p
  obtain ⟨nm, qn, N, bs, hdct, sn, sub, ab, col, dd, k0, k1, k2, k3, k5, nid, hC, ok, ne1, ne2⟩ := T.cls
  have hn : s.heap.Ns N (s.heap.nsMap N) := .of_isNs (isNs_of_in I.kIn ok)
  obtain ⟨of, hof, hcl⟩ := Option.map_eq_some_iff.mp (show (X.K.lookup (He.ma X.K C "__eq__")).map (·.cls) = some (.type "function") from beq_iff_eq.mp T.fn)
  have own : s.heap.OwnEqNoNe a C (He.ma X.K C "__eq__") "object" [.type "object"] := ⟨_, of, nm, qn, N, bs, hdct, sn, sub, ab, col, dd, k0, k1, k2, k3, k5, nid, _, _, J.at_, rfl, I.kIn _ _ hC, hn, ns_at_of I.kIn hn ne1,
    I.kIn _ _ hof, hcl, F.cmp_object.mro, F.cmp_object.eq.lookup, ns_none_of I.kIn hn ne2⟩
  have kin := I.kIn
  have fin : wpAny (model X.prog X.w) X.A (tryCompare (.ref a) "__ne__" (.ref b)) (fun r s' => ∃ v, r = some v ∧ EP X pins σ Q v s') X.xe s := by
    have c := run_in1 (us := [.ref a, .ref b]) (vs := [.ref a, .ref b]) G hr.in1 hb hx I (.cons rfl (.cons rfl .nil)) q
    obtain ⟨hp, g, d, tk, os⟩ := s
    refine tryCompare_ne_ownEq F.cmp_object own (by have := hr.units; omega) (wpAny_mono c (fun z s' hz => ?_) fun _ _ e => e)
    obtain ⟨v', H', I', r', b', rfl, q'⟩ := hz
    obtain rfl : z = Value.bool b' := r'
    exact ⟨b', rfl, _, rfl, .bl !b', H', I', rfl, q'⟩
  show wpAny (model X.prog X.w) X.A (richCompare .NotEq (.ref a) (.ref b)) (EP X pins σ Q) X.xe s
  unfold richCompare
  simp only [oneThing_ref]
  refine wpAny_holding (wpAny_bind (wpAny_cRoomFor (by have := hr.units; omega) ?_))
  rw [cmpInfo_NotEq]
  dsimp only
  refine wpAny_bind (J.type.here (wpAny_bind (hty.here ?_)))
  have last : wpAny (model X.prog X.w) X.A (tryCompare (.ref a) "__ne__" (.ref b)) (fun r s' => ∃ v, r = some v ∧ EP X pins σ Q v s') X.xe s := fin
  split
  · rename_i z
    have e : subIn X.K t (.ref C) = some false := by
      rcases Bool.or_eq_true_iff.mp nf with e | e
      · rw [beq_iff_eq.mp e] at z
        simp at z
      · exact beq_iff_eq.mp e
    refine wpAny_bind ((looks_subIn kin e).here ?_)
    simp only [Bool.false_eq_true, if_false]
    refine wpAny_bind (wpAny_mono last (fun r s' z => ?_) fun _ _ e => e)
    obtain ⟨v, rfl, hq⟩ := z
    exact wpAny_pure hq
  · refine wpAny_bind (wpAny_pure ?_)
    simp only [Bool.false_eq_true, if_false]
    refine wpAny_bind (wpAny_mono last (fun r s' z => ?_) fun _ _ e => e)
    obtain ⟨v, rfl, hq⟩ := z
    exact wpAny_pure hq
end
end L2.Jk

set_option Elab.async false
set_option linter.all false
set_option maxRecDepth 100000
set_option maxHeartbeats 4000000
/-! 'x' * n, n at least 1. -/
namespace L2.Jk
open PySem PySem.W PySem.Spec PySem.Calls PyProof.Rows
def repS (z : Str) (i : Int) : Str := ⟨(List.replicate i.toNat z.cps).foldl (· ++ ·) #[]⟩
/-- it may be done -/
def repOk (z : Str) (i : Int) : Bool := decide (1 ≤ i) && (decide (i < 1000) && (decide (z.length = 1) && (!Builtin.Str.tooLong (z.length * i.toNat) && decide ((repS z i).length ≤ 16777216))))
theorem op_mulStr {X : Cx} : OpR X (binaryOp .Mult) (fun x y H Q => ∃ (z : Str) (i : Int), x = .str z ∧ y = .int i ∧ repOk z i = true ∧ Q (.str (repS z i)) H) := by
  intro pins s σ H x y v u Q I rx ry h
  obtain ⟨z, i, rfl, rfl, ok, q⟩ := h
  obtain ⟨t, rfl⟩ := rx
  obtain ⟨t', rfl⟩ := ry
  obtain ⟨o1, ok⟩ := Bool.and_eq_true_iff.mp ok
  obtain ⟨o2, ok⟩ := Bool.and_eq_true_iff.mp ok
  obtain ⟨o3, ok⟩ := Bool.and_eq_true_iff.mp ok
  obtain ⟨o4, o5⟩ := Bool.and_eq_true_iff.mp ok
  replace o1 := of_decide_eq_true o1
  replace o2 := of_decide_eq_true o2
  replace o3 := of_decide_eq_true o3
  replace o5 := of_decide_eq_true o5
  have e1 : ¬ i < 1 := by omega
  by_cases h1 : i = 1
  · subst h1
    have er : repS z 1 = z := by
      obtain ⟨c⟩ := z
      show (⟨(List.replicate 1 c).foldl (· ++ ·) #[]⟩ : Str) = ⟨c⟩
      simp
    rw [er] at q
    refine P.mul_str (by decide) (fun _ h => absurd h (by simp)) (fun _ h => absurd h (by simp)) ?_
    rw [if_neg e1, if_pos (show ((1 : Int) == 1 || z.length == 0) = true from rfl)]
    exact ⟨.str z, H, I, ⟨t, rfl⟩, q⟩
  have e2 : (i == 1 || z.length == 0) = false := by
    rw [o3, show (i == 1) = false from beq_eq_false_iff_ne.mpr h1]
    rfl
  refine P.mul_str (by rw [decide_eq_false (by omega), decide_eq_false (by omega)]; rfl) (fun _ _ => ?_) (fun _ _ => by rwa [Bool.not_eq_true'] at o4) ?_
  · rw [o3]
    have h2 : (1 : Int) ≤ (2 ^ 63 - 1) / i := Int.le_ediv_of_mul_le (by omega) (by omega)
    omega
  · rw [if_neg e1, e2]
    exact ⟨by rw [sizeLine_eq]; exact o5, ⟨.str _, H, I.tok _, ⟨_, rfl⟩, q⟩⟩
end L2.Jk

set_option Elab.async false
set_option linter.all false
set_option maxRecDepth 100000
set_option maxHeartbeats 4000000
/-! Objects whose non-list parts stay; as_tuples; the four classes. -/
namespace L2.K51
open PySem PySem.W PySem.Spec PySem.Calls PyProof.Rows L2.Jk

/-! ### what is no list stays -/
def NL : HO → Prop
  | .lst _ => False
  | _ => True
def Kp (H H' : Hp) : Prop := ∀ c o, NL o → H c = some o → H' c = some o
theorem Kp.refl (H : Hp) : Kp H H := fun _ _ _ h => h
theorem Kp.trans {H H1 H2 : Hp} (a : Kp H H1) (b : Kp H1 H2) : Kp H H2 := fun c o n h => b c o n (a c o n h)
theorem Kp.of {H H' : Hp} (s : Same H H') : Kp H H' := fun c o _ h => s c o h
theorem Kp.but {a : Addr} {xs : List V} {H H' : Hp} (h : H a = some (.lst xs)) (b : But a H H') : Kp H H' := fun c o n e => b c o (fun z => by
  subst z
  rw [h] at e
  cases e
  exact n) e
theorem Kp.updL {p : Addr} {xs : List V} {o : HO} {H : Hp} (h : H p = some (.lst xs)) : Kp H (L2.upd H p o) := Kp.but h (but_upd H p o)
theorem Kp.new {p : Addr} {o : HO} {H : Hp} (h : H p = none) : Kp H (L2.upd H p o) := Kp.of (same_upd h)
theorem nl_tup (xs : List V) : NL (.tup xs) := trivial
theorem nl_ins (C dx : Addr) (fs : List (Str × V)) : NL (.ins C dx fs) := trivial
structure Bl (mg : Str → Option Value) : Prop where
  isinstance : mg "isinstance" = none
  list : mg "list" = none
  tuple : mg "tuple" = none
  type : mg "type" = none
  int : mg "int" = none
  len : mg "len" = none
  range : mg "range" = none
/-- a class: its name, its attributes -/
structure C0 (K : Frag) (mg : Str → Option Value) (x : Str) (fs : List Str) : Prop where
  mgC : mg x = some (.ref (CA K x))
  cl : Cls K (CA K x)
  no : ∀ f ∈ fs, NoAttr K (CA K x) f
  kk : findIn K (.ref (CA K x)) "__class__" = some (some (.builtin "object.__class__"))
  km : mroIn K (CA K x) (.type "object") = some true
  eq : EqcC K (CA K x)
  kp : keepIn K (.ref (He.ma K (CA K x) "__eq__")) = true
  mkr : Mk K (CA K x) (He.ma K (CA K x) "__init__")
  nt : notFirst K (CA K x) (.type "tuple") = true
  kl : kitOne K (.ref (CA K x)) (.type "list") = some false
  kt : kitOne K (.ref (CA K x)) (.type "tuple") = some false
structure G0 (P : Program) (w : World) (K : Frag) (mg : Str → Option Value) (base : Heap) : Prop extends Bl mg where
  cPair : C0 K mg "Pair" ["one", "other"]
  cWish : C0 K mg "Wish" ["order", "scans"]
  cStretch : C0 K mg "Stretch" ["kind", "first", "last", "pair"]
  cMend : C0 K mg "Mend" ["joints", "stretches"]
  kn : specialIn K (.builtin "object.__class__") "__get__" = some (some (.builtin "getset_descriptor.__get__"))
  kq : takesIn K (.builtin "object.__class__") = some true
  nfSM : notFirst K (CA K "Stretch") (.ref (CA K "Mend")) = true
  nfMS : notFirst K (CA K "Mend") (.ref (CA K "Stretch")) = true
  nfMW : notFirst K (CA K "Mend") (.ref (CA K "Wish")) = true
  neSM : CA K "Stretch" ≠ CA K "Mend"
  neMW : CA K "Mend" ≠ CA K "Wish"
theorem C0.ty {P : Program} {w : World} {K : Frag} {mg : Str → Option Value} {base : Heap} {x : Str} {fs : List Str} (c : C0 K mg x fs) (G : G0 P w K mg base) {H : Hp} {a dx : Addr} {gs : List (Str × V)} (h : H a = some (.ins (CA K x) dx gs)) : TyE K H (.ref a) (.ref (CA K x)) :=
  .x (.base (.ins h c.cl c.kk G.kn G.kq c.km))

def fPair (v0 v1 : V) : List (Str × V) := (putF "other" v1 (putF "one" v0 []))
theorem lPair_one {v0 v1 : V} : (fPair v0 v1).lookup ("one" : Str) = some v0 := by unfold fPair; rw [lookup_putF, if_neg (by decide +kernel)]; rw [lookup_putF, if_pos rfl]
theorem lPair_other {v0 v1 : V} : (fPair v0 v1).lookup ("other" : Str) = some v1 := by unfold fPair; rw [lookup_putF, if_pos rfl]
def fWish (v0 v1 : V) : List (Str × V) := (putF "scans" v1 (putF "order" v0 []))
theorem lWish_order {v0 v1 : V} : (fWish v0 v1).lookup ("order" : Str) = some v0 := by unfold fWish; rw [lookup_putF, if_neg (by decide +kernel)]; rw [lookup_putF, if_pos rfl]
theorem lWish_scans {v0 v1 : V} : (fWish v0 v1).lookup ("scans" : Str) = some v1 := by unfold fWish; rw [lookup_putF, if_pos rfl]
def fStretch (v0 v1 v2 v3 : V) : List (Str × V) := (putF "pair" v3 (putF "last" v2 (putF "first" v1 (putF "kind" v0 []))))
theorem lStretch_kind {v0 v1 v2 v3 : V} : (fStretch v0 v1 v2 v3).lookup ("kind" : Str) = some v0 := by unfold fStretch; rw [lookup_putF, if_neg (by decide +kernel)]; rw [lookup_putF, if_neg (by decide +kernel)]; rw [lookup_putF, if_neg (by decide +kernel)]; rw [lookup_putF, if_pos rfl]
theorem lStretch_first {v0 v1 v2 v3 : V} : (fStretch v0 v1 v2 v3).lookup ("first" : Str) = some v1 := by unfold fStretch; rw [lookup_putF, if_neg (by decide +kernel)]; rw [lookup_putF, if_neg (by decide +kernel)]; rw [lookup_putF, if_pos rfl]
theorem lStretch_last {v0 v1 v2 v3 : V} : (fStretch v0 v1 v2 v3).lookup ("last" : Str) = some v2 := by unfold fStretch; rw [lookup_putF, if_neg (by decide +kernel)]; rw [lookup_putF, if_pos rfl]
theorem lStretch_pair {v0 v1 v2 v3 : V} : (fStretch v0 v1 v2 v3).lookup ("pair" : Str) = some v3 := by unfold fStretch; rw [lookup_putF, if_pos rfl]
def fMend (v0 v1 : V) : List (Str × V) := (putF "stretches" v1 (putF "joints" v0 []))
theorem lMend_joints {v0 v1 : V} : (fMend v0 v1).lookup ("joints" : Str) = some v0 := by unfold fMend; rw [lookup_putF, if_neg (by decide +kernel)]; rw [lookup_putF, if_pos rfl]
theorem lMend_stretches {v0 v1 : V} : (fMend v0 v1).lookup ("stretches" : Str) = some v1 := by unfold fMend; rw [lookup_putF, if_pos rfl]

/-- no list, no tuple -/
inductive NSq (K : Frag) (H : Hp) : V → Prop
  | flat {v : V} (h : flatV v = true) : NSq K H v
  | pair {a dx : Addr} {fs : List (Str × V)} (h : H a = some (.ins (CA K "Pair") dx fs)) : NSq K H (.ref a)
  | str {a dx : Addr} {fs : List (Str × V)} (h : H a = some (.ins (CA K "Stretch") dx fs)) : NSq K H (.ref a)
theorem NSq.same {K : Frag} {H H' : Hp} {v : V} (S : Same H H') : NSq K H v → NSq K H' v
  | .flat h => .flat h
  | .pair h => .pair (S _ _ h)
  | .str h => .str (S _ _ h)
/-- a list or a tuple -/
def IsQ (H : Hp) (p : Addr) (xs : List V) : Prop := H p = some (.lst xs) ∨ H p = some (.tup xs)
theorem IsQ.same {H H' : Hp} {p : Addr} {xs : List V} (S : Same H H') : IsQ H p xs → IsQ H' p xs
  | .inl h => .inl (S _ _ h)
  | .inr h => .inr (S _ _ h)
def spIs (K : Frag) : Sp := fun vs H Q _ => ∃ v : V, vs = [v] ∧ ((NSq K H v ∧ ∀ H', Same H H' → Q (.bl false) H') ∨ ∃ p xs, v = .ref p ∧ IsQ H p xs ∧ ∀ H', Same H H' → Q (.bl true) H')
def spAT (K : Frag) (n : Nat) : Sp := fun vs H Q _ => ∃ v : V, vs = [v] ∧ ((1 ≤ n ∧ NSq K H v ∧ ∀ H', Same H H' → Q v H') ∨
  (2 ≤ n ∧ ∃ p xs, v = .ref p ∧ IsQ H p xs ∧ xs.length ≤ 1000 ∧ (∀ x ∈ xs, NSq K H x) ∧ ∀ t H', H t = none → Same H H' → H' t = some (.tup xs) → Q (.ref t) H'))
structure G1 (P : Program) (w : World) (K : Frag) (mg : Str → Option Value) (base : Heap) : Prop extends G0 P w K mg base where
  is_sequence : FnAt P w K mg base CX0 1 "is_sequence" ["thing"] (spIs K)
theorem pi_or {X : Cx} {tg e : Expr} {t1 t2 : TI} (h1 : PI X tg e t1) (h2 : PI X tg e t2) : PI X tg e (fun σ H R => t1 σ H R ∨ t2 σ H R) :=
  ⟨fun pins s σ H R I h => h.elim (h1.run pins s σ H R I) (h2.run pins s σ H R I)⟩
theorem none_of {H H' : Hp} {p : Addr} (S : Same H H') (h : H' p = none) : H p = none := by
  cases e : H p with
  | none => rfl
  | some o => rw [S _ _ e] at h; cases h
theorem kit2 {K : Frag} {t : Value} {b : Bool} (h1 : kitOne K t (.type "list") = some false) (h2 : kitOne K t (.type "tuple") = some b) : kitAny K t [.type "list", .type "tuple"] = some b :=
  kitAny_cons (b := false) h1 (fun _ => kitAny_cons h2 (fun e => by rw [e]; exact kitAny_nil) (fun e => e)) (fun z => nomatch z)
theorem kit_lt {K : Frag} (T : String) (h1 : kitB T "list" = some false) (h2 : kitB T "tuple" = some false) : kitAny K (.type T) [.type "list", .type "tuple"] = some false := kit2 (kit_ty h1) (kit_ty h2)
theorem flat_lt {K : Frag} {v : V} (h : flatV v = true) : kitAny K (.type (tyN v)) [.type "list", .type "tuple"] = some false := by
  cases v with
  | non => exact kit_lt "NoneType" (by decide +kernel) (by decide +kernel)
  | bl b => exact kit_lt "bool" (by decide +kernel) (by decide +kernel)
  | int i => exact kit_lt "int" (by decide +kernel) (by decide +kernel)
  | str z => exact kit_lt "str" (by decide +kernel) (by decide +kernel)
  | _ => cases h
section
variable {P : Program} {w : World} {K : Frag} {mg : Str → Option Value} {base : Heap} {f : Addr} {fd : FuncData}

abbrev s_is_sequence : Stmt := top 1
theorem sc_is_sequence : FnScope ["thing"] ["thing"] (defScope s_is_sequence) := ⟨rfl, rfl, rfl, by decide +kernel, rfl, by decide +kernel, by decide +kernel⟩

theorem ok_is_sequence (F : FunD K "is_sequence" "is_sequence" (defArgs s_is_sequence) (defBody s_is_sequence) (defScope s_is_sequence) [] [] f fd) (G : G0 P w K mg base) : FnOk P w K mg base CX0 1 f fd ["thing"] (spIs K) := by
  refine F.ok (CX := CX0) sc_is_sequence (fun vs H Q E h => ?_) (fun cdv A outer s H vs Q E hr h => ?_)
  · obtain ⟨v, rfl, _⟩ := h
    rfl
  · refine ⟨_, PSs.nox (pss_one (ps_ret (pe_callB call_ieT (by rfl) G.isinstance (by decide +kernel) (pa_cons (pv 0) (pa_cons (pe_tupS (pa_cons (pe_bty (n := "list") (by rfl) G.list (by decide +kernel)) (pa_cons (pe_bty (n := "tuple") (by rfl) G.tuple (by decide +kernel)) pa_nil))) pa_nil))))), ?_⟩
    obtain ⟨v, rfl, h⟩ := h
    refine ⟨_, rfl, by show 2 ≤ 1000; decide, fun p0 H0 hp0 S0 e0 => ?_⟩
    rcases h with ⟨h, q⟩ | ⟨p, xs, rfl, h, q⟩
    · cases h with
      | flat h => exact ⟨_, p0, _, _, _, false, rfl, e0, .cons (.ty _) (.cons (.ty _) Paired.nil), flat_ty h, flat_lt h, q _ S0⟩
      | pair h => exact ⟨_, p0, _, _, _, false, rfl, e0, .cons (.ty _) (.cons (.ty _) Paired.nil), G.cPair.ty G (S0 _ _ h), kit2 G.cPair.kl G.cPair.kt, q _ S0⟩
      | str h => exact ⟨_, p0, _, _, _, false, rfl, e0, .cons (.ty _) (.cons (.ty _) Paired.nil), G.cStretch.ty G (S0 _ _ h), kit2 G.cStretch.kl G.cStretch.kt, q _ S0⟩
    · rcases h with h | h
      · exact ⟨_, p0, _, _, _, true, rfl, e0, .cons (.ty _) (.cons (.ty _) Paired.nil), .x (.base (.lst (S0 _ _ h))), kitAny_cons (b := true) (kit_ty (by decide +kernel)) (fun z => nomatch z) (fun _ => rfl), q _ S0⟩
      · exact ⟨_, p0, _, _, _, true, rfl, e0, .cons (.ty _) (.cons (.ty _) Paired.nil), .x (.base (.tup (S0 _ _ h))), kit2 (kit_ty (by decide +kernel)) (kit_ty (by decide +kernel)), q _ S0⟩

abbrev s_as_tuples : Stmt := top 3
theorem sc_as_tuples : FnScope ["thing", "item"] ["thing"] (defScope s_as_tuples) := ⟨rfl, rfl, rfl, by decide +kernel, rfl, by decide +kernel, by decide +kernel⟩

theorem ok_as_tuples (F : FunD K "as_tuples" "as_tuples" (defArgs s_as_tuples) (defBody s_as_tuples) (defScope s_as_tuples) [] [] f fd) (G : G1 P w K mg base) {n : Nat} (AT : FnAt P w K mg base CX0 (n + 1 + 1) "as_tuples" ["thing"] (spAT K n)) : FnOk P w K mg base CX0 (n + 2 + 1) f fd ["thing"] (spAT K (n + 1)) := by
  refine F.ok (CX := CX0) sc_as_tuples (fun vs H Q E h => ?_) (fun cdv A outer s H vs Q E hr h => ?_)
  · obtain ⟨v, rfl, _⟩ := h
    rfl
  · refine ⟨_, PSs.nox (pss_one (ps_ret (pe_ifExp (pt_val (pe_fn G.is_sequence (hr.mono (by omega)) pass0 (by rfl) (pa_cons (pv 0) pa_nil))) (pe_callTy call_tuple_of (by rfl) G.tuple (by decide +kernel) (pa_cons (pe_lc (own := [("item", 1)]) (g := gName 1) (tt := tYes) rfl sc_as_tuples.nd (pi_or (pi_list (pv 0)) (pi_tup (pv 0))) (blkOk_by (N := ["thing", "item"]) (sc := defScope s_as_tuples) (by decide +kernel)) (fun _ _ _ _ _ => pg_name (i := 1) sc_as_tuples.nd rfl (Or.inl rfl)) (fun _ _ _ _ _ => pts_nil) (fun _ _ _ _ _ => (pe_fn AT (hr.mono (by omega)) pass0 (by rfl) (pa_cons (pv 1) pa_nil)))) pa_nil)) (pv 0)))), ?_⟩
    obtain ⟨v, rfl, h⟩ := h
    rcases h with ⟨hn, h, q⟩ | ⟨hn, p, xs, rfl, h, hl, hx, q⟩
    · exact ⟨_, rfl, v, rfl, .inl ⟨h, fun H0 S0 => ⟨_, rfl, iteF ⟨_, rfl, q _ S0⟩⟩⟩⟩
    · refine ⟨_, rfl, .ref p, rfl, .inr ⟨p, xs, rfl, h, fun H0 S0 => ⟨_, rfl, iteT ?_⟩⟩⟩
      have turn : ∀ (D : Addr) (i : Nat) (x : V) (J : Hp), xs[i]? = some x → LcP H0 D (fun n => xs.take n) i J → (spAT K n) [x] J (fun y H4 => ∃ acc, H4 D = some (.lst acc) ∧ acc.length < sizeLine ∧ LcP H0 D (fun n => xs.take n) (i + 1) (upd H4 D (.lst (acc ++ [y])))) (fun _ _ _ => False) := fun D i x J hi pJ => by
        have li := (List.getElem?_eq_some_iff.mp hi).1
        exact ⟨x, rfl, .inl ⟨by omega, ((hx x (List.mem_of_getElem? hi)).same (S0.trans pJ.1)), fun H4 S4 => pJ.put S4 (by show xs.take (i + 1) = _; rw [List.take_add_one, hi]; rfl) (by omega)⟩⟩
      have last : ∀ (D : Addr) (J : Hp), H0 D = none → LcP H0 D (fun n => xs.take n) xs.length J → ∃ l ys, [V.ref D] = [.ref l] ∧ ((SqL K J l ys ∧ ∀ u, J u = none → Q (.ref u) (upd J u (.tup ys))) ∨ (SqT K J l ys ∧ Q (.ref l) J)) := fun D J hD pJ => by
        have eD : J D = some (.lst xs) := by
          have z : J D = some (.lst (xs.take xs.length)) := pJ.2.2.1
          rw [List.take_length] at z
          exact z
        exact ⟨D, xs, rfl, .inl ⟨SqL.of eD, fun u hu => q u _ (none_of (S0.trans pJ.1) hu) ((S0.trans pJ.1).trans (same_upd hu)) upd_same⟩⟩
      rcases h with h | h
      · refine .inl ⟨_, rfl, p, rfl, ⟨_, SqL.of (S0 _ _ h)⟩, fun D hD => ?_⟩
        refine lc_list (K := K) (a := p) (xs := xs) (LcP H0 D fun n => xs.take n) (LcP.start hD rfl) (fun i J hi pJ => SqL.of (pJ.1 _ _ (S0 _ _ h))) (fun i x J hi pJ => ⟨rfl, _, rfl, turn D i x J hi pJ⟩) (fun J pJ => last D J hD pJ)
      · refine .inr ⟨_, rfl, p, rfl, ⟨_, SqT.of (S0 _ _ h)⟩, fun D hD => ?_⟩
        refine lc_tup (K := K) (a := p) (xs := xs) (LcP H0 D fun n => xs.take n) (LcP.start hD rfl) (fun i J hi pJ => SqT.of (pJ.1 _ _ (S0 _ _ h))) (fun i x J hi pJ => ⟨rfl, _, rfl, turn D i x J hi pJ⟩) (fun J pJ => last D J hD pJ)

end
end L2.K51

set_option Elab.async false
set_option linter.all false
set_option maxRecDepth 100000
set_option maxHeartbeats 4000000
/-! The four classes: made, compared. -/
namespace L2.K51
open PySem PySem.W PySem.Spec PySem.Calls PyProof.Rows L2.Jk

def dV : V → PyData
  | .bl b => .bool b
  | .int i => .int i
  | .str z => .str z
  | _ => .none
/-- the parts of a pair: flat -/
structure PkOk (xs ys : List V) : Prop where
  fx : xs.all flatV = true
  fy : ys.all flatV = true
  lx : xs.length ≤ 1000
  ly : ys.length ≤ 1000
  sx : SeqAt.shaped (.tuple (xs.map dV)) = true
  sy : SeqAt.shaped (.tuple (ys.map dV)) = true
def PAt (K : Frag) (H : Hp) (p : Addr) (xs ys : List V) : Prop := ∃ dx t u, H p = some (.ins (CA K "Pair") dx (fPair (.ref t) (.ref u))) ∧ H t = some (.tup xs) ∧ H u = some (.tup ys)
def WAt (K : Frag) (H : Hp) (p : Addr) (b : Bool) (js : List Int) : Prop := ∃ dx t, H p = some (.ins (CA K "Wish") dx (fWish (.bl b) (.ref t))) ∧ H t = some (.tup (js.map V.int))
def SAt (K : Frag) (H : Hp) (p : Addr) (k : Str) (l h : Int) (c : Addr) : Prop := ∃ dx, H p = some (.ins (CA K "Stretch") dx (fStretch (.str k) (.int l) (.int h) (.ref c)))
def MAt (K : Frag) (H : Hp) (p : Addr) (js : List Int) (ss : List Addr) : Prop := ∃ dx t u, H p = some (.ins (CA K "Mend") dx (fMend (.ref t) (.ref u))) ∧ H t = some (.tup (js.map V.int)) ∧ H u = some (.tup (ss.map V.ref))
theorem PAt.kp {K : Frag} {H H' : Hp} {p : Addr} {xs ys : List V} (k : Kp H H') : PAt K H p xs ys → PAt K H' p xs ys
  | ⟨dx, t, u, a, b, c⟩ => ⟨dx, t, u, k _ _ trivial a, k _ _ trivial b, k _ _ trivial c⟩
theorem WAt.kp {K : Frag} {H H' : Hp} {p : Addr} {x : Bool} {js : List Int} (k : Kp H H') : WAt K H p x js → WAt K H' p x js
  | ⟨dx, t, a, b⟩ => ⟨dx, t, k _ _ trivial a, k _ _ trivial b⟩
theorem SAt.kp {K : Frag} {H H' : Hp} {p c : Addr} {x : Str} {l h : Int} (k : Kp H H') : SAt K H p x l h c → SAt K H' p x l h c
  | ⟨dx, a⟩ => ⟨dx, k _ _ trivial a⟩
theorem MAt.kp {K : Frag} {H H' : Hp} {p : Addr} {js : List Int} {ss : List Addr} (k : Kp H H') : MAt K H p js ss → MAt K H' p js ss
  | ⟨dx, t, u, a, b, c⟩ => ⟨dx, t, u, k _ _ trivial a, k _ _ trivial b, k _ _ trivial c⟩
/-- a stretch with its pair -/
structure SqAt (K : Frag) (H : Hp) (p : Addr) (k : Str) (l h : Int) (xs ys : List V) : Prop where
  ex : ∃ c, SAt K H p k l h c ∧ PAt K H c xs ys
theorem SqAt.kp {K : Frag} {H H' : Hp} {p : Addr} {k : Str} {l h : Int} {xs ys : List V} (x : Kp H H') : SqAt K H p k l h xs ys → SqAt K H' p k l h xs ys
  | ⟨c, a, b⟩ => ⟨c, a.kp x, b.kp x⟩
/-- two stretches alike -/
def SR (K : Frag) (a b : Addr) (H : Hp) : Prop := ∃ k l h xs ys, PkOk xs ys ∧ SqAt K H a k l h xs ys ∧ SqAt K H b k l h xs ys
def DS (K : Frag) : Eqv := DIns (CA K "Stretch") (SR K)
theorem SR.ext {K : Frag} {a b : Addr} {H H' : Hp} (e : Ext H H') : SR K a b H → SR K a b H'
  | ⟨k, l, h, xs, ys, o, x, y⟩ => ⟨k, l, h, xs, ys, o, x.kp (Kp.of e), y.kp (Kp.of e)⟩
theorem mon_ds (K : Frag) : Mon (DS K) := mon_ins fun _ _ _ _ e r => r.ext e
theorem ds_of {K : Frag} {H : Hp} {a b : Addr} (r : SR K a b H) : DS K (.ref a) (.ref b) H := by
  obtain ⟨k, l, h, xs, ys, o, ⟨c, ⟨dx, x⟩, _⟩, ⟨c2, ⟨dy, y⟩, _⟩⟩ := id r
  exact ⟨a, b, dx, dy, _, _, rfl, rfl, x, y, r⟩
theorem IsQ.put {H : Hp} {p a C dx : Addr} {fs : List (Str × V)} {o : HO} {xs : List V} (ha : H a = some (.ins C dx fs)) (h : IsQ H p xs) : IsQ (upd H a o) p xs := by
  have ne : p ≠ a := fun e => by
    subst e
    rcases h with h | h <;> (rw [ha] at h; cases h)
  rcases h with h | h
  · exact .inl (by rw [upd_ne ne]; exact h)
  · exact .inr (by rw [upd_ne ne]; exact h)
theorem but_new {H H1 : Hp} {a : Addr} {o u : HO} (_ : H a = some o) (S : Same H H1) : But a H (upd H1 a u) := (But.of_same S).trans (but_upd _ _ _)
theorem upd_at {H : Hp} {a p : Addr} {o u : HO} (ha : H a = some o) (hp : H p = none) (v : HO) {H1 : Hp} (h : H1 p = some v) : upd H1 a u p = some v := by
  rw [upd_ne (fun e => by rw [e, ha] at hp; cases hp)]
  exact h
theorem all_nsq {K : Frag} {H : Hp} {xs : List V} (h : xs.all flatV = true) : ∀ x ∈ xs, NSq K H x := fun x hx => .flat (List.all_eq_true.mp h x hx)
theorem ints_nsq {K : Frag} {H : Hp} (js : List Int) : ∀ x ∈ js.map V.int, NSq K H x := fun x hx => by
  obtain ⟨j, _, rfl⟩ := List.mem_map.mp hx
  exact .flat rfl
structure G2 (P : Program) (w : World) (K : Frag) (mg : Str → Option Value) (base : Heap) : Prop extends G1 P w K mg base where
  as_tuples : FnAt P w K mg base CX0 4 "as_tuples" ["thing"] (spAT K 2)
def spPair (K : Frag) : Sp := fun vs H Q _ => ∃ (a dx p q : Addr) (xs ys : List V), vs = [.ref a, .ref p, .ref q] ∧ H a = some (.ins (CA K "Pair") dx []) ∧ IsQ H p xs ∧ IsQ H q ys ∧ PkOk xs ys ∧ ∀ H', But a H H' → PAt K H' a xs ys → Q .non H'
def spWish (K : Frag) : Sp := fun vs H Q _ => ∃ (a dx p : Addr) (b : Bool) (js : List Int), vs = [.ref a, .bl b, .ref p] ∧ H a = some (.ins (CA K "Wish") dx []) ∧ IsQ H p (js.map V.int) ∧ js.length ≤ 1000 ∧ ∀ H', But a H H' → WAt K H' a b js → Q .non H'
def spStretch (K : Frag) : Sp := fun vs H Q _ => ∃ (a dx c : Addr) (k : Str) (l h : Int) (xs ys : List V), vs = [.ref a, .str k, .int l, .int h, .ref c] ∧ H a = some (.ins (CA K "Stretch") dx []) ∧ PAt K H c xs ys ∧ c ≠ a ∧ ∀ H', But a H H' → SAt K H' a k l h c → Q .non H'
def spMend (K : Frag) : Sp := fun vs H Q _ => ∃ (a dx p q : Addr) (js : List Int) (ss : List Addr), vs = [.ref a, .ref p, .ref q] ∧ H a = some (.ins (CA K "Mend") dx []) ∧ IsQ H p (js.map V.int) ∧ IsQ H q (ss.map V.ref) ∧ js.length ≤ 1000 ∧ ss.length ≤ 1000 ∧
  (∀ s ∈ ss, ∃ dx fs, H s = some (.ins (CA K "Stretch") dx fs)) ∧ ∀ H', But a H H' → MAt K H' a js ss → Q .non H'
section
variable {P : Program} {w : World} {K : Frag} {mg : Str → Option Value} {base : Heap} {f : Addr} {fd : FuncData}

abbrev s_Pair_init : Stmt := inClass (top 4) 0
theorem sc_Pair_init : FnScope ["self", "one", "other"] ["self", "one", "other"] (defScope s_Pair_init) := ⟨rfl, rfl, rfl, by decide +kernel, rfl, by decide +kernel, by decide +kernel⟩

theorem ok_Pair_init (F : FunD K "__init__" "Pair.__init__" (defArgs s_Pair_init) (defBody s_Pair_init) (defScope s_Pair_init) [] [] f fd) (G : G2 P w K mg base) : FnOk P w K mg base CX0 5 f fd ["self", "one", "other"] (spPair K) := by
  refine F.ok (CX := CX0) sc_Pair_init (fun vs H Q E h => ?_) (fun cdv A outer s H vs Q E hr h => ?_)
  · obtain ⟨_, _, _, _, _, _, rfl, _⟩ := h
    rfl
  · refine ⟨_, PSs.nox (pss_cons (ps_fld (pv 0) (pe_fn G.as_tuples (hr.mono (by decide)) pass0 (by rfl) (pa_cons (pv 1) pa_nil)) rfl)
    (pss_one (ps_fld (pv 0) (pe_fn G.as_tuples (hr.mono (by decide)) pass0 (by rfl) (pa_cons (pv 2) pa_nil)) rfl))), ?_⟩
    obtain ⟨a, dx, p, q, xs, ys, rfl, ha, hp, hq, ok, k⟩ := h
    refine ⟨_, rfl, .ref p, rfl, .inr ⟨by decide, p, xs, rfl, hp, ok.lx, all_nsq ok.fx, fun t H1 ht S1 e1 => ?_⟩⟩
    have ha1 := S1 _ _ ha
    have hq1 := hq.same S1
    refine ⟨_, rfl, a, _, dx, _, rfl, ha1, G.cPair.cl, G.cPair.no _ (by decide +kernel), (by show 0 < 1000; decide), ?_⟩
    obtain ⟨H2, e2⟩ : ∃ H2, upd H1 a (.ins (CA K "Pair") dx (putF "one" (.ref t) [])) = H2 := ⟨_, rfl⟩
    have ha2 : H2 a = some (.ins (CA K "Pair") dx (putF "one" (.ref t) [])) := by rw [← e2]; exact upd_same
    have hq2 : IsQ H2 q ys := by rw [← e2]; exact hq1.put ha1
    have ht2 : H2 t = some (.tup xs) := by rw [← e2]; exact upd_at ha ht _ e1
    show _
    rw [e2]
    refine ⟨_, rfl, .ref q, rfl, .inr ⟨by decide, q, ys, rfl, hq2, ok.ly, all_nsq ok.fy, fun u H3 hu S3 e3 => ?_⟩⟩
    refine ⟨_, rfl, a, _, dx, _, rfl, S3 _ _ ha2, G.cPair.cl, G.cPair.no _ (by decide +kernel), (by show 1 < 1000; decide), ?_⟩
    refine k _ ?_ ⟨dx, t, u, upd_same, upd_at ha ht _ (S3 _ _ ht2), upd_at ha2 hu _ e3⟩
    have b1 : But a H H2 := by rw [← e2]; exact but_new ha S1
    exact b1.trans (but_new ha2 S3)

abbrev s_Wish_init : Stmt := inClass (top 6) 0
theorem sc_Wish_init : FnScope ["self", "order", "scans"] ["self", "order", "scans"] (defScope s_Wish_init) := ⟨rfl, rfl, rfl, by decide +kernel, rfl, by decide +kernel, by decide +kernel⟩

theorem ok_Wish_init (F : FunD K "__init__" "Wish.__init__" (defArgs s_Wish_init) (defBody s_Wish_init) (defScope s_Wish_init) [] [] f fd) (G : G2 P w K mg base) : FnOk P w K mg base CX0 5 f fd ["self", "order", "scans"] (spWish K) := by
  refine F.ok (CX := CX0) sc_Wish_init (fun vs H Q E h => ?_) (fun cdv A outer s H vs Q E hr h => ?_)
  · obtain ⟨_, _, _, _, _, rfl, _⟩ := h
    rfl
  · refine ⟨_, PSs.nox (pss_cons (ps_fld (pv 0) (pv 1) rfl)
    (pss_one (ps_fld (pv 0) (pe_fn G.as_tuples (hr.mono (by decide)) pass0 (by rfl) (pa_cons (pv 2) pa_nil)) rfl))), ?_⟩
    obtain ⟨a, dx, p, b, js, rfl, ha, hp, lx, k⟩ := h
    refine ⟨_, rfl, _, rfl, a, _, dx, _, rfl, ha, G.cWish.cl, G.cWish.no _ (by decide +kernel), (by show 0 < 1000; decide), ?_⟩
    obtain ⟨H2, e2⟩ : ∃ H2, upd H a (.ins (CA K "Wish") dx (putF "order" (.bl b) [])) = H2 := ⟨_, rfl⟩
    have ha2 : H2 a = some (.ins (CA K "Wish") dx (putF "order" (.bl b) [])) := by rw [← e2]; exact upd_same
    have hp2 : IsQ H2 p (js.map V.int) := by rw [← e2]; exact hp.put ha
    show _
    rw [e2]
    refine ⟨_, rfl, .ref p, rfl, .inr ⟨by decide, p, _, rfl, hp2, by rw [List.length_map]; exact lx, ints_nsq js, fun u H3 hu S3 e3 => ?_⟩⟩
    refine ⟨_, rfl, a, _, dx, _, rfl, S3 _ _ ha2, G.cWish.cl, G.cWish.no _ (by decide +kernel), (by show 1 < 1000; decide), ?_⟩
    refine k _ ?_ ⟨dx, u, upd_same, upd_at ha2 hu _ e3⟩
    have b1 : But a H H2 := by rw [← e2]; exact but_upd _ _ _
    exact b1.trans (but_new ha2 S3)

abbrev s_Stretch_init : Stmt := inClass (top 7) 0
theorem sc_Stretch_init : FnScope ["self", "kind", "first", "last", "pair"] ["self", "kind", "first", "last", "pair"] (defScope s_Stretch_init) := ⟨rfl, rfl, rfl, by decide +kernel, rfl, by decide +kernel, by decide +kernel⟩

theorem ok_Stretch_init (F : FunD K "__init__" "Stretch.__init__" (defArgs s_Stretch_init) (defBody s_Stretch_init) (defScope s_Stretch_init) [] [] f fd) (G : G2 P w K mg base) : FnOk P w K mg base CX0 5 f fd ["self", "kind", "first", "last", "pair"] (spStretch K) := by
  refine F.ok (CX := CX0) sc_Stretch_init (fun vs H Q E h => ?_) (fun cdv A outer s H vs Q E hr h => ?_)
  · obtain ⟨_, _, _, _, _, _, _, _, rfl, _⟩ := h
    rfl
  · refine ⟨_, PSs.nox (pss_cons (ps_fld (pv 0) (pv 1) rfl)
    (pss_cons (ps_fld (pv 0) (pv 2) rfl)
    (pss_cons (ps_fld (pv 0) (pv 3) rfl)
    (pss_one (ps_fld (pv 0) (pe_fn G.as_tuples (hr.mono (by decide)) pass0 (by rfl) (pa_cons (pv 4) pa_nil)) rfl))))), ?_⟩
    obtain ⟨a, dx, c, k, l, h, xs, ys, rfl, ha, hc, nc, q⟩ := h
    refine ⟨_, rfl, _, rfl, a, _, dx, _, rfl, ha, G.cStretch.cl, G.cStretch.no _ (by decide +kernel), (by show 0 < 1000; decide), _, rfl, _, rfl, a, _, dx, _, rfl, upd_same, G.cStretch.cl, G.cStretch.no _ (by decide +kernel), (by show 1 < 1000; decide), _, rfl, _, rfl, a, _, dx, _, rfl, upd_same, G.cStretch.cl, G.cStretch.no _ (by decide +kernel), (by show 2 < 1000; decide), ?_⟩
    obtain ⟨H2, e2⟩ : ∃ H2, upd (upd (upd H a (.ins (CA K "Stretch") dx (putF "kind" (.str k) []))) a (.ins (CA K "Stretch") dx (putF "first" (.int l) (putF "kind" (.str k) [])))) a (.ins (CA K "Stretch") dx (putF "last" (.int h) (putF "first" (.int l) (putF "kind" (.str k) [])))) = H2 := ⟨_, rfl⟩
    have ha2 : H2 a = some (.ins (CA K "Stretch") dx (putF "last" (.int h) (putF "first" (.int l) (putF "kind" (.str k) [])))) := by rw [← e2]; exact upd_same
    have b1 : But a H H2 := by rw [← e2]; exact ((but_upd _ _ _).trans (but_upd _ _ _)).trans (but_upd _ _ _)
    show _
    rw [e2]
    obtain ⟨dy, t, u, ec, _⟩ := hc
    refine ⟨_, rfl, .ref c, rfl, .inl ⟨by decide, .pair (b1 _ _ nc ec), fun H3 S3 => ?_⟩⟩
    refine ⟨_, rfl, a, _, dx, _, rfl, S3 _ _ ha2, G.cStretch.cl, G.cStretch.no _ (by decide +kernel), (by show 3 < 1000; decide), ?_⟩
    exact q _ (b1.trans (but_new ha2 S3)) ⟨dx, upd_same⟩

abbrev s_Mend_init : Stmt := inClass (top 8) 0
theorem sc_Mend_init : FnScope ["self", "joints", "stretches"] ["self", "joints", "stretches"] (defScope s_Mend_init) := ⟨rfl, rfl, rfl, by decide +kernel, rfl, by decide +kernel, by decide +kernel⟩

theorem ok_Mend_init (F : FunD K "__init__" "Mend.__init__" (defArgs s_Mend_init) (defBody s_Mend_init) (defScope s_Mend_init) [] [] f fd) (G : G2 P w K mg base) : FnOk P w K mg base CX0 5 f fd ["self", "joints", "stretches"] (spMend K) := by
  refine F.ok (CX := CX0) sc_Mend_init (fun vs H Q E h => ?_) (fun cdv A outer s H vs Q E hr h => ?_)
  · obtain ⟨_, _, _, _, _, _, rfl, _⟩ := h
    rfl
  · refine ⟨_, PSs.nox (pss_cons (ps_fld (pv 0) (pe_fn G.as_tuples (hr.mono (by decide)) pass0 (by rfl) (pa_cons (pv 1) pa_nil)) rfl)
    (pss_one (ps_fld (pv 0) (pe_fn G.as_tuples (hr.mono (by decide)) pass0 (by rfl) (pa_cons (pv 2) pa_nil)) rfl))), ?_⟩
    obtain ⟨a, dx, p, q, js, ss, rfl, ha, hp, hq, lx, ly, hs, k⟩ := h
    refine ⟨_, rfl, .ref p, rfl, .inr ⟨by decide, p, _, rfl, hp, by rw [List.length_map]; exact lx, ints_nsq js, fun t H1 ht S1 e1 => ?_⟩⟩
    have ha1 := S1 _ _ ha
    have hq1 := hq.same S1
    refine ⟨_, rfl, a, _, dx, _, rfl, ha1, G.cMend.cl, G.cMend.no _ (by decide +kernel), (by show 0 < 1000; decide), ?_⟩
    obtain ⟨H2, e2⟩ : ∃ H2, upd H1 a (.ins (CA K "Mend") dx (putF "joints" (.ref t) [])) = H2 := ⟨_, rfl⟩
    have ha2 : H2 a = some (.ins (CA K "Mend") dx (putF "joints" (.ref t) [])) := by rw [← e2]; exact upd_same
    have hq2 : IsQ H2 q (ss.map V.ref) := by rw [← e2]; exact hq1.put ha1
    have ht2 : H2 t = some (.tup (js.map V.int)) := by rw [← e2]; exact upd_at ha ht _ e1
    have b1 : But a H H2 := by rw [← e2]; exact but_new ha S1
    have hs2 : ∀ x ∈ ss.map V.ref, NSq K H2 x := fun x hx => by
      obtain ⟨s, hm, rfl⟩ := List.mem_map.mp hx
      obtain ⟨dy, fs, es⟩ := hs s hm
      refine .str (b1 _ _ (fun e => ?_) es)
      rw [e, ha] at es
      injection es with es
      injection es with es
      exact G.neSM es.symm
    show _
    rw [e2]
    refine ⟨_, rfl, .ref q, rfl, .inr ⟨by decide, q, _, rfl, hq2, by rw [List.length_map]; exact ly, hs2, fun u H3 hu S3 e3 => ?_⟩⟩
    refine ⟨_, rfl, a, _, dx, _, rfl, S3 _ _ ha2, G.cMend.cl, G.cMend.no _ (by decide +kernel), (by show 1 < 1000; decide), ?_⟩
    refine k _ ?_ ⟨dx, t, u, upd_same, upd_at ha ht _ (S3 _ _ ht2), upd_at ha2 hu _ e3⟩
    exact b1.trans (but_new ha2 S3)

theorem dp_flat {H : Hp} : ∀ {v : V}, flatV v = true → Dp K H v (dV v)
  | .non, _ => .non
  | .bl b, _ => .bl b
  | .int i, _ => .int i
  | .str z, _ => .str z
  | .ref _, h => by cases h
  | .byt _, h => by cases h
  | .flt _, h => by cases h
  | .ty _, h => by cases h
theorem dp_all {H : Hp} : ∀ {xs : List V}, xs.all flatV = true → DpAll K H xs (xs.map dV)
  | [], _ => .nil
  | v :: xs, h => by
    obtain ⟨h1, h2⟩ := Bool.and_eq_true_iff.mp (show (flatV v && xs.all flatV) = true from h)
    exact .cons (dp_flat h1) (dp_all h2)
theorem ints_flat (js : List Int) : (js.map V.int).all flatV = true := List.all_eq_true.mpr fun x hx => by
  obtain ⟨j, _, rfl⟩ := List.mem_map.mp hx
  rfl
theorem ints_lay : ∀ js : List Int, PyData.canLayAll0 ((js.map V.int).map dV) = true ∧ PyData.depthAll ((js.map V.int).map dV) ≤ 0
  | [] => ⟨rfl, by decide⟩
  | j :: js => by
    obtain ⟨a, b⟩ := ints_lay js
    exact ⟨a, Nat.max_le.mpr ⟨Nat.le_refl _, b⟩⟩
theorem ints_shaped (js : List Int) : SeqAt.shaped (.tuple ((js.map V.int).map dV)) = true := by
  obtain ⟨a, b⟩ := ints_lay js
  refine Bool.and_eq_true_iff.mpr ⟨a, decide_eq_true ?_⟩
  show PyData.depthAll ((js.map V.int).map dV) + 1 ≤ 64
  omega
theorem dp_tup {H : Hp} {p : Addr} {xs : List V} (h : H p = some (.tup xs)) (f : xs.all flatV = true) : Dp K H (.ref p) (.tuple (xs.map dV)) := .tup (SqT.of h) (dp_all f)
theorem ints_eqv : ∀ (js ls : List Int), PyData.eqv (.tuple ((js.map V.int).map dV)) (.tuple ((ls.map V.int).map dV)) = decide (js = ls)
  | [], [] => rfl
  | [], _ :: _ => rfl
  | _ :: _, [] => rfl
  | j :: js, l :: ls => by
    have ih := ints_eqv js ls
    have e : PyData.eqv (.tuple (((j :: js).map V.int).map dV)) (.tuple (((l :: ls).map V.int).map dV)) = (PyData.eqv (.int j) (.int l) && PyData.eqv (.tuple ((js.map V.int).map dV)) (.tuple ((ls.map V.int).map dV))) := rfl
    rw [e, ih]
    have e2 : PyData.eqv (.int j) (.int l) = decide (j = l) := rfl
    rw [e2]
    by_cases h : j = l
    · subst h
      by_cases h2 : js = ls
      · rw [h2]; simp
      · simp [h2]
    · simp [h]
def spEqPair (K : Frag) : Sp := fun vs H Q _ => ∃ (a b : Addr) (xs ys : List V), vs = [.ref a, .ref b] ∧ PkOk xs ys ∧ PAt K H a xs ys ∧ PAt K H b xs ys ∧ Q (.bl true) H
def spEqWish (K : Frag) : Sp := fun vs H Q _ => ∃ (a c : Addr) (b : Bool) (js : List Int), vs = [.ref a, .ref c] ∧ WAt K H a b js ∧ ((∃ b2 ls, WAt K H c b2 ls ∧ Q (.bl (decide (b = b2) && decide (js = ls))) H) ∨ ∃ xs, H c = some (.tup xs) ∧ Q (.bl false) H)
def spEqStr (K : Frag) : Sp := fun vs H Q _ => ∃ (a c : Addr) (k : Str) (l h : Int) (xs ys : List V), vs = [.ref a, .ref c] ∧ PkOk xs ys ∧ SqAt K H a k l h xs ys ∧
  ((SqAt K H c k l h xs ys ∧ ∀ H', Same H H' → Q (.bl true) H') ∨ (∃ h2 d, SAt K H c k l h2 d ∧ h ≠ h2 ∧ Q (.bl false) H) ∨ (∃ zs, H c = some (.tup zs) ∧ Q (.bl false) H) ∨ ∃ dx fs, H c = some (.ins (CA K "Mend") dx fs) ∧ Q (.bl false) H)
def spEqMend (K : Frag) : Sp := fun vs H Q _ => ∃ (a c : Addr) (js : List Int) (ss : List Addr), vs = [.ref a, .ref c] ∧ MAt K H a js ss ∧
  ((∃ rs, MAt K H c js rs ∧ Prs (DS K) (ss.map V.ref) (rs.map V.ref) H ∧ ∀ H', Same H H' → Q (.bl true) H') ∨ (∃ ls rs, MAt K H c ls rs ∧ js ≠ ls ∧ Q (.bl false) H) ∨
   (∃ rs, MAt K H c js rs ∧ rs.length < ss.length ∧ Prs (DS K) ((ss.map V.ref).take (rs.map V.ref).length) (rs.map V.ref) H ∧ ∀ H', Same H H' → Q (.bl false) H') ∨ (∃ dx fs, H c = some (.ins (CA K "Stretch") dx fs) ∧ Q (.bl false) H) ∨ ∃ dx fs, H c = some (.ins (CA K "Wish") dx fs) ∧ Q (.bl false) H)
structure EQ (P : Program) (w : World) (K : Frag) (mg : Str → Option Value) (base : Heap) (k : Nat) (C : Addr) (sp : Sp) : Prop where
  ok : ∃ fd, FnOk P w K mg base CX0 k (He.ma K C "__eq__") fd ["self", "other"] sp ∧ Binds K fd ["self", "other"] []
structure G3 (P : Program) (w : World) (K : Frag) (mg : Str → Option Value) (base : Heap) : Prop extends G2 P w K mg base where
  ePair : EQ P w K mg base 1 (CA K "Pair") (spEqPair K)
structure G4 (P : Program) (w : World) (K : Frag) (mg : Str → Option Value) (base : Heap) : Prop extends G3 P w K mg base where
  eStr : EQ P w K mg base 2 (CA K "Stretch") (spEqStr K)

abbrev s_Pair_eq : Stmt := inClass (top 4) 1
theorem sc_Pair_eq : FnScope ["self", "other"] ["self", "other"] (defScope s_Pair_eq) := ⟨rfl, rfl, rfl, by decide +kernel, rfl, by decide +kernel, by decide +kernel⟩

theorem ok_Pair_eq (F : FunD K "__eq__" "Pair.__eq__" (defArgs s_Pair_eq) (defBody s_Pair_eq) (defScope s_Pair_eq) [] [] f fd) (G : G2 P w K mg base) : FnOk P w K mg base CX0 1 f fd ["self", "other"] (spEqPair K) := by
  refine F.ok (CX := CX0) sc_Pair_eq (fun vs H Q E h => ?_) (fun cdv A outer s H vs Q E hr h => ?_)
  · obtain ⟨_, _, _, _, rfl, _⟩ := h
    rfl
  · refine ⟨_, PSs.nox (pss_one (ps_ret (pe_and (pe_cmpR op_isA (pe_callTy call_tyA (by rfl) G.type (by decide +kernel) (pa_cons (pv 0) pa_nil)) (pe_callTy call_tyA (by rfl) G.type (by decide +kernel) (pa_cons (pv 1) pa_nil)) (nomark _)) (pe_and (pe_cmpR (op_eqD hr.units) (pe_fld (pv 0) rfl) (pe_fld (pv 1) rfl) (nomark _)) (pe_one (pe_cmpR (op_eqD hr.units) (pe_fld (pv 0) rfl) (pe_fld (pv 1) rfl) (nomark _))))))), ?_⟩
    obtain ⟨a, c, xs, ys, rfl, ok, ⟨dx, t, u, ha, ht, hu⟩, ⟨dy, t2, u2, hb, ht2, hu2⟩, q⟩ := h
    refine ⟨_, rfl, _, rfl, .inl ⟨a, _, _, _, rfl, ha, _, rfl, _, rfl, .inl ⟨c, _, _, _, rfl, hb, _, rfl, .inl ⟨_, rfl, .inl rfl, _, rfl, ?_⟩⟩⟩⟩
    refine ite2 (fun _ => ?_) (fun h => absurd (decide_eq_true rfl) h)
    refine ⟨_, rfl, a, _, _, _, _, rfl, ha, G.cPair.cl, G.cPair.no _ (by decide +kernel), lPair_one, _, rfl, c, _, _, _, _, rfl, hb, G.cPair.cl, G.cPair.no _ (by decide +kernel), lPair_one, _, _, dp_tup ht ok.fx, dp_tup ht2 ok.fx, ok.sx, ok.sx, _, rfl, ?_⟩
    rw [eqv_same ok.sx]
    refine iteT ⟨_, rfl, a, _, _, _, _, rfl, ha, G.cPair.cl, G.cPair.no _ (by decide +kernel), lPair_other, _, rfl, c, _, _, _, _, rfl, hb, G.cPair.cl, G.cPair.no _ (by decide +kernel), lPair_other, _, _, dp_tup hu ok.fy, dp_tup hu2 ok.fy, ok.sy, ok.sy, ?_⟩
    rw [eqv_same ok.sy]
    exact q

abbrev s_Wish_eq : Stmt := inClass (top 6) 1
theorem sc_Wish_eq : FnScope ["self", "other"] ["self", "other"] (defScope s_Wish_eq) := ⟨rfl, rfl, rfl, by decide +kernel, rfl, by decide +kernel, by decide +kernel⟩

theorem ok_Wish_eq (F : FunD K "__eq__" "Wish.__eq__" (defArgs s_Wish_eq) (defBody s_Wish_eq) (defScope s_Wish_eq) [] [] f fd) (G : G2 P w K mg base) : FnOk P w K mg base CX0 1 f fd ["self", "other"] (spEqWish K) := by
  refine F.ok (CX := CX0) sc_Wish_eq (fun vs H Q E h => ?_) (fun cdv A outer s H vs Q E hr h => ?_)
  · obtain ⟨_, _, _, _, rfl, _⟩ := h
    rfl
  · refine ⟨_, PSs.nox (pss_one (ps_ret (pe_and (pe_cmpR op_isA (pe_callTy call_tyA (by rfl) G.type (by decide +kernel) (pa_cons (pv 0) pa_nil)) (pe_callTy call_tyA (by rfl) G.type (by decide +kernel) (pa_cons (pv 1) pa_nil)) (nomark _)) (pe_and (pe_cmpR op_eq (pe_fld (pv 0) rfl) (pe_fld (pv 1) rfl) (nomark _)) (pe_one (pe_cmpR (op_eqD hr.units) (pe_fld (pv 0) rfl) (pe_fld (pv 1) rfl) (nomark _))))))), ?_⟩
    obtain ⟨a, c, b, js, rfl, ⟨dx, t, ha, ht⟩, h⟩ := h
    rcases h with ⟨b2, ls, ⟨dy, t2, hb, ht2⟩, q⟩ | ⟨xs, hb, q⟩
    · refine ⟨_, rfl, _, rfl, .inl ⟨a, _, _, _, rfl, ha, _, rfl, _, rfl, .inl ⟨c, _, _, _, rfl, hb, _, rfl, .inl ⟨_, rfl, .inl rfl, _, rfl, ?_⟩⟩⟩⟩
      refine ite2 (fun _ => ?_) (fun h => absurd (decide_eq_true rfl) h)
      refine ⟨_, rfl, a, _, _, _, _, rfl, ha, G.cWish.cl, G.cWish.no _ (by decide +kernel), lWish_order, _, rfl, c, _, _, _, _, rfl, hb, G.cWish.cl, G.cWish.no _ (by decide +kernel), lWish_order, rfl, _, rfl, ?_⟩
      refine ite2 (fun h1 => ?_) (fun h1 => ?_)
      · obtain rfl : b = b2 := by have := of_decide_eq_true h1; injection this
        refine ⟨_, rfl, a, _, _, _, _, rfl, ha, G.cWish.cl, G.cWish.no _ (by decide +kernel), lWish_scans, _, rfl, c, _, _, _, _, rfl, hb, G.cWish.cl, G.cWish.no _ (by decide +kernel), lWish_scans, _, _, dp_tup ht (ints_flat js), dp_tup ht2 (ints_flat ls), ints_shaped js, ints_shaped ls, ?_⟩
        rw [ints_eqv]
        rw [decide_eq_true (rfl : b = b), Bool.true_and] at q
        exact q
      · have n : b ≠ b2 := fun e => h1 (decide_eq_true (by rw [e]))
        rw [decide_eq_false n, Bool.false_and] at q
        exact q
    · exact ⟨_, rfl, _, rfl, .inl ⟨a, _, _, _, rfl, ha, _, rfl, _, rfl, .inr ⟨_, .tup hb, _, rfl, .inr ⟨_, rfl, _, rfl, iteF q⟩⟩⟩⟩

abbrev s_Stretch_eq : Stmt := inClass (top 7) 1
theorem sc_Stretch_eq : FnScope ["self", "other"] ["self", "other"] (defScope s_Stretch_eq) := ⟨rfl, rfl, rfl, by decide +kernel, rfl, by decide +kernel, by decide +kernel⟩

theorem ok_Stretch_eq (F : FunD K "__eq__" "Stretch.__eq__" (defArgs s_Stretch_eq) (defBody s_Stretch_eq) (defScope s_Stretch_eq) [] [] f fd) (G : G3 P w K mg base) : FnOk P w K mg base CX0 2 f fd ["self", "other"] (spEqStr K) := by
  refine F.ok (CX := CX0) sc_Stretch_eq (fun vs H Q E h => ?_) (fun cdv A outer s H vs Q E hr h => ?_)
  · obtain ⟨_, _, _, _, _, _, _, rfl, _⟩ := h
    rfl
  · refine ⟨_, PSs.nox (pss_one (ps_ret (pe_and (pe_cmpR op_isA (pe_callTy call_tyA (by rfl) G.type (by decide +kernel) (pa_cons (pv 0) pa_nil)) (pe_callTy call_tyA (by rfl) G.type (by decide +kernel) (pa_cons (pv 1) pa_nil)) (nomark _)) (pe_and (pe_cmpR op_eq (pe_fld (pv 0) rfl) (pe_fld (pv 1) rfl) (nomark _)) (pe_and (pe_cmpR op_eq (pe_fld (pv 0) rfl) (pe_fld (pv 1) rfl) (nomark _)) (pe_and (pe_cmpR op_eq (pe_fld (pv 0) rfl) (pe_fld (pv 1) rfl) (nomark _)) (pe_one (pe_cmpR (op_eqO pass0) (pe_fld (pv 0) rfl) (pe_fld (pv 1) rfl) (nomark _))))))))), ?_⟩
    obtain ⟨a, c, k, l, h, xs, ys, rfl, ok, ⟨p, ⟨dx, ha⟩, hP⟩, z⟩ := h
    obtain ⟨fdp, Fp, Bp⟩ := G.ePair.ok
    rcases z with ⟨⟨p2, ⟨dy, hb⟩, hP2⟩, q⟩ | ⟨h2, p2, ⟨dy, hb⟩, n, q⟩ | ⟨zs, hb, q⟩ | ⟨dy, fs, hb, q⟩
    · refine ⟨_, rfl, _, rfl, .inl ⟨a, _, _, _, rfl, ha, _, rfl, _, rfl, .inl ⟨c, _, _, _, rfl, hb, _, rfl, .inl ⟨_, rfl, .inl rfl, _, rfl, ?_⟩⟩⟩⟩
      refine ite2 (fun _ => ?_) (fun h => absurd (decide_eq_true rfl) h)
      refine ⟨_, rfl, a, _, _, _, _, rfl, ha, G.cStretch.cl, G.cStretch.no _ (by decide +kernel), lStretch_kind, _, rfl, c, _, _, _, _, rfl, hb, G.cStretch.cl, G.cStretch.no _ (by decide +kernel), lStretch_kind, rfl, _, rfl, ?_⟩
      refine ite2 (fun _ => ?_) (fun h => absurd (decide_eq_true rfl) h)
      refine ⟨_, rfl, a, _, _, _, _, rfl, ha, G.cStretch.cl, G.cStretch.no _ (by decide +kernel), lStretch_first, _, rfl, c, _, _, _, _, rfl, hb, G.cStretch.cl, G.cStretch.no _ (by decide +kernel), lStretch_first, rfl, _, rfl, ?_⟩
      refine ite2 (fun _ => ?_) (fun h => absurd (decide_eq_true rfl) h)
      refine ⟨_, rfl, a, _, _, _, _, rfl, ha, G.cStretch.cl, G.cStretch.no _ (by decide +kernel), lStretch_last, _, rfl, c, _, _, _, _, rfl, hb, G.cStretch.cl, G.cStretch.no _ (by decide +kernel), lStretch_last, rfl, _, rfl, ?_⟩
      refine ite2 (fun _ => ?_) (fun h => absurd (decide_eq_true rfl) h)
      obtain ⟨d1, t1, u1, e1, r1⟩ := id hP
      obtain ⟨d2, t2, u2, e2, r2⟩ := id hP2
      refine ⟨_, rfl, a, _, _, _, _, rfl, ha, G.cStretch.cl, G.cStretch.no _ (by decide +kernel), lStretch_pair, _, rfl, c, _, _, _, _, rfl, hb, G.cStretch.cl, G.cStretch.no _ (by decide +kernel), lStretch_pair, p, _, d1, _, _, rfl, e1, G.cPair.eq, G.cPair.ty G.toG0 e2, by simp [notFirst], 1, fdp, _, _, G.cPair.kp, Fp, hr, Bp, p, p2, xs, ys, rfl, ok, hP, hP2, true, rfl, q _ (Same.refl _)⟩
    · refine ⟨_, rfl, _, rfl, .inl ⟨a, _, _, _, rfl, ha, _, rfl, _, rfl, .inl ⟨c, _, _, _, rfl, hb, _, rfl, .inl ⟨_, rfl, .inl rfl, _, rfl, ?_⟩⟩⟩⟩
      refine ite2 (fun _ => ?_) (fun h => absurd (decide_eq_true rfl) h)
      refine ⟨_, rfl, a, _, _, _, _, rfl, ha, G.cStretch.cl, G.cStretch.no _ (by decide +kernel), lStretch_kind, _, rfl, c, _, _, _, _, rfl, hb, G.cStretch.cl, G.cStretch.no _ (by decide +kernel), lStretch_kind, rfl, _, rfl, ?_⟩
      refine ite2 (fun _ => ?_) (fun h => absurd (decide_eq_true rfl) h)
      refine ⟨_, rfl, a, _, _, _, _, rfl, ha, G.cStretch.cl, G.cStretch.no _ (by decide +kernel), lStretch_first, _, rfl, c, _, _, _, _, rfl, hb, G.cStretch.cl, G.cStretch.no _ (by decide +kernel), lStretch_first, rfl, _, rfl, ?_⟩
      refine ite2 (fun _ => ?_) (fun h => absurd (decide_eq_true rfl) h)
      refine ⟨_, rfl, a, _, _, _, _, rfl, ha, G.cStretch.cl, G.cStretch.no _ (by decide +kernel), lStretch_last, _, rfl, c, _, _, _, _, rfl, hb, G.cStretch.cl, G.cStretch.no _ (by decide +kernel), lStretch_last, rfl, _, rfl, ?_⟩
      rw [decide_eq_false (show ¬ V.int h = V.int h2 from fun e => n (by injection e))]
      exact iteF q
    · exact ⟨_, rfl, _, rfl, .inl ⟨a, _, _, _, rfl, ha, _, rfl, _, rfl, .inr ⟨_, .tup hb, _, rfl, .inr ⟨_, rfl, _, rfl, iteF q⟩⟩⟩⟩
    · refine ⟨_, rfl, _, rfl, .inl ⟨a, _, _, _, rfl, ha, _, rfl, _, rfl, .inl ⟨c, _, _, _, rfl, hb, _, rfl, .inl ⟨_, rfl, .inr ⟨G.cStretch.mkr.makes, G.cMend.mkr.makes⟩, _, rfl, ?_⟩⟩⟩⟩
      rw [decide_eq_false (G.neSM)]
      exact iteF q

theorem ds_eq {X : Cx} {A : Addr} {fd : FuncData} (F : FnOk X.prog X.w X.K X.mg X.base CX0 2 (He.ma X.K (CA X.K "Stretch") "__eq__") fd ["self", "other"] (spEqStr X.K)) (hb : Binds X.K fd ["self", "other"] []) (T : EqcC X.K (CA X.K "Stretch")) (hx : Passes CX0 X (fun _ _ _ => False)) : EqG X 2 (DS X.K) :=
  eqG_ins (CX := CX0) (F.imp fun vs H Q E h => (by
    obtain ⟨a, b, rfl, ⟨k, l, h, xs, ys, o, x, y⟩, q⟩ := h
    exact ⟨a, b, k, l, h, xs, ys, rfl, o, x, .inl ⟨y, fun H' S => q H' S⟩⟩)) T.find T.fn hb hx
/-- t == u of tuples of stretches -/
def rEqSt (K : Frag) : R2 := fun x y H Q => (DTup K (DS K) x y H ∧ ∀ H', Same H H' → Q (.bl true) H') ∨ (∃ a b xs ys, x = .ref a ∧ y = .ref b ∧ SqT K H a xs ∧ SqT K H b ys ∧ ys.length < xs.length ∧ Prs (DS K) (xs.take ys.length) ys H ∧ ∀ H', Same H H' → Q (.bl false) H')
theorem op_eqSt {X : Cx} (h : EqG X 2 (DS X.K)) (hr : Room 3 X.A) : OpR X (compareOp .Eq) (rEqSt X.K) := by
  intro pins s σ H x y v u Q I rx ry hq
  rcases hq with ⟨d, q⟩ | ⟨a, b, xs, ys, ex, ey, h1, h2, hl, p, q⟩
  · exact op_eqG (rcG_tup (mon_ds X.K) h) hr pins s σ H x y v u Q I rx ry ⟨d, fun H' e => q H' e⟩
  · exact op_eqP (mon_ds X.K) h hr pins s σ H x y v u Q I rx ry ⟨a, b, xs, ys, ex, ey, h1, h2, hl, p, q⟩

abbrev s_Mend_eq : Stmt := inClass (top 8) 1
theorem sc_Mend_eq : FnScope ["self", "other"] ["self", "other"] (defScope s_Mend_eq) := ⟨rfl, rfl, rfl, by decide +kernel, rfl, by decide +kernel, by decide +kernel⟩

theorem ok_Mend_eq (F : FunD K "__eq__" "Mend.__eq__" (defArgs s_Mend_eq) (defBody s_Mend_eq) (defScope s_Mend_eq) [] [] f fd) (G : G4 P w K mg base) : FnOk P w K mg base CX0 4 f fd ["self", "other"] (spEqMend K) := by
  refine F.ok (CX := CX0) sc_Mend_eq (fun vs H Q E h => ?_) (fun cdv A outer s H vs Q E hr h => ?_)
  · obtain ⟨_, _, _, _, rfl, _⟩ := h
    rfl
  · obtain ⟨fds, Fs, Bs⟩ := G.eStr.ok
    refine ⟨_, PSs.nox (pss_one (ps_ret (pe_and (pe_cmpR op_isA (pe_callTy call_tyA (by rfl) G.type (by decide +kernel) (pa_cons (pv 0) pa_nil)) (pe_callTy call_tyA (by rfl) G.type (by decide +kernel) (pa_cons (pv 1) pa_nil)) (nomark _)) (pe_and (pe_cmpR (op_eqD hr.units) (pe_fld (pv 0) rfl) (pe_fld (pv 1) rfl) (nomark _)) (pe_one (pe_cmpR (op_eqSt (ds_eq (A := 0) Fs Bs G.cStretch.eq pass0) hr) (pe_fld (pv 0) rfl) (pe_fld (pv 1) rfl) (nomark _))))))), ?_⟩
    obtain ⟨a, c, js, ss, rfl, ⟨dx, t, u, ha, ht, hu⟩, h⟩ := h
    rcases h with ⟨rs, ⟨dy, t2, u2, hb, ht2, hu2⟩, p, q⟩ | ⟨ls, rs, ⟨dy, t2, u2, hb, ht2, hu2⟩, n, q⟩ | ⟨rs, ⟨dy, t2, u2, hb, ht2, hu2⟩, n, p, q⟩ | ⟨dy, fs, hb, q⟩ | ⟨dy, fs, hb, q⟩
    · refine ⟨_, rfl, _, rfl, .inl ⟨a, _, _, _, rfl, ha, _, rfl, _, rfl, .inl ⟨c, _, _, _, rfl, hb, _, rfl, .inl ⟨_, rfl, .inl rfl, _, rfl, ?_⟩⟩⟩⟩
      refine ite2 (fun _ => ?_) (fun h => absurd (decide_eq_true rfl) h)
      refine ⟨_, rfl, a, _, _, _, _, rfl, ha, G.cMend.cl, G.cMend.no _ (by decide +kernel), lMend_joints, _, rfl, c, _, _, _, _, rfl, hb, G.cMend.cl, G.cMend.no _ (by decide +kernel), lMend_joints, _, _, dp_tup ht (ints_flat js), dp_tup ht2 (ints_flat js), ints_shaped js, ints_shaped js, _, rfl, ?_⟩
      rw [eqv_same (ints_shaped js)]
      refine iteT ⟨_, rfl, a, _, _, _, _, rfl, ha, G.cMend.cl, G.cMend.no _ (by decide +kernel), lMend_stretches, _, rfl, c, _, _, _, _, rfl, hb, G.cMend.cl, G.cMend.no _ (by decide +kernel), lMend_stretches, .inl ⟨⟨u, u2, _, _, rfl, rfl, SqT.of hu, SqT.of hu2, p⟩, q⟩⟩
    · refine ⟨_, rfl, _, rfl, .inl ⟨a, _, _, _, rfl, ha, _, rfl, _, rfl, .inl ⟨c, _, _, _, rfl, hb, _, rfl, .inl ⟨_, rfl, .inl rfl, _, rfl, ?_⟩⟩⟩⟩
      refine ite2 (fun _ => ?_) (fun h => absurd (decide_eq_true rfl) h)
      refine ⟨_, rfl, a, _, _, _, _, rfl, ha, G.cMend.cl, G.cMend.no _ (by decide +kernel), lMend_joints, _, rfl, c, _, _, _, _, rfl, hb, G.cMend.cl, G.cMend.no _ (by decide +kernel), lMend_joints, _, _, dp_tup ht (ints_flat js), dp_tup ht2 (ints_flat ls), ints_shaped js, ints_shaped ls, _, rfl, ?_⟩
      rw [ints_eqv, decide_eq_false n]
      exact iteF q
    · refine ⟨_, rfl, _, rfl, .inl ⟨a, _, _, _, rfl, ha, _, rfl, _, rfl, .inl ⟨c, _, _, _, rfl, hb, _, rfl, .inl ⟨_, rfl, .inl rfl, _, rfl, ?_⟩⟩⟩⟩
      refine ite2 (fun _ => ?_) (fun h => absurd (decide_eq_true rfl) h)
      refine ⟨_, rfl, a, _, _, _, _, rfl, ha, G.cMend.cl, G.cMend.no _ (by decide +kernel), lMend_joints, _, rfl, c, _, _, _, _, rfl, hb, G.cMend.cl, G.cMend.no _ (by decide +kernel), lMend_joints, _, _, dp_tup ht (ints_flat js), dp_tup ht2 (ints_flat js), ints_shaped js, ints_shaped js, _, rfl, ?_⟩
      rw [eqv_same (ints_shaped js)]
      refine iteT ⟨_, rfl, a, _, _, _, _, rfl, ha, G.cMend.cl, G.cMend.no _ (by decide +kernel), lMend_stretches, _, rfl, c, _, _, _, _, rfl, hb, G.cMend.cl, G.cMend.no _ (by decide +kernel), lMend_stretches, .inr ⟨u, u2, _, _, rfl, rfl, SqT.of hu, SqT.of hu2, by rw [List.length_map, List.length_map]; exact n, p, q⟩⟩
    · refine ⟨_, rfl, _, rfl, .inl ⟨a, _, _, _, rfl, ha, _, rfl, _, rfl, .inl ⟨c, _, _, _, rfl, hb, _, rfl, .inl ⟨_, rfl, .inr ⟨G.cMend.mkr.makes, G.cStretch.mkr.makes⟩, _, rfl, ?_⟩⟩⟩⟩
      rw [decide_eq_false (G.neSM.symm)]
      exact iteF q
    · refine ⟨_, rfl, _, rfl, .inl ⟨a, _, _, _, rfl, ha, _, rfl, _, rfl, .inl ⟨c, _, _, _, rfl, hb, _, rfl, .inl ⟨_, rfl, .inr ⟨G.cMend.mkr.makes, G.cWish.mkr.makes⟩, _, rfl, ?_⟩⟩⟩⟩
      rw [decide_eq_false (G.neMW)]
      exact iteF q

end
end L2.K51

set_option Elab.async false
set_option linter.all false
set_option maxRecDepth 100000
set_option maxHeartbeats 4000000
/-! The law's numbers; what it draws. -/
namespace L2.K51
open PySem PySem.W PySem.Spec PySem.Calls PyProof.Rows L2.Jk

theorem FunD_kbindsN {K : Frag} {x qual : Str} {params : Arguments} {body : List Stmt} {scope : Scope} {kws : List (Str × V)} {f : Addr} {fd : FuncData} {ps : List Str} (F : FunD K x qual params body scope [] kws f fd) (n : Nat) (ks : List Str) (g : {α : Type} → List α → List α → List α)
    (hrel : ∀ {vs zs : List V} {us ws : List Value}, vs.length = n → zs.length = ks.length → Vals vs us → Vals zs ws → Vals (g vs zs) (g us ws))
    (h0 : ∀ {vs zs : List V} {us ws : List Value}, ¬ (vs.length = n ∧ zs.length = ks.length) → Vals vs us → Vals zs ws → Vals (g vs zs) (g us ws))
    (h : ∀ (kV doc pm : Value) (an : Option Addr) (cdv ct : Value) (us ws : List Value), us.length = n → ws.length = ks.length → bindArgs (PySem.W.fnOf x qual params body scope .none kV doc pm an cdv ct) ⟨us, ks.zip ws⟩ = pure (ps.zip (g us ws))) : KBn K fd ps n ks (fun us ws => g us ws) (fun vs zs => g vs zs) := by
  obtain ⟨oc, od, dV, kV, doc, pm, an, cdv, ct, osl, rfl, lk, hcd, hD, hK⟩ := F.ex
  rcases hD with ⟨_, rfl⟩ | ⟨e, _⟩
  · refine ⟨fun s us ws X l1 l2 => .of_eq (h kV doc pm an cdv ct us ws l1 l2), fun {vs us zs ws} r1 r2 => ?_⟩
    by_cases hc : vs.length = n ∧ zs.length = ks.length
    · exact hrel hc.1 hc.2 r1 r2
    · exact h0 hc r1 r2
  · exact absurd rfl e
/-- the keywords of two, of four, in the order they are written in -/
def g2 {α : Type} : List α → List α → List α
  | [s], [a, b] => [s, b, a]
  | us, ws => us ++ ws
def g4 {α : Type} : List α → List α → List α
  | [s], [a, b, c, d] => [s, d, c, b, a]
  | us, ws => us ++ ws
theorem g2_rel {vs zs : List V} {us ws : List Value} (r1 : Vals vs us) (r2 : Vals zs ws) : Vals (g2 vs zs) (g2 us ws) := by
  match vs, us, zs, ws, r1, r2 with
  | [], [], _, _, .nil, r2 => exact r2
  | [_], [_], [], [], .cons a .nil, .nil => exact .cons a .nil
  | [_], [_], [_], [_], .cons a .nil, .cons b .nil => exact .cons a (.cons b .nil)
  | [_], [_], [_, _], [_, _], .cons a .nil, .cons b (.cons c .nil) => exact .cons a (.cons c (.cons b .nil))
  | [_], [_], _ :: _ :: _ :: _, _ :: _ :: _ :: _, .cons a .nil, .cons b (.cons c (.cons d e)) => exact .cons a (.cons b (.cons c (.cons d e)))
  | _ :: _ :: _, _ :: _ :: _, _, _, .cons a (.cons b c), r2 => exact (Vals.append (.cons a (.cons b c)) r2)
theorem g4_rel {vs zs : List V} {us ws : List Value} (r1 : Vals vs us) (r2 : Vals zs ws) : Vals (g4 vs zs) (g4 us ws) := by
  match vs, us, zs, ws, r1, r2 with
  | [], [], _, _, .nil, r2 => exact r2
  | [_], [_], [], [], .cons a .nil, .nil => exact .cons a .nil
  | [_], [_], [_], [_], .cons a .nil, .cons b .nil => exact .cons a (.cons b .nil)
  | [_], [_], [_, _], [_, _], .cons a .nil, .cons b (.cons c .nil) => exact .cons a (.cons b (.cons c .nil))
  | [_], [_], [_, _, _], [_, _, _], .cons a .nil, .cons b (.cons c (.cons d .nil)) => exact .cons a (.cons b (.cons c (.cons d .nil)))
  | [_], [_], [_, _, _, _], [_, _, _, _], .cons a .nil, .cons b (.cons c (.cons d (.cons e .nil))) => exact .cons a (.cons e (.cons d (.cons c (.cons b .nil))))
  | [_], [_], _ :: _ :: _ :: _ :: _ :: _, _ :: _ :: _ :: _ :: _ :: _, .cons a .nil, .cons b (.cons c (.cons d (.cons e (.cons g h)))) => exact .cons a (.cons b (.cons c (.cons d (.cons e (.cons g h)))))
  | _ :: _ :: _, _ :: _ :: _, _, _, .cons a (.cons b c), r2 => exact (Vals.append (.cons a (.cons b c)) r2)
/-- a class made by keywords -/
structure KwAt (P : Program) (w : World) (K : Frag) (mg : Str → Option Value) (base : Heap) (k : Nat) (C : Addr) (ps ks : List Str) (g : {α : Type} → List α → List α → List α) (sp : Sp) : Prop where
  ok : ∃ fd, FnOk P w K mg base CX0 k (He.ma K C "__init__") fd ps sp ∧ KBn K fd ps 1 ks (fun us ws => g us ws) (fun vs zs => g vs zs)
section
variable {X : Cx} {k : Nat} {C : Addr} {x : Str} {ps ks : List Str} {sp : Sp} {kws : List Keyword} {tk : TA} {p pos : Pos} {g : {α : Type} → List α → List α → List α}
def tKw (C : Addr) (m : Nat) (sp : Sp) (gV : List V → List V → List V) (tk : TA) : TE := fun σ H Q => tk σ H fun zs H2 => zs.length = m ∧ ∀ x dx, H2 x = none → H2 dx = none → dx ≠ x →
  sp (gV [.ref x] zs) (upd (upd H2 dx (.own x)) x (.ins C dx [])) (fun v H3 => v = .non ∧ Q (.ref x) H3) (fun _ _ _ => False)
theorem pe_kw (G : KwAt X.prog X.w X.K X.mg X.base k C ps ks g sp) (M : Mk X.K C (He.ma X.K C "__init__")) (hr : Room (k + 1) X.A) (hx : Passes CX0 X (fun _ _ _ => False)) (hg : Gl X x) (hm : X.mg x = some (.ref C)) (hkw : PK X kws tk)
    (hall : (backToKw pos (keywordEach kws X.env)).all (·.1.isSome) = true := by rfl) (hks : (backToKw pos (keywordEach kws X.env)).filterMap (·.1) = ks := by rfl) (hdb : (x == ("__debug__" : Str)) = false := by decide)
    (hpl : ((backTo pos (starEach [] X.env)).any (·.1) || (backToKw pos (keywordEach kws X.env)).any (·.1.isNone)) = false := by rfl) :
    PE X (.Call (.Name x p) [] kws pos) (tKw C ks.length sp (fun vs zs => g vs zs) tk) := by
  obtain ⟨fd, F, hb⟩ := G.ok
  have B := pe_makeK0 (kws := kws) (tk := tk) (pos := pos) (p := p) M F hr hg hm hb hx hkw hall hks hdb hpl
  refine ⟨fun pins s σ H Q I h => ?_⟩
  refine wpAny_Call_Name_kw (ld_glob I hg hm ?_ hdb)
  refine PySem.W.callWith_KW0 (h₀ := X.base) I.ok.mod.kin M.kp hall ?_ hpl
  refine thn (hkw.run pos pins s σ H _ I h) fun ws s2 ⟨zs, H2, I2, rz, l2, q2⟩ => ⟨I2.kIn, ?_⟩
  rw [hks]
  exact run_makeK (us := []) (vs := []) M F hr hb hx I2 .nil rz rfl l2 q2
end
/-- 'x' * n, n at least 0 -/
def repOk0 (z : Str) (i : Int) : Bool := decide (i = 0) || repOk z i
theorem op_mulStr0 {X : Cx} : OpR X (binaryOp .Mult) (fun x y H Q => ∃ (z : Str) (i : Int), x = .str z ∧ y = .int i ∧ repOk0 z i = true ∧ Q (.str (repS z i)) H) := by
  intro pins s σ H x y v u Q I rx ry h
  obtain ⟨z, i, rfl, rfl, ok, q⟩ := h
  rcases Bool.or_eq_true_iff.mp ok with o | o
  · obtain rfl := of_decide_eq_true o
    obtain ⟨t, rfl⟩ := rx
    obtain ⟨t', rfl⟩ := ry
    exact P.mul_str_none (by decide) (by decide) ⟨.str _, H, I.tok _, ⟨_, rfl⟩, q⟩
  · exact op_mulStr pins s σ H _ _ v u Q I rx ry ⟨z, i, rfl, rfl, o, q⟩
/-! ### the law's own numbers: a list of three -/
def StAt (H : Hp) (a : Addr) : Prop := ∃ p q r : Int, H a = some (.lst [.int p, .int q, .int r])
theorem StAt.same {H H' : Hp} {a : Addr} (S : Same H H') : StAt H a → StAt H' a
  | ⟨p, q, r, h⟩ => ⟨p, q, r, S _ _ h⟩
theorem StAt.ne {H : Hp} {a b : Addr} (h : StAt H a) (n : H b = none) : b ≠ a := fun e => by
  obtain ⟨_, _, _, h⟩ := h
  rw [e, h] at n
  cases n
theorem StAt.kp {H H' : Hp} {a : Addr} (B : But a H H') : StAt H a → Kp H H'
  | ⟨_, _, _, h⟩ => Kp.but h B
def spMixed : Sp := fun vs H Q _ => ∃ c d : Int, vs = [.int c, .int d] ∧ ∀ n, Q (.int n) H
def spSource : Sp := fun vs H Q _ => ∃ n : Int, vs = [.int n] ∧ ∀ a H', H a = none → Same H H' → StAt H' a → Q (.ref a) H'
def spTake : Sp := fun vs H Q _ => ∃ (a : Addr) (b : Int), vs = [.ref a, .int b] ∧ StAt H a ∧ 0 < b ∧ b < 1073741824 ∧ ∀ (d : Nat) H', (d : Int) < b → But a H H' → StAt H' a → Q (.int (d : Nat)) H'
def spPick : Sp := fun vs H Q _ => ∃ (a p : Addr) (xs : List V), vs = [.ref a, .ref p] ∧ StAt H a ∧ p ≠ a ∧ H p = some (.lst xs) ∧ xs ≠ [] ∧ xs.length < 1000 ∧ ∀ v H', v ∈ xs → But a H H' → StAt H' a → Q v H'
structure GR (P : Program) (w : World) (K : Frag) (mg : Str → Option Value) (base : Heap) : Prop extends G0 P w K mg base where
  law_mixed : FnAt P w K mg base CX0 1 "_law_mixed" ["_law_cell", "_law_draw"] spMixed
structure GR2 (P : Program) (w : World) (K : Frag) (mg : Str → Option Value) (base : Heap) : Prop extends GR P w K mg base where
  law_take : FnAt P w K mg base CX0 2 "_law_take" ["_law_source_here", "_law_bound"] spTake
theorem to_nat {d b : Int} (h0 : 0 ≤ d) (h1 : d < b) : ∃ n : Nat, d = (n : Int) ∧ (n : Int) < b := ⟨d.toNat, by omega, by omega⟩
section
variable {P : Program} {w : World} {K : Frag} {mg : Str → Option Value} {base : Heap} {f : Addr} {fd : FuncData}

abbrev s_mixed : Stmt := top 10
theorem sc_mixed : FnScope ["_law_cell", "_law_draw", "_law_figure"] ["_law_cell", "_law_draw"] (defScope s_mixed) := ⟨rfl, rfl, rfl, by decide +kernel, rfl, by decide +kernel, by decide +kernel⟩

theorem ok_mixed (F : FunD K "_law_mixed" "_law_mixed" (defArgs s_mixed) (defBody s_mixed) (defScope s_mixed) [] [] f fd) (G : G0 P w K mg base) : FnOk P w K mg base CX0 1 f fd ["_law_cell", "_law_draw"] spMixed := by
  refine F.ok (CX := CX0) sc_mixed (fun vs H Q E h => ?_) (fun cdv A outer s H vs Q E hr h => ?_)
  · obtain ⟨c, d, rfl, _⟩ := h
    rfl
  · refine ⟨_, PSs.nox (pss_cons (ps_set (i := 2) sc_mixed.nd rfl (Or.inl rfl) (pe_op op_mod (pe_callTy call_int1 (by rfl) G.int (by decide +kernel) (pa_cons (pe_op op_mul (pe_op op_add (pe_op op_mod (pe_callTy call_int1 (by rfl) G.int (by decide +kernel) (pa_cons (pv 0) pa_nil)) pe_int) pe_int) (pe_op op_add (pe_op op_mul (pv 1) pe_int) pe_int)) pa_nil)) pe_int))
    (pss_cons (ps_set (i := 2) sc_mixed.nd rfl (Or.inl rfl) (pe_op op_mod (pe_callTy call_int1 (by rfl) G.int (by decide +kernel) (pa_cons (pe_op op_mul (pe_op op_add (pv 2) (pe_op op_mul (pe_op op_mod (pe_callTy call_int1 (by rfl) G.int (by decide +kernel) (pa_cons (pe_op op_fdivW (pv 0) pe_int) pa_nil)) pe_int) (pe_op op_add (pv 1) pe_int))) pe_int) pa_nil)) pe_int))
    (pss_cons (ps_set (i := 2) sc_mixed.nd rfl (Or.inl rfl) (pe_op op_mod (pe_callTy call_int1 (by rfl) G.int (by decide +kernel) (pa_cons (pe_op op_mul (pv 2) (pe_op op_add (pe_op op_add (pe_op op_fdiv (pv 2) pe_int) pe_int) (pv 1))) pa_nil)) pe_int))
    (pss_one (ps_ret (pe_op op_mod (pe_callTy call_int1 (by rfl) G.int (by decide +kernel) (pa_cons (pe_op op_mul (pv 2) (pe_op op_add (pe_op op_fdiv (pv 2) pe_int) pe_int)) pa_nil)) pe_int)))))), ?_⟩
    obtain ⟨c, d, rfl, q⟩ := h
    have m1 := fun (x : Int) => Int.emod_nonneg x (show (2147483646 : Int) ≠ 0 by decide)
    have m2 := fun (x : Int) => Int.emod_lt_of_pos x (show (0 : Int) < 2147483646 by decide)
    have m3 := fun (x : Int) => Int.emod_nonneg x (show (1000003 : Int) ≠ 0 by decide)
    have m4 := fun (x : Int) => Int.emod_lt_of_pos x (show (0 : Int) < 1000003 by decide)
    have m5 := fun (x : Int) => Int.emod_nonneg x (show (2147483629 : Int) ≠ 0 by decide)
    have m6 := fun (x : Int) => Int.emod_lt_of_pos x (show (0 : Int) < 2147483629 by decide)
    have m7 := fun (x : Int) => Int.emod_nonneg x (show (2147483587 : Int) ≠ 0 by decide)
    have m8 := fun (x : Int) => Int.emod_lt_of_pos x (show (0 : Int) < 2147483587 by decide)
    refine ⟨_, rfl, .inl ⟨_, rfl, _, _, rfl, rfl, (by show (0 : Int) < 2147483646; decide), _, _, rfl, rfl, _, rfl, _, _, rfl, rfl, .inr ⟨by decide, by decide⟩, _, _, rfl, rfl, _, _, rfl, rfl, .inl ⟨by have := m1 c; omega, by have := m2 c; omega⟩, .inl ⟨_, rfl, _, _, rfl, rfl, (by show (0 : Int) < 2147483647; decide), ?_⟩⟩⟩
    obtain ⟨x1, e1⟩ : ∃ x1, (c % 2147483646 + 1) * (d * 7919 + 104729) % 2147483647 = x1 := ⟨_, rfl⟩
    refine ⟨_, rfl, _, rfl, _, _, rfl, rfl, ⟨by decide, by decide +kernel⟩, .inl ⟨_, rfl, _, _, rfl, rfl, (by show (0 : Int) < 1000003; decide), _, rfl, _, _, rfl, rfl, _, _, rfl, rfl, .inl ⟨by have := m3 (c / 2147483646); omega, by have := m4 (c / 2147483646); omega⟩, _, _, rfl, rfl, _, _, rfl, rfl, .inr ⟨by decide, by decide⟩, .inl ⟨_, rfl, _, _, rfl, rfl, (by show (0 : Int) < 2147483629; decide), ?_⟩⟩⟩
    obtain ⟨y, ey⟩ : ∃ y, ((c % 2147483646 + 1) * (d * 7919 + 104729) % 2147483647 + c / 2147483646 % 1000003 * (d + 31)) * 48271 = y := ⟨_, rfl⟩
    refine ⟨_, rfl, _, rfl, _, _, rfl, rfl, ⟨by decide, by decide⟩, _, _, rfl, rfl, _, rfl, _, _, rfl, rfl, _, _, rfl, rfl, .inl ⟨?_, ?_⟩, .inl ⟨_, rfl, _, _, rfl, rfl, (by show (0 : Int) < 2147483587; decide), ?_⟩⟩
    · have := m5 (((c % 2147483646 + 1) * (d * 7919 + 104729) % 2147483647 + c / 2147483646 % 1000003 * (d + 31)) * 48271); omega
    · have := m6 (((c % 2147483646 + 1) * (d * 7919 + 104729) % 2147483647 + c / 2147483646 % 1000003 * (d + 31)) * 48271); omega
    · refine ⟨_, rfl, _, rfl, _, _, rfl, rfl, ⟨by decide, by decide⟩, _, _, rfl, rfl, _, _, rfl, rfl, .inl ⟨?_, ?_⟩, .inl ⟨_, rfl, _, _, rfl, rfl, (by show (0 : Int) < 2147483563; decide), q _⟩⟩
      · exact Int.lt_of_lt_of_le (by decide) (m7 _)
      · exact Int.lt_trans (m8 _) (by decide)

abbrev s_source : Stmt := top 11
theorem sc_source : FnScope ["_law_cell"] ["_law_cell"] (defScope s_source) := ⟨rfl, rfl, rfl, by decide +kernel, rfl, by decide +kernel, by decide +kernel⟩

theorem ok_source (F : FunD K "_law_source" "_law_source" (defArgs s_source) (defBody s_source) (defScope s_source) [] [] f fd) (G : G0 P w K mg base) : FnOk P w K mg base CX0 1 f fd ["_law_cell"] spSource := by
  refine F.ok (CX := CX0) sc_source (fun vs H Q E h => ?_) (fun cdv A outer s H vs Q E hr h => ?_)
  · obtain ⟨n, rfl, _⟩ := h
    rfl
  · refine ⟨_, PSs.nox (pss_one (ps_ret (pe_lstS (pa_cons (pv 0) (pa_cons (pv 0) (pa_cons pe_int pa_nil)))))), ?_⟩
    obtain ⟨n, rfl, q⟩ := h
    exact ⟨_, rfl, _, rfl, by show 3 ≤ 1000; decide, fun p H' hp S e => q p H' hp S ⟨_, _, _, e⟩⟩

abbrev s_take : Stmt := top 12
theorem sc_take : FnScope ["_law_source_here", "_law_bound", "_law_drawn"] ["_law_source_here", "_law_bound"] (defScope s_take) := ⟨rfl, rfl, rfl, by decide +kernel, rfl, by decide +kernel, by decide +kernel⟩

theorem ok_take (F : FunD K "_law_take" "_law_take" (defArgs s_take) (defBody s_take) (defScope s_take) [] [] f fd) (G : GR P w K mg base) : FnOk P w K mg base CX0 2 f fd ["_law_source_here", "_law_bound"] spTake := by
  refine F.ok (CX := CX0) sc_take (fun vs H Q E h => ?_) (fun cdv A outer s H vs Q E hr h => ?_)
  · obtain ⟨_, _, rfl, _⟩ := h
    rfl
  · refine ⟨_, PSs.nox (pss_cons (ps_if (pt_cmpR op_ge (pe_ix ix_list (pv 0) pe_int (fun _ _ => rfl)) (pe_op op_pow pe_int pe_int) (nomark _))
      (pss_cons (ps_set (i := 2) sc_take.nd rfl (Or.inl rfl) (pe_op op_mod (pe_callTy call_int1 (by rfl) G.int (by decide +kernel) (pa_cons (pe_ix ix_list (pv 0) pe_int (fun _ _ => rfl)) pa_nil)) (pv 1)))
      (pss_cons (ps_asg (pe_op op_fdiv (pe_ix ix_list (pv 0) pe_int (fun _ _ => rfl)) (pv 1)) (pg_sub (pv 0) pe_int set_list))
      (pss_one (ps_ret (pv 2)))))
      pss_nil)
    (pss_cons (ps_asg (pe_op op_add (pe_ix ix_list (pv 0) pe_int (fun _ _ => rfl)) pe_int) (pg_sub (pv 0) pe_int set_list))
    (pss_one (ps_ret (pe_op op_mod (pe_callTy call_int1 (by rfl) G.int (by decide +kernel) (pa_cons (pe_fn G.law_mixed (hr.mono (by decide)) pass0 (by rfl) (pa_cons (pe_ix ix_list (pv 0) pe_int (fun _ _ => rfl)) (pa_cons (pe_ix ix_list (pv 0) pe_int (fun _ _ => rfl)) pa_nil))) pa_nil)) (pv 1)))))), ?_⟩
    obtain ⟨a, b, rfl, ⟨x, y, z, ha⟩, hb, hb2, q⟩ := h
    refine ⟨_, rfl, _, _, _, _, rfl, rfl, SqL.of ha, atI_nat (j := 0) rfl, _, _, rfl, rfl, ⟨by decide, by decide, by decide⟩, _, _, rfl, rfl, _, rfl, ?_⟩
    refine ite2 (fun h0 => ?_) (fun h0 => ?_)
    · refine ⟨_, rfl, _, _, _, _, rfl, rfl, SqL.of ha, atI_nat (j := 0) rfl, .inl ⟨_, rfl, _, rfl, _, _, rfl, rfl, hb, ?_⟩⟩
      refine ⟨_, rfl, _, _, _, _, rfl, rfl, SqL.of ha, atI_nat (j := 0) rfl, _, rfl, _, _, rfl, rfl, ⟨hb, hb2⟩, ?_⟩
      refine ⟨_, rfl, _, _, _, 0, rfl, rfl, ha, rfl, ?_⟩
      obtain ⟨n, en, ln⟩ := to_nat (Int.emod_nonneg x (show b ≠ 0 by omega)) (Int.emod_lt_of_pos x hb)
      refine ⟨_, rfl, ?_⟩
      show Q (.int (x % b)) _
      rw [en]
      exact q n _ ln (but_upd _ _ _) ⟨_, _, _, upd_same⟩
    · refine ⟨_, rfl, _, _, _, _, rfl, rfl, SqL.of ha, atI_nat (j := 2) rfl, _, _, rfl, rfl, ?_⟩
      refine ⟨_, rfl, _, _, _, 2, rfl, rfl, ha, rfl, ?_⟩
      obtain ⟨H1, e1⟩ : ∃ H1, upd H a (.lst ([V.int x, V.int y, V.int z].set 2 (V.int (z + 1)))) = H1 := ⟨_, rfl⟩
      have ha1 : H1 a = some (.lst [.int x, .int y, .int (z + 1)]) := by rw [← e1, upd_same]; rfl
      rw [e1]
      refine ⟨_, rfl, _, _, _, _, rfl, rfl, SqL.of ha1, atI_nat (j := 1) rfl, _, rfl, _, _, _, _, rfl, rfl, SqL.of ha1, atI_nat (j := 2) rfl, _, _, rfl, fun m => .inl ⟨_, rfl, _, rfl, _, _, rfl, rfl, hb, ?_⟩⟩
      obtain ⟨n, en, ln⟩ := to_nat (Int.emod_nonneg m (show b ≠ 0 by omega)) (Int.emod_lt_of_pos m hb)
      show Q (.int (m % b)) _
      rw [en]
      refine q n _ ln ?_ ⟨_, _, _, ha1⟩
      rw [← e1]
      exact but_upd _ _ _

abbrev s_pick : Stmt := top 13
theorem sc_pick : FnScope ["_law_source_here", "_law_options"] ["_law_source_here", "_law_options"] (defScope s_pick) := ⟨rfl, rfl, rfl, by decide +kernel, rfl, by decide +kernel, by decide +kernel⟩

theorem ok_pick (F : FunD K "_law_pick" "_law_pick" (defArgs s_pick) (defBody s_pick) (defScope s_pick) [] [] f fd) (G : GR2 P w K mg base) : FnOk P w K mg base CX0 3 f fd ["_law_source_here", "_law_options"] spPick := by
  refine F.ok (CX := CX0) sc_pick (fun vs H Q E h => ?_) (fun cdv A outer s H vs Q E hr h => ?_)
  · obtain ⟨_, _, _, rfl, _⟩ := h
    rfl
  · refine ⟨_, PSs.nox (pss_one (ps_ret (pe_ix ix_list (pv 1) (pe_fn G.law_take (hr.mono (by decide)) pass0 (by rfl) (pa_cons (pv 0) (pa_cons (pe_callB call_len_seq (by rfl) G.len (by decide +kernel) (pa_cons (pv 1) pa_nil)) pa_nil))) (fun _ _ => rfl)))), ?_⟩
    obtain ⟨a, p, xs, rfl, st, np, hp, ne, lx, q⟩ := h
    have l0 : 0 < xs.length := List.length_pos_iff.mpr ne
    refine ⟨_, rfl, _, rfl, _, rfl, p, xs, rfl, .inl (SqL.of hp), a, _, rfl, st, by omega, by omega, fun d H' hd B st' => ?_⟩
    have hl : d < xs.length := by omega
    exact ⟨_, _, _, _, rfl, rfl, SqL.of (B _ _ np hp), atI_nat (j := d) (List.getElem?_eq_getElem hl), q _ _ (List.getElem_mem hl) B st'⟩

end
end L2.K51

set_option Elab.async false
set_option linter.all false
set_option maxRecDepth 100000
set_option maxHeartbeats 4000000
/-! What the law makes and compares: pairs, wishes. -/
namespace L2.K51
open PySem PySem.W PySem.Spec PySem.Calls PyProof.Rows L2.Jk

theorem same_made {H H2 : Hp} {a dx C : Addr} (ha : H a = none) (hd : H dx = none) (B : But a (upd (upd H dx (.own a)) a (.ins C dx [])) H2) : Same H H2 := fun c o e => B c o (ne_of_none e ha) (by
  rw [upd_ne (ne_of_none e ha), upd_ne (ne_of_none e hd)]
  exact e)
theorem but_put {a p : Addr} {H H1 : Hp} {o : HO} (B : But a H H1) (h : H p = none) : But a H (upd H1 p o) := fun c u n e => by
  rw [upd_ne (ne_of_none e h)]
  exact B c u n e
theorem StAt.put {H : Hp} {a p : Addr} {o : HO} (n : p ≠ a) : StAt H a → StAt (upd H p o) a
  | ⟨x, y, z, h⟩ => ⟨x, y, z, by rw [upd_ne (Ne.symm n)]; exact h⟩
theorem useP {K : Frag} {H : Hp} {a dx p q : Addr} {xs ys : List V} {R : Hp → Prop} {E : XK} (ha : H a = none) (hd : H dx = none) (hp : IsQ H p xs) (hq : IsQ H q ys) (ok : PkOk xs ys) (k : ∀ H', Same H H' → PAt K H' a xs ys → R H') :
    spPair K [.ref a, .ref p, .ref q] (upd (upd H dx (.own a)) a (.ins (CA K "Pair") dx [])) (fun v H2 => v = .non ∧ R H2) E :=
  ⟨a, dx, p, q, xs, ys, rfl, upd_same, hp.same (same_new ha hd), hq.same (same_new ha hd), ok, fun H' B h => ⟨rfl, k H' (same_made ha hd B) h⟩⟩
theorem useW {K : Frag} {H : Hp} {a dx p : Addr} {b : Bool} {js : List Int} {R : Hp → Prop} {E : XK} (ha : H a = none) (hd : H dx = none) (hp : IsQ H p (js.map V.int)) (l : js.length ≤ 1000) (k : ∀ H', Same H H' → WAt K H' a b js → R H') :
    spWish K [.ref a, .bl b, .ref p] (upd (upd H dx (.own a)) a (.ins (CA K "Wish") dx [])) (fun v H2 => v = .non ∧ R H2) E :=
  ⟨a, dx, p, b, js, rfl, upd_same, hp.same (same_new ha hd), l, fun H' B h => ⟨rfl, k H' (same_made ha hd B) h⟩⟩
theorem useS {K : Frag} {H : Hp} {a dx c : Addr} {k : Str} {l h : Int} {xs ys : List V} {R : Hp → Prop} {E : XK} (ha : H a = none) (hd : H dx = none) (hc : PAt K H c xs ys) (q : ∀ H', Same H H' → SAt K H' a k l h c → R H') :
    spStretch K [.ref a, .str k, .int l, .int h, .ref c] (upd (upd H dx (.own a)) a (.ins (CA K "Stretch") dx [])) (fun v H2 => v = .non ∧ R H2) E := by
  refine ⟨a, dx, c, k, l, h, xs, ys, rfl, upd_same, hc.kp (Kp.of (same_new ha hd)), fun e => ?_, fun H' B h => ⟨rfl, q H' (same_made ha hd B) h⟩⟩
  obtain ⟨_, _, _, z, _⟩ := hc
  rw [e, ha] at z
  cases z
theorem useM {K : Frag} {H : Hp} {a dx p q : Addr} {js : List Int} {ss : List Addr} {R : Hp → Prop} {E : XK} (ha : H a = none) (hd : H dx = none) (hp : IsQ H p (js.map V.int)) (hq : IsQ H q (ss.map V.ref)) (lj : js.length ≤ 1000) (ls : ss.length ≤ 1000)
    (hs : ∀ s ∈ ss, ∃ dx fs, H s = some (.ins (CA K "Stretch") dx fs)) (k : ∀ H', Same H H' → MAt K H' a js ss → R H') :
    spMend K [.ref a, .ref p, .ref q] (upd (upd H dx (.own a)) a (.ins (CA K "Mend") dx [])) (fun v H2 => v = .non ∧ R H2) E :=
  ⟨a, dx, p, q, js, ss, rfl, upd_same, hp.same (same_new ha hd), hq.same (same_new ha hd), lj, ls, fun s m => (by obtain ⟨y, fs, e⟩ := hs s m; exact ⟨y, fs, same_new ha hd _ _ e⟩), fun H' B h => ⟨rfl, k H' (same_made ha hd B) h⟩⟩
/-- what a drawn pair has -/
def X1 (i j : Nat) : List V := [.str (repS "a" (i : Nat)), .int (j : Nat)]
def Y1 (k : Nat) : List V := [.non, .str (repS "b" (k : Nat))]
theorem rep_menu : ∀ i, i < 4 → repOk0 "a" (i : Nat) = true ∧ repOk0 "b" (i : Nat) = true ∧ (PyData.str (repS "a" (i : Nat))).canLay0 = true ∧ (PyData.str (repS "b" (i : Nat))).canLay0 = true := by decide +kernel
theorem pk_xy {i j k : Nat} (hi : i < 4) (hk : k < 4) : PkOk (X1 i j) (Y1 k) := by
  obtain ⟨_, _, a, _⟩ := rep_menu i hi
  obtain ⟨_, _, _, b⟩ := rep_menu k hk
  refine ⟨rfl, rfl, by show 2 ≤ 1000; decide, by show 2 ≤ 1000; decide, ?_, ?_⟩
  · refine Bool.and_eq_true_iff.mpr ⟨?_, decide_eq_true (show max 0 (max 0 0) + 1 ≤ 64 by decide)⟩
    show ((PyData.str (repS "a" (i : Nat))).canLay0 && true) = true
    rw [a]
    rfl
  · refine Bool.and_eq_true_iff.mpr ⟨?_, decide_eq_true (show max 0 (max 0 0) + 1 ≤ 64 by decide)⟩
    show ((PyData.str (repS "b" (k : Nat))).canLay0 && true) = true
    rw [b]
    rfl
def spLPair (K : Frag) : Sp := fun vs H Q _ => ∃ a : Addr, vs = [.ref a] ∧ StAt H a ∧ ∀ T p q R t u i j k H', i < 4 → k < 4 → PAt K H' p (X1 i j) (Y1 k) → PAt K H' q (X1 i j) (Y1 k) → H' R = some (.tup [.ref t, .ref u]) → H' t = some (.tup (X1 i j)) → H' u = some (.tup (Y1 k)) →
  H' T = some (.tup [.ref p, .ref q, .ref R]) → But a H H' → StAt H' a → Q (.ref T) H'
def spRight : Sp := fun vs H Q _ => ∃ a : Addr, vs = [.ref a] ∧ StAt H a ∧ ∀ H', But a H H' → StAt H' a → Q (.bl true) H'
structure GM (P : Program) (w : World) (K : Frag) (mg : Str → Option Value) (base : Heap) : Prop extends GR2 P w K mg base where
  law_pick : FnAt P w K mg base CX0 3 "_law_pick" ["_law_source_here", "_law_options"] spPick
  nPair : ClsAt P w K mg base CX0 5 "Pair" (CA K "Pair") ["self", "one", "other"] (spPair K)
  nWish : ClsAt P w K mg base CX0 5 "Wish" (CA K "Wish") ["self", "order", "scans"] (spWish K)
  nStr : ClsAt P w K mg base CX0 5 "Stretch" (CA K "Stretch") ["self", "kind", "first", "last", "pair"] (spStretch K)
  nMend : ClsAt P w K mg base CX0 5 "Mend" (CA K "Mend") ["self", "joints", "stretches"] (spMend K)
  kWish : KwAt P w K mg base 5 (CA K "Wish") ["self", "order", "scans"] ["scans", "order"] g2 (spWish K)
  kStr : KwAt P w K mg base 5 (CA K "Stretch") ["self", "kind", "first", "last", "pair"] ["pair", "last", "first", "kind"] g4 (spStretch K)
  kMend : KwAt P w K mg base 5 (CA K "Mend") ["self", "joints", "stretches"] ["stretches", "joints"] g2 (spMend K)
  eWish : EQ P w K mg base 1 (CA K "Wish") (spEqWish K)
  eStr : EQ P w K mg base 2 (CA K "Stretch") (spEqStr K)
  eMend : EQ P w K mg base 4 (CA K "Mend") (spEqMend K)
section
variable {P : Program} {w : World} {K : Frag} {mg : Str → Option Value} {base : Heap} {f : Addr} {fd : FuncData}

abbrev s_lpair : Stmt := top 14
theorem sc_lpair : FnScope ["_law_source_here", "_law_one", "_law_other"] ["_law_source_here"] (defScope s_lpair) := ⟨rfl, rfl, rfl, by decide +kernel, rfl, by decide +kernel, by decide +kernel⟩

theorem ok_lpair (F : FunD K "_law_pair" "_law_pair" (defArgs s_lpair) (defBody s_lpair) (defScope s_lpair) [] [] f fd) (G : GM P w K mg base) : FnOk P w K mg base CX0 7 f fd ["_law_source_here"] (spLPair K) := by
  refine F.ok (CX := CX0) sc_lpair (fun vs H Q E h => ?_) (fun cdv A outer s H vs Q E hr h => ?_)
  · obtain ⟨_, rfl, _⟩ := h
    rfl
  · refine ⟨_, PSs.nox (pss_cons (ps_par (i := 1) (j := 2) (by rfl) sc_lpair.nd rfl rfl (by decide) rfl rfl (pa_cons (pe_lstS (pa_cons (pe_op op_mulStr0 pe_str (pe_fn G.law_take (hr.mono (by decide)) pass0 (by rfl) (pa_cons (pv 0) (pa_cons pe_int pa_nil)))) (pa_cons (pe_fn G.law_take (hr.mono (by decide)) pass0 (by rfl) (pa_cons (pv 0) (pa_cons pe_int pa_nil))) pa_nil))) (pa_cons (pe_lstS (pa_cons pe_non (pa_cons (pe_op op_mulStr0 pe_str (pe_fn G.law_take (hr.mono (by decide)) pass0 (by rfl) (pa_cons (pv 0) (pa_cons pe_int pa_nil)))) pa_nil))) pa_nil)) (by rfl))
    (pss_one (ps_ret (pe_tupS (pa_cons (pe_newS (E := fun _ => E0) G.nPair hr (fun σ => fun _ _ _ _ _ _ h => h.elim) (by rfl) (pa_cons (pv 1) (pa_cons (pv 2) pa_nil))) (pa_cons (pe_newS (E := fun _ => E0) G.nPair hr (fun σ => fun _ _ _ _ _ _ h => h.elim) (by rfl) (pa_cons (pe_callTy call_tuple_of (by rfl) G.tuple (by decide +kernel) (pa_cons (pv 1) pa_nil)) (pa_cons (pe_callTy call_tuple_of (by rfl) G.tuple (by decide +kernel) (pa_cons (pv 2) pa_nil)) pa_nil))) (pa_cons (pe_tupS (pa_cons (pe_callTy call_tuple_of (by rfl) G.tuple (by decide +kernel) (pa_cons (pv 1) pa_nil)) (pa_cons (pe_callTy call_tuple_of (by rfl) G.tuple (by decide +kernel) (pa_cons (pv 2) pa_nil)) pa_nil))) pa_nil))))))), ?_⟩
    obtain ⟨a, rfl, st, q⟩ := h
    refine ⟨_, rfl, a, 4, rfl, st, by decide, by decide, fun i H1 l1 B1 st1 => ?_⟩
    have hi : i < 4 := by omega
    refine ⟨"a", (i : Nat), rfl, rfl, (rep_menu i hi).1, _, rfl, a, 9, rfl, st1, by decide, by decide, fun j H2 l2 B2 st2 => ?_⟩
    refine ⟨by show 2 ≤ 1000; decide, fun p1 H3 hp1 S3 e3 => ?_⟩
    refine ⟨_, rfl, a, 4, rfl, st2.same S3, by decide, by decide, fun k H4 l4 B4 st4 => ?_⟩
    have hk : k < 4 := by omega
    refine ⟨"b", (k : Nat), rfl, rfl, (rep_menu k hk).2.1, ?_⟩
    refine ⟨by show 2 ≤ 1000; decide, fun p2 H5 hp2 S5 e5 => ⟨_, _, rfl, ?_⟩⟩
    have ok := pk_xy (i := i) (j := j) (k := k) hi hk
    have n1 : p1 ≠ a := st2.ne hp1
    have e35 : H5 p1 = some (.lst (X1 i j)) := S5 _ _ (B4 _ _ n1 e3)
    have e5' : H5 p2 = some (.lst (Y1 k)) := e5
    have B5 : But a H H5 := (((B1.trans B2).trans (But.of_same S3)).trans B4).trans (But.of_same S5)
    have st5 := st4.same S5
    refine ⟨_, rfl, _, rfl, fun o1 dx ho1 hdx _ => useP ho1 hdx (.inl e35) (.inl e5') ok fun H6 S6 hP1 => ?_⟩
    refine ⟨_, rfl, p1, _, rfl, .inl ⟨SqL.of (S6 _ _ e35), fun t1 ht1 => ?_⟩⟩
    have S7 := S6.trans (same_upd (o := .tup (X1 i j)) ht1)
    refine ⟨_, rfl, p2, _, rfl, .inl ⟨SqL.of (S7 _ _ e5'), fun t2 ht2 => ?_⟩⟩
    have S8 := S7.trans (same_upd (o := .tup (Y1 k)) ht2)
    obtain ⟨H8, e8⟩ : ∃ H8, upd (upd H6 t1 (.tup (X1 i j))) t2 (.tup (Y1 k)) = H8 := ⟨_, rfl⟩
    have z1 : H8 t1 = some (.tup (X1 i j)) := by rw [← e8]; exact same_upd ht2 _ _ upd_same
    have z2 : H8 t2 = some (.tup (Y1 k)) := by rw [← e8]; exact upd_same
    have S68 : Same H6 H8 := by rw [← e8]; exact (same_upd ht1).trans (same_upd ht2)
    rw [e8] at S8
    refine fun o2 dx2 ho2 hdx2 _ => ?_
    rw [e8] at ho2 hdx2 ⊢
    refine useP ho2 hdx2 (.inr z1) (.inr z2) ok fun H9 S9 hP2 => ?_
    have S59 := S8.trans S9
    refine ⟨_, rfl, p1, _, rfl, .inl ⟨SqL.of (S59 _ _ e35), fun t3 ht3 => ?_⟩⟩
    have S10 := S59.trans (same_upd (o := .tup (X1 i j)) ht3)
    refine ⟨_, rfl, p2, _, rfl, .inl ⟨SqL.of (S10 _ _ e5'), fun t4 ht4 => ?_⟩⟩
    refine ⟨by show 2 ≤ 1000; decide, fun R H12 hR S12 eR => ⟨by show 3 ≤ 1000; decide, fun T H13 hT S13 eT => ?_⟩⟩
    have u3 : H13 t3 = some (.tup (X1 i j)) := S13 _ _ (S12 _ _ (same_upd ht4 _ _ upd_same))
    have u4 : H13 t4 = some (.tup (Y1 k)) := S13 _ _ (S12 _ _ upd_same)
    have S9e : Same H9 H13 := (((same_upd ht3).trans (same_upd ht4)).trans S12).trans S13
    have S5e : Same H5 H13 := S59.trans S9e
    exact q T o1 o2 R t3 t4 i j k H13 hi hk (hP1.kp (Kp.of ((S68.trans S9).trans S9e))) (hP2.kp (Kp.of S9e)) (S13 _ _ eR) u3 u4 eT (B5.trans (But.of_same S5e)) (st5.same S5e)

end
end L2.K51

set_option Elab.async false
set_option linter.all false
set_option maxRecDepth 100000
set_option maxHeartbeats 4000000
/-! Wishes are right. -/
namespace L2.K51
open PySem PySem.W PySem.Spec PySem.Calls PyProof.Rows L2.Jk

theorem pe_fldK {X : Cx} {K : Frag} {e : Expr} {ta : TE} {f : Str} {pos : Pos} (h : X.K = K) (he : PE X e ta) (hb : attributeBase e f X.env (eval e X.env) = eval e X.env := by rfl) : PE X (.Attribute e f pos) (tFld K ta f) := by
  subst h
  exact pe_fld he hb
theorem but_fresh {H H1 : Hp} {p : Addr} {o : HO} (n : H p = none) (S : Same H H1) : Same H (upd H1 p o) := fun c u e => by
  rw [upd_ne (ne_of_none e n)]
  exact S c u e
/-- (b, tuple of js), as a tuple -/
def TP (J : Hp) (b : Bool) (js : List Int) (v : V) : Prop := ∃ t u, v = .ref t ∧ J t = some (.tup [.bl b, .ref u]) ∧ J u = some (.tup (js.map V.int))
theorem TP.kp {J J' : Hp} {b : Bool} {js : List Int} {v : V} (k : Kp J J') : TP J b js v → TP J' b js v
  | ⟨t, u, e, x, y⟩ => ⟨t, u, e, k _ _ trivial x, k _ _ trivial y⟩
def datW (b : Bool) (js : List Int) : PyData := .tuple [.bool b, .tuple ((js.map V.int).map dV)]
theorem TP.dp {K : Frag} {J : Hp} {b : Bool} {js : List Int} {v : V} : TP J b js v → Dp K J v (datW b js)
  | ⟨t, u, e, x, y⟩ => by
    subst e
    exact .tup (SqT.of x) (.cons (.bl b) (.cons (dp_tup y (ints_flat js)) .nil))
theorem dp_rep {K : Frag} {J : Hp} {d : PyData} : ∀ {vs : List V}, (∀ v ∈ vs, Dp K J v d) → DpAll K J vs (List.replicate vs.length d)
  | [], _ => .nil
  | v :: vs, h => .cons (h v (List.mem_cons_self ..)) (dp_rep fun x m => h x (List.mem_cons_of_mem _ m))
theorem shw (b : Bool) (js : List Int) : SeqAt.shaped (.list (List.replicate 3 (datW b js))) = true := by
  obtain ⟨x, y⟩ := ints_lay js
  have l : (datW b js).canLay0 = true := by
    show (true && (PyData.canLayAll0 ((js.map V.int).map dV) && true)) = true
    rw [x]
    rfl
  refine Bool.and_eq_true_iff.mpr ⟨?_, decide_eq_true ?_⟩
  · show ((datW b js).canLay0 && ((datW b js).canLay0 && ((datW b js).canLay0 && true))) = true
    rw [l]
    rfl
  · show max (max 0 (max (PyData.depthAll ((js.map V.int).map dV) + 1) 0) + 1) (max (max 0 (max (PyData.depthAll ((js.map V.int).map dV) + 1) 0) + 1) (max (max 0 (max (PyData.depthAll ((js.map V.int).map dV) + 1) 0) + 1) 0)) + 1 ≤ 64
    omega
section
variable {P : Program} {w : World} {K : Frag} {mg : Str → Option Value} {base : Heap} {f : Addr} {fd : FuncData}

abbrev s_wish : Stmt := top 15
theorem sc_wish : FnScope ["_law_source_here", "_law_truth", "_law_sites", "_law_turn", "_law_kept", "_law_some", "_law_one"] ["_law_source_here"] (defScope s_wish) := ⟨rfl, rfl, rfl, by decide +kernel, rfl, by decide +kernel, by decide +kernel⟩

theorem ok_wish (F : FunD K "_law_wish_right" "_law_wish_right" (defArgs s_wish) (defBody s_wish) (defScope s_wish) [] [] f fd) (G : GM P w K mg base) : FnOk P w K mg base CX0 7 f fd ["_law_source_here"] spRight := by
  refine F.ok (CX := CX0) sc_wish (fun vs H Q E h => ?_) (fun cdv A outer s H vs Q E hr h => ?_)
  · obtain ⟨_, rfl, _⟩ := h
    rfl
  · refine ⟨_, PSs.nox (pss_cons (ps_par (i := 1) (j := 2) (by rfl) sc_wish.nd rfl rfl (by decide) rfl rfl (pa_cons (pe_cmpR op_eq (pe_fn G.law_take (hr.mono (by decide)) pass0 (by rfl) (pa_cons (pv 0) (pa_cons pe_int pa_nil))) pe_int (nomark _)) (pa_cons (pe_lc (own := [("_law_turn", 3)]) (g := gName 3) (tt := tYes) rfl sc_wish.nd (pi_range1 (by rfl) G.range (pa_cons (pe_fn G.law_take (hr.mono (by decide)) pass0 (by rfl) (pa_cons (pv 0) (pa_cons pe_int pa_nil))) pa_nil)) (blkOk_by (N := ["_law_source_here", "_law_truth", "_law_sites", "_law_turn", "_law_kept", "_law_some", "_law_one"]) (sc := defScope s_wish) (by decide +kernel)) (fun _ _ _ _ _ => pg_name (i := 3) sc_wish.nd rfl (Or.inl rfl)) (fun _ _ _ _ _ => pts_nil) (fun _ _ _ _ _ => (pe_fn G.law_take (hr.mono (by decide)) pass0 (by rfl) (pa_cons (pv 0) (pa_cons pe_int pa_nil))))) pa_nil)) (by rfl))
    (pss_cons (ps_set (i := 4) sc_wish.nd rfl (Or.inl rfl) (pe_callTy call_tuple_of (by rfl) G.tuple (by decide +kernel) (pa_cons (pv 2) pa_nil)))
    (pss_cons (ps_set (i := 5) sc_wish.nd rfl (Or.inl rfl) (pe_lstS (pa_cons (pe_newS (E := fun _ => E0) G.nWish hr (fun σ => fun _ _ _ _ _ _ h => h.elim) (by rfl) (pa_cons (pv 1) (pa_cons (pv 2) pa_nil))) (pa_cons (pe_newS (E := fun _ => E0) G.nWish hr (fun σ => fun _ _ _ _ _ _ h => h.elim) (by rfl) (pa_cons (pv 1) (pa_cons (pv 4) pa_nil))) (pa_cons (pe_kw G.kWish G.cWish.mkr hr pass0 (by rfl) G.cWish.mgC (pk_cons (pe_callTy call_list_of (by rfl) G.list (by decide +kernel) (pa_cons (pv 4) pa_nil)) (pk_cons (pv 1) pk_nil))) pa_nil)))))
    (pss_cons (ps_expr (pe_bm PySem.F.plainAttrs_list PySem.F.slot_list_append PySem.F.type_list_append mt_append (pv 2) (pa_cons pe_int pa_nil)))
    (pss_cons (ps_if (PW.pt (pw_or (pt_cmpR (op_neD hr.units) (pe_lc (own := [("_law_one", 6)]) (g := gName 6) (tt := tYes) rfl sc_wish.nd (pi_list (pv 5)) (blkOk_by (N := ["_law_source_here", "_law_truth", "_law_sites", "_law_turn", "_law_kept", "_law_some", "_law_one"]) (sc := defScope s_wish) (by decide +kernel)) (fun _ _ _ _ _ => pg_name (i := 6) sc_wish.nd rfl (Or.inl rfl)) (fun _ _ _ _ _ => pts_nil) (fun _ _ _ _ _ => (pe_tupS (pa_cons (pe_fldK (K := K) rfl (pv 6)) (pa_cons (pe_fldK (K := K) rfl (pv 6)) pa_nil))))) (pe_op op_rep (pe_lstS (pa_cons (pe_tupS (pa_cons (pv 1) (pa_cons (pv 4) pa_nil))) pa_nil)) pe_int) (nomark _)) (pw_or (pt_cmpR (op_neA pass0) (pe_ix ix_list (pv 5) pe_int (fun _ _ => rfl)) (pe_ix ix_list (pv 5) pe_int (fun _ _ => rfl)) (nomark _)) (pw_or1 (pt_cmpR (op_neA pass0) (pe_ix ix_list (pv 5) pe_int (fun _ _ => rfl)) (pe_ix ix_list (pv 5) pe_int (fun _ _ => rfl)) (nomark _))))))
      (pss_one (ps_ret pe_bl))
      pss_nil)
    (pss_one (ps_ret (pe_and (pe_cmpR (op_neA pass0) (pe_ix ix_list (pv 5) pe_int (fun _ _ => rfl)) (pe_newS (E := fun _ => E0) G.nWish hr (fun σ => fun _ _ _ _ _ _ h => h.elim) (by rfl) (pa_cons (pe_not (pv 1)) (pa_cons (pv 4) pa_nil))) (nomark _)) (pe_and (pe_cmpR (op_neA pass0) (pe_ix ix_list (pv 5) pe_int (fun _ _ => rfl)) (pe_newS (E := fun _ => E0) G.nWish hr (fun σ => fun _ _ _ _ _ _ h => h.elim) (by rfl) (pa_cons (pv 1) (pa_cons (pe_op op_catA (pv 4) (pe_tupS (pa_cons pe_int pa_nil))) pa_nil))) (nomark _)) (pe_one (pe_cmpR (op_neA pass0) (pe_ix ix_list (pv 5) pe_int (fun _ _ => rfl)) (pe_tupS (pa_cons (pv 1) (pa_cons (pv 4) pa_nil))) (nomark _)))))))))))), ?_⟩
    obtain ⟨a, rfl, st, q⟩ := h
    obtain ⟨fdw, Fw, Bw⟩ := G.eWish.ok
    refine ⟨_, rfl, a, 2, rfl, st, by decide, by decide, fun d1 H1 l1 B1 st1 => ?_⟩
    refine ⟨rfl, ?_⟩
    refine ⟨_, rfl, a, 5, rfl, st1, by decide, by decide, fun m H2 l2 B2 st2 => ?_⟩
    refine ⟨_, rfl, by omega, by omega, fun D hD => ?_⟩
    have nD : D ≠ a := st2.ne hD
    refine lc_range (lo := 0) (n := m) (fun i J => ∃ js : List Int, js.length = i ∧ J D = some (.lst (js.map V.int)) ∧ But a H2 J ∧ StAt J a) ⟨[], rfl, upd_same, but_put (But.refl _ _) hD, st2.put nD⟩ ?_ ?_
    · rintro i J hi ⟨js, hl, eD, B, stJ⟩
      refine ⟨rfl, _, rfl, a, 9, rfl, stJ, by decide, by decide, fun d J1 ld BJ stJ1 => ?_⟩
      refine ⟨_, BJ _ _ nD eD, by rw [List.length_map, hl, sizeLine_eq]; omega, js ++ [(d : Int)], by rw [List.length_append, hl]; rfl, by rw [upd_same, List.map_append]; rfl, but_put (B.trans BJ) hD, stJ1.put nD⟩
    rintro J ⟨js, hl, eD, B, stJ⟩
    obtain ⟨b, eb⟩ : ∃ b : Bool, decide (V.int (d1 : Nat) = V.int 0) = b := ⟨_, rfl⟩
    refine ⟨_, _, rfl, ?_⟩
    rw [eb]
    have lj : js.length ≤ 1000 := by omega
    refine ⟨_, rfl, D, _, rfl, .inl ⟨SqL.of eD, fun T hT => ?_⟩⟩
    obtain ⟨H4, e4⟩ : ∃ H4, upd J T (.tup (js.map V.int)) = H4 := ⟨_, rfl⟩
    have S4 : Same J H4 := by rw [← e4]; exact same_upd hT
    have eT : H4 T = some (.tup (js.map V.int)) := by rw [← e4]; exact upd_same
    rw [e4]
    refine ⟨_, rfl, _, rfl, fun w1 dx1 hw1 hdx1 _ => useW hw1 hdx1 (.inl (S4 _ _ eD)) lj fun H5 S5 hW1 => ?_⟩
    refine ⟨_, rfl, _, rfl, fun w2 dx2 hw2 hdx2 _ => useW hw2 hdx2 (.inr (S5 _ _ eT)) lj fun H6 S6 hW2 => ?_⟩
    refine ⟨_, rfl, T, _, rfl, .inr (SqT.of (S6 _ _ (S5 _ _ eT))), fun L hL => ?_⟩
    obtain ⟨H7, e7⟩ : ∃ H7, upd H6 L (.lst (js.map V.int)) = H7 := ⟨_, rfl⟩
    have S7 : Same H6 H7 := by rw [← e7]; exact same_upd hL
    have eL : H7 L = some (.lst (js.map V.int)) := by rw [← e7]; exact upd_same
    rw [e7]
    refine ⟨_, rfl, rfl, fun w3 dx3 hw3 hdx3 _ => useW hw3 hdx3 (.inl eL) lj fun H8 S8 hW3 => ?_⟩
    refine ⟨by show 3 ≤ 1000; decide, fun p H9 hp S9 e9 => ?_⟩
    have S49 : Same H4 H9 := (((S5.trans S6).trans S7).trans S8).trans S9
    have eD9 := S49 _ _ (S4 _ _ eD)
    refine ⟨_, rfl, .inl ⟨rfl, _, SqL.of eD9⟩, D, _, _, rfl, rfl, eD9, by rw [List.length_map, hl, sizeLine_eq]; omega, ?_⟩
    obtain ⟨H10, e10⟩ : ∃ H10, upd H9 D (.lst (js.map V.int ++ [.int 3])) = H10 := ⟨_, rfl⟩
    have K10 : Kp H9 H10 := by rw [← e10]; exact Kp.updL eD9
    have npD : p ≠ D := fun e => by
      subst e
      have := (((S5.trans S6).trans S7).trans S8) _ _ (S4 _ _ eD)
      rw [hp] at this
      cases this
    have ep : H10 p = some (.lst [.ref w1, .ref w2, .ref w3]) := by rw [← e10, upd_ne npD]; exact e9
    have B10 : But a H H10 := by
      rw [← e10]
      refine but_put ((((B1.trans B2).trans B).trans (But.of_same S4)).trans (But.of_same S49)) ?_
      cases z : H D with
      | none => rfl
      | some o => rw [(B1.trans B2) _ _ nD z] at hD; cases hD
    have st10 : StAt H10 a := by rw [← e10]; exact ((stJ.same S4).same S49).put nD
    have k1 : WAt K H10 w1 b js := ((hW1.kp (Kp.of (((S6.trans S7).trans S8).trans S9)))).kp K10
    have k2 : WAt K H10 w2 b js := ((hW2.kp (Kp.of ((S7.trans S8).trans S9)))).kp K10
    have k3 : WAt K H10 w3 b js := (hW3.kp (Kp.of S9)).kp K10
    have kT : H10 T = some (.tup (js.map V.int)) := K10 _ _ trivial (S49 _ _ eT)
    show _
    rw [e10]
    -- the answers, as data
    refine ⟨_, rfl, p, rfl, ⟨_, SqL.of ep⟩, fun D2 hD2 => ?_⟩
    refine lc_list (K := K) (a := p) (xs := [.ref w1, .ref w2, .ref w3]) (fun i J2 => ∃ vs : List V, vs.length = i ∧ J2 D2 = some (.lst vs) ∧ (∀ v ∈ vs, TP J2 b js v) ∧ Same H10 J2) ⟨[], rfl, upd_same, (fun v h => by cases h), same_upd hD2⟩ (fun i J2 hi ⟨_, _, _, _, S⟩ => SqL.of (S _ _ ep)) ?_ ?_
    · rintro i x J2 hx ⟨vs, hvl, eV, hv, S⟩
      have hi := (List.getElem?_eq_some_iff.mp hx).1
      obtain ⟨w, ew, ⟨dx, t, k, kt⟩⟩ : ∃ w, x = .ref w ∧ WAt K J2 w b js := by
        have := List.mem_of_getElem? hx
        rcases List.mem_cons.mp this with e | h
        · exact ⟨w1, e, k1.kp (Kp.of S)⟩
        rcases List.mem_cons.mp h with e | h
        · exact ⟨w2, e, k2.kp (Kp.of S)⟩
        · exact ⟨w3, List.mem_singleton.mp h, k3.kp (Kp.of S)⟩
      subst ew
      refine ⟨rfl, _, rfl, w, _, dx, _, _, rfl, k, G.cWish.cl, G.cWish.no _ (by decide +kernel), lWish_order, _, rfl, w, _, dx, _, _, rfl, k, G.cWish.cl, G.cWish.no _ (by decide +kernel), lWish_scans, by show 2 ≤ 1000; decide, fun u J3 hu S3 e3 => ?_⟩
      refine ⟨vs, S3 _ _ eV, by rw [hvl, sizeLine_eq]; have : i < 3 := hi; omega, vs ++ [.ref u], by rw [List.length_append, hvl]; rfl, upd_same, fun v hv2 => ?_, but_fresh hD2 (S.trans S3)⟩
      have kk : Kp J3 (upd J3 D2 (.lst (vs ++ [.ref u]))) := Kp.updL (S3 _ _ eV)
      rcases List.mem_append.mp hv2 with h | h
      · exact ((hv v h).kp (Kp.of S3)).kp kk
      · exact TP.kp kk ⟨u, t, List.mem_singleton.mp h, e3, S3 _ _ kt⟩
    rintro J2 ⟨vs, hvl, eV, hv, S⟩
    refine ⟨_, rfl, _, rfl, by show 2 ≤ 1000; decide, fun tp H11 htp S11 e11 => ⟨by show 1 ≤ 1000; decide, fun lp H12 hlp S12 e12 => ⟨lp, 3, _, rfl, rfl, e12, by decide, by decide, by rw [sizeLine_eq]; show 1 * 3 ≤ 16777216; decide, fun r hfr => ?_⟩⟩⟩
    have kk : Kp J2 (upd H12 r (.lst (List.replicate (3 : Int).toNat [V.ref tp]).flatten)) := (Kp.of (S11.trans S12)).trans (Kp.new hfr)
    have S13 : Same J2 (upd H12 r (.lst (List.replicate (3 : Int).toNat [V.ref tp]).flatten)) := (S11.trans S12).trans (same_upd hfr)
    obtain ⟨H13, e13⟩ : ∃ H13, upd H12 r (.lst (List.replicate (3 : Int).toNat [V.ref tp]).flatten) = H13 := ⟨_, rfl⟩
    have er : H13 r = some (.lst [.ref tp, .ref tp, .ref tp]) := by rw [← e13]; exact upd_same
    rw [e13] at kk S13
    have tp13 : TP H13 b js (.ref tp) := ⟨tp, T, rfl, by rw [← e13]; exact same_upd hfr _ _ (S12 _ _ e11), by rw [← e13]; exact same_upd hfr _ _ ((S11.trans S12) _ _ (S _ _ kT))⟩
    show _
    rw [e13]
    refine ⟨.list (List.replicate 3 (datW b js)), .list (List.replicate 3 (datW b js)), ?_, ?_, shw b js, shw b js, _, rfl, ?_⟩
    · refine .lst (SqL.of (S13 _ _ eV)) ?_
      have z := dp_rep (K := K) (J := H13) (d := datW b js) (vs := vs) fun v m => ((hv v m).kp kk).dp
      rw [hvl] at z
      exact z
    · exact .lst (SqL.of er) (dp_rep (vs := [.ref tp, .ref tp, .ref tp]) fun v m => by
        have e : v = .ref tp := by simpa using m
        rw [e]
        exact tp13.dp)
    rw [eqv_same (shw b js)]
    have S113 : Same H10 H13 := S.trans S13
    have ep13 := S113 _ _ ep
    have j1 := k1.kp (Kp.of S113)
    have j2 := k2.kp (Kp.of S113)
    have j3 := k3.kp (Kp.of S113)
    have st13 := st10.same S113
    have B13 := B10.trans (But.of_same S113)
    have kT13 := S113 _ _ kT
    obtain ⟨dxa, ta, ia, ita⟩ := id j1
    obtain ⟨dxb, tb, ib, itb⟩ := id j2
    obtain ⟨dxc, tc, ic, itc⟩ := id j3
    refine iteF ⟨_, rfl, p, _, _, _, rfl, rfl, SqL.of ep13, atI_nat (j := 0) rfl, _, rfl, p, _, _, _, rfl, rfl, SqL.of ep13, atI_nat (j := 1) rfl, w1, w2, _, dxa, _, _, rfl, rfl, ia, G.cWish.eq, G.cWish.ty G.toG0 ib, by simp [notFirst], 1, fdw, _, _, G.cWish.kp, Fw, hr.mono (by decide), Bw, w1, w2, b, js, rfl, j1, .inl ⟨b, js, j2, _, rfl, _, rfl, ?_⟩⟩
    rw [decide_eq_true (rfl : b = b), decide_eq_true (rfl : js = js)]
    refine iteF ⟨_, rfl, p, _, _, _, rfl, rfl, SqL.of ep13, atI_nat (j := 1) rfl, _, rfl, p, _, _, _, rfl, rfl, SqL.of ep13, atI_nat (j := 2) rfl, w2, w3, _, dxb, _, _, rfl, rfl, ib, G.cWish.eq, G.cWish.ty G.toG0 ic, by simp [notFirst], 1, fdw, _, _, G.cWish.kp, Fw, hr.mono (by decide), Bw, w2, w3, b, js, rfl, j2, .inl ⟨b, js, j3, _, rfl, _, rfl, ?_⟩⟩
    rw [decide_eq_true (rfl : b = b), decide_eq_true (rfl : js = js)]
    refine iteF ?_
    -- what differs
    refine ⟨_, rfl, p, _, _, _, rfl, rfl, SqL.of ep13, atI_nat (j := 0) rfl, _, rfl, _, rfl, _, rfl, fun w4 dx4 hw4 hdx4 _ => useW hw4 hdx4 (.inr kT13) lj fun H14 S14 hW4 => ?_⟩
    obtain ⟨dxd, td, idd, itd⟩ := id hW4
    refine ⟨w1, w4, _, dxa, _, _, rfl, rfl, S14 _ _ ia, G.cWish.eq, G.cWish.ty G.toG0 idd, by simp [notFirst], 1, fdw, _, _, G.cWish.kp, Fw, hr.mono (by decide), Bw, w1, w4, b, js, rfl, j1.kp (Kp.of S14), .inl ⟨!b, js, hW4, _, rfl, _, rfl, ?_⟩⟩
    rw [show decide (b = !b) = false by cases b <;> rfl]
    refine iteT ?_
    have ep14 := S14 _ _ ep13
    refine ⟨_, rfl, p, _, _, _, rfl, rfl, SqL.of ep14, atI_nat (j := 0) rfl, _, rfl, _, rfl, by show 1 ≤ 1000; decide, fun z0 H15 hz0 S15 e15 => ?_⟩
    have S1315 := S14.trans S15
    have nj : js ≠ js ++ [0] := fun e => by
      have := congrArg List.length e
      rw [List.length_append] at this
      have : js.length = js.length + 1 := this
      omega
    have more : ∀ (c w5 dx5 : Addr) (H16 : Hp), Same H13 H16 → H16 c = some (.tup ((js ++ [0]).map V.int)) → H16 w5 = none → H16 dx5 = none → ∀ R : Hp → Prop, (∀ H17, Same H13 H17 → WAt K H17 w5 b (js ++ [0]) → R H17) →
        spWish K [.ref w5, .bl b, .ref c] (upd (upd H16 dx5 (.own w5)) w5 (.ins (CA K "Wish") dx5 [])) (fun v H2 => v = .non ∧ R H2) E0 := fun c w5 dx5 H16 S16 ec hw hd R k =>
      useW hw hd (.inr ec) (by rw [List.length_append]; show js.length + 1 ≤ 1000; omega) fun H17 S17 hW => k H17 (S16.trans S17) hW
    refine ⟨T, z0, _, _, rfl, rfl, SqT.of (S15 _ _ (S14 _ _ kT13)), SqT.of e15, by rw [List.length_map, sizeLine_eq]; show js.length + 1 ≤ 16777216; omega, fun ex => ?_, fun _ ex => (by cases ex), fun _ _ c hc => ?_⟩
    · refine fun w5 dx5 hw5 hdx5 _ => more z0 w5 dx5 H15 S1315 (by rw [List.map_append, ex]; exact e15) hw5 hdx5 _ fun H17 S17 hW5 => ?_
      obtain ⟨dxe, te, ie, ite⟩ := id hW5
      refine ⟨w1, w5, _, dxa, _, _, rfl, rfl, S17 _ _ ia, G.cWish.eq, G.cWish.ty G.toG0 ie, by simp [notFirst], 1, fdw, _, _, G.cWish.kp, Fw, hr.mono (by decide), Bw, w1, w5, b, js, rfl, j1.kp (Kp.of S17), .inl ⟨b, js ++ [0], hW5, _, rfl, _, rfl, ?_⟩⟩
      rw [decide_eq_false nj, Bool.and_false]
      refine iteT ⟨_, rfl, p, _, _, _, rfl, rfl, SqL.of (S17 _ _ ep13), atI_nat (j := 0) rfl, _, rfl, _, rfl, by show 2 ≤ 1000; decide, fun y H18 hy S18 e18 => ?_⟩
      have S1318 := S17.trans S18
      exact ⟨w1, y, _, dxa, _, _, rfl, rfl, S1318 _ _ ia, G.cWish.eq, .x (.base (.tup e18)), G.cWish.nt, 1, fdw, _, _, G.cWish.kp, Fw, hr.mono (by decide), Bw, w1, y, b, js, rfl, j1.kp (Kp.of S1318), .inr ⟨_, e18, _, rfl, q _ (B13.trans (But.of_same S1318)) (st13.same S1318)⟩⟩
    · refine fun w5 dx5 hw5 hdx5 _ => more c w5 dx5 _ (S1315.trans (same_upd hc)) (by rw [upd_same, List.map_append]; rfl) hw5 hdx5 _ fun H17 S17 hW5 => ?_
      obtain ⟨dxe, te, ie, ite⟩ := id hW5
      refine ⟨w1, w5, _, dxa, _, _, rfl, rfl, S17 _ _ ia, G.cWish.eq, G.cWish.ty G.toG0 ie, by simp [notFirst], 1, fdw, _, _, G.cWish.kp, Fw, hr.mono (by decide), Bw, w1, w5, b, js, rfl, j1.kp (Kp.of S17), .inl ⟨b, js ++ [0], hW5, _, rfl, _, rfl, ?_⟩⟩
      rw [decide_eq_false nj, Bool.and_false]
      refine iteT ⟨_, rfl, p, _, _, _, rfl, rfl, SqL.of (S17 _ _ ep13), atI_nat (j := 0) rfl, _, rfl, _, rfl, by show 2 ≤ 1000; decide, fun y H18 hy S18 e18 => ?_⟩
      have S1318 := S17.trans S18
      exact ⟨w1, y, _, dxa, _, _, rfl, rfl, S1318 _ _ ia, G.cWish.eq, .x (.base (.tup e18)), G.cWish.nt, 1, fdw, _, _, G.cWish.kp, Fw, hr.mono (by decide), Bw, w1, y, b, js, rfl, j1.kp (Kp.of S1318), .inr ⟨_, e18, _, rfl, q _ (B13.trans (But.of_same S1318)) (st13.same S1318)⟩⟩

end
end L2.K51

set_option Elab.async false
set_option linter.all false
set_option maxRecDepth 100000
set_option maxHeartbeats 4000000
/-! Stretches and mends are right. -/
namespace L2.K51
open PySem PySem.W PySem.Spec PySem.Calls PyProof.Rows L2.Jk

def KN : List Str := ["alike", "crossed", "open"]
theorem kn_lay : ∀ k ∈ KN, (PyData.str k).canLay0 = true := by decide +kernel
def datS (k : Str) (l h : Int) (xs ys : List V) : PyData := .tuple [.str k, .int l, .int h, .tuple (xs.map dV), .tuple (ys.map dV)]
theorem shs {k : Str} (hk : k ∈ KN) (l h : Int) {i j m : Nat} (hi : i < 4) (hm : m < 4) : SeqAt.shaped (datS k l h (X1 i j) (Y1 m)) = true := by
  obtain ⟨_, _, a, _⟩ := rep_menu i hi
  obtain ⟨_, _, _, b⟩ := rep_menu m hm
  refine Bool.and_eq_true_iff.mpr ⟨?_, decide_eq_true (show max 0 (max 0 (max 0 (max (max 0 (max 0 0) + 1) (max (max 0 (max 0 0) + 1) 0)))) + 1 ≤ 64 by decide)⟩
  show ((PyData.str k).canLay0 && (true && (true && (((PyData.str (repS "a" (i : Nat))).canLay0 && (true && true)) && ((true && ((PyData.str (repS "b" (m : Nat))).canLay0 && true)) && true))))) = true
  rw [kn_lay k hk, a, b]
  rfl
/-- the items of a mend's two attributes, as a tuple -/
def DI (K : Frag) : Eqv := fun x y H => DTup K DFlat x y H ∨ DTup K (DS K) x y H
theorem mon_di (K : Frag) : Mon (DI K) := (mon_tup mon_flat).or (mon_tup (mon_ds K))
def DM (K : Frag) : Eqv := DTup K (DI K)
theorem mon_dm (K : Frag) : Mon (DM K) := mon_tup (mon_di K)
theorem dm_eq {X : Cx} (h : EqG X 2 (DS X.K)) : EqG X 4 (DM X.K) := eqG_tup (mon_di X.K) (((eqG_tup mon_flat eqG_flat).mono (by decide)).or (eqG_tup (mon_ds X.K) h))
theorem prs_ints {H : Hp} : ∀ js : List Int, Prs DFlat (js.map V.int) (js.map V.int) H
  | [] => Prs.nil
  | j :: js => Prs.cons ⟨rfl, rfl, by simp [eqV]⟩ (prs_ints js)
/-- two stretches that are alike stand -/
structure Two (K : Frag) (H : Hp) (s1 s2 : Addr) (k : Str) (l h : Int) (xs ys : List V) : Prop where
  ok : PkOk xs ys
  x1 : SqAt K H s1 k l h xs ys
  x2 : SqAt K H s2 k l h xs ys
theorem Two.kp {K : Frag} {H H' : Hp} {s1 s2 : Addr} {k : Str} {l h : Int} {xs ys : List V} (z : Kp H H') (t : Two K H s1 s2 k l h xs ys) : Two K H' s1 s2 k l h xs ys := ⟨t.ok, t.x1.kp z, t.x2.kp z⟩
theorem Two.d11 {K : Frag} {H : Hp} {s1 s2 : Addr} {k : Str} {l h : Int} {xs ys : List V} (t : Two K H s1 s2 k l h xs ys) : DS K (.ref s1) (.ref s1) H := ds_of ⟨k, l, h, xs, ys, t.ok, t.x1, t.x1⟩
theorem Two.d12 {K : Frag} {H : Hp} {s1 s2 : Addr} {k : Str} {l h : Int} {xs ys : List V} (t : Two K H s1 s2 k l h xs ys) : DS K (.ref s1) (.ref s2) H := ds_of ⟨k, l, h, xs, ys, t.ok, t.x1, t.x2⟩
theorem Two.d21 {K : Frag} {H : Hp} {s1 s2 : Addr} {k : Str} {l h : Int} {xs ys : List V} (t : Two K H s1 s2 k l h xs ys) : DS K (.ref s2) (.ref s1) H := ds_of ⟨k, l, h, xs, ys, t.ok, t.x2, t.x1⟩
theorem Two.d22 {K : Frag} {H : Hp} {s1 s2 : Addr} {k : Str} {l h : Int} {xs ys : List V} (t : Two K H s1 s2 k l h xs ys) : DS K (.ref s2) (.ref s2) H := ds_of ⟨k, l, h, xs, ys, t.ok, t.x2, t.x2⟩
theorem SqAt.ins {K : Frag} {H : Hp} {s : Addr} {k : Str} {l h : Int} {xs ys : List V} : SqAt K H s k l h xs ys → ∃ dx fs, H s = some (.ins (CA K "Stretch") dx fs)
  | ⟨_, ⟨dx, e⟩, _⟩ => ⟨dx, _, e⟩
/-- (joints, stretches) of a mend, as a tuple -/
def MT (J : Hp) (js : List Int) (ss : List Addr) (v : V) : Prop := ∃ q t u, v = .ref q ∧ J q = some (.tup [.ref t, .ref u]) ∧ J t = some (.tup (js.map V.int)) ∧ J u = some (.tup (ss.map V.ref))
theorem MT.kp {J J' : Hp} {js : List Int} {ss : List Addr} {v : V} (k : Kp J J') : MT J js ss v → MT J' js ss v
  | ⟨q, t, u, e, x, y, z⟩ => ⟨q, t, u, e, k _ _ trivial x, k _ _ trivial y, k _ _ trivial z⟩
theorem MT.dm {K : Frag} {J : Hp} {js : List Int} {ss rs : List Addr} {v w : V} (x : MT J js ss v) (y : MT J js rs w) (p : Prs (DS K) (ss.map V.ref) (rs.map V.ref) J) : DM K v w J := by
  obtain ⟨q, t, u, rfl, a, b, c⟩ := x
  obtain ⟨q2, t2, u2, rfl, a2, b2, c2⟩ := y
  exact ⟨q, q2, _, _, rfl, rfl, SqT.of a, SqT.of a2, Prs.cons (.inl ⟨t, t2, _, _, rfl, rfl, SqT.of b, SqT.of b2, prs_ints js⟩) (Prs.cons (.inr ⟨u, u2, _, _, rfl, rfl, SqT.of c, SqT.of c2, p⟩) Prs.nil)⟩
section
variable {P : Program} {w : World} {K : Frag} {mg : Str → Option Value} {base : Heap} {f : Addr} {fd : FuncData}

abbrev s_stretch : Stmt := top 16
theorem sc_stretch : FnScope ["_law_source_here", "_law_couple", "_law_same", "_law_rows", "_law_word", "_law_low", "_law_high", "_law_one", "_law_other", "_law_sites", "_law_some", "_law_mends", "_law_due", "_law_mend"] ["_law_source_here"] (defScope s_stretch) := ⟨rfl, rfl, rfl, by decide +kernel, rfl, by decide +kernel, by decide +kernel⟩

theorem ok_stretch (F : FunD K "_law_stretch_right" "_law_stretch_right" (defArgs s_stretch) (defBody s_stretch) (defScope s_stretch) [] [] f fd) (G : GM P w K mg base) (LP : FnAt P w K mg base CX0 7 "_law_pair" ["_law_source_here"] (spLPair K)) : FnOk P w K mg base CX0 8 f fd ["_law_source_here"] spRight := by
  refine F.ok (CX := CX0) sc_stretch (fun vs H Q E h => ?_) (fun cdv A outer s H vs Q E hr h => ?_)
  · obtain ⟨_, rfl, _⟩ := h
    rfl
  · obtain ⟨fds, Fs, Bs⟩ := G.eStr.ok
    obtain ⟨fdm, Fm, Bm⟩ := G.eMend.ok
    refine ⟨_, PSs.nox (pss_cons (ps_asg (pe_fn LP hr pass0 (by rfl) (pa_cons (pv 0) pa_nil)) (pg_tup rfl (pgs_cons (pg_name (i := 1) sc_stretch.nd rfl (Or.inl rfl)) (pgs_cons (pg_name (i := 2) sc_stretch.nd rfl (Or.inl rfl)) (pgs_cons (pg_name (i := 3) sc_stretch.nd rfl (Or.inl rfl)) pgs_nil)))))
    (pss_cons (ps_par3 (i := 4) (j := 5) (l := 6) (by rfl) sc_stretch.nd rfl rfl rfl (by decide) (by decide) (by decide) rfl rfl rfl (pa_cons (pe_fn G.law_pick (hr.mono (by decide)) pass0 (by rfl) (pa_cons (pv 0) (pa_cons (pe_lstS (pa_cons pe_str (pa_cons pe_str (pa_cons pe_str pa_nil)))) pa_nil))) (pa_cons (pe_fn G.law_take (hr.mono (by decide)) pass0 (by rfl) (pa_cons (pv 0) (pa_cons pe_int pa_nil))) (pa_cons (pe_op op_add pe_int (pe_fn G.law_take (hr.mono (by decide)) pass0 (by rfl) (pa_cons (pv 0) (pa_cons pe_int pa_nil)))) pa_nil))) (by rfl))
    (pss_cons (ps_par (i := 7) (j := 8) (by rfl) sc_stretch.nd rfl rfl (by decide) rfl rfl (pa_cons (pe_newS (E := fun _ => E0) G.nStr (hr.mono (by decide)) (fun σ => fun _ _ _ _ _ _ h => h.elim) (by rfl) (pa_cons (pv 4) (pa_cons (pv 5) (pa_cons (pv 6) (pa_cons (pv 1) pa_nil))))) (pa_cons (pe_kw G.kStr G.cStretch.mkr (hr.mono (by decide)) pass0 (by rfl) G.cStretch.mgC (pk_cons (pv 2) (pk_cons (pv 6) (pk_cons (pv 5) (pk_cons (pv 4) pk_nil))))) pa_nil)) (by rfl))
    (pss_cons (ps_if (pt_cmpR (op_neD hr.units) (pe_tupS (pa_cons (pe_fld (pv 7) rfl) (pa_cons (pe_fld (pv 7) rfl) (pa_cons (pe_fld (pv 7) rfl) (pa_cons (pe_fld (pe_fld (pv 7) rfl) rfl) (pa_cons (pe_fld (pe_fld (pv 7) rfl) rfl) pa_nil)))))) (pe_tupS (pa_cons (pv 4) (pa_cons (pv 5) (pa_cons (pv 6) (pa_cons (pe_ix ix_tup (pv 3) pe_int (fun _ _ => rfl)) (pa_cons (pe_ix ix_tup (pv 3) pe_int (fun _ _ => rfl)) pa_nil)))))) (nomark _))
      (pss_one (ps_ret pe_bl))
      pss_nil)
    (pss_cons (ps_if (PW.pt (pw_or (pt_cmpR (op_neA pass0) (pv 7) (pv 8) (nomark _)) (pw_or (pt_not (pt_cmpR (op_eqO pass0) (pv 7) (pv 8) (nomark _))) (pw_or1 (pt_cmpR (op_eqO pass0) (pv 7) (pe_tupS (pa_cons (pv 4) (pa_cons (pv 5) (pa_cons (pv 6) (pa_cons (pv 1) pa_nil))))) (nomark _))))))
      (pss_one (ps_ret pe_bl))
      pss_nil)
    (pss_cons (ps_if (pt_cmpR (op_eqO pass0) (pv 7) (pe_newS (E := fun _ => E0) G.nStr (hr.mono (by decide)) (fun σ => fun _ _ _ _ _ _ h => h.elim) (by rfl) (pa_cons (pv 4) (pa_cons (pv 5) (pa_cons (pe_op op_add (pv 6) pe_int) (pa_cons (pv 1) pa_nil))))) (nomark _))
      (pss_one (ps_ret pe_bl))
      pss_nil)
    (pss_cons (ps_par (i := 9) (j := 10) (by rfl) sc_stretch.nd rfl rfl (by decide) rfl rfl (pa_cons (pe_lstS (pa_cons (pv 5) (pa_cons (pv 6) pa_nil))) (pa_cons (pe_lstS (pa_cons (pv 7) (pa_cons (pv 8) pa_nil))) pa_nil)) (by rfl))
    (pss_cons (ps_set (i := 11) sc_stretch.nd rfl (Or.inl rfl) (pe_lstS (pa_cons (pe_newS (E := fun _ => E0) G.nMend (hr.mono (by decide)) (fun σ => fun _ _ _ _ _ _ h => h.elim) (by rfl) (pa_cons (pv 9) (pa_cons (pv 10) pa_nil))) (pa_cons (pe_newS (E := fun _ => E0) G.nMend (hr.mono (by decide)) (fun σ => fun _ _ _ _ _ _ h => h.elim) (by rfl) (pa_cons (pe_tupS (pa_cons (pv 5) (pa_cons (pv 6) pa_nil))) (pa_cons (pe_tupS (pa_cons (pv 7) (pa_cons (pv 7) pa_nil))) pa_nil))) (pa_cons (pe_kw G.kMend G.cMend.mkr (hr.mono (by decide)) pass0 (by rfl) G.cMend.mgC (pk_cons (pe_callTy call_list_of (by rfl) G.list (by decide +kernel) (pa_cons (pv 10) pa_nil)) (pk_cons (pe_callTy call_list_of (by rfl) G.list (by decide +kernel) (pa_cons (pv 9) pa_nil)) pk_nil))) pa_nil)))))
    (pss_cons (ps_expr (pe_bm PySem.F.plainAttrs_list PySem.F.slot_list_append PySem.F.type_list_append mt_append (pv 9) (pa_cons pe_int pa_nil)))
    (pss_cons (ps_expr (pe_bm0 PySem.F.plainAttrs_list PySem.F.slot_list_clear PySem.F.type_list_clear mt_clear (pv 10)))
    (pss_cons (ps_set (i := 12) sc_stretch.nd rfl (Or.inl rfl) (pe_op op_rep (pe_lstS (pa_cons (pe_tupS (pa_cons (pe_tupS (pa_cons (pv 5) (pa_cons (pv 6) pa_nil))) (pa_cons (pe_tupS (pa_cons (pv 7) (pa_cons (pv 7) pa_nil))) pa_nil))) pa_nil)) pe_int))
    (pss_cons (ps_if (PW.pt (pw_or (pt_cmpR (op_neL (mon_dm K) (dm_eq (ds_eq (A := 0) Fs Bs G.cStretch.eq pass0)) (hr.mono (by decide))) (pe_lc (own := [("_law_mend", 13)]) (g := gName 13) (tt := tYes) rfl sc_stretch.nd (pi_list (pv 11)) (blkOk_by (N := ["_law_source_here", "_law_couple", "_law_same", "_law_rows", "_law_word", "_law_low", "_law_high", "_law_one", "_law_other", "_law_sites", "_law_some", "_law_mends", "_law_due", "_law_mend"]) (sc := defScope s_stretch) (by decide +kernel)) (fun _ _ _ _ _ => pg_name (i := 13) sc_stretch.nd rfl (Or.inl rfl)) (fun _ _ _ _ _ => pts_nil) (fun _ _ _ _ _ => (pe_tupS (pa_cons (pe_fldK (K := K) rfl (pv 13)) (pa_cons (pe_fldK (K := K) rfl (pv 13)) pa_nil))))) (pv 12) (nomark _)) (pw_or1 (pt_cmpR (op_neA pass0) (pe_ix ix_list (pv 11) pe_int (fun _ _ => rfl)) (pe_ix ix_list (pv 11) pe_int (fun _ _ => rfl)) (nomark _)))))
      (pss_one (ps_ret pe_bl))
      pss_nil)
    (pss_cons (ps_if (PW.pt (pw_or (pt_cmpR (op_neA pass0) (pe_ix ix_list (pv 11) pe_int (fun _ _ => rfl)) (pe_ix ix_list (pv 11) pe_int (fun _ _ => rfl)) (nomark _)) (pw_or (pt_cmpR (op_eqO pass0) (pe_ix ix_list (pv 11) pe_int (fun _ _ => rfl)) (pe_newS (E := fun _ => E0) G.nMend (hr.mono (by decide)) (fun σ => fun _ _ _ _ _ _ h => h.elim) (by rfl) (pa_cons (pe_tupS (pa_cons (pv 5) pa_nil)) (pa_cons (pe_tupS (pa_cons (pv 7) (pa_cons (pv 7) pa_nil))) pa_nil))) (nomark _)) (pw_or1 (pt_cmpR (op_eqO pass0) (pe_ix ix_list (pv 11) pe_int (fun _ _ => rfl)) (pe_newS (E := fun _ => E0) G.nMend (hr.mono (by decide)) (fun σ => fun _ _ _ _ _ _ h => h.elim) (by rfl) (pa_cons (pe_tupS (pa_cons (pv 5) (pa_cons (pv 6) pa_nil))) (pa_cons (pe_tupS (pa_cons (pv 7) pa_nil)) pa_nil))) (nomark _))))))
      (pss_one (ps_ret pe_bl))
      pss_nil)
    (pss_one (ps_ret (pe_and (pe_cmpR (op_neA pass0) (pe_ix ix_list (pv 11) pe_int (fun _ _ => rfl)) (pv 7) (nomark _)) (pe_and (pe_cmpR (op_neA pass0) (pv 7) (pe_ix ix_list (pv 11) pe_int (fun _ _ => rfl)) (nomark _)) (pe_and (pe_cmpR (op_neA pass0) (pe_newS (E := fun _ => E0) G.nMend (hr.mono (by decide)) (fun σ => fun _ _ _ _ _ _ h => h.elim) (by rfl) (pa_cons (pe_lstS pa_nil) (pa_cons (pe_lstS pa_nil) pa_nil))) (pe_newS (E := fun _ => E0) G.nWish (hr.mono (by decide)) (fun σ => fun _ _ _ _ _ _ h => h.elim) (by rfl) (pa_cons pe_bl (pa_cons (pe_lstS pa_nil) pa_nil))) (nomark _)) (pe_one (pe_cmpR (op_eqO pass0) (pe_newS (E := fun _ => E0) G.nMend (hr.mono (by decide)) (fun σ => fun _ _ _ _ _ _ h => h.elim) (by rfl) (pa_cons (pe_lstS pa_nil) (pa_cons (pe_lstS pa_nil) pa_nil))) (pe_newS (E := fun _ => E0) G.nMend (hr.mono (by decide)) (fun σ => fun _ _ _ _ _ _ h => h.elim) (by rfl) (pa_cons (pe_tupS pa_nil) (pa_cons (pe_tupS pa_nil) pa_nil))) (nomark _))))))))))))))))))))), ?_⟩
    obtain ⟨a, rfl, st, q⟩ := h
    refine ⟨_, rfl, a, rfl, st, fun T p p2 R t u i j m H1 hi hm hP1 hP2 eR et eu eT B1 st1 => ⟨T, _, rfl, SqT.of eT, rfl, _, _, rfl, _, _, rfl, _, _, rfl, rfl, ?_⟩⟩
    refine ⟨_, rfl, by show 3 ≤ 1000; decide, fun pl H2 hpl S2 e2 => ⟨a, pl, _, rfl, st1.same S2, st1.ne hpl, e2, (fun z => (by cases z)), by show 3 < 1000; decide, fun v H3 hv B3 st3 => ?_⟩⟩
    obtain ⟨k, hk, rfl⟩ : ∃ k, k ∈ KN ∧ v = .str k := by
      rcases List.mem_cons.mp hv with e | hv
      · exact ⟨_, by decide +kernel, e⟩
      rcases List.mem_cons.mp hv with e | hv
      · exact ⟨_, by decide +kernel, e⟩
      · exact ⟨_, by decide +kernel, List.mem_singleton.mp hv⟩
    refine ⟨_, rfl, a, 4, rfl, st3, by decide, by decide, fun l0 H4 ll B4 st4 => ?_⟩
    refine ⟨_, rfl, a, 4, rfl, st4, by decide, by decide, fun h H6 lh B5 st6 => ⟨_, _, rfl, rfl, _, _, _, rfl, ?_⟩⟩
    have K16 : Kp H1 H6 := (((Kp.of S2).trans ((st1.same S2).kp B3)).trans (st3.kp B4)).trans (st4.kp B5)
    have B6 : But a H H6 := (((B1.trans (But.of_same S2)).trans B3).trans B4).trans B5
    obtain ⟨l, el⟩ : ∃ l : Int, (l0 : Int) = l := ⟨_, rfl⟩
    rw [el]
    have q1 := hP1.kp K16
    have q2 := hP2.kp K16
    have ok := pk_xy (i := i) (j := j) (k := m) hi hm
    refine ⟨_, rfl, _, rfl, _, rfl, _, rfl, fun s1 dx1 hs1 hdx1 _ => useS hs1 hdx1 q1 fun H7 S7 hS1 => ?_⟩
    refine ⟨_, rfl, _, rfl, _, rfl, _, rfl, rfl, fun s2 dx2 hs2 hdx2 _ => useS hs2 hdx2 (q2.kp (Kp.of S7)) fun H8 S8 hS2 => ⟨_, _, rfl, ?_⟩⟩
    have S68 := S7.trans S8
    have tw : Two K H8 s1 s2 k l (4 + (h : Int)) (X1 i j) (Y1 m) := ⟨ok, ⟨p, hS1.kp (Kp.of S8), q1.kp (Kp.of S68)⟩, ⟨p2, hS2, q2.kp (Kp.of S68)⟩⟩
    have hP8 := q1.kp (Kp.of S68)
    have eR8 : H8 R = some (.tup [.ref t, .ref u]) := S68 _ _ (K16 _ _ trivial eR)
    have et8 : H8 t = some (.tup (X1 i j)) := S68 _ _ (K16 _ _ trivial et)
    have eu8 : H8 u = some (.tup (Y1 m)) := S68 _ _ (K16 _ _ trivial eu)
    have B8 := B6.trans (But.of_same S68)
    have st8 := st6.same S68
    obtain ⟨ds1, hs1'⟩ := hS1.kp (Kp.of S8)
    obtain ⟨ds2, hs2'⟩ := id hS2
    obtain ⟨dp, tp, up, ep, etp, eup⟩ := id hP8
    -- the attributes
    refine ⟨_, rfl, s1, _, ds1, _, _, rfl, hs1', G.cStretch.cl, G.cStretch.no _ (by decide +kernel), lStretch_kind, _, rfl, s1, _, ds1, _, _, rfl, hs1', G.cStretch.cl, G.cStretch.no _ (by decide +kernel), lStretch_first, _, rfl, s1, _, ds1, _, _, rfl, hs1', G.cStretch.cl, G.cStretch.no _ (by decide +kernel), lStretch_last, _, rfl, s1, _, ds1, _, _, rfl, hs1', G.cStretch.cl, G.cStretch.no _ (by decide +kernel), lStretch_pair, p, _, dp, _, _, rfl, ep, G.cPair.cl, G.cPair.no _ (by decide +kernel), lPair_one, _, rfl, s1, _, ds1, _, _, rfl, hs1', G.cStretch.cl, G.cStretch.no _ (by decide +kernel), lStretch_pair, p, _, dp, _, _, rfl, ep, G.cPair.cl, G.cPair.no _ (by decide +kernel), lPair_other, by show 5 ≤ 1000; decide, fun x1 H9 hx1 S9 e9 => ?_⟩
    refine ⟨_, rfl, _, rfl, _, rfl, _, rfl, R, _, _, _, rfl, rfl, SqT.of (S9 _ _ eR8), atI_nat (j := 0) rfl, _, rfl, R, _, _, _, rfl, rfl, SqT.of (S9 _ _ eR8), atI_nat (j := 1) rfl, by show 5 ≤ 1000; decide, fun x2 H10 hx2 S10 e10 => ?_⟩
    have S810 := S9.trans S10
    refine ⟨datS k l (4 + (h : Int)) (X1 i j) (Y1 m), datS k l (4 + (h : Int)) (X1 i j) (Y1 m), ?_, ?_, shs hk _ _ hi hm, shs hk _ _ hi hm, _, rfl, ?_⟩
    · exact .tup (SqT.of (S10 _ _ e9)) (.cons (.str _) (.cons (.int _) (.cons (.int _) (.cons (dp_tup (S810 _ _ etp) ok.fx) (.cons (dp_tup (S810 _ _ eup) ok.fy) .nil)))))
    · exact .tup (SqT.of e10) (.cons (.str _) (.cons (.int _) (.cons (.int _) (.cons (dp_tup (S810 _ _ et8) ok.fx) (.cons (dp_tup (S810 _ _ eu8) ok.fy) .nil)))))
    rw [eqv_same (shs hk _ _ hi hm)]
    refine iteF ?_
    replace tw := tw.kp (Kp.of S810)
    have hS10 := S810 _ _ hs1'
    have hS20 := S810 _ _ hs2'
    have hP10 := hP8.kp (Kp.of S810)
    have B10 := B8.trans (But.of_same S810)
    have st10 := st8.same S810
    clear S810 S9 S10 e9 e10 hx1 hx2 eR8 et8 eu8 hs1' hs2'
    -- one != other, not one == other, one == (..)
    refine ⟨_, rfl, _, rfl, s1, s2, _, _, _, _, rfl, rfl, hS10, G.cStretch.eq, G.cStretch.ty G.toG0 hS20, by simp [notFirst], 2, fds, _, _, G.cStretch.kp, Fs, hr.mono (by decide), Bs, s1, s2, k, l, 4 + (h : Int), X1 i j, Y1 m, rfl, tw.ok, tw.x1, .inl ⟨tw.x2, fun H11 S11 => ⟨_, rfl, _, rfl, iteF ?_⟩⟩⟩
    replace tw := tw.kp (Kp.of S11)
    refine ⟨_, rfl, _, rfl, s1, _, _, _, _, rfl, S11 _ _ hS10, G.cStretch.eq, G.cStretch.ty G.toG0 (S11 _ _ hS20), by simp [notFirst], 2, fds, _, _, G.cStretch.kp, Fs, hr.mono (by decide), Bs, s1, s2, k, l, 4 + (h : Int), X1 i j, Y1 m, rfl, tw.ok, tw.x1, .inl ⟨tw.x2, fun H12 S12 => ⟨_, rfl, _, rfl, iteF ?_⟩⟩⟩
    have S1012 := S11.trans S12
    refine ⟨_, rfl, _, rfl, _, rfl, _, rfl, _, rfl, by show 4 ≤ 1000; decide, fun x3 H13 hx3 S13 e13 => ?_⟩
    have S1013 := S1012.trans S13
    replace tw := tw.kp (Kp.of (S12.trans S13))
    refine ⟨s1, _, _, _, _, rfl, S1013 _ _ hS10, G.cStretch.eq, .x (.base (.tup e13)), G.cStretch.nt, 2, fds, _, _, G.cStretch.kp, Fs, hr.mono (by decide), Bs, s1, x3, k, l, 4 + (h : Int), X1 i j, Y1 m, rfl, tw.ok, tw.x1, .inr (.inr (.inl ⟨_, e13, _, rfl, _, rfl, iteF ?_⟩))⟩
    -- one == Stretch(.., high + 1, ..)
    refine ⟨_, rfl, _, rfl, _, rfl, _, rfl, _, _, rfl, rfl, _, rfl, fun s3 dx3 hs3 hdx3 _ => useS hs3 hdx3 (hP10.kp (Kp.of S1013)) fun H14 S14 hS3 => ?_⟩
    have S1014 := S1013.trans S14
    replace tw := tw.kp (Kp.of S14)
    obtain ⟨ds3, hs3'⟩ := id hS3
    refine ⟨s1, _, _, _, _, rfl, S1014 _ _ hS10, G.cStretch.eq, G.cStretch.ty G.toG0 hs3', by simp [notFirst], 2, fds, _, _, G.cStretch.kp, Fs, hr.mono (by decide), Bs, s1, s3, k, l, 4 + (h : Int), X1 i j, Y1 m, rfl, tw.ok, tw.x1, .inr (.inl ⟨_, p, hS3, by show (4 + (h : Int)) ≠ 4 + (h : Int) + 1; omega, _, rfl, _, rfl, iteF ?_⟩)⟩
    -- sites, some
    refine ⟨_, rfl, _, rfl, by show 2 ≤ 1000; decide, fun ps H15 hps S15 e15 => ?_⟩
    refine ⟨_, rfl, _, rfl, by show 2 ≤ 1000; decide, fun pm H16 hpm S16 e16 => ⟨_, _, rfl, ?_⟩⟩
    have e15' := S16 _ _ e15
    replace tw := tw.kp (Kp.of (S15.trans S16))
    obtain ⟨js, ejs⟩ : ∃ js : List Int, [l, 4 + (h : Int)] = js := ⟨_, rfl⟩
    have es : H16 ps = some (.lst (js.map V.int)) := by rw [← ejs]; exact e15'
    have em : H16 pm = some (.lst ([s1, s2].map V.ref)) := e16
    have lj : js.length ≤ 1000 := by rw [← ejs]; show 2 ≤ 1000; decide
    have in12 : ∀ {H' : Hp}, Two K H' s1 s2 k l (4 + (h : Int)) (X1 i j) (Y1 m) → ∀ s ∈ [s1, s2], ∃ dx fs, H' s = some (.ins (CA K "Stretch") dx fs) := fun tw s hs => by
      rcases List.mem_cons.mp hs with e | hs
      · exact e ▸ tw.x1.ins
      · exact (List.mem_singleton.mp hs) ▸ tw.x2.ins
    have in11 : ∀ {H' : Hp}, Two K H' s1 s2 k l (4 + (h : Int)) (X1 i j) (Y1 m) → ∀ s ∈ [s1, s1], ∃ dx fs, H' s = some (.ins (CA K "Stretch") dx fs) := fun tw s hs => by
      rcases List.mem_cons.mp hs with e | hs
      · exact e ▸ tw.x1.ins
      · exact (List.mem_singleton.mp hs) ▸ tw.x1.ins
    refine ⟨_, rfl, _, rfl, fun m1 dm1 hm1 hdm1 _ => useM hm1 hdm1 (.inl es) (.inl em) lj (by show 2 ≤ 1000; decide) (in12 tw) fun H17 S17 hM1 => ?_⟩
    refine ⟨_, rfl, _, rfl, by show 2 ≤ 1000; decide, fun j1 H18 hj1 S18 e18 => ⟨_, rfl, _, rfl, by show 2 ≤ 1000; decide, fun j2 H19 hj2 S19 e19 => ?_⟩⟩
    have e18' : H19 j1 = some (.tup (js.map V.int)) := by rw [← ejs]; exact S19 _ _ e18
    have e19' : H19 j2 = some (.tup ([s1, s1].map V.ref)) := e19
    have S1619 := (S17.trans S18).trans S19
    refine fun m2 dm2 hm2 hdm2 _ => useM hm2 hdm2 (.inr e18') (.inr e19') lj (by show 2 ≤ 1000; decide) (in11 (tw.kp (Kp.of S1619))) fun H20 S20 hM2 => ?_
    have S1620 := S1619.trans S20
    refine ⟨_, rfl, pm, _, rfl, .inl (SqL.of (S1620 _ _ em)), fun L1 hL1 => ?_⟩
    obtain ⟨H21, e21⟩ : ∃ H21, upd H20 L1 (.lst ([s1, s2].map V.ref)) = H21 := ⟨_, rfl⟩
    have S21 : Same H20 H21 := by rw [← e21]; exact same_upd hL1
    have eL1 : H21 L1 = some (.lst ([s1, s2].map V.ref)) := by rw [← e21]; exact upd_same
    rw [e21]
    have S1621 := S1620.trans S21
    refine ⟨_, rfl, ps, _, rfl, .inl (SqL.of (S1621 _ _ es)), fun L2 hL2 => ?_⟩
    obtain ⟨H22, e22⟩ : ∃ H22, upd H21 L2 (.lst (js.map V.int)) = H22 := ⟨_, rfl⟩
    have S22 : Same H21 H22 := by rw [← e22]; exact same_upd hL2
    have eL2 : H22 L2 = some (.lst (js.map V.int)) := by rw [← e22]; exact upd_same
    rw [e22]
    have S1622 := S1621.trans S22
    refine ⟨rfl, fun m3 dm3 hm3 hdm3 _ => useM hm3 hdm3 (.inl eL2) (.inl (S22 _ _ eL1)) lj (by show 2 ≤ 1000; decide) (in12 (tw.kp (Kp.of S1622))) fun H23 S23 hM3 => ?_⟩
    refine ⟨by show 3 ≤ 1000; decide, fun pM H24 hpM S24 eM0 => ?_⟩
    have S1624 := (S1622.trans S23).trans S24
    have B24 : But a H H24 := B10.trans (But.of_same (((S1014.trans S15).trans S16).trans S1624))
    have st24 : StAt H24 a := st10.same (((S1014.trans S15).trans S16).trans S1624)
    -- sites.append(9), some.clear()
    have es24 := S1624 _ _ es
    have em24 := S1624 _ _ em
    refine ⟨_, rfl, .inl ⟨rfl, _, SqL.of es24⟩, ps, _, _, rfl, rfl, es24, by rw [List.length_map, sizeLine_eq]; omega, ?_⟩
    obtain ⟨H25, e25⟩ : ∃ H25, upd H24 ps (.lst (js.map V.int ++ [.int 9])) = H25 := ⟨_, rfl⟩
    have K25 : Kp H24 H25 := by rw [← e25]; exact Kp.updL es24
    have npm : pm ≠ ps := fun e => by rw [e] at hpm; rw [e15] at hpm; cases hpm
    have em25 : H25 pm = some (.lst ([s1, s2].map V.ref)) := by rw [← e25, upd_ne npm]; exact em24
    show _
    rw [e25]
    refine ⟨_, rfl, .inl ⟨rfl, _, SqL.of em25⟩, pm, _, rfl, rfl, em25, ?_⟩
    obtain ⟨H26, e26⟩ : ∃ H26, upd H25 pm (.lst []) = H26 := ⟨_, rfl⟩
    have K26 : Kp H24 H26 := K25.trans (by rw [← e26]; exact Kp.updL em25)
    have nMs : pM ≠ ps := fun e => by
      rw [e, (S1622.trans S23) _ _ es] at hpM
      cases hpM
    have nMm : pM ≠ pm := fun e => by
      rw [e, (S1622.trans S23) _ _ em] at hpM
      cases hpM
    have eM : H26 pM = some (.lst [.ref m1, .ref m2, .ref m3]) := by rw [← e26, upd_ne nMm, ← e25, upd_ne nMs]; exact eM0
    have nps : H ps = none := by
      cases z : H ps with
      | none => rfl
      | some o => rw [(B10.trans (But.of_same S1014)) _ _ (st10.same S1014 |>.ne hps) z] at hps; cases hps
    have npm0 : H pm = none := by
      cases z : H pm with
      | none => rfl
      | some o => rw [(B10.trans (But.of_same (S1014.trans S15))) _ _ (st10.same (S1014.trans S15) |>.ne hpm) z] at hpm; cases hpm
    have B26 : But a H H26 := by rw [← e26, ← e25]; exact but_put (but_put B24 nps) npm0
    have st26 : StAt H26 a := by
      rw [← e26, ← e25]
      exact (st24.put (st10.same S1014 |>.ne hps)).put (st10.same (S1014.trans S15) |>.ne hpm)
    show _
    rw [e26]
    replace tw := (tw.kp (Kp.of S1624)).kp K26
    have M1 := (hM1.kp (Kp.of ((((((S18.trans S19).trans S20).trans S21).trans S22).trans S23).trans S24))).kp K26
    have M2 := (hM2.kp (Kp.of ((((S21).trans S22).trans S23).trans S24))).kp K26
    have M3 := (hM3.kp (Kp.of S24)).kp K26
    -- due
    refine ⟨_, rfl, _, rfl, by show 2 ≤ 1000; decide, fun r1 H27 hr1 S27 e27 => ⟨_, rfl, _, rfl, by show 2 ≤ 1000; decide, fun r2 H28 hr2 S28 e28 => ⟨by show 2 ≤ 1000; decide, fun r3 H29 hr3 S29 e29 => ⟨by show 1 ≤ 1000; decide, fun r4 H30 hr4 S30 e30 => ?_⟩⟩⟩⟩
    refine ⟨r4, 3, _, rfl, rfl, e30, by decide, by decide, by rw [sizeLine_eq]; show 1 * 3 ≤ 16777216; decide, fun r5 hr5 => ?_⟩
    obtain ⟨H31, e31⟩ : ∃ H31, upd H30 r5 (.lst (List.replicate (3 : Int).toNat [V.ref r3]).flatten) = H31 := ⟨_, rfl⟩
    have S31 : Same H30 H31 := by rw [← e31]; exact same_upd hr5
    have e5 : H31 r5 = some (.lst [.ref r3, .ref r3, .ref r3]) := by rw [← e31]; exact upd_same
    have S2631 := ((((S27.trans S28).trans S29).trans S30).trans S31)
    have due : MT H31 js [s1, s1] (.ref r3) := ⟨r3, r1, r2, rfl, S31 _ _ (S30 _ _ e29), by rw [← ejs]; exact ((((S28).trans S29).trans S30).trans S31) _ _ e27, ((S29.trans S30).trans S31) _ _ e28⟩
    show _
    rw [e31]
    replace eM := S2631 _ _ eM
    replace tw := tw.kp (Kp.of S2631)
    replace M1 := M1.kp (Kp.of S2631)
    replace M2 := M2.kp (Kp.of S2631)
    replace M3 := M3.kp (Kp.of S2631)
    replace B26 := B26.trans (But.of_same S2631)
    replace st26 := st26.same S2631
    clear S2631
    -- what they have
    refine ⟨_, rfl, pM, rfl, ⟨_, SqL.of eM⟩, fun D hD => ?_⟩
    refine lc_list (K := K) (a := pM) (xs := [.ref m1, .ref m2, .ref m3]) (fun n J => ∃ vs : List V, vs.length = n ∧ J D = some (.lst vs) ∧ (∀ v, vs[0]? = some v → MT J js [s1, s2] v) ∧ (∀ v, vs[1]? = some v → MT J js [s1, s1] v) ∧ (∀ v, vs[2]? = some v → MT J js [s1, s2] v) ∧ Same H31 J)
      ⟨[], rfl, upd_same, (fun v h => by cases h), (fun v h => by cases h), (fun v h => by cases h), same_upd hD⟩ (fun i J hi ⟨_, _, _, _, _, _, S⟩ => SqL.of (S _ _ eM)) ?_ ?_
    · rintro n x J hx ⟨vs, hvl, eV, hv0, hv1, hv2, S⟩
      have hn := (List.getElem?_eq_some_iff.mp hx).1
      have hn3 : n < 3 := hn
      obtain ⟨w, ss, ew, hw, hss⟩ : ∃ w ss, x = .ref w ∧ MAt K J w js ss ∧ (n = 0 → ss = [s1, s2]) ∧ (n = 1 → ss = [s1, s1]) ∧ (n = 2 → ss = [s1, s2]) := by
        match n, hx, hn3 with
        | 0, hx, _ => exact ⟨m1, _, by cases hx; rfl, M1.kp (Kp.of S), fun _ => rfl, fun z => (by cases z), fun z => (by cases z)⟩
        | 1, hx, _ => exact ⟨m2, _, by cases hx; rfl, M2.kp (Kp.of S), fun z => (by cases z), fun _ => rfl, fun z => (by cases z)⟩
        | 2, hx, _ => exact ⟨m3, _, by cases hx; rfl, M3.kp (Kp.of S), fun z => (by cases z), fun z => (by cases z), fun _ => rfl⟩
      subst ew
      obtain ⟨dx, y, z, k1, k2, k3⟩ := id hw
      refine ⟨rfl, _, rfl, w, _, dx, _, _, rfl, k1, G.cMend.cl, G.cMend.no _ (by decide +kernel), lMend_joints, _, rfl, w, _, dx, _, _, rfl, k1, G.cMend.cl, G.cMend.no _ (by decide +kernel), lMend_stretches, by show 2 ≤ 1000; decide, fun u J3 hu S3 e3 => ?_⟩
      have kk : Kp J (upd J3 D (.lst (vs ++ [.ref u]))) := (Kp.of S3).trans (Kp.updL (S3 _ _ eV))
      have nv : MT (upd J3 D (.lst (vs ++ [.ref u]))) js ss (.ref u) := MT.kp (Kp.updL (S3 _ _ eV)) ⟨u, y, z, rfl, e3, S3 _ _ k2, S3 _ _ k3⟩
      refine ⟨vs, S3 _ _ eV, by rw [hvl, sizeLine_eq]; omega, vs ++ [.ref u], by rw [List.length_append, hvl]; rfl, upd_same, fun v hv => ?_, fun v hv => ?_, fun v hv => ?_, but_fresh hD (S.trans S3)⟩
      · by_cases hc : n = 0
        · rw [List.getElem?_append_right (by omega), hvl, hc] at hv
          cases hv
          exact hss.1 hc ▸ nv
        · rw [List.getElem?_append_left (by omega)] at hv
          exact (hv0 v hv).kp kk
      · by_cases hc : n = 1
        · rw [List.getElem?_append_right (by omega), hvl, hc] at hv
          cases hv
          exact hss.2.1 hc ▸ nv
        · by_cases hc2 : n = 0
          · rw [List.getElem?_eq_none (by rw [List.length_append, hvl, hc2]; exact Nat.le_refl 1)] at hv
            cases hv
          · rw [List.getElem?_append_left (by omega)] at hv
            exact (hv1 v hv).kp kk
      · by_cases hc : n = 2
        · rw [List.getElem?_append_right (by omega), hvl, hc] at hv
          cases hv
          exact hss.2.2 hc ▸ nv
        · rw [List.getElem?_eq_none (by rw [List.length_append, hvl]; show n + 1 ≤ 2; omega)] at hv
          cases hv
    rintro J ⟨vs, hvl, eV, hv0, hv1, hv2, S32⟩
    refine ⟨_, rfl, ?_⟩
    match vs, hvl with
    | [v0, v1, v2], _ =>
    replace due := due.kp (Kp.of S32)
    replace eM := S32 _ _ eM
    replace tw := tw.kp (Kp.of S32)
    replace M1 := M1.kp (Kp.of S32)
    replace M2 := M2.kp (Kp.of S32)
    replace M3 := M3.kp (Kp.of S32)
    replace B26 := B26.trans (But.of_same S32)
    replace st26 := st26.same S32
    refine ⟨⟨D, r5, _, _, rfl, rfl, eV, S32 _ _ e5, Prs.cons ((hv0 v0 rfl).dm due (Prs.cons tw.d11 (Prs.cons tw.d21 Prs.nil))) (Prs.cons ((hv1 v1 rfl).dm due (Prs.cons tw.d11 (Prs.cons tw.d11 Prs.nil))) (Prs.cons ((hv2 v2 rfl).dm due (Prs.cons tw.d11 (Prs.cons tw.d21 Prs.nil))) Prs.nil))⟩, fun H33 S33 => ⟨_, rfl, iteF ?_⟩⟩
    replace eM := S33 _ _ eM
    replace tw := tw.kp (Kp.of S33)
    replace M1 := M1.kp (Kp.of S33)
    replace M2 := M2.kp (Kp.of S33)
    replace M3 := M3.kp (Kp.of S33)
    replace B26 := B26.trans (But.of_same S33)
    replace st26 := st26.same S33
    obtain ⟨da, ta, ua, ea, _⟩ := id M1
    obtain ⟨db, tb, ub, eb, _⟩ := id M2
    obtain ⟨dc, tc, uc, ec, _⟩ := id M3
    obtain ⟨y1, f1, i1⟩ := tw.x1.ins
    refine ⟨_, rfl, pM, _, _, _, rfl, rfl, SqL.of eM, atI_nat (j := 0) rfl, _, rfl, pM, _, _, _, rfl, rfl, SqL.of eM, atI_nat (j := 1) rfl, m1, m2, _, da, _, _, rfl, rfl, ea, G.cMend.eq, G.cMend.ty G.toG0 eb, by simp [notFirst], 4, fdm, _, _, G.cMend.kp, Fm, hr.mono (by decide), Bm, m1, m2, js, [s1, s2], rfl, M1, .inl ⟨[s1, s1], M2, Prs.cons tw.d11 (Prs.cons tw.d21 Prs.nil), fun H34 S34 => ⟨_, rfl, _, rfl, iteF ?_⟩⟩⟩
    replace eM := S34 _ _ eM
    replace tw := tw.kp (Kp.of S34)
    replace M1 := M1.kp (Kp.of S34)
    replace M3 := M3.kp (Kp.of S34)
    refine ⟨_, rfl, pM, _, _, _, rfl, rfl, SqL.of eM, atI_nat (j := 0) rfl, _, rfl, pM, _, _, _, rfl, rfl, SqL.of eM, atI_nat (j := 2) rfl, m1, m3, _, da, _, _, rfl, rfl, S34 _ _ ea, G.cMend.eq, G.cMend.ty G.toG0 (S34 _ _ ec), by simp [notFirst], 4, fdm, _, _, G.cMend.kp, Fm, hr.mono (by decide), Bm, m1, m3, js, [s1, s2], rfl, M1, .inl ⟨[s1, s2], M3, Prs.cons tw.d11 (Prs.cons tw.d22 Prs.nil), fun H35 S35 => ⟨_, rfl, _, rfl, iteF ?_⟩⟩⟩
    have S3335 := S34.trans S35
    replace eM := S35 _ _ eM
    replace tw := tw.kp (Kp.of S35)
    replace M1 := M1.kp (Kp.of S35)
    -- a joint less
    refine ⟨_, rfl, pM, _, _, _, rfl, rfl, SqL.of eM, atI_nat (j := 0) rfl, _, rfl, by show 1 ≤ 1000; decide, fun g1 H36 hg1 S36 e36 => ⟨_, rfl, _, rfl, by show 2 ≤ 1000; decide, fun g2 H37 hg2 S37 e37 => ?_⟩⟩
    have e36' : H37 g1 = some (.tup ([l].map V.int)) := S37 _ _ e36
    refine fun m4 dm4 hm4 hdm4 _ => useM hm4 hdm4 (.inr e36') (.inr (show H37 g2 = some (.tup ([s1, s1].map V.ref)) from e37)) (by show 1 ≤ 1000; decide) (by show 2 ≤ 1000; decide) (in11 (tw.kp (Kp.of (S36.trans S37)))) fun H38 S38 hM4 => ?_
    have S3538 := (S36.trans S37).trans S38
    obtain ⟨dd, td, ud, ed, _⟩ := id hM4
    replace eM := S3538 _ _ eM
    replace tw := tw.kp (Kp.of S3538)
    replace M1 := M1.kp (Kp.of S3538)
    have S3338 := S3335.trans S3538
    refine ⟨m1, _, _, _, _, rfl, S3338 _ _ ea, G.cMend.eq, G.cMend.ty G.toG0 ed, by simp [notFirst], 4, fdm, _, _, G.cMend.kp, Fm, hr.mono (by decide), Bm, m1, m4, js, [s1, s2], rfl, M1, .inr (.inl ⟨[l], [s1, s1], hM4, (by rw [← ejs]; intro z; cases z), _, rfl, _, rfl, iteF ?_⟩)⟩
    -- a stretch less
    refine ⟨_, rfl, pM, _, _, _, rfl, rfl, SqL.of eM, atI_nat (j := 0) rfl, _, rfl, _, rfl, by show 2 ≤ 1000; decide, fun g3 H39 hg3 S39 e39 => ⟨_, rfl, by show 1 ≤ 1000; decide, fun g4 H40 hg4 S40 e40 => ?_⟩⟩
    have e39' : H40 g3 = some (.tup (js.map V.int)) := by rw [← ejs]; exact S40 _ _ e39
    refine fun m5 dm5 hm5 hdm5 _ => useM hm5 hdm5 (.inr e39') (.inr (show H40 g4 = some (.tup ([s1].map V.ref)) from e40)) lj (by show 1 ≤ 1000; decide) (fun s hs => (List.mem_singleton.mp hs) ▸ (tw.kp (Kp.of (S39.trans S40))).x1.ins) fun H41 S41 hM5 => ?_
    have S3841 := (S39.trans S40).trans S41
    obtain ⟨de, te, ue, ee, _⟩ := id hM5
    replace eM := S3841 _ _ eM
    replace tw := tw.kp (Kp.of S3841)
    replace M1 := M1.kp (Kp.of S3841)
    have S3341 := S3338.trans S3841
    refine ⟨m1, _, _, _, _, rfl, S3341 _ _ ea, G.cMend.eq, G.cMend.ty G.toG0 ee, by simp [notFirst], 4, fdm, _, _, G.cMend.kp, Fm, hr.mono (by decide), Bm, m1, m5, js, [s1, s2], rfl, M1, .inr (.inr (.inl ⟨[s1], hM5, by show 1 < 2; decide, Prs.cons tw.d11 Prs.nil, fun H42 S42 => ⟨_, rfl, _, rfl, iteF ?_⟩⟩))⟩
    have S3342 := S3341.trans S42
    replace eM := S42 _ _ eM
    replace tw := tw.kp (Kp.of S42)
    replace M1 := M1.kp (Kp.of S42)
    -- things of other classes
    refine ⟨_, rfl, pM, _, _, _, rfl, rfl, SqL.of eM, atI_nat (j := 0) rfl, _, rfl, m1, s1, _, da, _, _, rfl, rfl, S3342 _ _ ea, G.cMend.eq, G.cStretch.ty G.toG0 (S3342 _ _ i1), G.nfMS, 4, fdm, _, _, G.cMend.kp, Fm, hr.mono (by decide), Bm, m1, s1, js, [s1, s2], rfl, M1, .inr (.inr (.inr (.inl ⟨_, _, S3342 _ _ i1, _, rfl, _, rfl, iteT ?_⟩)))⟩
    refine ⟨_, rfl, _, rfl, pM, _, _, _, rfl, rfl, SqL.of eM, atI_nat (j := 0) rfl, s1, m1, _, _, _, _, rfl, rfl, S3342 _ _ i1, G.cStretch.eq, G.cMend.ty G.toG0 (S3342 _ _ ea), G.nfSM, 2, fds, _, _, G.cStretch.kp, Fs, hr.mono (by decide), Bs, s1, m1, k, l, 4 + (h : Int), X1 i j, Y1 m, rfl, tw.ok, tw.x1, .inr (.inr (.inr ⟨_, _, S3342 _ _ ea, _, rfl, _, rfl, iteT ?_⟩))⟩
    refine ⟨by show 0 ≤ 1000; decide, fun o1 H43 ho1 S43 e43 => ⟨by show 0 ≤ 1000; decide, fun o2 H44 ho2 S44 e44 => ?_⟩⟩
    refine fun m6 dm6 hm6 hdm6 _ => useM hm6 hdm6 (js := []) (ss := []) (.inl (S44 _ _ e43)) (.inl e44) (by decide) (by decide) (fun s hs => by cases hs) fun H45 S45 hM6 => ?_
    refine ⟨by show 0 ≤ 1000; decide, fun o3 H46 ho3 S46 e46 => ?_⟩
    refine fun w1 dw1 hw1 hdw1 _ => useW hw1 hdw1 (js := []) (.inl e46) (by decide) fun H47 S47 hW1 => ?_
    obtain ⟨df, tf, uf, ef, _⟩ := (hM6.kp (Kp.of (S46.trans S47)))
    obtain ⟨dg, tg, eg, _⟩ := id hW1
    refine ⟨m6, w1, _, _, _, _, rfl, rfl, ef, G.cMend.eq, G.cWish.ty G.toG0 eg, G.nfMW, 4, fdm, _, _, G.cMend.kp, Fm, hr.mono (by decide), Bm, m6, w1, [], [], rfl, hM6.kp (Kp.of (S46.trans S47)), .inr (.inr (.inr (.inr ⟨_, _, eg, _, rfl, _, rfl, iteT ?_⟩)))⟩
    refine ⟨by show 0 ≤ 1000; decide, fun o4 H48 ho4 S48 e48 => ⟨by show 0 ≤ 1000; decide, fun o5 H49 ho5 S49 e49 => ?_⟩⟩
    refine fun m7 dm7 hm7 hdm7 _ => useM hm7 hdm7 (js := []) (ss := []) (.inl (S49 _ _ e48)) (.inl e49) (by decide) (by decide) (fun s hs => by cases hs) fun H50 S50 hM7 => ?_
    refine ⟨by show 0 ≤ 1000; decide, fun o6 H51 ho6 S51 e51 => ⟨by show 0 ≤ 1000; decide, fun o7 H52 ho7 S52 e52 => ?_⟩⟩
    refine fun m8 dm8 hm8 hdm8 _ => useM hm8 hdm8 (js := []) (ss := []) (.inr (S52 _ _ e51)) (.inr e52) (by decide) (by decide) (fun s hs => by cases hs) fun H53 S53 hM8 => ?_
    have M7 := hM7.kp (Kp.of ((S51.trans S52).trans S53))
    obtain ⟨dh, th, uh, eh, _⟩ := id M7
    obtain ⟨di, ti, ui, ei, _⟩ := id hM8
    have S4253 := (((((((((S43.trans S44).trans S45).trans S46).trans S47).trans S48).trans S49).trans S50).trans S51).trans S52).trans S53
    have S3353 := S3342.trans S4253
    exact ⟨m7, _, _, _, _, rfl, eh, G.cMend.eq, G.cMend.ty G.toG0 ei, by simp [notFirst], 4, fdm, _, _, G.cMend.kp, Fm, hr.mono (by decide), Bm, m7, m8, [], [], rfl, M7, .inl ⟨[], hM8, Prs.nil, fun H54 S54 => ⟨_, rfl, q _ (B26.trans (But.of_same (S3353.trans S54))) (st26.same (S3353.trans S54))⟩⟩⟩

end
end L2.K51

set_option Elab.async false
set_option linter.all false
set_option maxRecDepth 100000
set_option maxHeartbeats 4000000
namespace L2.K51
open PySem PySem.W PySem.Spec PySem.Calls PyProof.Rows L2.Jk

def spLaw (K : Frag) : Sp := fun vs H Q _ => ∃ (a : Addr) (ns : List Int), vs = [.ref a] ∧ SqL K H a (ns.map V.int) ∧ ns.length ≤ 63 ∧ ∀ H', Q (.bl true) H'
structure GG (P : Program) (w : World) (K : Frag) (mg : Str → Option Value) (base : Heap) : Prop extends GM P w K mg base where
  law_source : FnAt P w K mg base CX0 1 "_law_source" ["_law_cell"] spSource
  law_wish : FnAt P w K mg base CX0 7 "_law_wish_right" ["_law_source_here"] spRight
  law_stretch : FnAt P w K mg base CX0 8 "_law_stretch_right" ["_law_source_here"] spRight
theorem cut_int {ns : List Int} {i : Nat} {x : V} (h : (cutV (ns.map V.int ++ [.int 0]) none (some 3))[i]? = some x) : ∃ n, x = .int n := by
  have m : x ∈ ns.map V.int ++ [.int 0] := List.mem_of_mem_drop (List.mem_of_mem_take (List.mem_of_getElem? h))
  rcases List.mem_append.mp m with m | m
  · obtain ⟨n, _, rfl⟩ := List.mem_map.mp m
    exact ⟨n, rfl⟩
  · exact ⟨0, List.mem_singleton.mp m⟩
section
variable {P : Program} {w : World} {K : Frag} {mg : Str → Option Value} {base : Heap} {f : Addr} {fd : FuncData}

abbrev s_law : Stmt := top 17
theorem sc_law : FnScope ["_law_script", "_law_cell", "_law_source_here", "_law_turn"] ["_law_script"] (defScope s_law) := ⟨rfl, rfl, rfl, by decide +kernel, rfl, by decide +kernel, by decide +kernel⟩

theorem ok_law (F : FunD K "law" "law" (defArgs s_law) (defBody s_law) (defScope s_law) [] [] f fd) (G : GG P w K mg base) : FnOk P w K mg base CX0 9 f fd ["_law_script"] (spLaw K) := by
  refine F.ok (CX := CX0) sc_law (fun vs H Q E h => ?_) (fun cdv A outer s H vs Q E hr h => ?_)
  · obtain ⟨_, _, rfl, _⟩ := h
    rfl
  · refine ⟨_, PSs.nox (pss_cons (ps_for PassesOwn.never rfl (pi_list (pe_slice sl_listS (pe_op op_catS (pv 0) (pe_lstS (pa_cons pe_int pa_nil))) po_none (po_some pe_int))) (pg_name (i := 1) sc_law.nd rfl (Or.inl rfl))
      (pss_cons (ps_set (i := 2) sc_law.nd rfl (Or.inl rfl) (pe_fn G.law_source (hr.mono (by decide)) pass0 (by rfl) (pa_cons (pv 1) pa_nil)))
      (pss_one (ps_for PassesOwn.never rfl (pi_range1 (by rfl) G.range (pa_cons pe_int pa_nil)) (pg_name (i := 3) sc_law.nd rfl (Or.inl rfl))
        (pss_one (ps_if (PW.pt (pw_or (pt_not (pt_val (pe_fn G.law_wish (hr.mono (by decide)) pass0 (by rfl) (pa_cons (pv 2) pa_nil)))) (pw_or1 (pt_not (pt_val (pe_fn G.law_stretch hr pass0 (by rfl) (pa_cons (pv 2) pa_nil)))))))
          (pss_one (ps_ret pe_bl))
          pss_nil))))))
    (pss_one (ps_ret pe_bl))), ?_⟩
    obtain ⟨a, ns, rfl, hS, hl, q⟩ := h
    refine ⟨_, rfl, by show 1 ≤ 1000; decide, fun p0 H0 hp0 S0 e0 => ⟨a, p0, _, _, rfl, rfl, hS.ext S0, SqL.of e0, by rw [List.length_map, sizeLine_eq]; show ns.length + 1 ≤ 16777216; omega, fun p1 H1 hp1 S1 e1 => ?_⟩⟩
    refine ⟨_, rfl, p1, _, rfl, SqL.of e1, fun p2 H2 hp2 S2 e2 => ⟨p2, rfl, ⟨_, SqL.of e2⟩, ?_⟩⟩
    refine for_list (K := K) (a := p2) (xs := cutV (ns.map V.int ++ [.int 0]) none (some 3)) (fun i σ J => ∃ v1 v2 v3, σ = [some (.ref a), v1, v2, v3] ∧ Same H2 J) ⟨_, _, _, rfl, Same.refl _⟩ (fun i σ J _ ⟨_, _, _, _, S⟩ => SqL.of (S _ _ e2)) ?_ ?_
    · rintro i x σ J hx ⟨v1, v2, v3, rfl, S⟩
      obtain ⟨n, rfl⟩ := cut_int hx
      refine ⟨_, rfl, n, rfl, fun s J1 hs S1' st => ?_⟩
      refine ⟨4, rfl, by decide, by decide, for_range (n := 4) (fun i σ J' => ∃ v3, σ = [some (.ref a), some (.int n), some (.ref s), v3] ∧ Same H2 J' ∧ StAt J' s) ⟨_, rfl, S.trans S1', st⟩ ?_ ?_⟩
      · rintro i σ J' hi ⟨v3, rfl, S', st'⟩
        have stay : ∀ {A B : Hp}, Same H2 A → But s A B → Same H2 B := fun SA BB c o e => BB c o (fun z => by
          have := S _ _ e
          rw [z, hs] at this
          cases this) (SA _ _ e)
        refine ⟨_, rfl, s, rfl, st', fun J1 B1 st1 => ⟨_, rfl, iteF ⟨_, rfl, s, rfl, st1, fun J2 B2 st2 => ⟨_, rfl, iteF ⟨_, rfl, stay (stay S' B1) B2, st2⟩⟩⟩⟩⟩
      · rintro σ J' ⟨v3, rfl, S', st'⟩
        exact ⟨_, _, _, rfl, S'⟩
    · rintro σ J ⟨v1, v2, v3, rfl, S⟩
      exact q _

end

theorem facts {P : Program} {w : World} {K : Frag} {h : Heap} {mg : Str → Option Value} {base : Heap} (X : K.In h) (G : h.Ns mainGlobals mg) (c : He.SaysD fa fn K) (m : ex K = true) :
    GG P w K mg base := by
  obtain ⟨m1, m⟩ := Bool.and_eq_true_iff.mp m
  obtain ⟨m2, m⟩ := Bool.and_eq_true_iff.mp m
  obtain ⟨m3, m⟩ := Bool.and_eq_true_iff.mp m
  obtain ⟨m4, m⟩ := Bool.and_eq_true_iff.mp m
  obtain ⟨m5, m⟩ := Bool.and_eq_true_iff.mp m
  obtain ⟨m6, m⟩ := Bool.and_eq_true_iff.mp m
  obtain ⟨m7, m⟩ := Bool.and_eq_true_iff.mp m
  obtain ⟨xPair, m⟩ := Bool.and_eq_true_iff.mp m
  obtain ⟨xWish, m⟩ := Bool.and_eq_true_iff.mp m
  obtain ⟨xStretch, xMend⟩ := Bool.and_eq_true_iff.mp m
  have kc : ∀ {C : Addr}, kcB K C = true → findIn K (.ref C) "__class__" = some (some (.builtin "object.__class__")) ∧ mroIn K C (.type "object") = some true ∧ notFirst K C (.type "tuple") = true ∧ EqcC K C ∧ keepIn K (.ref (He.ma K C "__eq__")) = true ∧ kitOne K (.ref C) (.type "list") = some false ∧ kitOne K (.ref C) (.type "tuple") = some false := fun y => by
    obtain ⟨y1, y⟩ := Bool.and_eq_true_iff.mp y
    obtain ⟨y2, y⟩ := Bool.and_eq_true_iff.mp y
    obtain ⟨y3, y⟩ := Bool.and_eq_true_iff.mp y
    obtain ⟨y4, y⟩ := Bool.and_eq_true_iff.mp y
    obtain ⟨y5, y⟩ := Bool.and_eq_true_iff.mp y
    obtain ⟨y6, y7⟩ := Bool.and_eq_true_iff.mp y
    exact ⟨He.eqO_ok y1, of_decide_eq_true y2, y3, eqcB_ok y4, y5, of_decide_eq_true y6, of_decide_eq_true y7⟩
  obtain ⟨k1Pair, k2Pair, k3Pair, k4Pair, k5Pair, k6Pair, k7Pair⟩ := kc xPair
  have cPair : C0 K mg "Pair" ["one", "other"] := ⟨He.glo_ok X G (c.fact 0 (f := .glo "Pair") rfl), He.cls_ok (c.fact 21 (f := .cls "Pair") rfl), (fun f hf => by
    rcases List.mem_cons.mp hf with rfl | hf
    · exact He.noat_ok (c.fact 23 (f := .noat "Pair" "one") rfl)
    rcases List.mem_cons.mp hf with rfl | hf
    · exact He.noat_ok (c.fact 24 (f := .noat "Pair" "other") rfl)
    cases hf), k1Pair, k2Pair, k4Pair, k5Pair, He.mkr_ok (c.fact 22 (f := .mkr "Pair") rfl), k3Pair, k6Pair, k7Pair⟩
  obtain ⟨k1Wish, k2Wish, k3Wish, k4Wish, k5Wish, k6Wish, k7Wish⟩ := kc xWish
  have cWish : C0 K mg "Wish" ["order", "scans"] := ⟨He.glo_ok X G (c.fact 1 (f := .glo "Wish") rfl), He.cls_ok (c.fact 25 (f := .cls "Wish") rfl), (fun f hf => by
    rcases List.mem_cons.mp hf with rfl | hf
    · exact He.noat_ok (c.fact 27 (f := .noat "Wish" "order") rfl)
    rcases List.mem_cons.mp hf with rfl | hf
    · exact He.noat_ok (c.fact 28 (f := .noat "Wish" "scans") rfl)
    cases hf), k1Wish, k2Wish, k4Wish, k5Wish, He.mkr_ok (c.fact 26 (f := .mkr "Wish") rfl), k3Wish, k6Wish, k7Wish⟩
  obtain ⟨k1Stretch, k2Stretch, k3Stretch, k4Stretch, k5Stretch, k6Stretch, k7Stretch⟩ := kc xStretch
  have cStretch : C0 K mg "Stretch" ["kind", "first", "last", "pair"] := ⟨He.glo_ok X G (c.fact 2 (f := .glo "Stretch") rfl), He.cls_ok (c.fact 29 (f := .cls "Stretch") rfl), (fun f hf => by
    rcases List.mem_cons.mp hf with rfl | hf
    · exact He.noat_ok (c.fact 31 (f := .noat "Stretch" "kind") rfl)
    rcases List.mem_cons.mp hf with rfl | hf
    · exact He.noat_ok (c.fact 32 (f := .noat "Stretch" "first") rfl)
    rcases List.mem_cons.mp hf with rfl | hf
    · exact He.noat_ok (c.fact 33 (f := .noat "Stretch" "last") rfl)
    rcases List.mem_cons.mp hf with rfl | hf
    · exact He.noat_ok (c.fact 34 (f := .noat "Stretch" "pair") rfl)
    cases hf), k1Stretch, k2Stretch, k4Stretch, k5Stretch, He.mkr_ok (c.fact 30 (f := .mkr "Stretch") rfl), k3Stretch, k6Stretch, k7Stretch⟩
  obtain ⟨k1Mend, k2Mend, k3Mend, k4Mend, k5Mend, k6Mend, k7Mend⟩ := kc xMend
  have cMend : C0 K mg "Mend" ["joints", "stretches"] := ⟨He.glo_ok X G (c.fact 3 (f := .glo "Mend") rfl), He.cls_ok (c.fact 35 (f := .cls "Mend") rfl), (fun f hf => by
    rcases List.mem_cons.mp hf with rfl | hf
    · exact He.noat_ok (c.fact 37 (f := .noat "Mend" "joints") rfl)
    rcases List.mem_cons.mp hf with rfl | hf
    · exact He.noat_ok (c.fact 38 (f := .noat "Mend" "stretches") rfl)
    cases hf), k1Mend, k2Mend, k4Mend, k5Mend, He.mkr_ok (c.fact 36 (f := .mkr "Mend") rfl), k3Mend, k6Mend, k7Mend⟩
  have g0 : G0 P w K mg base := ⟨⟨He.free_ok X G (c.fact 14 (f := .free "isinstance") rfl), He.free_ok X G (c.fact 15 (f := .free "list") rfl), He.free_ok X G (c.fact 16 (f := .free "tuple") rfl), He.free_ok X G (c.fact 17 (f := .free "type") rfl), He.free_ok X G (c.fact 18 (f := .free "int") rfl), He.free_ok X G (c.fact 19 (f := .free "len") rfl), He.free_ok X G (c.fact 20 (f := .free "range") rfl)⟩, cPair, cWish, cStretch, cMend, He.eqO_ok m1, of_decide_eq_true m2, m3, m4, m5, of_decide_eq_true m6, of_decide_eq_true m7⟩
  obtain ⟨fdf1, Ff1⟩ := c.def_ 8 (d := ⟨("is_sequence", none), "is_sequence", "is_sequence", defArgs (top 1), defBody (top 1), defScope (top 1), [], []⟩) rfl
  have Af1 : FnAt P w K mg base CX0 1 "is_sequence" ["thing"] _ := ⟨_, fdf1, He.glo_ok X G (c.fact 4 (f := .glo "is_sequence") rfl), Ff1.kp, ok_is_sequence Ff1 g0, FunD.bindsN (ps := ["thing"]) Ff1 (fun _ _ _ _ _ _ us hl => match us, hl with | [_], _ => rfl)⟩
  have g1 : G1 P w K mg base := ⟨g0, Af1⟩
  obtain ⟨fdat, Fat⟩ := c.def_ 9 (d := ⟨("as_tuples", none), "as_tuples", "as_tuples", defArgs (top 3), defBody (top 3), defScope (top 3), [], []⟩) rfl
  have gat := He.glo_ok X G (c.fact 5 (f := .glo "as_tuples") rfl)
  have bat := FunD.bindsN (ps := ["thing"]) Fat (fun _ _ _ _ _ _ us hl => match us, hl with | [_], _ => rfl)
  have at0 : FnAt P w K mg base CX0 2 "as_tuples" ["thing"] (spAT K 0) := ⟨_, fdat, gat, Fat.kp, fn_never.imp fun vs H Q E h => (by obtain ⟨_, _, ⟨z, _⟩ | ⟨z, _⟩⟩ := h <;> exact absurd z (by decide)), bat⟩
  have at1 : FnAt P w K mg base CX0 3 "as_tuples" ["thing"] (spAT K 1) := ⟨_, fdat, gat, Fat.kp, ok_as_tuples Fat g1 (n := 0) at0, bat⟩
  have at2 : FnAt P w K mg base CX0 4 "as_tuples" ["thing"] (spAT K 2) := ⟨_, fdat, gat, Fat.kp, ok_as_tuples Fat g1 (n := 1) at1, bat⟩
  have g2 : G2 P w K mg base := ⟨g1, at2⟩
  obtain ⟨fdiPair, FiPair⟩ := c.def_ 0 (d := ⟨("Pair", some "__init__"), "__init__", "Pair.__init__", defArgs (inClass (top 4) 0), defBody (inClass (top 4) 0), defScope (inClass (top 4) 0), [], []⟩) rfl
  have nPair : ClsAt P w K mg base CX0 5 "Pair" (CA K "Pair") ["self", "one", "other"] (spPair K) := ⟨cPair.mgC, cPair.cl, cPair.mkr, fdiPair, ok_Pair_init FiPair g2, FunD.bindsN (ps := ["self", "one", "other"]) FiPair (fun _ _ _ _ _ _ us hl => match us, hl with | [_, _, _], _ => rfl)⟩
  obtain ⟨fdiWish, FiWish⟩ := c.def_ 2 (d := ⟨("Wish", some "__init__"), "__init__", "Wish.__init__", defArgs (inClass (top 6) 0), defBody (inClass (top 6) 0), defScope (inClass (top 6) 0), [], []⟩) rfl
  have nWish : ClsAt P w K mg base CX0 5 "Wish" (CA K "Wish") ["self", "order", "scans"] (spWish K) := ⟨cWish.mgC, cWish.cl, cWish.mkr, fdiWish, ok_Wish_init FiWish g2, FunD.bindsN (ps := ["self", "order", "scans"]) FiWish (fun _ _ _ _ _ _ us hl => match us, hl with | [_, _, _], _ => rfl)⟩
  obtain ⟨fdiStretch, FiStretch⟩ := c.def_ 4 (d := ⟨("Stretch", some "__init__"), "__init__", "Stretch.__init__", defArgs (inClass (top 7) 0), defBody (inClass (top 7) 0), defScope (inClass (top 7) 0), [], []⟩) rfl
  have nStretch : ClsAt P w K mg base CX0 5 "Stretch" (CA K "Stretch") ["self", "kind", "first", "last", "pair"] (spStretch K) := ⟨cStretch.mgC, cStretch.cl, cStretch.mkr, fdiStretch, ok_Stretch_init FiStretch g2, FunD.bindsN (ps := ["self", "kind", "first", "last", "pair"]) FiStretch (fun _ _ _ _ _ _ us hl => match us, hl with | [_, _, _, _, _], _ => rfl)⟩
  obtain ⟨fdiMend, FiMend⟩ := c.def_ 6 (d := ⟨("Mend", some "__init__"), "__init__", "Mend.__init__", defArgs (inClass (top 8) 0), defBody (inClass (top 8) 0), defScope (inClass (top 8) 0), [], []⟩) rfl
  have nMend : ClsAt P w K mg base CX0 5 "Mend" (CA K "Mend") ["self", "joints", "stretches"] (spMend K) := ⟨cMend.mgC, cMend.cl, cMend.mkr, fdiMend, ok_Mend_init FiMend g2, FunD.bindsN (ps := ["self", "joints", "stretches"]) FiMend (fun _ _ _ _ _ _ us hl => match us, hl with | [_, _, _], _ => rfl)⟩
  have wWish : KwAt P w K mg base 5 (CA K "Wish") ["self", "order", "scans"] ["scans", "order"] L2.K51.g2 (spWish K) := ⟨fdiWish, ok_Wish_init FiWish g2, FunD_kbindsN FiWish 1 ["scans", "order"] L2.K51.g2 (fun _ _ r1 r2 => g2_rel r1 r2) (fun _ r1 r2 => g2_rel r1 r2) (fun _ _ _ _ _ _ us ws h1 h2 => match us, ws, h1, h2 with | [_], [_, _], _, _ => rfl)⟩
  have wStretch : KwAt P w K mg base 5 (CA K "Stretch") ["self", "kind", "first", "last", "pair"] ["pair", "last", "first", "kind"] L2.K51.g4 (spStretch K) := ⟨fdiStretch, ok_Stretch_init FiStretch g2, FunD_kbindsN FiStretch 1 ["pair", "last", "first", "kind"] L2.K51.g4 (fun _ _ r1 r2 => g4_rel r1 r2) (fun _ r1 r2 => g4_rel r1 r2) (fun _ _ _ _ _ _ us ws h1 h2 => match us, ws, h1, h2 with | [_], [_, _, _, _], _, _ => rfl)⟩
  have wMend : KwAt P w K mg base 5 (CA K "Mend") ["self", "joints", "stretches"] ["stretches", "joints"] L2.K51.g2 (spMend K) := ⟨fdiMend, ok_Mend_init FiMend g2, FunD_kbindsN FiMend 1 ["stretches", "joints"] L2.K51.g2 (fun _ _ r1 r2 => g2_rel r1 r2) (fun _ r1 r2 => g2_rel r1 r2) (fun _ _ _ _ _ _ us ws h1 h2 => match us, ws, h1, h2 with | [_], [_, _], _, _ => rfl)⟩
  obtain ⟨fdePair, FePair⟩ := c.def_ 1 (d := ⟨("Pair", some "__eq__"), "__eq__", "Pair.__eq__", defArgs (inClass (top 4) 1), defBody (inClass (top 4) 1), defScope (inClass (top 4) 1), [], []⟩) rfl
  have ePair : EQ P w K mg base 1 (CA K "Pair") (spEqPair K) := ⟨fdePair, ok_Pair_eq FePair g2, FunD.bindsN (ps := ["self", "other"]) FePair (fun _ _ _ _ _ _ us hl => match us, hl with | [_, _], _ => rfl)⟩
  obtain ⟨fdeWish, FeWish⟩ := c.def_ 3 (d := ⟨("Wish", some "__eq__"), "__eq__", "Wish.__eq__", defArgs (inClass (top 6) 1), defBody (inClass (top 6) 1), defScope (inClass (top 6) 1), [], []⟩) rfl
  have eWish : EQ P w K mg base 1 (CA K "Wish") (spEqWish K) := ⟨fdeWish, ok_Wish_eq FeWish g2, FunD.bindsN (ps := ["self", "other"]) FeWish (fun _ _ _ _ _ _ us hl => match us, hl with | [_, _], _ => rfl)⟩
  have g3 : G3 P w K mg base := ⟨g2, ePair⟩
  obtain ⟨fdeStretch, FeStretch⟩ := c.def_ 5 (d := ⟨("Stretch", some "__eq__"), "__eq__", "Stretch.__eq__", defArgs (inClass (top 7) 1), defBody (inClass (top 7) 1), defScope (inClass (top 7) 1), [], []⟩) rfl
  have eStretch : EQ P w K mg base 2 (CA K "Stretch") (spEqStr K) := ⟨fdeStretch, ok_Stretch_eq FeStretch g3, FunD.bindsN (ps := ["self", "other"]) FeStretch (fun _ _ _ _ _ _ us hl => match us, hl with | [_, _], _ => rfl)⟩
  have g4' : G4 P w K mg base := ⟨g3, eStretch⟩
  obtain ⟨fdeMend, FeMend⟩ := c.def_ 7 (d := ⟨("Mend", some "__eq__"), "__eq__", "Mend.__eq__", defArgs (inClass (top 8) 1), defBody (inClass (top 8) 1), defScope (inClass (top 8) 1), [], []⟩) rfl
  have eMend : EQ P w K mg base 4 (CA K "Mend") (spEqMend K) := ⟨fdeMend, ok_Mend_eq FeMend g4', FunD.bindsN (ps := ["self", "other"]) FeMend (fun _ _ _ _ _ _ us hl => match us, hl with | [_, _], _ => rfl)⟩
  obtain ⟨fdr1, Fr1⟩ := c.def_ 10 (d := ⟨("_law_mixed", none), "_law_mixed", "_law_mixed", defArgs (top 10), defBody (top 10), defScope (top 10), [], []⟩) rfl
  have Ar1 : FnAt P w K mg base CX0 1 "_law_mixed" ["_law_cell", "_law_draw"] _ := ⟨_, fdr1, He.glo_ok X G (c.fact 6 (f := .glo "_law_mixed") rfl), Fr1.kp, ok_mixed Fr1 g0, FunD.bindsN (ps := ["_law_cell", "_law_draw"]) Fr1 (fun _ _ _ _ _ _ us hl => match us, hl with | [_, _], _ => rfl)⟩
  have gr : GR P w K mg base := ⟨g0, Ar1⟩
  obtain ⟨fdr2, Fr2⟩ := c.def_ 12 (d := ⟨("_law_take", none), "_law_take", "_law_take", defArgs (top 12), defBody (top 12), defScope (top 12), [], []⟩) rfl
  have Ar2 : FnAt P w K mg base CX0 2 "_law_take" ["_law_source_here", "_law_bound"] _ := ⟨_, fdr2, He.glo_ok X G (c.fact 8 (f := .glo "_law_take") rfl), Fr2.kp, ok_take Fr2 gr, FunD.bindsN (ps := ["_law_source_here", "_law_bound"]) Fr2 (fun _ _ _ _ _ _ us hl => match us, hl with | [_, _], _ => rfl)⟩
  have gr2 : GR2 P w K mg base := ⟨gr, Ar2⟩
  obtain ⟨fdr3, Fr3⟩ := c.def_ 13 (d := ⟨("_law_pick", none), "_law_pick", "_law_pick", defArgs (top 13), defBody (top 13), defScope (top 13), [], []⟩) rfl
  have Ar3 : FnAt P w K mg base CX0 3 "_law_pick" ["_law_source_here", "_law_options"] _ := ⟨_, fdr3, He.glo_ok X G (c.fact 9 (f := .glo "_law_pick") rfl), Fr3.kp, ok_pick Fr3 gr2, FunD.bindsN (ps := ["_law_source_here", "_law_options"]) Fr3 (fun _ _ _ _ _ _ us hl => match us, hl with | [_, _], _ => rfl)⟩
  have gm : GM P w K mg base := ⟨gr2, Ar3, nPair, nWish, nStretch, nMend, wWish, wStretch, wMend, eWish, eStretch, eMend⟩
  obtain ⟨fds1, Fs1⟩ := c.def_ 11 (d := ⟨("_law_source", none), "_law_source", "_law_source", defArgs (top 11), defBody (top 11), defScope (top 11), [], []⟩) rfl
  have As1 : FnAt P w K mg base CX0 1 "_law_source" ["_law_cell"] _ := ⟨_, fds1, He.glo_ok X G (c.fact 7 (f := .glo "_law_source") rfl), Fs1.kp, ok_source Fs1 g0, FunD.bindsN (ps := ["_law_cell"]) Fs1 (fun _ _ _ _ _ _ us hl => match us, hl with | [_], _ => rfl)⟩
  obtain ⟨fds2, Fs2⟩ := c.def_ 14 (d := ⟨("_law_pair", none), "_law_pair", "_law_pair", defArgs (top 14), defBody (top 14), defScope (top 14), [], []⟩) rfl
  have As2 : FnAt P w K mg base CX0 7 "_law_pair" ["_law_source_here"] _ := ⟨_, fds2, He.glo_ok X G (c.fact 10 (f := .glo "_law_pair") rfl), Fs2.kp, ok_lpair Fs2 gm, FunD.bindsN (ps := ["_law_source_here"]) Fs2 (fun _ _ _ _ _ _ us hl => match us, hl with | [_], _ => rfl)⟩
  obtain ⟨fds3, Fs3⟩ := c.def_ 15 (d := ⟨("_law_wish_right", none), "_law_wish_right", "_law_wish_right", defArgs (top 15), defBody (top 15), defScope (top 15), [], []⟩) rfl
  have As3 : FnAt P w K mg base CX0 7 "_law_wish_right" ["_law_source_here"] _ := ⟨_, fds3, He.glo_ok X G (c.fact 11 (f := .glo "_law_wish_right") rfl), Fs3.kp, ok_wish Fs3 gm, FunD.bindsN (ps := ["_law_source_here"]) Fs3 (fun _ _ _ _ _ _ us hl => match us, hl with | [_], _ => rfl)⟩
  obtain ⟨fds4, Fs4⟩ := c.def_ 16 (d := ⟨("_law_stretch_right", none), "_law_stretch_right", "_law_stretch_right", defArgs (top 16), defBody (top 16), defScope (top 16), [], []⟩) rfl
  have As4 : FnAt P w K mg base CX0 8 "_law_stretch_right" ["_law_source_here"] _ := ⟨_, fds4, He.glo_ok X G (c.fact 12 (f := .glo "_law_stretch_right") rfl), Fs4.kp, ok_stretch Fs4 gm As2, FunD.bindsN (ps := ["_law_source_here"]) Fs4 (fun _ _ _ _ _ _ us hl => match us, hl with | [_], _ => rfl)⟩
  exact ⟨gm, As1, As3, As4⟩

end L2.K51
open PySem PySem.W PySem.Calls PyProof.Rows
set_option maxRecDepth 100000 in
set_option maxHeartbeats 0 in
theorem PySem.Challenge.cw_jointkeys_k51_wishes_stretches_and_mends_holds : PySem.Challenge.rw_jointkeys_k51_wishes_stretches_and_mends.Holds := by
  w_on; o_law
  refine HandSHeadRun.head_any (r := OpenLaw.row PySem.Challenge.rw_jointkeys_k51_wishes_stretches_and_mends) (q := view (OpenLaw.row PySem.Challenge.rw_jointkeys_k51_wishes_stretches_and_mends).prog [17]) (H := L2.K51.hk) (ob := L2.K51.ob) (M := 4000) (loose := L2.K51.names) (d := HandSHeadRun.topDef (OpenLaw.row PySem.Challenge.rw_jointkeys_k51_wishes_stretches_and_mends).prog 17) (kwd := []) L2.K51.ob_eq
    (by kernel_rfl) (fun s => by kernel_rfl) L2.K51.run (by kernel_rfl) (by kernel_rfl) (by kernel_rfl) (by rfl) (by first | assumption | decide +kernel) (by decide +kernel) ⟨rfl, rfl, rfl, rfl, rfl, by decide +kernel⟩ ?hw ?hc
  case hw => w_witness2
  case hc =>
    refine L2.walk_ofE (l := PySem.Challenge.rw_jointkeys_k51_wishes_stretches_and_mends) (n := 63) (k := 9) (x := "_law_script") (CX := L2.CX0) rfl (by decide) (by kernel_rfl) ⟨rfl, by decide, by decide⟩ ?F (fun _ _ _ _ z => z)
    intro w mg fa h Y G hmg0
    obtain ⟨K, KX, c⟩ := Y
    have hmg : mg ("law" : PySem.Str) = some (.ref fa) := by
      have e : (HandSHeadRun.topDef (OpenLaw.row PySem.Challenge.rw_jointkeys_k51_wishes_stretches_and_mends).prog 17).name = ("law" : PySem.Str) := by kernel_rfl
      rw [← e]
      exact hmg0
    obtain ⟨fd, F⟩ := c.t.d.def_ 17 (d := ⟨("law", none), "law", "law", L2.defArgs L2.K51.s_law, L2.defBody L2.K51.s_law, L2.defScope L2.K51.s_law, [], []⟩) rfl
    have e := hmg.symm.trans (He.glo_ok KX G (c.t.d.fact 13 (f := .glo "law") rfl))
    cases e
    have b := L2.FunD.bindsA (ps := ["_law_script"]) F fun _ _ _ _ _ _ us hl => match us, hl with | [_], _ => rfl
    exact ⟨K, fd, L2.K51.spLaw K, KX, fun s v => b s [v] rfl, fun H a ns hl _ hS => ⟨a, ns, rfl, hS, hl, fun _ => rfl⟩, fun base _ _ => L2.K51.ok_law F (L2.K51.facts KX G c.t.d c.more)⟩
#print axioms PySem.Challenge.cw_jointkeys_k51_wishes_stretches_and_mends_holds
