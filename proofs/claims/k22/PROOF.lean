import PyProof.Rows.All
import Wide.All
import OpenK.AllK
import Wide.FinOn
import HandS.ForMost
import HandS.ForExc
import HandS.ExcInit
import HandS.ExcIs
import HandS.ExcField
import HandS.IsInst
import KE.KStateDown
import HandS.Defaults
import HandS.Head0
import HandS.Head1
import HandS.Head2
import HandS.Head3
import HandS.Head4
import HandS.HeadEnd
import HandS.HeadHook1
import HandS.HeadHook2
import HandS.HeadHook3
import HandS.HeadHook4
import HandS.Walk
import HandS.OwnEq
import PyProof.InstNe
import OpenK.KCls
import HandS.HeadWalk
import HandS.Text
import KE.KIntText
import PyProof.Rows.Digits
import KE.IntTextLaws
import PyProof.WalksS
import PyProof.StrWalks
import PyProof.EnumMake
import PyProof.Rows.SetFrom
import PyProof.SetKind
import HandS.Strs
import HandS.Rev
import HandS.Zip
import PyProof.JoinWalk
import PyProof.ListStr
import HandS.ExcOwn
import HandS.WordsExc
import HandS.StrMore
import PyProof.StrOps2
import HandS.TupAny
import KE.DatumOrd
import PyProof.EnumStmt
import PyProof.ListNew
import HandS.IterNext
import PyProof.CollectWalk
import PyProof.CallType
import PyProof.SeqWrite
import HandS.GenList
import PyProof.ListIndex
import HandS.SetKeys
import PyProof.CallFns
import HandS.TryMany
import HandS.Style
import PySem.Challenge.RW_jointkeys_k22_a_thousand_rows_and_one_mo
set_option Elab.async false
set_option linter.all false
set_option maxRecDepth 100000
set_option maxHeartbeats 4000000
/-! Own exceptions as plain values: made, their fields read, their methods called, isinstance asked of them. -/
namespace L2.Jk
open PySem PySem.W PySem.Spec PySem.Calls PyProof.Rows

/-- what an own error class says of itself, for its instances as values -/
structure ErrC (K : Frag) (C : Addr) : Prop where
  ox : OexC K C
  xf : XfC K C
  kk : findIn K (.ref C) "__class__" = some (some (.builtin "object.__class__"))
  kn : specialIn K (.builtin "object.__class__") "__get__" = some (some (.builtin "getset_descriptor.__get__"))
  kt : takesIn K (.builtin "object.__class__") = some true
  km : mroIn K C (.type "object") = some true

section
variable {prog : Program} {w : World} {A : Around} {E : Value → Shared → Prop} {s : Shared} {K : Frag} {e C f : Addr} {oe od : Obj}

/-- e.__class__ of an error with a dict of its own -/
theorem err_class {Q : Option Value → Shared → Prop} (T : ErrC K C) (X : K.In s.heap) (I : InstAt s.heap e oe C (some od)) (h : Q (some (.ref C)) { s with toks := s.toks + 1 }) :
    wpAny (model prog w) A (getAttr? (.ref e) "__class__") Q E s := by
  obtain ⟨cd, hcd, _⟩ := any_some T.xf.hdC
  have look := findObj_data (od := od) (show (clsIn K C).isSome = true by rw [hcd]; rfl) T.kk T.kn T.kt
  obtain ⟨hp, gn, dr, tk, os⟩ := s
  have lt := I.type (M := model prog w)
  have lg := looks_findIn (M := model prog w) X T.xf.ga
  have lh := looks_findIn (M := model prog w) X T.xf.gg
  have lf := looks_find (M := model prog w) X I look
  have inB : Looks (model prog w) hp (isInstance (.ref e) (.type "BaseException")) true := lt.andThen (looks_subIn X T.xf.exC)
  have n2 : (Value.builtin "BaseException.__getattribute__" == Value.builtin "object.__getattribute__") = false := by decide +kernel
  have n1 : (onTheHeap (Value.ref C) && Value.builtin "BaseException.__getattribute__" == Value.builtin "object.__getattribute__") = false := by rw [n2] <;> rfl
  unfold getAttr? getAttrBy? getAttrBy
  refine wpAny_bind (wpAny_mkText (wpAny_bind (wpAny_attempt (wpAny_holding (wpAny_bind (lt.at (wpAny_bind (lg.at ?_))))))))
  show wpAny _ _ (if (onTheHeap (Value.ref C) && Value.builtin "BaseException.__getattribute__" == Value.builtin "object.__getattribute__") = true then _ else _) _ _ _
  rw [n1, if_neg Bool.false_ne_true]
  unfold getAttrByItsOwn hookBefore
  refine wpAny_bind ?_
  rw [if_pos (show onTheHeap (Value.ref C) = true from rfl)]
  refine lh.at (wpAny_bind (wpAny_attempt (wpAny_holding ?_)))
  unfold callGetattribute
  rw [show (false && onTheHeap (Value.builtin "BaseException.__getattribute__")) = false from rfl, if_neg Bool.false_ne_true]
  unfold boundAndCalled
  rw [PySem.F.excAttr_ValueError.ga.bind (.ref e)]
  refine wpAny_bind (wpAny_pure ?_)
  show wpAny _ _ (call (.builtin "BaseException.__getattribute__") [.ref e, .str "__class__" tk]) _ _ _
  refine wpAny_call (codeAny_call_builtin PySem.F.excAttr_ValueError.ga.plain PySem.F.entry_bexc_ga ?_)
  refine @check_slot (model prog w) _ _ ⟨hp, gn, dr, tk + 1, os⟩ "BaseException.__getattribute__" "BaseException" "__getattribute__" (.ref e) [.str "__class__" tk] [] _
    (by decide +kernel) (by decide +kernel) inB (PySem.F.args_bexc_ga (.ref e) (.str "__class__" tk)) ?_
  unfold Builtin.«object.__getattribute__»
  refine wpAny_bind (wpAny_of_eq (a := ((Value.ref e : Value), [Value.str "__class__" tk])) (by first | rfl | (simp only [slotArgs]; rfl)) ?_)
  refine wpAny_bind (wpAny_pure (wpAny_bind (lt.at (wpAny_bind (lf.at ?_)))))
  show wpAny _ _ (holding [Value.builtin "object.__class__"] (call (.builtin "getset_descriptor.__get__") [.builtin "object.__class__", .ref e, .ref C]) >>= ret) _ _ _
  refine wpAny_bind (wpAny_holding (wpAny_call (class_get (s := ⟨hp, gn, dr, tk + 1, os⟩) (ox := oe) (od := some od) X I T.km ?_)))
  refine wpAny_pure ?_
  show wpAny _ _ (handedOut (.ref C)) _ _ _
  rw [handedOut_of (v := .ref C) rfl]
  first
    | exact wpAny_pure (wpAny_pure h)
    | exact wpAny_pure h
    | exact wpAny_pure (wpAny_bind (wpAny_pure (wpAny_pure h)))
/-- isinstance may be asked of it -/
theorem err_kit (T : ErrC K C) : KitX K (.ref e) (.ref C) (fun h => ∃ o d, InstAt h e o C (some d)) where
  ty := fun _ _ _ ⟨_, _, I⟩ => I.type
  it := fun _ _ X _ => by
    obtain ⟨cd, hc, _⟩ := any_some T.xf.hdC
    unfold clsIn at hc
    split at hc
    · rename_i ho
      intro _ _ _ _ k q
      unfold isType loadHead
      exact wpAny_bind (wpAny_loadPart (k _ _ (X _ _ ho)) (wpAny_pure q))
    · cases hc
  ne := fun h tp dd its n sl X htp => by
    obtain ⟨cd, hc, _⟩ := any_some T.xf.hdC
    refine Bool.eq_false_iff.mpr fun q => ?_
    have z : C = tp := Value.ref.inj (beq_iff_eq.mp q)
    subst z
    unfold clsIn at hc
    split at hc
    · rename_i ho
      have y := (X _ _ ho).symm.trans htp
      cases y
    · cases hc
  ca := fun X ⟨_, _, I⟩ k => err_class T X I k

/-- the method of an error, found in its class -/
theorem err_meth {name : Str} {pl : Sem Bool} {Q : Value × List Value → Shared → Prop} (T : ErrC K C) (X : K.In s.heap) (I : InstAt s.heap e oe C (some od))
    (hf : findIn K (.ref C) name = some (some (.ref f))) (ht : isFn K (.ref f) = true) (hs : shadowIn (some od) name = some false) (h : Q (.ref f, [.ref e]) s) :
    wpAny (model prog w) A (getMethod (.ref e) name pl) Q E s := by
  have cn : Manifest.canonical "BaseException.__getattribute__" = "object.__getattribute__" := by first | kernel_rfl | decide +kernel
  obtain ⟨r, ra, rb⟩ := Option.map_eq_some_iff.mp hs
  have dd := I.dict
  unfold getMethod specialOf
  refine wpAny_bind (wpAny_bind (I.type.here ((looks_findIn X T.xf.ga).here ?_)))
  dsimp only
  rw [cn, if_neg (by decide)]
  refine wpAny_bind (wpAny_bind (I.type.here ((looks_findIn X T.xf.gg).here ?_)))
  refine wpAny_bind (wpAny_bind (I.type.here ((looks_findIn X hf).here (wpAny_bind ((looks_typeIn X (beq_iff_eq.mp ht)).here ?_)))))
  rw [if_neg (by decide +kernel)]
  refine wpAny_bind (wpAny_loadPart I.at_ ?_)
  cases q : oe.dict with
  | none => exact wpAny_bind (wpAny_rule (wpAny_pure h))
  | some dx =>
    rw [q] at dd
    refine wpAny_bind (wpAny_bind (wpAny_loadPart dd ?_))
    rw [nsLook_of ra]
    refine wpAny_pure ?_
    rw [rb]
    exact wpAny_bind (wpAny_rule (wpAny_pure h))
end

section
variable {X : Cx} {pins : List (Addr × Obj)} {σ : St} {H : Hp} {s : Shared} {C a d : Addr} {fs : List (Str × V)}
/-- an error as the heap holds it -/
theorem err_at (I : Inv X pins σ H s) (ha : H a = some (exo a C (some d))) (hd : H d = some (exd d fs)) :
    ∃ o od mA, InstAt s.heap a o C (some od) ∧ s.heap.Ns1 d mA ∧ (∀ f, RelO (fs.lookup f) (mA f)) ∧ s.heap.get? d = some od ∧ ∀ f, lookIn f od = some (mA f) := by
  obtain ⟨t1, ho⟩ := exo_at I.hok ha
  obtain ⟨mA, hn, r⟩ := exd_at I.hok hd
  obtain ⟨od, hod, hl⟩ := lookIn_ns hn
  exact ⟨_, od, mA, ⟨ho, rfl, rfl, hod⟩, hn, r, hod, hl⟩
/-- e.f of an error -/
def tEf (K : Frag) (f : Str) (te : TE) : TE := fun σ H Q => te σ H fun x H1 => ∃ (a C d : Addr) (fs : List (Str × V)) (v : V), x = .ref a ∧ ErrC K C ∧ findIn K (.ref C) f = some none ∧
  H1 a = some (exo a C (some d)) ∧ H1 d = some (exd d fs) ∧ fs.lookup f = some v ∧ Q v H1
theorem pe_ef {e : Expr} {te : TE} {pos : Pos} {n : Str} (he : PE X e te) (hb : attributeBase e n X.env (eval e X.env) = eval e X.env := by rfl) :
    PE X (.Attribute e n pos) (tEf X.K n te) := by
  refine ⟨fun pins s σ H Q I h => ?_⟩
  refine attr_of hb (thn (he.run pins s σ H _ I h) fun u s1 hh => ?_)
  obtain ⟨x, H1, I1, rx, a, C, d, fs, v, ex, T, hno, ha, hd, l, q⟩ := hh
  subst ex
  obtain rfl : u = Value.ref a := rx
  obtain ⟨o, od, mA, J, hn, r, hod, hl⟩ := err_at I1 ha hd
  obtain ⟨u, hu, ru⟩ := RelO.some_of (v := v) (o := mA n) (by rw [← l]; exact r n)
  exact HandSPX.exc_get I1.kIn J T.xf.ga T.xf.gg T.xf.exC (findObj_own T.xf.hdC hno rfl (by rw [hl, hu])) (handed_of ru) ⟨v, H1, I1.tok _, ru, q⟩
/-- what a def promises, met when it is called: which def it is shows in the heap -/
def Does (X : Cx) (CX : CXT) (f : Addr) (vs : List V) (H : Hp) (Q : VK) (E : XK) : Prop :=
  ∃ (k : Nat) (fd : FuncData) (ps : List Str) (sp : Sp), keepIn X.K (.ref f) = true ∧ FnOk X.prog X.w X.K X.mg X.base CX k f fd ps sp ∧ Room k X.A ∧ Binds X.K fd ps [] ∧ sp vs H Q E
/-- e.m() of an error -/
def tEm0 (X : Cx) (CX : CXT) (m : Str) (E : XK) (te : TE) : TE := fun σ H Q => te σ H fun x H1 => ∃ (a C d f : Addr) (fs : List (Str × V)), x = .ref a ∧ ErrC X.K C ∧
  H1 a = some (exo a C (some d)) ∧ H1 d = some (exd d fs) ∧ fs.lookup m = none ∧ findIn X.K (.ref C) m = some (some (.ref f)) ∧ isFn X.K (.ref f) = true ∧ Does X CX f [.ref a] H1 Q E
theorem pe_em0 {CX : CXT} {E : XK} {o : Expr} {m : Str} {ta : TE} {apos pos : Pos} {pl : Sem Bool} (he : PE X o ta) (hx : Passes CX X E)
    (ht : eval (.Call (.Attribute o m apos) [] [] pos) X.env = (do
      let ov ← eval o X.env
      standAt apos.atName
      let (f, first) ← holding [ov] (getMethod ov m pl)
      callWith pos f first (backTo pos (starEach [] X.env)) (backToKw pos (keywordEach [] X.env))) := by rfl) :
    PE X (.Call (.Attribute o m apos) [] [] pos) (tEm0 X CX m E ta) := by
  refine ⟨fun pins s σ H Q I h => ?_⟩
  refine methodCall_KW (pl := pl) (thn (he.run pins s σ H _ I h) fun u s1 hh => ?_) ht
  obtain ⟨x, H1, I1, rx, a, C, d, f, fs, ex, T, ha, hd, l, hf, hfn, k, fd, ps, sp, kp, F, hr, hb, q⟩ := hh
  subst ex
  obtain rfl : u = Value.ref a := rx
  obtain ⟨o, od, mA, J, hn, r, hod, hl⟩ := err_at I1 ha hd
  have hno : mA m = none := RelO.none_of (by rw [← l]; exact r m)
  refine err_meth T I1.kIn J hf hfn (by show (lookIn m od).map _ = _; rw [hl, hno]; rfl) ?_
  exact callWith_K0 (first := [.ref a]) I1.kIn kp (run_fn (us := [.ref a]) (vs := [.ref a]) F hr hb .nil hx I1 (.cons rfl .nil) q)
/-- C(e, ..), an own error made and kept -/
def tMkE (C : Addr) (sp : Sp) (ta : TA) : TE := fun σ H Q => ta σ H fun vs H1 => vs.length ≤ 1000 ∧ ∀ a, H1 a = none → sp (.ref a :: vs) (upd H1 a (exo a C none)) (fun v H2 => v = .non ∧ Q (.ref a) H2) (fun _ _ _ => False)
theorem run_mkE {CX : CXT} {fI : Addr} {k : Nat} {fd : FuncData} {ps : List Str} {sp : Sp} {us : List Value} {vs : List V} {Q : VK} (T : OexC X.K C) (iC : findIn X.K (.ref C) "__init__" = some (some (.ref fI))) (tI : typeIn X.K (.ref fI) = some (.type "function"))
    (F1 : FnOk X.prog X.w X.K X.mg X.base CX k fI fd ps sp) (hr : Room (k + 1) X.A) (hb : Binds X.K fd ps []) (hx : Passes CX X (fun _ _ _ => False)) (I1 : Inv X pins σ H s) (r1 : Vals vs us) (hz : vs.length ≤ 1000)
    (q1 : ∀ a, H a = none → sp (.ref a :: vs) (upd H a (exo a C none)) (fun v H2 => v = .non ∧ Q (.ref a) H2) (fun _ _ _ => False)) :
    wpAny (model X.prog X.w) X.A (call (.ref C) us) (EP X pins σ Q) X.xe s := by
  obtain ⟨nm, q, N, bs, bm, sn, sub, ab, col, dd, k0, k1, k2, k3, k5, hC, hbm⟩ := T.cls
  obtain ⟨hp, g, dr, tk, os⟩ := s
  have sz : hp.objs.size ≤ hp.objs.size + 1 := Nat.le_succ _
  have fresh : H (hp.objs.size + 1) = none := I1.hok.fresh sz
  have pr := q1 (hp.objs.size + 1) fresh
  have keep : ∀ b o, hp.get? b = some o → ((hp.push (kdv_tup us)).push (HandSPX.excO C hp.objs.size)).get? b = some o := fun b o e => Heap.get?_push_of_some _ (Heap.get?_push_of_some _ e)
  have there : ((hp.push (kdv_tup us)).push (HandSPX.excO C hp.objs.size)).get? (hp.objs.size + 1) = some (HandSPX.excO C hp.objs.size) := by heap_get
  have I2 : Inv X pins σ (upd H (hp.objs.size + 1) (exo (hp.objs.size + 1) C none)) ⟨(hp.push (kdv_tup us)).push (HandSPX.excO C hp.objs.size), g, dr, tk, os⟩ :=
    I1.laid (t' := tk) (a := hp.objs.size + 1) (o := exo (hp.objs.size + 1) C none) (h' := (hp.push (kdv_tup us)).push (HandSPX.excO C hp.objs.size)) keep sz (exo_ok there)
  have r2 : Vals (V.ref (hp.objs.size + 1) :: vs) (Value.ref (hp.objs.size + 1) :: us) := .cons rfl r1
  have hl : (Value.ref (hp.objs.size + 1) :: us ++ []).length = ps.length := by
    rw [List.append_nil, ← r2.length]
    exact F1.len _ _ _ _ pr
  have hus : us.length ≤ sizeLine := by
    rw [← Paired.length r1, sizeLine_eq]
    omega
  have hb' := hb ⟨(hp.push (kdv_tup us)).push (HandSPX.excO C hp.objs.size), g, dr, tk, os⟩ (Value.ref (hp.objs.size + 1) :: us) I2.kIn hl
  rw [List.append_nil] at hb'
  refine wpAny_call (HandSPX.call_own F.excBase_ValueError (fun Y => HandSPX.refsVE_contains Y bm hbm) (I1.kIn _ _ hC) (looks_findIn I1.kIn iC) (fun self => bind_fn I1.kIn self tI) hus
    (codeAny_mono (F1.run _ X.stack _ _ ⟨Value.ref (hp.objs.size + 1) :: us, []⟩ (Value.ref (hp.objs.size + 1) :: us) _ _ (fun _ _ _ => False) (hr.make C us []) (I2.env0.make C us []) hb' r2 pr) fun r s' hq' => ?_))
  cases r with
  | error er => exact hx pins σ _ _ er s' I2 hq'
  | ok fl =>
    cases fl with
    | ret u =>
      obtain ⟨v, H2, I3, rv, ev, q3⟩ := I2.after hq'
      subst ev
      -- nothing was tracked at the new place
      exact ⟨rv, ⟨V.ref (hp.objs.size + 1), H2, I3, rfl, q3⟩⟩
    | next => exact False.elim hq'
    | brk => exact False.elim hq'
    | cont => exact False.elim hq'
theorem pe_mkE {CX : CXT} {x : Str} {fI : Addr} {k : Nat} {fd : FuncData} {ps : List Str} {sp : Sp} {e : Expr} {es : List Expr} {ta : TA} {p pos : Pos} (T : OexC X.K C) (iC : findIn X.K (.ref C) "__init__" = some (some (.ref fI))) (tI : typeIn X.K (.ref fI) = some (.type "function"))
    (F1 : FnOk X.prog X.w X.K X.mg X.base CX k fI fd ps sp) (hr : Room (k + 1) X.A) (hb : Binds X.K fd ps []) (hx : Passes CX X (fun _ _ _ => False)) (hg : Gl X x) (hm : X.mg x = some (.ref C)) (ha : PA X (e :: es) ta)
    (hdb : (x == ("__debug__" : Str)) = false := by decide) (he : starEach (e :: es) X.env = (false, eval e X.env) :: starEach es X.env := by rfl) (hpl : (backTo pos (starEach es X.env)).any (·.1) = false := by rfl) :
    PE X (.Call (.Name x p) (e :: es) [] pos) (tMkE C sp ta) := by
  refine ⟨fun pins s σ H Q I h => ?_⟩
  refine wpAny_Call_Name_kw (ld_glob I hg hm ?_ hdb)
  refine callWith_K (h₀ := X.base) I.ok.mod.kin T.kC (thn (ha.run pos pins s σ H _ I h) fun us s1 ⟨vs, H1, I1, r1, hz, q1⟩ => ⟨I1.kIn, ?_⟩) he hpl
  exact run_mkE T iC tI F1 hr hb hx I1 r1 hz q1
/-- a value's type, an error's too -/
inductive TyE (K : Frag) (H : Hp) : V → Value → Prop where
  | x {x : V} {t : Value} (h : TyX K H x t) : TyE K H x t
  | err {a C d : Addr} {fs : List (Str × V)} (T : ErrC K C) (ha : H a = some (exo a C (some d))) (hd : H d = some (exd d fs)) : TyE K H (.ref a) (.ref C)
theorem kit_ofE {x : V} {u t : Value} (I : Inv X pins σ H s) (rx : RelV x u) (ty : TyE X.K H x t) : ∃ P : Heap → Prop, KitX X.K u t P ∧ P s.heap ∧ u ≠ .builtin "__main__.__loader__#opaque" := by
  cases ty with
  | x h => exact kit_of I rx h
  | err T ha hd =>
    cases (show u = Value.ref _ from rx)
    obtain ⟨o, od, mA, J, _⟩ := err_at I ha hd
    exact ⟨_, err_kit T, ⟨o, od, J⟩, fun z => nomatch z⟩
def rIe (K : Frag) : List V → Hp → VK → Prop := fun xs H Q => ∃ (x c : V) (t u : Value) (b : Bool), xs = [x, c] ∧ ClsV c u ∧ TyE K H x t ∧ kitOne K t u = some b ∧ Q (.bl b) H
def rIeT (K : Frag) : List V → Hp → VK → Prop := fun xs H Q => ∃ (x : V) (tp : Addr) (cs : List V) (t : Value) (us : List Value) (b : Bool), xs = [x, .ref tp] ∧ H tp = some (.tup cs) ∧ Paired ClsV cs us ∧ TyE K H x t ∧ kitAny K t us = some b ∧ Q (.bl b) H
theorem call_ie : CallR X (.builtin "isinstance") (rIe X.K) := by
  intro pins s σ H xs us Q I r h
  obtain ⟨x, c, t, u, b, rfl, k, ty, e, q⟩ := h
  obtain ⟨u1, u2, rfl, r1, r2⟩ := vals2 r
  obtain rfl := k.eq r2
  obtain ⟨P, Z, p, hx⟩ := kit_ofE I r1 ty
  exact kia_one Z I.kIn p e hx fun tk => ⟨.bl b, H, I.tok tk, rfl, q⟩
theorem call_ieT : CallR X (.builtin "isinstance") (rIeT X.K) := by
  intro pins s σ H xs us Q I r h
  obtain ⟨x, tp, cs, t, ws, b, rfl, hT, k, ty, e, q⟩ := h
  obtain ⟨u1, u2, rfl, r1, r2⟩ := vals2 r
  cases (show u2 = Value.ref tp from r2)
  obtain ⟨P, Z, p, hx⟩ := kit_ofE I r1 ty
  obtain ⟨_, its, rv, o, h1, h2, n, h3⟩ := (show ObjOk X.prog X.w H s.heap tp (.tup cs) from I.hok tp _ hT)
  obtain rfl := ClsV.all k rv
  obtain ⟨oc, od, dt, sl⟩ := o
  dsimp only at h2 h3
  subst h2 h3
  exact kia_tup Z I.kIn p h1 e hx fun tk => ⟨.bl b, H, I.tok tk, rfl, q⟩
end
end L2.Jk

set_option Elab.async false
set_option linter.all false
set_option maxRecDepth 100000
set_option maxHeartbeats 4000000
/-! Defs and error classes as the head tells them; calls of them. -/
namespace L2.Jk
open PySem PySem.W PySem.Spec PySem.Calls PyProof.Rows

/-! ### what the head says of an error class, by one Bool -/
def oexB (K : Frag) (C : Addr) : Bool := (match K.lookup C with
  | some ⟨.type "type", _, .cls cd, sl⟩ => (match cd.mro, sl.toList with
    | .ref D :: bm, [_, _, _, _, some (.builtin n), _] => decide (D = C) && (decide (n = "ValueError.__new__") && (HandSPX.refsVE bm && (cd.hasDict && !cd.hasDel)))
    | _, _ => false)
  | _ => false) && (He.eqO (findIn K (.ref C) "__setattr__") (some (some (.builtin "object.__setattr__"))) && (decide (subIn K (.ref C) (.type "BaseException") = some true) &&
    (decide (typeIn K (.ref C) = some (.type "type")) && keepIn K (.ref C))))
theorem oexB_ok {K : Frag} {C : Addr} (h : oexB K C = true) : OexC K C := by
  obtain ⟨h1, h⟩ := Bool.and_eq_true_iff.mp h
  obtain ⟨h2, h⟩ := Bool.and_eq_true_iff.mp h
  obtain ⟨h3, h⟩ := Bool.and_eq_true_iff.mp h
  obtain ⟨h4, h5⟩ := Bool.and_eq_true_iff.mp h
  refine ⟨?_, He.eqO_ok h2, of_decide_eq_true h3, of_decide_eq_true h4, h5⟩
  split at h1
  · rename_i dd cd sl ho
    split at h1
    · rename_i D bm k0 k1 k2 k3 n k5 hm hs
      obtain ⟨a1, h1⟩ := Bool.and_eq_true_iff.mp h1
      obtain ⟨a2, h1⟩ := Bool.and_eq_true_iff.mp h1
      obtain ⟨a3, h1⟩ := Bool.and_eq_true_iff.mp h1
      obtain ⟨a4, a5⟩ := Bool.and_eq_true_iff.mp h1
      obtain rfl := of_decide_eq_true a1
      obtain rfl := of_decide_eq_true a2
      obtain ⟨nm, bs, mro, ns, qn, hd, sn, sub, ab, col, del⟩ := cd
      dsimp only at hm a4 a5
      subst hm
      subst a4
      obtain rfl : del = false := by cases del <;> first | rfl | cases a5
      have e : sl = #[k0, k1, k2, k3, some (.builtin "ValueError.__new__"), k5] := by
        obtain ⟨l⟩ := sl
        dsimp only at hs
        rw [hs]
      subst e
      exact ⟨nm, qn, ns, bs, bm, sn, sub, ab, col, dd, k0, k1, k2, k3, k5, ho, a3⟩
    · cases h1
  · cases h1
def errB (K : Frag) (C : Addr) (fs ms : List Str) : Bool := oexB K C && (xfB K C && (He.eqO (findIn K (.ref C) "__class__") (some (some (.builtin "object.__class__"))) &&
  (He.eqO (specialIn K (.builtin "object.__class__") "__get__") (some (some (.builtin "getset_descriptor.__get__"))) && (decide (takesIn K (.builtin "object.__class__") = some true) && (decide (mroIn K C (.type "object") = some true) &&
  ((fs.all fun f => He.eqO (findIn K (.ref C) f) (some none)) && ((ms.all fun m => He.eqO (findIn K (.ref C) m) (some (some (.ref (He.ma K C m)))) && isFn K (.ref (He.ma K C m))))))))))
structure ErrX (K : Frag) (C : Addr) (fs ms : List Str) : Prop where
  ec : ErrC K C
  no : ∀ f ∈ fs, findIn K (.ref C) f = some none
  me : ∀ m ∈ ms, findIn K (.ref C) m = some (some (.ref (He.ma K C m))) ∧ isFn K (.ref (He.ma K C m)) = true
theorem errB_ok {K : Frag} {C : Addr} {fs ms : List Str} (h : errB K C fs ms = true) : ErrX K C fs ms := by
  obtain ⟨h1, h⟩ := Bool.and_eq_true_iff.mp h
  obtain ⟨h2, h⟩ := Bool.and_eq_true_iff.mp h
  obtain ⟨h3, h⟩ := Bool.and_eq_true_iff.mp h
  obtain ⟨h4, h⟩ := Bool.and_eq_true_iff.mp h
  obtain ⟨h5, h⟩ := Bool.and_eq_true_iff.mp h
  obtain ⟨h6, h⟩ := Bool.and_eq_true_iff.mp h
  obtain ⟨h7, h8⟩ := Bool.and_eq_true_iff.mp h
  refine ⟨⟨oexB_ok h1, xfB_ok h2, He.eqO_ok h3, He.eqO_ok h4, of_decide_eq_true h5, of_decide_eq_true h6⟩, fun f hf => He.eqO_ok (List.all_eq_true.mp h7 f hf), fun m hm => ?_⟩
  obtain ⟨a, b⟩ := Bool.and_eq_true_iff.mp (List.all_eq_true.mp h8 m hm)
  exact ⟨He.eqO_ok a, b⟩

/-! ### a def of the module, called by its name -/
structure FnAt (P : Program) (w : World) (K : Frag) (mg : Str → Option Value) (base : Heap) (CX : CXT) (k : Nat) (x : Str) (ps : List Str) (sp : Sp) : Prop where
  ex : ∃ (f : Addr) (fd : FuncData), mg x = some (.ref f) ∧ keepIn K (.ref f) = true ∧ FnOk P w K mg base CX k f fd ps sp ∧ Binds K fd ps []
section
variable {X : Cx} {CX : CXT} {k : Nat} {x : Str} {ps : List Str} {sp : Sp} {E : XK} {e : Expr} {es : List Expr} {t : TA} {p pos : Pos}
theorem pe_fn (G : FnAt X.prog X.w X.K X.mg X.base CX k x ps sp) (hr : Room k X.A) (hx : Passes CX X E) (hg : Gl X x) (ha : PA X (e :: es) t)
    (hdb : (x == ("__debug__" : Str)) = false := by decide) (he : starEach (e :: es) X.env = (false, eval e X.env) :: starEach es X.env := by rfl) (hpl : (backTo pos (starEach es X.env)).any (·.1) = false := by rfl) :
    PE X (.Call (.Name x p) (e :: es) [] pos) (tCall sp [] E t) := by
  obtain ⟨f, fd, hm, kp, F, hb⟩ := G.ex
  exact pe_call F hr hg hm kp hb .nil hx ha hdb he hpl
end
/-! ### an error class, its instances as values -/
/-- at a: an error of the class at C, its dict at d holds fs -/
def mkE (H : Hp) (a C d : Addr) (fs : List (Str × V)) : Hp := upd (upd H d (exd d fs)) a (exo a C (some d))
/-- __init__(self, f): self.f = f -/
def spI1 (C : Addr) (f : Str) : Sp := fun vs H Q _ => ∃ (a : Addr) (v : V), vs = [.ref a, v] ∧ H a = some (exo a C none) ∧ ∀ d, H d = none → d ≠ a → Q .non (mkE H a C d [(f, v)])
def spI2 (C : Addr) (f g : Str) : Sp := fun vs H Q _ => ∃ (a : Addr) (v u : V), vs = [.ref a, v, u] ∧ H a = some (exo a C none) ∧ ∀ d, H d = none → d ≠ a → Q .non (mkE H a C d [(g, u), (f, v)])
def spS (z : Str) : Sp := fun vs H Q _ => ∃ v, vs = [v] ∧ Q (.str z) H
theorem mkE_new {H : Hp} {a C d : Addr} {fs : List (Str × V)} (ne : d ≠ a) : mkE (upd H a (exo a C none)) a C d fs = mkE H a C d fs := by
  funext b
  unfold mkE
  by_cases h : b = a
  · rw [h, upd_same, upd_same]
  · rw [upd_ne h, upd_ne h]
    by_cases h2 : b = d
    · rw [h2, upd_same, upd_same]
    · rw [upd_ne h2, upd_ne h2, upd_ne h]
/-- an error as a value -/
def ErrV (H : Hp) (v : V) (C : Addr) (fs : List (Str × V)) : Prop := ∃ a d, v = .ref a ∧ H a = some (exo a C (some d)) ∧ H d = some (exd d fs)
theorem ErrV.same {H H' : Hp} {v : V} {C : Addr} {fs : List (Str × V)} (h : ErrV H v C fs) (s : Same H H') : ErrV H' v C fs := by
  obtain ⟨a, d, e, h1, h2⟩ := h
  exact ⟨a, d, e, s _ _ h1, s _ _ h2⟩
theorem mkE_same {H : Hp} {a C d : Addr} {fs : List (Str × V)} (ha : H a = none) (hd : H d = none) : Same H (mkE H a C d fs) := fun b o e => by
  unfold mkE
  rw [upd_ne (ne_of_none e ha), upd_ne (ne_of_none e hd)]
  exact e
theorem mkE_err {H : Hp} {a C d : Addr} {fs : List (Str × V)} (ne : d ≠ a) : ErrV (mkE H a C d fs) (.ref a) C fs :=
  ⟨a, d, rfl, upd_same, by unfold mkE; rw [upd_ne ne, upd_same]⟩
def IniOk (P : Program) (w : World) (K : Frag) (mg : Str → Option Value) (base : Heap) (C : Addr) (fs : List Str) (fd : FuncData) : Prop := match fs with
  | [f] => FnOk P w K mg base CX0 1 (He.ma K C "__init__") fd ["self", f] (spI1 C f)
  | [f, g] => FnOk P w K mg base CX0 1 (He.ma K C "__init__") fd ["self", f, g] (spI2 C f g)
  | _ => False
/-- the class x, its __init__ (f or f, g), its told -/
structure ErrAt (P : Program) (w : World) (K : Frag) (mg : Str → Option Value) (base : Heap) (x : Str) (C : Addr) (fs : List Str) (z : Str) : Prop where
  mgC : mg x = some (.ref C)
  ex : ErrX K C fs ["told"]
  ini : findIn K (.ref C) "__init__" = some (some (.ref (He.ma K C "__init__"))) ∧ typeIn K (.ref (He.ma K C "__init__")) = some (.type "function")
  iok : ∃ fd, Binds K fd ("self" :: fs) [] ∧ IniOk P w K mg base C fs fd
  tok : ∃ fd, Binds K fd ["self"] [] ∧ keepIn K (.ref (He.ma K C "told")) = true ∧ FnOk P w K mg base CX0 1 (He.ma K C "told") fd ["self"] (spS z)
/-- the fields of an error that is made, as its dict holds them -/
def fldE : List Str → List V → List (Str × V)
  | [f], [v] => [(f, v)]
  | [f, g], [v, u] => [(g, u), (f, v)]
  | _, _ => []
def tErr (C : Addr) (fs : List Str) (ta : TA) : TE := fun σ H Q => ta σ H fun vs H1 => vs.length = fs.length ∧ ∀ v H2, Same H1 H2 → ErrV H2 v C (fldE fs vs) → Q v H2
section
variable {X : Cx} {x z : Str} {C : Addr} {fs : List Str} {e : Expr} {es : List Expr} {ta : TA} {p pos : Pos}
theorem pe_err (T : ErrAt X.prog X.w X.K X.mg X.base x C fs z) (hr : Room 2 X.A) (hx : Passes CX0 X (fun _ _ _ => False)) (hg : Gl X x) (ha : PA X (e :: es) ta)
    (hdb : (x == ("__debug__" : Str)) = false := by decide) (he : starEach (e :: es) X.env = (false, eval e X.env) :: starEach es X.env := by rfl) (hpl : (backTo pos (starEach es X.env)).any (·.1) = false := by rfl) :
    PE X (.Call (.Name x p) (e :: es) [] pos) (tErr C fs ta) := by
  obtain ⟨fd, hb, iok⟩ := T.iok
  refine ⟨fun pins s σ H Q I h => ?_⟩
  refine wpAny_Call_Name_kw (ld_glob I hg T.mgC ?_ hdb)
  refine callWith_K (h₀ := X.base) I.ok.mod.kin T.ex.ec.ox.kC (thn (ha.run pos pins s σ H _ I h) fun us s1 ⟨vs, H1, I1, r1, hz, q1⟩ => ⟨I1.kIn, ?_⟩) he hpl
  have ox := T.ex.ec.ox
  have i1 := T.ini.1
  have i2 := T.ini.2
  clear T
  match fs, vs, iok, hz, hb, q1 with
  | [f], [v], iok, _, hb, q1 =>
    exact run_mkE ox i1 i2 iok hr hb hx I1 r1 (by show 1 ≤ 1000; decide) fun a ha1 => ⟨a, v, rfl, upd_same, fun d hd ne => ⟨rfl, by
      rw [upd_ne ne] at hd
      rw [mkE_new ne]
      exact q1 _ _ (mkE_same ha1 hd) (mkE_err ne)⟩⟩
  | [f, g], [v, u], iok, _, hb, q1 =>
    exact run_mkE ox i1 i2 iok hr hb hx I1 r1 (by show 2 ≤ 1000; decide) fun a ha1 => ⟨a, v, u, rfl, upd_same, fun d hd ne => ⟨rfl, by
      rw [upd_ne ne] at hd
      rw [mkE_new ne]
      exact q1 _ _ (mkE_same ha1 hd) (mkE_err ne)⟩⟩
end

/-! ### the bodies of such a class's methods -/
section
variable {P : Program} {w : World} {K : Frag} {mg : Str → Option Value} {base : Heap} {x qual f g z : Str} {pa : Arguments} {sc : Scope} {dvs : List V} {kws : List (Str × V)} {fA : Addr} {fd : FuncData} {C : Addr} {p1 p2 p3 p4 q1 q2 q3 q4 : Pos} {j : Nat}
theorem ok_told {kk} (F : FunD K x qual pa [.Return (some (.Constant (.str z) kk p1)) p2] sc dvs kws fA fd) (S : FnScope ["self"] ["self"] sc) : FnOk P w K mg base CX0 1 fA fd ["self"] (spS z) := by
  refine F.ok S (fun vs H Q E h => ?_) (fun cdv A outer s H vs Q E hr h => ⟨_, PSs.nox (pss_one (ps_ret pe_str)), ?_⟩)
  · obtain ⟨v, rfl, _⟩ := h
    rfl
  · obtain ⟨v, rfl, q⟩ := h
    exact q
theorem ok_init1 (F : FunD K x qual pa [.Assign [.Attribute (.Name "self" p1) f p2] (.Name f p3) p4] sc dvs kws fA fd) (S : FnScope ["self", f] ["self", f] sc) (T : ErrX K C [f] ["told"])
    (ls : sc.names.lookup ("self" : Str) = some NameKind.local) (lf : sc.names.lookup f = some NameKind.local) (d1 : (f == ("__debug__" : Str)) = false) (d2 : (f == ("__classdict__" : Str)) = false) : FnOk P w K mg base CX0 1 fA fd ["self", f] (spI1 C f) := by
  refine F.ok S (fun vs H Q E h => ?_) (fun cdv A outer s H vs Q E hr h => ⟨_, PSs.nox (pss_one (ps_ost (pe_var (i := 0) rfl (.inl ls)) (pe_var (i := 1) rfl (.inl lf) d1 d2))), ?_⟩)
  · obtain ⟨a, v, rfl, _⟩ := h
    rfl
  · obtain ⟨a, v, rfl, ha, q⟩ := h
    exact ⟨_, rfl, _, rfl, a, C, rfl, T.ec.ox, T.no f (List.mem_singleton_self _), .inl ⟨ha, q⟩⟩
theorem ok_init2 (F : FunD K x qual pa [.Assign [.Attribute (.Name "self" p1) f p2] (.Name f p3) p4, .Assign [.Attribute (.Name "self" q1) g q2] (.Name g q3) q4] sc dvs kws fA fd) (S : FnScope ["self", f, g] ["self", f, g] sc) (T : ErrX K C [f, g] ["told"])
    (ls : sc.names.lookup ("self" : Str) = some NameKind.local) (lf : sc.names.lookup f = some NameKind.local) (d1 : (f == ("__debug__" : Str)) = false) (d2 : (f == ("__classdict__" : Str)) = false)
    (lg : sc.names.lookup g = some NameKind.local) (d3 : (g == ("__debug__" : Str)) = false) (d4 : (g == ("__classdict__" : Str)) = false) : FnOk P w K mg base CX0 1 fA fd ["self", f, g] (spI2 C f g) := by
  refine F.ok S (fun vs H Q E h => ?_) (fun cdv A outer s H vs Q E hr h => ⟨_, PSs.nox (pss_cons (ps_ost (pe_var (i := 0) rfl (.inl ls)) (pe_var (i := 1) rfl (.inl lf) d1 d2))
    (pss_one (ps_ost (pe_var (i := 0) rfl (.inl ls)) (pe_var (i := 2) rfl (.inl lg) d3 d4)))), ?_⟩)
  · obtain ⟨a, v, u, rfl, _⟩ := h
    rfl
  · obtain ⟨a, v, u, rfl, ha, q⟩ := h
    refine ⟨_, rfl, _, rfl, a, C, rfl, T.ec.ox, T.no f (List.mem_cons_self ..), .inl ⟨ha, fun d hd ne => ?_⟩⟩
    refine ⟨_, rfl, _, rfl, a, C, rfl, T.ec.ox, T.no g (List.mem_cons_of_mem _ (List.mem_singleton_self _)), .inr ⟨d, _, upd_same, by rw [upd_ne ne, upd_same], by show 1 ≤ 900; decide, ?_⟩⟩
    have z := q d hd ne
    have e : mkE H a C d [(g, u), (f, v)] = upd (upd (upd H d (exd d [(f, v)])) a (exo a C (some d))) d (exd d [(g, u), (f, v)]) := by
      funext b
      unfold mkE
      by_cases h1 : b = a
      · rw [h1, upd_same, upd_ne (Ne.symm ne), upd_same]
      · by_cases h2 : b = d
        · rw [h2, upd_ne ne, upd_same, upd_same]
        · rw [upd_ne h1, upd_ne h2, upd_ne h2, upd_ne h1, upd_ne h2]
    rw [e] at z
    exact z
end
end L2.Jk

set_option Elab.async false
set_option linter.all false
set_option maxRecDepth 100000
set_option maxHeartbeats 4000000
/-! A few operations over lists that may be read only; displays whose heap behind is not told but for what is new. -/
namespace L2.Jk
open PySem PySem.W PySem.Spec PySem.Calls PyProof.Rows

section
variable {X : Cx}
/-- xs + ys, whatever lists they are -/
def rCatS (K : Frag) : R2 := fun x y H Q => ∃ l b xs zs, x = .ref l ∧ y = .ref b ∧ SqL K H l xs ∧ SqL K H b zs ∧ xs.length + zs.length ≤ sizeLine ∧ ∀ p H', H p = none → Same H H' → H' p = some (.lst (xs ++ zs)) → Q (.ref p) H'
theorem op_catS : OpR X (binaryOp .Add) (rCatS X.K) := by
  intro pins s σ H x y v u Q I rx ry h
  obtain ⟨l, b, xs, zs, rfl, rfl, hl, hb, hz, q⟩ := h
  cases rx
  cases ry
  obtain ⟨i1, r1, ⟨o1, n1, g1, c1, d1, e1⟩, z1⟩ := I.list hl
  obtain ⟨i2, r2, ⟨o2, n2, g2, c2, d2, e2⟩, z2⟩ := I.list hb
  obtain ⟨k1, f1, t1, s1⟩ := o1
  obtain ⟨k2, f2, t2, s2⟩ := o2
  dsimp only at c1 d1 e1 c2 d2 e2
  subst c1 d1 e1 c2 d2 e2
  have hs : i1.length + i2.length ≤ sizeLine := by rw [← r1.length, ← r2.length]; exact hz
  refine concat_meets ⟨_, g1, rfl⟩ ⟨_, g2, rfl⟩ noFill_list_add seq_list_add PySem.F.slot_list_add PySem.F.entry_list_add (PySem.F.args_list_add_2 _ _)
    (list_addW l b i1.toArray i2.toArray n1 n2 none none s1 s2 (by simpa using hs)) ⟨g1, g2, ?_⟩
  rw [show i1.toArray ++ i2.toArray = (i1 ++ i2).toArray by simp]
  refine ⟨.ref _, _, I.lnew (t' := s.toks) (r1.append r2) (by rw [List.length_append]; exact hz), rfl, q _ _ I.fresh (fun c o z => ?_) upd_same⟩
  rw [upd_ne (ne_of_none z I.fresh)]
  exact z
/-- a display: where it stands is new, all else as before -/
def tLstS (t : TA) : TE := fun σ H Q => t σ H fun xs H1 => xs.length ≤ 1000 ∧ ∀ p H', H1 p = none → Same H1 H' → H' p = some (.lst xs) → Q (.ref p) H'
def tTupS (t : TA) : TE := fun σ H Q => t σ H fun xs H1 => xs.length ≤ 1000 ∧ ∀ p H', H1 p = none → Same H1 H' → H' p = some (.tup xs) → Q (.ref p) H'
theorem same_upd {H : Hp} {p : Addr} {o : HO} (h : H p = none) : Same H (upd H p o) := fun c u z => by
  rw [upd_ne (ne_of_none z h)]
  exact z
theorem pe_lstS {es : List Expr} {t : TA} {pos : Pos} (ha : PA X es t) : PE X (.List es pos) (tLstS t) := by
  constructor
  intro pins s σ H Q I h
  refine wpAny_List_spliced (thn (ha.run pos pins s σ H _ I h) fun us s1 ⟨xs, H1, I1, r, z, q⟩ => ?_)
  have z' := Nat.le_of_lt (small1000 z)
  have n : H1 s1.heap.objs.size = none := I1.fresh
  exact ⟨by rw [← r.length]; exact z', .ref s1.heap.objs.size, _, I1.lnew (t' := s1.toks) r z', rfl, q _ _ n (same_upd n) upd_same⟩
theorem pe_tupS {es : List Expr} {t : TA} {pos : Pos} {k} (ha : PA X es t) : PE X (.Tuple es k pos) (tTupS t) := by
  constructor
  intro pins s σ H Q I h
  refine wpAny_Tuple_spliced (thn (ha.run pos pins s σ H _ I h) fun us s1 ⟨xs, H1, I1, r, z, q⟩ => ?_)
  have z' := Nat.le_of_lt (small1000 z)
  have n : H1 s1.heap.objs.size = none := I1.fresh
  refine ⟨by rw [← r.length]; exact z', .ref s1.heap.objs.size, _, I1.laid (t' := s1.toks) (o := .tup xs) (fun b u e => Heap.get?_push_of_some _ e) (Nat.le_refl _) ?_, rfl, q _ _ n (same_upd n) upd_same⟩
  exact ⟨z', us, r, IsTup.new _ _⟩
/-- xs[lo:hi] of a list -/
def rSlS (K : Frag) : V → Option Int → Option Int → Hp → VK → Prop := fun x lo hi H Q => ∃ a xs, x = .ref a ∧ SqL K H a xs ∧ ∀ p H', H p = none → Same H H' → H' p = some (.lst (cutV xs lo hi)) → Q (.ref p) H'
theorem sl_listS : SlR X (rSlS X.K) := by
  intro pins s σ H x v vl vu lo hi sl Q I rx hs pl pu h
  obtain ⟨a, xs, e, hx, q⟩ := h
  exact sl_list pins s σ H x v vl vu lo hi sl Q I rx hs pl pu ⟨a, xs, e, hx, fun p hp => q p _ hp (same_upd hp) upd_same⟩
end
/-- what may change at one place alone -/
def But (a : Addr) (H H' : Hp) : Prop := ∀ c o, c ≠ a → H c = some o → H' c = some o
theorem But.of_same {a : Addr} {H H' : Hp} (s : Same H H') : But a H H' := fun c o _ h => s c o h
theorem But.refl (a : Addr) (H : Hp) : But a H H := fun _ _ _ h => h
theorem But.trans {a : Addr} {H H1 H2 : Hp} (x : But a H H1) (y : But a H1 H2) : But a H H2 := fun c o n h => y c o n (x c o n h)
theorem but_upd (H : Hp) (a : Addr) (o : HO) : But a H (upd H a o) := fun c u n h => by
  rw [upd_ne n]
  exact h
/-! ### data stays -/
theorem SqT.same {K : Frag} {H H' : Hp} {a : Addr} {xs : List V} (e : Same H H') (h : SqT K H a xs) : SqT K H' a xs := by
  rcases h with (h | ⟨o, h⟩) | h
  · exact .inl (.inl (e _ _ h))
  · exact .inl (.inr ⟨o, e _ _ h⟩)
  · exact .inr h
/-- a class or a def of the module, a built-in type, as a value -/
theorem pe_gref {X : Cx} {x : Str} {a : Addr} {pos : Pos} (hg : Gl X x) (hm : X.mg x = some (.ref a)) (hd : (x == ("__debug__" : Str)) = false := by decide) : PE X (.Name x pos) (tC (.ref a)) := pe_glob (v := .ref a) hg hm rfl hd
theorem pe_bty {X : Cx} {x : Str} {n : String} {pos : Pos} (hg : Gl X x) (hm : X.mg x = none) (hv : bootBuiltins x = some (.type n)) (hn : x ≠ "__name__" := by decide) (hd : (x == ("__debug__" : Str)) = false := by decide) : PE X (.Name x pos) (tC (.ty n)) :=
  pe_bltn (v := .ty n) hg hm hv rfl hn hd
/-! ### a new list that a comprehension fills: fm i is what it holds behind i turns -/
def LcP (H1 : Hp) (D : Addr) (fm : Nat → List V) (i : Nat) (H : Hp) : Prop := Same H1 H ∧ H1 D = none ∧ H D = some (.lst (fm i)) ∧ (fm i).length ≤ i
theorem LcP.start {H1 : Hp} {D : Addr} {fm : Nat → List V} (h : H1 D = none) (e : fm 0 = []) : LcP H1 D fm 0 (upd H1 D (.lst [])) :=
  ⟨same_upd h, h, by rw [upd_same, e], by rw [e]; exact Nat.le_refl _⟩
theorem LcP.put {H1 H H4 : Hp} {D : Addr} {fm : Nat → List V} {i : Nat} {y : V} (p : LcP H1 D fm i H) (s : Same H H4) (e : fm (i + 1) = fm i ++ [y]) (hi : i < 10000) :
    ∃ acc, H4 D = some (.lst acc) ∧ acc.length < sizeLine ∧ LcP H1 D fm (i + 1) (upd H4 D (.lst (acc ++ [y]))) := by
  obtain ⟨s0, n, d, l⟩ := p
  refine ⟨fm i, s _ _ d, ?_, fun c o z => ?_, n, by rw [upd_same, e], by rw [e, List.length_append, List.length_singleton]; omega⟩
  · rw [sizeLine_eq]
    omega
  · rw [upd_ne (ne_of_none z n)]
    exact s _ _ (s0 _ _ z)
theorem LcP.pass {H1 H H4 : Hp} {D : Addr} {fm : Nat → List V} {i : Nat} (p : LcP H1 D fm i H) (s : Same H H4) (e : fm (i + 1) = fm i) : LcP H1 D fm (i + 1) H4 := by
  obtain ⟨s0, n, d, l⟩ := p
  exact ⟨s0.trans s, n, by rw [e]; exact s _ _ d, by rw [e]; omega⟩
/-! ### data that stays where one place alone changes -/
def Per (a : Addr) (K : Frag) (H : Hp) (x : V) (d : PyData) : Prop := ∀ H', But a H H' → Dp K H' x d
theorem Per.but {a : Addr} {K : Frag} {H H1 : Hp} {x : V} {d : PyData} (p : Per a K H x d) (b : But a H H1) : Per a K H1 x d := fun H' b' => p H' (b.trans b')
theorem Per.same {a : Addr} {K : Frag} {H H1 : Hp} {x : V} {d : PyData} (p : Per a K H x d) (s : Same H H1) : Per a K H1 x d := p.but (But.of_same s)
theorem Per.dp {a : Addr} {K : Frag} {H : Hp} {x : V} {d : PyData} (p : Per a K H x d) : Dp K H x d := p H (But.refl a H)
theorem Per.lst {a p : Addr} {K : Frag} {H : Hp} {xs : List V} {ds : List PyData} (ne : p ≠ a) (h : H p = some (.lst xs)) (q : ∀ H', But a H H' → DpAll K H' xs ds) : Per a K H (.ref p) (.list ds) :=
  fun H' b => .lst (SqL.of (b _ _ ne h)) (q H' b)
theorem Per.tup {a p : Addr} {K : Frag} {H : Hp} {xs : List V} {ds : List PyData} (ne : p ≠ a) (h : H p = some (.tup xs)) (q : ∀ H', But a H H' → DpAll K H' xs ds) : Per a K H (.ref p) (.tuple ds) :=
  fun H' b => .tup (SqT.of (b _ _ ne h)) (q H' b)
theorem dp_one {K : Frag} {H : Hp} {p : Addr} {x : V} {d : PyData} (h : H p = some (.lst [x])) (q : Dp K H x d) : Dp K H (.ref p) (.list [d]) := .lst (SqL.of h) (.cons q .nil)
theorem dp_two {K : Frag} {H : Hp} {p : Addr} {x y : V} {d e : PyData} (h : H p = some (.lst [x, y])) (q : Dp K H x d) (r : Dp K H y e) : Dp K H (.ref p) (.list [d, e]) := .lst (SqL.of h) (.cons q (.cons r .nil))
theorem eqv_same {d : PyData} (h : SeqAt.shaped d = true) : PyData.eqv d d = true := SeqAt.eqv_refl d (SeqAt.canLay_of_shaped h)
theorem ne_new {H : Hp} {a b : Addr} {o : HO} (h : H a = some o) (n : H b = none) : b ≠ a := Ne.symm (ne_of_none h n)
end L2.Jk

set_option Elab.async false
set_option linter.all false
set_option maxRecDepth 100000
set_option maxHeartbeats 4000000
/-! == and != of instances by the text's own __eq__, whatever it answers. -/
namespace L2.Jk
open PySem PySem.W PySem.Spec PySem.Calls PyProof.Rows

/-! ### what the head says of a class with an own __eq__ and no __ne__, by one Bool -/
def eqcB (K : Frag) (C : Addr) : Bool := He.eqO (findIn K (.ref C) "__eq__") (some (some (.ref (He.ma K C "__eq__")))) && (isFn K (.ref (He.ma K C "__eq__")) && (match K.lookup C with
  | some ⟨.type "type", _, .cls cd, sl⟩ => (match cd.mro, sl.toList with
    | .ref D :: bm, [_, _, _, _, some (.builtin _), _] => decide (D = C) && (decide (bm = [.type "object"]) && (!cd.hasDel && (nsOkIn K cd.ns && (decide (nsIn K cd.ns "__eq__" = some (some (.ref (He.ma K C "__eq__")))) && decide (nsIn K cd.ns "__ne__" = some none)))))
    | _, _ => false)
  | _ => false))
structure EqcC (K : Frag) (C : Addr) : Prop where
  find : findIn K (.ref C) "__eq__" = some (some (.ref (He.ma K C "__eq__")))
  fn : isFn K (.ref (He.ma K C "__eq__")) = true
  cls : ∃ nm q N bs hdct sn sub ab col dd k0 k1 k2 k3 k5 nid, K.lookup C = some (excClassObj nm q C N bs [.type "object"] hdct sn sub ab col dd k0 k1 k2 k3 k5 nid) ∧ nsOkIn K N = true ∧
    nsIn K N "__eq__" = some (some (.ref (He.ma K C "__eq__"))) ∧ nsIn K N "__ne__" = some none
theorem eqcB_ok {K : Frag} {C : Addr} (h : eqcB K C = true) : EqcC K C := by
  obtain ⟨h1, h⟩ := Bool.and_eq_true_iff.mp h
  obtain ⟨h2, h3⟩ := Bool.and_eq_true_iff.mp h
  refine ⟨He.eqO_ok h1, h2, ?_⟩
  split at h3
  · rename_i dd cd sl ho
    split at h3
    · rename_i D bm k0 k1 k2 k3 n k5 hm hs
      obtain ⟨a1, h3⟩ := Bool.and_eq_true_iff.mp h3
      obtain ⟨a2, h3⟩ := Bool.and_eq_true_iff.mp h3
      obtain ⟨a3, h3⟩ := Bool.and_eq_true_iff.mp h3
      obtain ⟨a4, h3⟩ := Bool.and_eq_true_iff.mp h3
      obtain ⟨a5, a6⟩ := Bool.and_eq_true_iff.mp h3
      obtain rfl := of_decide_eq_true a1
      obtain rfl := of_decide_eq_true a2
      obtain ⟨nm, bs, mro, ns, qn, hd, sn, sub, ab, col, del⟩ := cd
      dsimp only at hm a3 a4 a5 a6
      subst hm
      obtain rfl : del = false := by cases del <;> first | rfl | cases a3
      have e : sl = #[k0, k1, k2, k3, some (.builtin n), k5] := by
        obtain ⟨l⟩ := sl
        dsimp only at hs
        rw [hs]
      subst e
      exact ⟨nm, qn, ns, bs, hd, sn, sub, ab, col, dd, k0, k1, k2, k3, k5, n, ho, a4, of_decide_eq_true a5, of_decide_eq_true a6⟩
    · cases h3
  · cases h3

section
variable {X : Cx} {CX : CXT} {E : XK}
/-- x == y, x an instance with an own __eq__: what that answers -/
def rEqO (X : Cx) (CX : CXT) (E : XK) : R2 := fun x y H Q => ∃ (a C dx : Addr) (fs : List (Str × V)) (t : Value), x = .ref a ∧ H a = some (.ins C dx fs) ∧ EqcC X.K C ∧ TyE X.K H y t ∧ notFirst X.K C t = true ∧
  Does X CX (He.ma X.K C "__eq__") [x, y] H (fun v H' => ∃ b, v = .bl b ∧ Q (.bl b) H') E
theorem op_eqO (hx : Passes CX X E) : OpR X (compareOp .Eq) (rEqO X CX E) := by
  intro pins s σ H x y v u Q I rx ry h
  obtain ⟨a, C, dx, fs, t, rfl, ha, T, ty, nf, k, fd, ps, sp, kp, F, hr, hb, q⟩ := h
  cases rx
  obtain ⟨mA, J, _⟩ := ins_get I.hok ha
  obtain ⟨od, J, _⟩ := J.look
  obtain ⟨m, hF⟩ := I.fr
  obtain ⟨P, Z, p, _⟩ := kit_ofE I ry ty
  have hty : Looks (model X.prog X.w) s.heap (typeOf u) t := Z.ty _ _ I.kIn p
  show wpAny (model X.prog X.w) X.A (richCompare .Eq (.ref a) u) (EP X pins σ Q) X.xe s
  refine cmp_K (op := .Eq) (tb := t) hr.units0 hF I.ok.mod.kin J hty nf T.find T.fn ?_
  refine wpAny_mono (run_fn (us := [.ref a, u]) (vs := [.ref a, y]) F hr hb .nil hx I (.cons rfl (.cons ry .nil)) q) (fun z s' hz => ?_) fun _ _ e => e
  obtain ⟨v', H', I', r', b, rfl, q'⟩ := hz
  obtain rfl : z = Value.bool b := r'
  exact ⟨.bl b, H', I', rfl, q'⟩
theorem ns_at_of {K : Frag} {h : Heap} {N : Addr} {mN : Str → Option Value} {n : Str} {v : Value} (X : K.In h) (G : h.Ns N mN) (e : nsIn K N n = some (some v)) : mN n = some v := by
  obtain ⟨o, es, ep, ho, hd, _, hf⟩ := G
  unfold nsIn at e
  split at e
  · rename_i q
    have z := X _ _ q
    rw [ho] at z
    cases z
    cases hd
    split at e
    · rename_i en he
      have ev : en.val = v := Option.some.inj (Option.some.inj e)
      rw [← hf]
      unfold nsFind findBy
      rw [← Array.find?_toList, he]
      exact congrArg some ev
    · split at e <;> cases e
  · cases e
/-- a call below a builtin -/
theorem run_in1 {k : Nat} {f : Addr} {fd : FuncData} {ps : List Str} {sp : Sp} {pins : List (Addr × Obj)} {σ : St} {H : Hp} {s : Shared} {Q : VK} {us : List Value} {vs : List V} (F : FnOk X.prog X.w X.K X.mg X.base CX k f fd ps sp) (hr : Room k X.A.in1)
    (hb : Binds X.K fd ps []) (hx : Passes CX X E) (I : Inv X pins σ H s) (r : Vals vs us) (h : sp vs H Q E) : wpAny (model X.prog X.w) X.A.in1 (call (.ref f) us) (EP X pins σ Q) X.xe s := by
  have hl : us.length = ps.length := by rw [← r.length]; exact F.len _ _ _ _ h
  have hb' := hb s us I.kIn (by rw [List.append_nil]; exact hl)
  rw [List.append_nil] at hb'
  refine wpAny_call (codeAny_mono (F.run X.A.in1 X.stack s H ⟨us, []⟩ us vs Q E hr I.env0.in1 hb' r h) fun r s' hq => ?_)
  cases r with
  | error e => exact hx pins σ H s e s' I hq
  | ok fl =>
    cases fl with
    | ret u => exact I.after hq
    | next => exact False.elim hq
    | brk => exact False.elim hq
    | cont => exact False.elim hq
/-- x != y, both instances of the class at C -/
def rNeO (X : Cx) (CX : CXT) (E : XK) : R2 := fun x y H Q => ∃ (a b C dx dy : Addr) (fs gs : List (Str × V)), x = .ref a ∧ y = .ref b ∧ H a = some (.ins C dx fs) ∧ H b = some (.ins C dy gs) ∧ EqcC X.K C ∧
  ∃ (k : Nat) (fd : FuncData) (ps : List Str) (sp : Sp), keepIn X.K (.ref (He.ma X.K C "__eq__")) = true ∧ FnOk X.prog X.w X.K X.mg X.base CX k (He.ma X.K C "__eq__") fd ps sp ∧ Room (k + 1) X.A ∧ Binds X.K fd ps [] ∧ sp [x, y] H (fun v H' => ∃ b, v = .bl b ∧ Q (.bl !b) H') E
theorem op_neO (hx : Passes CX X E) : OpR X (compareOp .NotEq) (rNeO X CX E) := by
  intro pins s σ H x y v u Q I rx ry h
  obtain ⟨a, b, C, dx, dy, fs, gs, rfl, rfl, ha, hb', T, k, fd, ps, sp, kp, G, hr, hb, q⟩ := h
  cases rx
  cases ry
  obtain ⟨mA, J, _⟩ := ins_get I.hok ha
  obtain ⟨mB, J', _⟩ := ins_get I.hok hb'
  obtain ⟨od, J, _⟩ := J.look
  obtain ⟨od', J', _⟩ := J'.look
  obtain ⟨nm, qn, N, bs, hdct, sn, sub, ab, col, dd, k0, k1, k2, k3, k5, nid, hC, ok, ne1, ne2⟩ := T.cls
  have hn : s.heap.Ns N (s.heap.nsMap N) := .of_isNs (isNs_of_in I.kIn ok)
  obtain ⟨of, hof, hcl⟩ := Option.map_eq_some_iff.mp (show (X.K.lookup (He.ma X.K C "__eq__")).map (·.cls) = some (.type "function") from beq_iff_eq.mp T.fn)
  have own : s.heap.OwnEqNoNe a C (He.ma X.K C "__eq__") "object" [.type "object"] := ⟨_, of, nm, qn, N, bs, hdct, sn, sub, ab, col, dd, k0, k1, k2, k3, k5, nid, _, _, J.at_, rfl, I.kIn _ _ hC, hn, ns_at_of I.kIn hn ne1,
    I.kIn _ _ hof, hcl, F.cmp_object.mro, F.cmp_object.eq.lookup, ns_none_of I.kIn hn ne2⟩
  obtain ⟨hp, g, d, tk, os⟩ := s
  refine compareOp_ne_ownEq F.cmp_object own J'.at_ rfl (by have := hr.units; omega) ?_
  refine wpAny_mono (run_in1 (us := [.ref a, .ref b]) (vs := [.ref a, .ref b]) G hr.in1 hb hx I (.cons rfl (.cons rfl .nil)) q) (fun z s' hz => ?_) fun _ _ e => e
  obtain ⟨v', H', I', r', b', rfl, q'⟩ := hz
  obtain rfl : z = Value.bool b' := r'
  exact ⟨b', rfl, .bl !b', H', I', rfl, q'⟩
end
end L2.Jk

set_option Elab.async false
set_option linter.all false
set_option maxRecDepth 100000
set_option maxHeartbeats 4000000
/-! C.m(x, ..): a class's function, called by the class's name. -/
namespace L2.Jk
open PySem PySem.W PySem.Spec PySem.Calls PyProof.Rows
structure ClsFn (K : Frag) (C f : Addr) (m : Str) : Prop where
  sp : specialIn K (.ref C) "__getattribute__" = some (some (.builtin "type.__getattribute__"))
  rd : readsIn K C (.type "type") = true
  fd : findCls K (.ref C) (.type "type") m = some (.val (.ref f))
  kp : keepIn K (.ref f) = true
def clsFnB (K : Frag) (C f : Addr) (m : Str) : Bool := He.eqO (specialIn K (.ref C) "__getattribute__") (some (some (.builtin "type.__getattribute__"))) && (readsIn K C (.type "type") && ((match findCls K (.ref C) (.type "type") m with
  | some (.val (.ref g)) => decide (g = f)
  | _ => false) && keepIn K (.ref f)))
theorem clsFnB_ok {K : Frag} {C f : Addr} {m : Str} (h : clsFnB K C f m = true) : ClsFn K C f m := by
  obtain ⟨a, h⟩ := Bool.and_eq_true_iff.mp h
  obtain ⟨b, h⟩ := Bool.and_eq_true_iff.mp h
  obtain ⟨c, d⟩ := Bool.and_eq_true_iff.mp h
  refine ⟨He.eqO_ok a, b, ?_, d⟩
  split at c
  · rename_i g e
    rw [e, of_decide_eq_true c]
  · cases c
section
variable {X : Cx} {CX : CXT} {k : Nat} {f C : Addr} {fd : FuncData} {x m : Str} {ps : List Str} {sp : Sp} {e : Expr} {es : List Expr} {t : TA} {p p2 pos : Pos} {E : XK}
theorem pe_clsM {pl : Sem Bool} (T : ClsFn X.K C f m) (F : FnOk X.prog X.w X.K X.mg X.base CX k f fd ps sp) (hr : Room k X.A) (hb : Binds X.K fd ps []) (hx : Passes CX X E) (hg : Gl X x) (hm : X.mg x = some (.ref C)) (ha : PA X (e :: es) t)
    (hc : eval (.Call (.Attribute (.Name x p) m p2) (e :: es) [] pos) X.env = (do
      let ov ← eval (.Name x p) X.env
      standAt p2.atName
      let (f, first) ← holding [ov] (getMethod ov m pl)
      callWith pos f first (backTo pos (starEach (e :: es) X.env)) (backToKw pos (keywordEach [] X.env))) := by rfl)
    (hdb : (x == ("__debug__" : Str)) = false := by decide) (he : starEach (e :: es) X.env = (false, eval e X.env) :: starEach es X.env := by rfl) (hpl : (backTo pos (starEach es X.env)).any (·.1) = false := by rfl) :
    PE X (.Call (.Attribute (.Name x p) m p2) (e :: es) [] pos) (tCall sp [] E t) := by
  refine ⟨fun pins s σ H Q I h => ?_⟩
  refine PySem.W.methodCall_KW (ld_glob I hg hm ?_ hdb) hc
  refine method_cls I.kIn T.sp (cls_value I.kIn T.rd T.fd rfl ?_)
  show wpAny _ _ (callWith pos (.ref f) [] (backTo pos (starEach (e :: es) X.env)) []) _ _ _
  refine PySem.W.callWith_K (h₀ := X.base) I.ok.mod.kin T.kp (thn (ha.run pos pins _ σ H _ (I.tok _) h) fun us s1 ⟨vs, H1, I1, r, q⟩ => ⟨I1.kIn, ?_⟩) he hpl
  exact run_fn F hr hb .nil hx I1 r q
end
end L2.Jk

set_option Elab.async false
set_option linter.all false
set_option maxRecDepth 100000
set_option maxHeartbeats 4000000
/-! A hook that walks the heap by layers, and casts out doubles by one number's bits. -/
namespace L2.Jk
open PySem PySem.W
def bitOn (m a : Nat) : Bool := Nat.beq (Nat.land (Nat.shiftRight m a) 1) 1
/-- what is not seen yet, and what is seen then -/
def freshD : List Nat → Nat → List Nat → List Nat × Nat
  | [], m, acc => (acc, m)
  | a :: r, m, acc => match bitOn m a with
    | true => freshD r m acc
    | false => freshD r (Nat.lor m (Nat.shiftLeft 1 a)) (a :: acc)
def refsAll (g : Nat → Option Obj) : List Nat → List Nat
  | [] => []
  | a :: r => match g a with
    | some o => He.refsD o ++ refsAll g r
    | none => refsAll g r
def layers (g : Nat → Option Obj) : Nat → List Nat → Nat → List Nat
  | 0, fr, _ => fr
  | n + 1, fr, m => match freshD (refsAll g fr) m [] with
    | (nw, m2) => fr ++ layers g n nw m2
def selL (n : Nat) (g : Nat → Option Obj) : List Nat := layers g n [mainGlobals] (Nat.shiftLeft 1 mainGlobals)
def obsK (fa : List He.Fa) (fn : List He.DefD) (ts : List He.Tab) (tf : List He.Defn) (ex : Frag → Bool) (g : Nat → Option Obj) (K : Frag) : He.AlX := (He.obsT fa fn ts K, ex K && He.tabsB g tf K)
def obsL (n : Nat) (fa : List He.Fa) (fn : List He.DefD) (ts : List He.Tab) (tf : List He.Defn) (ex : Frag → Bool) (g : Nat → Option Obj) : He.AlX := obsK fa fn ts tf ex g (He.frT g (selL n g))
theorem saysL_of {n : Nat} {fa : List He.Fa} {fn : List He.DefD} {ts : List He.Tab} {tf : List He.Defn} {ex : Frag → Bool} {w : World} {h : Heap}
    (e : obsL n fa fn ts tf ex h.get? = He.valX fn ts w) : He.SaysX fa fn ts tf ex w h (He.frT h.get? (selL n h.get?)) := by
  have e1 := congrArg (fun z => z.fst) e
  have e2 : (ex (He.frT h.get? (selL n h.get?)) && He.tabsB h.get? tf (He.frT h.get? (selL n h.get?))) = true := congrArg (fun z => z.snd) e
  obtain ⟨h1, h2⟩ := Bool.and_eq_true_iff.mp e2
  have key : ∀ p ∈ tf, codeHdIn (He.frT h.get? (selL n h.get?)) (He.cT (He.frT h.get? (selL n h.get?)) p).fst (He.cT (He.frT h.get? (selL n h.get?)) p).snd = true ∧ ∃ o, h.get? (He.cT (He.frT h.get? (selL n h.get?)) p).snd = some o ∧ He.emptyTab o = true := fun p hp => by
    have hh := List.all_eq_true.mp h2 p hp
    obtain ⟨h3, h4⟩ := Bool.and_eq_true_iff.mp hh
    refine ⟨h3, ?_⟩
    cases q : h.get? (He.cT (He.frT h.get? (selL n h.get?)) p).snd with
    | none => rw [q] at h4; cases h4
    | some o => rw [q] at h4; exact ⟨o, rfl, h4⟩
  exact { t := e1, more := h1, hd := fun p hp => (key p hp).1, out := fun p hp => by
            obtain ⟨_, o, q, z⟩ := key p hp
            exact He.frT_none q z, empty := fun p hp => by
            obtain ⟨_, o, q, z⟩ := key p hp
            rw [q, He.emptyTab_eq z] }
def hookL (n : Nat) (fa : List He.Fa) (fn : List He.DefD) (ts : List He.Tab) (tf : List He.Defn) (ex : Frag → Bool) : Hook where
  α := He.AlX
  obs := fun s => obsL n fa fn ts tf ex s.heap.get?
  val := fun w => He.valX fn ts w
  says := fun w h => ∃ K, K.In h ∧ He.SaysX fa fn ts tf ex w h K
  of := fun w s e => ⟨_, He.frT_in, saysL_of e⟩
  keeps := fun w h h' ⟨K, hK, c⟩ k => ⟨K, Frag.In.keeps hK k, { t := c.t, more := c.more, hd := c.hd, out := c.out, empty := fun p hp => k _ _ (c.empty p hp) }⟩
theorem obsL_eq {n : Nat} {fa : List He.Fa} {fn : List He.DefD} {ts : List He.Tab} {tf : List He.Defn} {ex : Frag → Bool} {g : Nat → Option Obj} {s : Shared}
    (hg : ∀ a, g a = s.heap.get? a) : obsL n fa fn ts tf ex g = (hookL n fa fn ts tf ex).obs s := by
  have e : g = s.heap.get? := funext hg
  rw [e]
  rfl
end L2.Jk

set_option Elab.async false
set_option linter.all false
set_option maxRecDepth 100000
set_option maxHeartbeats 4000000
/-! JkHook's hook, the statics' cell in its view too. -/
namespace L2.Jk
open PySem PySem.W
def selC (n : Nat) (g : Nat → Option Obj) : List Addr := selL n g ++ [cStatics]
def obsC (n : Nat) (fa : List He.Fa) (fn : List He.DefD) (ts : List He.Tab) (tf : List He.Defn) (ex : Frag → Bool) (g : Nat → Option Obj) : He.AlX := obsK fa fn ts tf ex g (He.frT g (selC n g))
theorem saysC_of {n : Nat} {fa : List He.Fa} {fn : List He.DefD} {ts : List He.Tab} {tf : List He.Defn} {ex : Frag → Bool} {w : World} {h : Heap}
    (e : obsC n fa fn ts tf ex h.get? = He.valX fn ts w) : He.SaysX fa fn ts tf ex w h (He.frT h.get? (selC n h.get?)) := by
  have e1 := congrArg (fun z => z.fst) e
  have e2 : (ex (He.frT h.get? (selC n h.get?)) && He.tabsB h.get? tf (He.frT h.get? (selC n h.get?))) = true := congrArg (fun z => z.snd) e
  obtain ⟨h1, h2⟩ := Bool.and_eq_true_iff.mp e2
  have key : ∀ p ∈ tf, codeHdIn (He.frT h.get? (selC n h.get?)) (He.cT (He.frT h.get? (selC n h.get?)) p).fst (He.cT (He.frT h.get? (selC n h.get?)) p).snd = true ∧ ∃ o, h.get? (He.cT (He.frT h.get? (selC n h.get?)) p).snd = some o ∧ He.emptyTab o = true := fun p hp => by
    have hh := List.all_eq_true.mp h2 p hp
    obtain ⟨h3, h4⟩ := Bool.and_eq_true_iff.mp hh
    refine ⟨h3, ?_⟩
    cases q : h.get? (He.cT (He.frT h.get? (selC n h.get?)) p).snd with
    | none => rw [q] at h4; cases h4
    | some o => rw [q] at h4; exact ⟨o, rfl, h4⟩
  exact { t := e1, more := h1, hd := fun p hp => (key p hp).1, out := fun p hp => by
            obtain ⟨_, o, q, z⟩ := key p hp
            exact He.frT_none q z, empty := fun p hp => by
            obtain ⟨_, o, q, z⟩ := key p hp
            rw [q, He.emptyTab_eq z] }
def hookC (n : Nat) (fa : List He.Fa) (fn : List He.DefD) (ts : List He.Tab) (tf : List He.Defn) (ex : Frag → Bool) : Hook where
  α := He.AlX
  obs := fun s => obsC n fa fn ts tf ex s.heap.get?
  val := fun w => He.valX fn ts w
  says := fun w h => ∃ K, K.In h ∧ He.SaysX fa fn ts tf ex w h K
  of := fun w s e => ⟨_, He.frT_in, saysC_of e⟩
  keeps := fun w h h' ⟨K, hK, c⟩ k => ⟨K, Frag.In.keeps hK k, { t := c.t, more := c.more, hd := c.hd, out := c.out, empty := fun p hp => k _ _ (c.empty p hp) }⟩
theorem obsC_eq {n : Nat} {fa : List He.Fa} {fn : List He.DefD} {ts : List He.Tab} {tf : List He.Defn} {ex : Frag → Bool} {g : Nat → Option Obj} {s : Shared}
    (hg : ∀ a, g a = s.heap.get? a) : obsC n fa fn ts tf ex g = (hookC n fa fn ts tf ex).obs s := by
  have e : g = s.heap.get? := funext hg
  rw [e]
  rfl
end L2.Jk

set_option Elab.async false
set_option linter.all false
set_option maxRecDepth 100000
set_option maxHeartbeats 4000000
/-! int(text) of up to 4,300 digits, where the interpreter's limit on digits stands as it was. -/
namespace L2.Jk
open PySem PySem.W PySem.Spec PySem.Calls PySem.NumText PyProof.Rows PySem.W.KIN

theorem wp_textW {M : Model} {A : Around} {E : Value → Shared → Prop} {s : Shared} {Q : Value → Shared → Prop} {v : Value} {text : List Nat} {n : Int}
    (hd : s.heap.NoDigits) (hs : ¬ (text.takeWhile (· != 0)).length ≤ 640) (hr : (int_private% "readNumeral") 4300 10 (text.takeWhile (· != 0)) = (int_private% "Numeral.value") n)
    (ha : ((text.takeWhile (· != 0)).length == text.length) = true) (h : Q (.int n s.toks) { s with toks := s.toks + 1 }) :
    wpAny M A ((int_private% "intFromText") v text 10) Q E s := by
  obtain ⟨mc, hns, hnone⟩ := hd
  have key : wpAny M A (Builtin.intMaxStrDigits) (fun l s' => l = 4300 ∧ s' = s) E s := by
    unfold Builtin.intMaxStrDigits
    refine wpAny_bind (wpAny_nsGet hns ?_)
    rw [hnone]
    exact wpAny_pure ⟨rfl, rfl⟩
  obtain ⟨hp, g, d, tk, os⟩ := s
  show wpAny M A (do
    let limit ← if (text.takeWhile (· != 0)).length ≤ 640 then pure 0 else Builtin.intMaxStrDigits
    _) Q E _
  rw [if_neg hs]
  refine wpAny_bind (wpAny_mono key ?_ (fun _ _ x => x))
  rintro l s' ⟨rfl, rfl⟩
  dsimp only
  rw [hr]
  repeat (any_goals (first
    | assumption
    | (with_reducible refine wpAny_ite_true ha ?_)
    | wp_step))

set_option maxHeartbeats 4000000 in
theorem meets_textW {x : PySem.Str} {u : Tok} {n : Int} (hl : ¬ (numSeenOf x).length ≤ 640) (hl2 : x.length ≤ sizeLine) (hn : PySem.intText? x = some n) :
    Meets (Builtin.«int.__new__» ⟨[.type "int", .str x u], []⟩) (fun A R s => s.heap.NoDigits ∧ R (.ok (.ret (.int n s.toks))) { s with toks := s.toks + 1 }) :=
  .of_wp fun prog w A R s h => by
    have hr : (int_private% "readNumeral") 4300 10 (numSeenOf x) = (int_private% "Numeral.value") n ∧ ((numSeenOf x).length == (numTextOf x).length) = true := by
      rcases read4300 x hl2 with ⟨m, h1, h2, h3⟩ | ⟨h1, _⟩
      · rw [hn] at h1
        injection h1 with h1
        subst h1
        exact ⟨h3, h2⟩
      · rw [hn] at h1
        cases h1
    obtain ⟨hd, h⟩ := h
    have hd2 := Hid.mk hd
    obtain ⟨hp, g, d, tk, os⟩ := s
    have f1 := F.conv_sub_int
    have f2 := F.madeHere_int
    have f3 := str_int
    have f4 := str_idx
    have f5 := str_trunc
    have f6 : typeOf (.str x u) = pure (.type "str") := rfl
    have hk := Hid.mk (And.intro hl hr)
    clear hr hl hl2 hn hd
    repeat (any_goals (first
      | assumption
      | ((with_reducible show wpAny _ _ ((int_private% "intFromText") _ _ _) _ _ _); refine wp_textW hd2.out hk.out.1 hk.out.2.1 hk.out.2.2 ?_)
      | wp_step))
    all_goals first | exact ⟨_, rfl, h⟩ | skip
theorem call_textW {prog : Program} {w : World} {A : Around} {E : Value → Shared → Prop} {s : Shared} {Q : Value → Shared → Prop} {x : PySem.Str} {t : Tok} {n : Int} (hd : s.heap.NoDigits) (hn : PySem.intText? x = some n) (hl : x.length ≤ 640 ∨ (¬ (numSeenOf x).length ≤ 640 ∧ x.length ≤ 4300))
    (h : Q (.int n s.toks) { s with toks := s.toks + 1 }) : wpAny (model prog w) A (call (.type "int") [.str x t]) Q E s := by
  rcases hl with hl | ⟨hs, hl⟩
  · exact PySem.W.KIN.call_text hn hl h
  · exact call_int_1 (meets_textW hs (by rw [sizeLine_eq]; omega) hn) ⟨hd, rfl, h⟩
/-- a text that int() takes: short, or all of it digits -/
def IntOk (a : Str) : Prop := a.length ≤ 640 ∨ ((¬ (numSeenOf a).length ≤ 640) ∧ a.length ≤ 4300)
theorem intOk_digits {a : Str} (h : ∀ c ∈ a.cps.toList, c = 45 ∨ (48 ≤ c ∧ c ≤ 57)) (hl : a.length ≤ 4300) : IntOk a := by
  by_cases k : a.length ≤ 640
  · exact .inl k
  · refine .inr ⟨?_, hl⟩
    rw [(numText_signs h).2, Array.length_toList]
    exact k
theorem call_int_strW {X : Cx} (hd : X.base.NoDigits) : CallR X (.type "int") (fun xs H Q => ∃ a n, xs = [.str a] ∧ PySem.intText? a = some n ∧ IntOk a ∧ Q (.int n) H) := by
  intro pins s σ H xs us Q I rs h
  obtain ⟨a, n, rfl, hn, hl, h⟩ := h
  cases rs with
  | cons r1 rs =>
    cases rs
    obtain ⟨t, rfl⟩ := r1
    exact call_textW (hd.keeps I.bk) hn hl ⟨.int n, H, I.tok _, ⟨_, rfl⟩, h⟩
/-- what the head tells of the interpreter's own table -/
def digB (K : Frag) : Bool := match K.lookup cStatics with
  | some o => (match o.data with
    | .dict es _ => es.toList.all fun e => match e.key with
      | .str n _ => decide (n ≠ ("sys.int_max_str_digits" : Str))
      | _ => false
    | _ => false)
  | none => false
theorem noDigits_of {K : Frag} {base : Heap} (X : K.In base) (h : digB K = true) : base.NoDigits := by
  unfold digB at h
  split at h
  · rename_i o ho
    split at h
    · rename_i es ep hd
      have key : ∀ e ∈ es, ∃ n t, e.key = .str n t ∧ n ≠ ("sys.int_max_str_digits" : Str) := fun e he => by
        have k := List.all_eq_true.mp h e (by simpa using he)
        split at k
        · rename_i n t ek
          exact ⟨n, t, ek, of_decide_eq_true k⟩
        · cases k
      refine ⟨fun n => nsFind es n, ⟨o, es, ep, X _ _ ho, hd, fun e he => ?_, fun _ => rfl⟩, ?_⟩
      · obtain ⟨n, t, ek, _⟩ := key e he
        exact ⟨n, t, ek⟩
      · show nsFind es "sys.int_max_str_digits" = none
        unfold nsFind findBy
        have z : es.find? (fun e => e.key.isStr "sys.int_max_str_digits") = none := by
          rw [Array.find?_eq_none]
          intro e he
          obtain ⟨n, t, ek, ne⟩ := key e he
          rw [ek]
          simpa [Value.isStr] using ne
        rw [z]
        rfl
    · cases h
  · cases h
/-! ### a head whose facts see the interpreter's own table, too -/
def obsS (n : Nat) (fa : List He.Fa) (fn : List He.DefD) (ex : Frag → Bool) (g : Addr → Option Obj) : He.AlX := (He.obsT fa fn [] (He.frT g (He.asD g n ++ [cStatics])), ex (He.frT g (He.asD g n ++ [cStatics])))
def hookS (n : Nat) (fa : List He.Fa) (fn : List He.DefD) (ex : Frag → Bool) : PySem.W.Hook where
  α := He.AlX
  obs := fun s => obsS n fa fn ex s.heap.get?
  val := fun w => He.valX fn [] w
  says := fun w h => ∃ K : Frag, K.In h ∧ He.SaysT fa fn [] w K ∧ ex K = true
  of := fun _ _ e => ⟨_, He.frT_in, congrArg (fun z : He.AlX => z.1) e, congrArg (fun z : He.AlX => z.2) e⟩
  keeps := fun _ _ _ ⟨K, hK, c, m⟩ k => ⟨K, Frag.In.keeps hK k, c, m⟩
theorem obsS_eq {n : Nat} {fa : List He.Fa} {fn : List He.DefD} {ex : Frag → Bool} {g : Addr → Option Obj} {s : Shared} (h : ∀ a, g a = s.heap.get? a) : obsS n fa fn ex g = (hookS n fa fn ex).obs s := by
  have e : g = s.heap.get? := funext h
  rw [e] <;> rfl
end L2.Jk

set_option Elab.async false
set_option linter.all false
set_option maxRecDepth 100000
set_option maxHeartbeats 0
namespace L2.K22
open PySem PySem.W PySem.Spec PySem.Calls PyProof.Rows L2.Jk
def top (i : Nat) : Stmt := PySem.Challenge.pw_jointkeys_k22_a_thousand_rows_and_one_mo.main.body.getD i (.Pass ⟨0, 0, 0, 0⟩)
def SG : Str := "-./0123456789ABCDEFGHIJKLMNOPQRSTUVWXYZ_abcdefghijklmnopqrstuvwxyz"
def DG : Str := "0123456789"
abbrev BF (K : Frag) : Addr := He.ga K "BadField"
abbrev BY (K : Frag) : Addr := He.ga K "BadLayout"
abbrev NT (K : Frag) : Addr := He.ga K "NoText"
abbrev LG (K : Frag) : Addr := He.ga K "Large"
def cname : Nat → Str
  | 0 => "Word"
  | 1 => "Number"
  | 2 => "Fixed"
  | 3 => "Listed"
  | 4 => "Ended"
  | 5 => "Marked"
  | 6 => "Layout"
  | _ => ""
abbrev ca (K : Frag) (i : Nat) : Addr := He.ga K (cname i)

def fn : List He.DefD := [⟨("BadField", some "__init__"), "__init__", "BadField.__init__", defArgs (inClass (top 4) 0), defBody (inClass (top 4) 0), defScope (inClass (top 4) 0), [], []⟩,
  ⟨("BadField", some "told"), "told", "BadField.told", defArgs (inClass (top 4) 1), defBody (inClass (top 4) 1), defScope (inClass (top 4) 1), [], []⟩,
  ⟨("NoText", some "__init__"), "__init__", "NoText.__init__", defArgs (inClass (top 5) 0), defBody (inClass (top 5) 0), defScope (inClass (top 5) 0), [], []⟩,
  ⟨("NoText", some "told"), "told", "NoText.told", defArgs (inClass (top 5) 1), defBody (inClass (top 5) 1), defScope (inClass (top 5) 1), [], []⟩,
  ⟨("BadLayout", some "__init__"), "__init__", "BadLayout.__init__", defArgs (inClass (top 6) 0), defBody (inClass (top 6) 0), defScope (inClass (top 6) 0), [], []⟩,
  ⟨("BadLayout", some "told"), "told", "BadLayout.told", defArgs (inClass (top 6) 1), defBody (inClass (top 6) 1), defScope (inClass (top 6) 1), [], []⟩,
  ⟨("Large", some "__init__"), "__init__", "Large.__init__", defArgs (inClass (top 7) 0), defBody (inClass (top 7) 0), defScope (inClass (top 7) 0), [], []⟩,
  ⟨("Large", some "told"), "told", "Large.told", defArgs (inClass (top 7) 1), defBody (inClass (top 7) 1), defScope (inClass (top 7) 1), [], []⟩,
  ⟨("Word", some "__init__"), "__init__", "Word.__init__", defArgs (inClass (top 25) 0), defBody (inClass (top 25) 0), defScope (inClass (top 25) 0), [], []⟩,
  ⟨("Word", some "__eq__"), "__eq__", "Word.__eq__", defArgs (inClass (top 25) 1), defBody (inClass (top 25) 1), defScope (inClass (top 25) 1), [], []⟩,
  ⟨("Word", some "has_sign"), "has_sign", "Word.has_sign", defArgs (inClass (top 25) 7), defBody (inClass (top 25) 7), defScope (inClass (top 25) 7), [], []⟩,
  ⟨("Number", some "__init__"), "__init__", "Number.__init__", defArgs (inClass (top 26) 0), defBody (inClass (top 26) 0), defScope (inClass (top 26) 0), [], []⟩,
  ⟨("Number", some "__eq__"), "__eq__", "Number.__eq__", defArgs (inClass (top 26) 1), defBody (inClass (top 26) 1), defScope (inClass (top 26) 1), [], []⟩,
  ⟨("Number", some "has_sign"), "has_sign", "Number.has_sign", defArgs (inClass (top 26) 7), defBody (inClass (top 26) 7), defScope (inClass (top 26) 7), [], []⟩,
  ⟨("Fixed", some "__init__"), "__init__", "Fixed.__init__", defArgs (inClass (top 27) 0), defBody (inClass (top 27) 0), defScope (inClass (top 27) 0), [], []⟩,
  ⟨("Fixed", some "__eq__"), "__eq__", "Fixed.__eq__", defArgs (inClass (top 27) 1), defBody (inClass (top 27) 1), defScope (inClass (top 27) 1), [], []⟩,
  ⟨("Fixed", some "has_sign"), "has_sign", "Fixed.has_sign", defArgs (inClass (top 27) 7), defBody (inClass (top 27) 7), defScope (inClass (top 27) 7), [], []⟩,
  ⟨("Listed", some "__init__"), "__init__", "Listed.__init__", defArgs (inClass (top 28) 0), defBody (inClass (top 28) 0), defScope (inClass (top 28) 0), [], []⟩,
  ⟨("Listed", some "__eq__"), "__eq__", "Listed.__eq__", defArgs (inClass (top 28) 1), defBody (inClass (top 28) 1), defScope (inClass (top 28) 1), [], []⟩,
  ⟨("Listed", some "has_sign"), "has_sign", "Listed.has_sign", defArgs (inClass (top 28) 7), defBody (inClass (top 28) 7), defScope (inClass (top 28) 7), [], []⟩,
  ⟨("Ended", some "__init__"), "__init__", "Ended.__init__", defArgs (inClass (top 29) 0), defBody (inClass (top 29) 0), defScope (inClass (top 29) 0), [], []⟩,
  ⟨("Ended", some "__eq__"), "__eq__", "Ended.__eq__", defArgs (inClass (top 29) 1), defBody (inClass (top 29) 1), defScope (inClass (top 29) 1), [], []⟩,
  ⟨("Ended", some "has_sign"), "has_sign", "Ended.has_sign", defArgs (inClass (top 29) 7), defBody (inClass (top 29) 7), defScope (inClass (top 29) 7), [], []⟩,
  ⟨("Marked", some "__init__"), "__init__", "Marked.__init__", defArgs (inClass (top 30) 0), defBody (inClass (top 30) 0), defScope (inClass (top 30) 0), [], []⟩,
  ⟨("Marked", some "__eq__"), "__eq__", "Marked.__eq__", defArgs (inClass (top 30) 1), defBody (inClass (top 30) 1), defScope (inClass (top 30) 1), [], []⟩,
  ⟨("Layout", some "__init__"), "__init__", "Layout.__init__", defArgs (inClass (top 35) 0), defBody (inClass (top 35) 0), defScope (inClass (top 35) 0), [], []⟩,
  ⟨("Layout", some "__eq__"), "__eq__", "Layout.__eq__", defArgs (inClass (top 35) 1), defBody (inClass (top 35) 1), defScope (inClass (top 35) 1), [], []⟩,
  ⟨("Word", some "value_for"), "value_for", "Word.value_for", defArgs (inClass (top 25) 5), defBody (inClass (top 25) 5), defScope (inClass (top 25) 5), [], []⟩,
  ⟨("Word", some "puts_before"), "puts_before", "Word.puts_before", defArgs (inClass (top 25) 6), defBody (inClass (top 25) 6), defScope (inClass (top 25) 6), [], []⟩,
  ⟨("RunSpots", some "__init__"), "__init__", "RunSpots.__init__", defArgs (inClass (top 41) 0), defBody (inClass (top 41) 0), defScope (inClass (top 41) 0), [], []⟩,
  ⟨("RunSpots", some "spans_from"), "spans_from", "RunSpots.spans_from", defArgs (inClass (top 41) 1), defBody (inClass (top 41) 1), defScope (inClass (top 41) 1), [], []⟩,
  ⟨("WordSpots", some "__init__"), "__init__", "WordSpots.__init__", defArgs (inClass (top 42) 0), defBody (inClass (top 42) 0), defScope (inClass (top 42) 0), [], []⟩,
  ⟨("WordSpots", some "span_at"), "span_at", "WordSpots.span_at", defArgs (inClass (top 42) 1), defBody (inClass (top 42) 1), defScope (inClass (top 42) 1), [], []⟩,
  ⟨("Reading", some "__init__"), "__init__", "Reading.__init__", defArgs (inClass (top 53) 0), defBody (inClass (top 53) 0), defScope (inClass (top 53) 0), [], []⟩,
  ⟨("Reading", some "all_spans"), "all_spans", "Reading.all_spans", defArgs (inClass (top 53) 1), defBody (inClass (top 53) 1), defScope (inClass (top 53) 1), [], []⟩,
  ⟨("Reading", some "places_in"), "places_in", "Reading.places_in", defArgs (inClass (top 53) 2), defBody (inClass (top 53) 2), defScope (inClass (top 53) 2), [], []⟩,
  ⟨("Reading", some "counts_of_ways"), "counts_of_ways", "Reading.counts_of_ways", defArgs (inClass (top 53) 3), defBody (inClass (top 53) 3), defScope (inClass (top 53) 3), [], []⟩,
  ⟨("Reading", some "all_ways"), "all_ways", "Reading.all_ways", defArgs (inClass (top 53) 4), defBody (inClass (top 53) 4), defScope (inClass (top 53) 4), [], []⟩,
  ⟨("Reading", some "rows_from"), "rows_from", "Reading.rows_from", defArgs (inClass (top 53) 5), defBody (inClass (top 53) 5), defScope (inClass (top 53) 5), [], []⟩,
  ⟨("Reading", some "values_at"), "values_at", "Reading.values_at", defArgs (inClass (top 53) 6), defBody (inClass (top 53) 6), defScope (inClass (top 53) 6), [], []⟩,
  ⟨("Reading", some "hopeful_ends"), "hopeful_ends", "Reading.hopeful_ends", defArgs (inClass (top 53) 7), defBody (inClass (top 53) 7), defScope (inClass (top 53) 7), [], []⟩,
  ⟨("is_made_of", none), "is_made_of", "is_made_of", defArgs (top 13), defBody (top 13), defScope (top 13), [], []⟩,
  ⟨("is_sign", none), "is_sign", "is_sign", defArgs (top 14), defBody (top 14), defScope (top 14), [], []⟩,
  ⟨("are_signs", none), "are_signs", "are_signs", defArgs (top 15), defBody (top 15), defScope (top 15), [], []⟩,
  ⟨("is_number", none), "is_number", "is_number", defArgs (top 17), defBody (top 17), defScope (top 17), [], []⟩,
  ⟨("digits_of", none), "digits_of", "digits_of", defArgs (top 18), defBody (top 18), defScope (top 18), [], []⟩,
  ⟨("number_of", none), "number_of", "number_of", defArgs (top 19), defBody (top 19), defScope (top 19), [], []⟩,
  ⟨("check_signs", none), "check_signs", "check_signs", defArgs (top 21), defBody (top 21), defScope (top 21), [], []⟩,
  ⟨("check_span", none), "check_span", "check_span", defArgs (top 22), defBody (top 22), defScope (top 22), [], []⟩,
  ⟨("has_words_with", none), "has_words_with", "has_words_with", defArgs (top 24), defBody (top 24), defScope (top 24), [], []⟩,
  ⟨("is_sequence", none), "is_sequence", "is_sequence", defArgs (top 32), defBody (top 32), defScope (top 32), [], []⟩,
  ⟨("check_fields", none), "check_fields", "check_fields", defArgs (top 33), defBody (top 33), defScope (top 33), [], []⟩,
  ⟨("is_joint", none), "is_joint", "is_joint", defArgs (top 34), defBody (top 34), defScope (top 34), [], []⟩,
  ⟨("joints_behind", none), "joints_behind", "joints_behind", defArgs (top 36), defBody (top 36), defScope (top 36), [], []⟩,
  ⟨("first_from", none), "first_from", "first_from", defArgs (top 38), defBody (top 38), defScope (top 38), [], []⟩,
  ⟨("spots_in", none), "spots_in", "spots_in", defArgs (top 40), defBody (top 40), defScope (top 40), [], []⟩,
  ⟨("check_text", none), "check_text", "check_text", defArgs (top 50), defBody (top 50), defScope (top 50), [], []⟩,
  ⟨("rows_with", none), "rows_with", "rows_with", defArgs (top 51), defBody (top 51), defScope (top 51), [], []⟩,
  ⟨("count_ways", none), "count_ways", "count_ways", defArgs (top 52), defBody (top 52), defScope (top 52), [], []⟩,
  ⟨("_law_source", none), "_law_source", "_law_source", defArgs (top 55), defBody (top 55), defScope (top 55), [], []⟩,
  ⟨("_law_draw", none), "_law_draw", "_law_draw", defArgs (top 56), defBody (top 56), defScope (top 56), [], []⟩,
  ⟨("_law_pick", none), "_law_pick", "_law_pick", defArgs (top 57), defBody (top 57), defScope (top 57), [], []⟩,
  ⟨("_law_rows", none), "_law_rows", "_law_rows", defArgs (top 58), defBody (top 58), defScope (top 58), [], []⟩,
  ⟨("_law_told", none), "_law_told", "_law_told", defArgs (top 59), defBody (top 59), defScope (top 59), [], []⟩,
  ⟨("law", none), "law", "law", defArgs (top 60), defBody (top 60), defScope (top 60), [], []⟩]

def fa : List He.Fa := [.glo "JointError", .glo "BadField", .glo "NoText", .glo "BadLayout", .glo "Large", .glo "Layout", .glo "RunSpots", .glo "WordSpots", .glo "Reading", .glo "Word", .glo "Number", .glo "Fixed", .glo "Listed", .glo "Ended", .glo "Marked", .glo "is_made_of", .glo "is_sign", .glo "are_signs", .glo "is_number", .glo "digits_of", .glo "number_of", .glo "check_signs", .glo "check_span", .glo "has_words_with", .glo "is_sequence", .glo "check_fields", .glo "is_joint", .glo "joints_behind", .glo "first_from", .glo "spots_in", .glo "check_text", .glo "rows_with", .glo "count_ways", .glo "_law_source", .glo "_law_draw", .glo "_law_pick", .glo "_law_rows", .glo "_law_told", .glo "law", .free "abs", .free "int", .free "bool", .free "isinstance", .free "range", .free "len", .free "set", .free "type", .free "str", .free "reversed", .free "tuple", .free "list", .free "any", .free "all", .free "min", .free "max", .free "zip", .free "enumerate", .str "SIGNS" SG, .str "DIGITS" DG, .str "LOW" "!", .str "HIGH" "~", .int "MOST_ROWS" 1000, .cls "Word", .mkr "Word", .noat "Word" "signs", .noat "Word" "least", .noat "Word" "most", .meth "Word" "value_for", .meth "Word" "puts_before", .meth "Word" "has_sign", .cls "Number", .mkr "Number", .noat "Number" "least", .noat "Number" "most", .meth "Number" "has_sign", .cls "Fixed", .mkr "Fixed", .noat "Fixed" "width", .meth "Fixed" "has_sign", .cls "Listed", .mkr "Listed", .noat "Listed" "texts", .meth "Listed" "has_sign", .cls "Ended", .mkr "Ended", .noat "Ended" "signs", .noat "Ended" "sign", .noat "Ended" "least", .noat "Ended" "most", .meth "Ended" "has_sign", .cls "Marked", .mkr "Marked", .noat "Marked" "none", .noat "Marked" "mark", .noat "Marked" "field", .cls "Layout", .mkr "Layout", .noat "Layout" "fields", .noat "Layout" "joints", .cls "WordSpots", .mkr "WordSpots", .noat "WordSpots" "text", .noat "WordSpots" "signs", .noat "WordSpots" "least", .noat "WordSpots" "most", .meth "WordSpots" "spans_from", .meth "WordSpots" "span_at", .cls "Reading", .mkr "Reading", .noat "Reading" "layout", .noat "Reading" "text", .noat "Reading" "spans", .noat "Reading" "ways", .noat "Reading" "ends", .noat "Reading" "kept", .meth "Reading" "all_spans", .meth "Reading" "places_in", .meth "Reading" "counts_of_ways", .meth "Reading" "all_ways", .meth "Reading" "rows_from", .meth "Reading" "values_at", .meth "Reading" "hopeful_ends"]

def kcB (K : Frag) (C : Addr) : Bool := He.eqO (findIn K (.ref C) "__class__") (some (some (.builtin "object.__class__"))) && (decide (mroIn K C (.type "object") = some true) && (notFirst K C (.type "tuple") && (eqcB K C && keepIn K (.ref (He.ma K C "__eq__")))))
def exN (K : Frag) : Bool := errB K (BY K) ["what"] ["told"] && (He.eqO (findIn K (.ref (BY K)) "__init__") (some (some (.ref (He.ma K (BY K) "__init__")))) && (decide (typeIn K (.ref (He.ma K (BY K) "__init__")) = some (.type "function")) && decide (exmOne K (.ref (BY K)) (.ref (BY K)) = some true)))
def exE (K : Frag) (C : Addr) (f : Str) : Bool := errB K C [f] ["told"] && (He.eqO (findIn K (.ref C) "__init__") (some (some (.ref (He.ma K C "__init__")))) && (decide (typeIn K (.ref (He.ma K C "__init__")) = some (.type "function")) && decide (exmOne K (.ref C) (.ref C) = some true)))
def exB (K : Frag) : Bool := exE K (NT K) "text" && (exE K (LG K) "count" && (He.eqO (nsIn K mainGlobals "accumulate") (some (some (.type "itertools.accumulate"))) && (decide (He.ma K (He.ga K "WordSpots") "spans_from" = He.ma K (He.ga K "RunSpots") "spans_from") &&
  clsFnB K (He.ga K "RunSpots") (He.ma K (He.ga K "RunSpots") "__init__") "__init__")))
def ex (K : Frag) : Bool := exB K && (exN K && ((errB K (BF K) ["what"] ["told"] && (He.eqO (findIn K (.ref (BF K)) "__init__") (some (some (.ref (He.ma K (BF K) "__init__")))) && (decide (typeIn K (.ref (He.ma K (BF K) "__init__")) = some (.type "function")) &&
  (decide (exmOne K (.ref (BF K)) (.ref (BF K)) = some true) && (He.eqO (specialIn K (.builtin "object.__class__") "__get__") (some (some (.builtin "getset_descriptor.__get__"))) && decide (takesIn K (.builtin "object.__class__") = some true)))))) &&
  ((List.range 7).all fun i => kcB K (ca K i) && ((["NoneType", "tuple", "list"] : List String).all (fun T => decide (subIn K (.ref (ca K i)) (.type T) = some false)) && (notFirst K (ca K i) (.type "list") && (List.range 7).all fun j => notFirst K (ca K i) (.ref (ca K j)) && decide ((ca K i = ca K j) ↔ i = j)))) &&
  (List.range 6).all fun i => (["NoneType", "str", "int", "bool", "tuple", "list"] : List String).all (fun T => decide (kitOne K (.type T) (.ref (ca K i)) = some false)) && (decide (kitOne K (.ref (ca K i)) (.type "str") = some false) &&
  (List.range 6).all fun j => decide (kitOne K (.ref (ca K i)) (.ref (ca K j)) = some (decide (i = j))))))
abbrev R : PySem.W.OpenRow := PySem.W.OpenLaw.row PySem.Challenge.rw_jointkeys_k22_a_thousand_rows_and_one_mo
abbrev hk : PySem.W.Hook := hookC 4 fa fn [] [] ex
def ob (s : PySem.W.SharedT) : He.AlX := obsC 4 fa fn [] [] ex (HandSHeadRun.getT s)
theorem ob_eq (s : PySem.W.SharedT) : ob s = hk.obs s.abs := obsC_eq (HandSHeadRun.getT_eq s)
def names : List PySem.Str := (["_wall", "__name__", "JointError", "BadField", "NoText", "BadLayout", "Large", "SIGNS", "DIGITS", "LOW", "HIGH", "is_made_of", "is_sign", "are_signs", "is_number", "digits_of", "number_of", "check_signs", "check_span", "is_within", "has_words_with", "Word", "Number", "Fixed", "Listed", "Ended", "Marked", "is_sequence", "check_fields", "is_joint"] : List PySem.Str) ++ (["Layout", "joints_behind", "first_from", "spots_in", "RunSpots", "WordSpots", "EndedSpots", "FixedSpots", "NumberSpots", "ListedSpots", "MarkedSpots", "MOST_ROWS", "check_text", "rows_with", "count_ways", "Reading", "_law_source", "_law_draw", "_law_pick", "_law_rows", "_law_told"] : List PySem.Str)
theorem run (w : World) : HandSHeadRun.RunEqI R (PySem.W.view R.prog [0, 60]) hk ob 16000 names w := by
  unfold HandSHeadRun.RunEqI
  kernel_rfl
end L2.K22

set_option Elab.async false
set_option linter.all false
set_option maxRecDepth 100000
set_option maxHeartbeats 4000000
/-! set(..) of texts: how many members it has. -/
namespace L2.Jk
open PySem PySem.W PySem.Spec PySem.Calls PyProof.Rows

/-- how many of the first i are new -/
def newS (ks : Nat → Str) : Nat → Nat
  | 0 => 0
  | i + 1 => if (List.range i).any (fun j => ks j == ks i) then newS ks i else newS ks i + 1
theorem newS_le (ks : Nat → Str) : ∀ i, newS ks i ≤ i
  | 0 => Nat.le_refl _
  | i + 1 => by
    have := newS_le ks i
    unfold newS
    split <;> omega
section
variable {prog : Program} {w : World} {A : Around} {R : Result → Shared → Prop} {I : Addr} {fp wr : List Addr} {G : Array GenState → Array GenState → Prop} {n : Nat} {P : Nat → Value → Prop} {Z : Nat → Shared → Prop}
/-- what the set holds behind i items -/
def HeldS (prog : Program) (w : World) (h : Heap) (S : Addr) (ks : Nat → Str) (i : Nat) : Prop := h.SetOf (PySem.strKind prog w) S (fun k => (List.range i).any fun j => ks j == k) (newS ks i)
theorem HeldS.at {h h' : Heap} {S : Addr} {ks : Nat → Str} {i : Nat} (H : HeldS prog w h S ks i) (k : ∀ o, h.get? S = some o → h'.get? S = some o) : HeldS prog w h' S ks i := by
  obtain ⟨o, es, ep, t, ho, r⟩ := H
  exact ⟨o, es, ep, t, k o ho, r⟩
theorem set_loop (W : WalksS prog w A.in1 I fp wr G n P Z) (S : Addr) (hS : S ∉ fp) (ks : Nat → Str) (hn : n + 1 < scanBound) (hv : ∀ i v, P i v → ∃ t, v = .str (ks i) t) :
    ∀ (k i : Nat) (s : Shared), n - i = k → i ≤ n → Z i s → HeldS prog w s.heap S ks i →
      (∀ s', Moved (S :: wr) G s s' → HeldS prog w s'.heap S ks n → R (.ok (.ret .none)) s') → codeAny (model prog w) A (.builtin "set.update.loop" ⟨[.ref S, .ref I], []⟩) R s := by
  have sw : S ∉ wr := fun z => hS (W.sub _ z)
  have up : ∀ b ∈ wr, b ∈ S :: wr := fun b z => List.mem_cons_of_mem _ z
  intro k
  induction k with
  | zero =>
    intro i s hk hi hz H hR
    obtain rfl : i = n := by omega
    refine codeAny_builtin PyProof.Rows.F.entry_set_update_loop ?_
    rw [Around.under_plainId PyProof.Rows.F.plain_set_update_loop _]
    show wpAny _ A.in1 (pyNext (.ref I) >>= _) _ _ s
    refine wpAny_bind (W.done s _ _ hz fun s' m => ?_)
    show wpAny _ A.in1 (ret Value.none) _ _ s'
    exact wpAny_pure (hR s' (m.mono up) (H.at fun o e => m.heap S o sw e))
  | succ k ih =>
    intro i s hk hi hz H hR
    have lt : i < n := by omega
    refine codeAny_builtin PyProof.Rows.F.entry_set_update_loop ?_
    rw [Around.under_plainId PyProof.Rows.F.plain_set_update_loop _]
    show wpAny _ A.in1 (pyNext (.ref I) >>= _) _ _ s
    refine wpAny_bind (W.item i s _ _ lt hz fun v s' hp hz' m => ?_)
    obtain ⟨t, rfl⟩ := hv i v hp
    have H' : HeldS prog w s'.heap S ks i := H.at fun o e => m.heap S o sw e
    show wpAny _ A.in1 (holding [Value.str (ks i) t] (setAdd S (.str (ks i) t)) >>= _) _ _ s'
    refine wpAny_bind (wpAny_holding ?_)
    unfold setAdd
    refine wpAny_holding (wpAny_bind ((PySem.strKind prog w).pyHash (k := ks i) (strKind_is _ _ _ _) ?_))
    have few := newS_le ks i
    refine wpAny_setAddHashed_of (knd := PySem.strKind prog w) (s := { s' with toks := s'.toks + 1 }) (strKind_is _ _ _ _) rfl H' (by omega) fun h' sb H2 => ?_
    have H3 : HeldS prog w h' S ks (i + 1) := by
      refine PyProof.Rows.SetOf_congr H2 (fun q => ?_) ?_
      · show ((List.range i).any (fun j => ks j == q) || decide (q = ks i)) = (List.range (i + 1)).any fun j => ks j == q
        rw [List.range_succ, List.any_append]
        congr 1
        by_cases e : q = ks i
        · subst e
          simp
        · have e2 : (ks i == q) = false := beq_eq_false_iff_ne.mpr fun z => e z.symm
          simp [e, e2]
      · show (if (List.range i).any (fun j => ks j == ks i) = true then newS ks i else newS ks i + 1) = newS ks (i + 1)
        rfl
    refine wpAny_pure ⟨plainId_quiet PyProof.Rows.F.plain_set_update_loop _, ih (i + 1) _ (by omega) lt (W.frame _ s' _ _ hz' (Nat.le_succ _) fun b hb o e => ?_) H3 fun s2 m2 H4 => ?_⟩
    · rw [sb.2 b (fun z : b = S => hS (z ▸ hb))]
      exact e
    · refine hR s2 (Moved.trans W.gtrans ((m.mono up).then_heap (Nat.le_succ _) fun b o hb e => ?_) m2) H4
      rw [sb.2 b (fun z : b = S => hb (z ▸ List.mem_cons_self))]
      exact e
end
theorem sign_at {x : Str} {i : Nat} {v : Value} (z : SignAt x i v) : ∃ t, v = .str ⟨#[x.cps.getD i 0]⟩ t := by
  obtain ⟨c, t, h, e⟩ := z
  refine ⟨t, ?_⟩
  subst e
  rw [Array.getD_eq_getD_getElem?, h]
  rfl
end L2.Jk

set_option Elab.async false
set_option linter.all false
set_option maxRecDepth 100000
set_option maxHeartbeats 8000000
namespace L2.Jk
open PySem PySem.W PySem.Spec PySem.Calls PyProof.Rows
section
variable {prog : Program} {w : World} {A : Around} {E : Value → Shared → Prop} {s : Shared}
set_option maxHeartbeats 8000000 in
theorem set_callStr {x : Str} {tk0 : Tok} {Q : Value → Shared → Prop} (hh : A.handled = none)  (hn : x.cps.size + 1 < scanBound)
    (h : ∀ (h' : Heap) (tk : Nat), HeldS prog w h' s.heap.objs.size (fun i => ⟨#[x.cps.getD i 0]⟩) (x.cps.size) → (∀ b o, b < s.heap.objs.size → s.heap.get? b = some o → h'.get? b = some o) → Q (.ref s.heap.objs.size) { s with heap := h', toks := tk }) :
    wpAny (model prog w) A (call (.type "set") [(.str x tk0)]) Q E s := by
  obtain ⟨c, tl, hmro⟩ := PySem.F.called_set.mro
  have c1 := PySem.F.called_set.made
  have c2 := PySem.F.called_set.sub
  refine wpAny_call (codeAny_of_tree ?_)
  show wpAny _ _ (callAny (.type "set") _) _ _ _
  refine wpAny_pure ⟨Code.quiet_builtin _ (by decide +kernel), codeAny_builtin PySem.F.entry_type_call ?_⟩
  rw [Around.under_plain (weight_type_call_type "set" [(.str x tk0)] []) rfl]
  have c3 := PySem.F.called_set.notType
  have c4 := PySem.F.called_set.canCreate
  have c5 := PySem.F.typeCall_set_1 (.str x tk0)
  repeat (any_goals (first | assumption | wp_step))
  refine codeAny_mono (code_set_new_1 (.str x tk0) (E := E) (Q₁ := fun ob s₁ => ∃ led : Bool, ob = .ref s.heap.objs.size ∧ s₁ = { s with heap := s.heap.push { cls := .type "set", dict := none, data := .set #[] 0 (.fresh 0 0 led) } }) fun led => ⟨led, rfl, rfl⟩) fun r s₁ hr => ?_
  cases r with
  | error e => exact hr
  | ok fl =>
    cases fl with
    | ret ob =>
      obtain ⟨led, rfl, rfl⟩ := hr
      have hS : (s.heap.push { cls := .type "set", dict := none, data := .set #[] 0 (.fresh 0 0 led) }).get? s.heap.objs.size = some { cls := .type "set", dict := none, data := .set #[] 0 (.fresh 0 0 led) } := Heap.get?_push_size _ rfl
      have hT : Shared.TypeIs { s with heap := s.heap.push { cls := .type "set", dict := none, data := .set #[] 0 (.fresh 0 0 led) } } (.ref s.heap.objs.size) "set" := ⟨_, hS, rfl⟩
      have c6 := PySem.F.called_set.init.lookup
      have c7 := PySem.F.called_set.init.bind (.ref s.heap.objs.size)
      repeat (any_goals (first | assumption | wp_step))
      refine codeAny_mono (codeAny_call_builtin (R := wants (fun r s₂ => r = .none ∧ ∃ h' tk, s₂ = { s with heap := h', toks := tk } ∧ HeldS prog w h' s.heap.objs.size (fun i => ⟨#[x.cps.getD i 0]⟩) (x.cps.size) ∧
          (∀ b o, b < s.heap.objs.size → s.heap.get? b = some o → h'.get? b = some o)) E) PySem.F.called_set.init.plain PySem.F.entry_set_init (check_set_init_1 hT ?_)) fun r₂ s₂ hr₂ => ?_
      · have a1 := PySem.F.sub_str_set
        have a2 := PySem.F.sub_str_frozenset
        have a3 : (Value.type "str" == Value.type "dict") = false := by decide
        unfold Builtin.«set.__init__» noKeywords Builtin.Frozenset.updateFrom
        generalize hPI : pyIter = PI
        wp_walk
        subst hPI
        refine wpAny_pyIter_strU ?_
        refine wpAny_bind (wpAny_runValue ?_)
        have sf : s.heap.objs.size ∉ [(s.heap.push { cls := .type "set", dict := none, data := .set #[] 0 (.fresh 0 0 led) }).objs.size] := by
          rw [Heap.size_push]
          simp only [List.mem_cons, List.mem_singleton, List.not_mem_nil, or_false, not_or]
          exact Nat.ne_of_lt (Nat.lt_succ_self _)
        have h3 : A.in1.in1.in1.handled = none := by simp [hh]
        have sv : ∀ i v, SignAt x i v → ∃ t, v = .str ⟨#[x.cps.getD i 0]⟩ t := fun i v z => sign_at z
        have got : ∀ T, ((s.heap.push { cls := .type "set", dict := none, data := .set #[] 0 (.fresh 0 0 led) }).push { cls := .type T, data := .fields #[.str x tk0, .int 0 0] }).IsStrIter (s.heap.push { cls := .type "set", dict := none, data := .set #[] 0 (.fresh 0 0 led) }).objs.size T x tk0 0 := fun T => ⟨_, Heap.get?_push_size _ rfl, rfl, rfl⟩
        cases ha : x.cps.all (· < 128) with
        | false =>
          rw [show strIterType x = "str_iterator" by unfold strIterType; rw [ha]; rfl]
          refine set_loop ((Walks.strWide h3 _ x tk0).toS) s.heap.objs.size sf _ hn sv (x.cps.size - 0) 0 _ (by omega) (Nat.zero_le _) (got _) (PyProof.Rows.SetOf_congr ((PyProof.Rows.setObjOf_fresh (knd := PySem.strKind prog w) led).setOf (Heap.get?_push_of_some _ hS) (by unfold scanBound; omega)) (fun _ => rfl) rfl) ?hR
          case hR =>
            intro s' m H'
            obtain ⟨h', g', d', tk', os'⟩ := s'
            obtain rfl : g' = s.gens := m.gens
            obtain rfl : d' = s.drawn := m.drawn
            obtain rfl : os' = s.os := m.os
            show wpAny _ _ _ _ _ _
            refine wpAny_pure ?_
            show wpAny _ _ (ret Value.none) _ _ _
            refine wpAny_pure ⟨rfl, h', tk', rfl, H', fun b o hb e => ?_⟩
            have b1 : b ≠ s.heap.objs.size := Nat.ne_of_lt hb
            have b2 : b ≠ (s.heap.push { cls := .type "set", dict := none, data := .set #[] 0 (.fresh 0 0 led) }).objs.size := by
              rw [Heap.size_push]
              exact Nat.ne_of_lt (Nat.lt_succ_of_lt hb)
            exact m.heap b o (by simp only [List.mem_cons, List.mem_singleton, List.not_mem_nil, or_false, not_or]; exact ⟨b1, b2⟩) (Heap.get?_push_of_some _ (Heap.get?_push_of_some _ e))
        | true =>
          rw [show strIterType x = "str_ascii_iterator" by unfold strIterType; rw [ha]; rfl]
          refine set_loop ((Walks.strAscii h3 _ x tk0).toS) s.heap.objs.size sf _ hn sv (x.cps.size - 0) 0 _ (by omega) (Nat.zero_le _) (got _) (PyProof.Rows.SetOf_congr ((PyProof.Rows.setObjOf_fresh (knd := PySem.strKind prog w) led).setOf (Heap.get?_push_of_some _ hS) (by unfold scanBound; omega)) (fun _ => rfl) rfl) ?hR
          case hR =>
            intro s' m H'
            obtain ⟨h', g', d', tk', os'⟩ := s'
            obtain rfl : g' = s.gens := m.gens
            obtain rfl : d' = s.drawn := m.drawn
            obtain rfl : os' = s.os := m.os
            show wpAny _ _ _ _ _ _
            refine wpAny_pure ?_
            show wpAny _ _ (ret Value.none) _ _ _
            refine wpAny_pure ⟨rfl, h', tk', rfl, H', fun b o hb e => ?_⟩
            have b1 : b ≠ s.heap.objs.size := Nat.ne_of_lt hb
            have b2 : b ≠ (s.heap.push { cls := .type "set", dict := none, data := .set #[] 0 (.fresh 0 0 led) }).objs.size := by
              rw [Heap.size_push]
              exact Nat.ne_of_lt (Nat.lt_succ_of_lt hb)
            exact m.heap b o (by simp only [List.mem_cons, List.mem_singleton, List.not_mem_nil, or_false, not_or]; exact ⟨b1, b2⟩) (Heap.get?_push_of_some _ (Heap.get?_push_of_some _ e))

      · cases r₂ with
        | error e => exact hr₂
        | ok f2 =>
          cases f2 with
          | ret r =>
            obtain ⟨rfl, h', tk, rfl, H', k'⟩ := hr₂
            repeat (any_goals (first | assumption | wp_step))
            exact h _ _ H' k'
          | _ => exact hr₂.elim
    | _ => exact hr.elim
end
end L2.Jk

set_option Elab.async false
set_option linter.all false
set_option maxRecDepth 100000
set_option maxHeartbeats 8000000
namespace L2.Jk
open PySem PySem.W PySem.Spec PySem.Calls PyProof.Rows
section
variable {prog : Program} {w : World} {A : Around} {E : Value → Shared → Prop} {s : Shared}
set_option maxHeartbeats 8000000 in
theorem set_callList {l : Addr} {its : Array Value} {ks : Nat → Str} {Q : Value → Shared → Prop} (hh : A.handled = none) (hl : s.heap.IsList l its) (hk : ∀ i v, its[i]? = some v → ∃ t : Tok, v = Value.str (ks i) t) (hn : its.size + 1 < scanBound)
    (h : ∀ (h' : Heap) (tk : Nat), HeldS prog w h' s.heap.objs.size (ks) (its.size) → (∀ b o, b < s.heap.objs.size → s.heap.get? b = some o → h'.get? b = some o) → Q (.ref s.heap.objs.size) { s with heap := h', toks := tk }) :
    wpAny (model prog w) A (call (.type "set") [(.ref l)]) Q E s := by
  obtain ⟨c, tl, hmro⟩ := PySem.F.called_set.mro
  have c1 := PySem.F.called_set.made
  have c2 := PySem.F.called_set.sub
  refine wpAny_call (codeAny_of_tree ?_)
  show wpAny _ _ (callAny (.type "set") _) _ _ _
  refine wpAny_pure ⟨Code.quiet_builtin _ (by decide +kernel), codeAny_builtin PySem.F.entry_type_call ?_⟩
  rw [Around.under_plain (weight_type_call_type "set" [(.ref l)] []) rfl]
  have c3 := PySem.F.called_set.notType
  have c4 := PySem.F.called_set.canCreate
  have c5 := PySem.F.typeCall_set_1 (.ref l)
  repeat (any_goals (first | assumption | wp_step))
  refine codeAny_mono (code_set_new_1 (.ref l) (E := E) (Q₁ := fun ob s₁ => ∃ led : Bool, ob = .ref s.heap.objs.size ∧ s₁ = { s with heap := s.heap.push { cls := .type "set", dict := none, data := .set #[] 0 (.fresh 0 0 led) } }) fun led => ⟨led, rfl, rfl⟩) fun r s₁ hr => ?_
  cases r with
  | error e => exact hr
  | ok fl =>
    cases fl with
    | ret ob =>
      obtain ⟨led, rfl, rfl⟩ := hr
      have hS : (s.heap.push { cls := .type "set", dict := none, data := .set #[] 0 (.fresh 0 0 led) }).get? s.heap.objs.size = some { cls := .type "set", dict := none, data := .set #[] 0 (.fresh 0 0 led) } := Heap.get?_push_size _ rfl
      have hT : Shared.TypeIs { s with heap := s.heap.push { cls := .type "set", dict := none, data := .set #[] 0 (.fresh 0 0 led) } } (.ref s.heap.objs.size) "set" := ⟨_, hS, rfl⟩
      have c6 := PySem.F.called_set.init.lookup
      have c7 := PySem.F.called_set.init.bind (.ref s.heap.objs.size)
      repeat (any_goals (first | assumption | wp_step))
      refine codeAny_mono (codeAny_call_builtin (R := wants (fun r s₂ => r = .none ∧ ∃ h' tk, s₂ = { s with heap := h', toks := tk } ∧ HeldS prog w h' s.heap.objs.size (ks) (its.size) ∧
          (∀ b o, b < s.heap.objs.size → s.heap.get? b = some o → h'.get? b = some o)) E) PySem.F.called_set.init.plain PySem.F.entry_set_init (check_set_init_1 hT ?_)) fun r₂ s₂ hr₂ => ?_
      · obtain ⟨⟨oc, od, odt, osl⟩, hol, hcl, nl, hdl⟩ := id hl
        dsimp only at hcl hdl
        subst hcl; subst hdl
        have old := Heap.get?_push_of_some ({ cls := .type "set", dict := none, data := .set #[] 0 (.fresh 0 0 led) } : Obj) hol
        have a1 := PySem.F.sub_list_set
        have a2 := PySem.F.sub_list_frozenset
        have a3 : (Value.type "list" == Value.type "dict") = false := by decide
        have hl1 : (s.heap.push { cls := .type "set", dict := none, data := .set #[] 0 (.fresh 0 0 led) }).IsList l its := ⟨_, old, rfl, nl, rfl⟩
        unfold Builtin.«set.__init__» noKeywords Builtin.Frozenset.updateFrom
        generalize hPI : pyIter = PI
        wp_walk
        subst hPI
        refine wpAny_pyIter_list hl1 ?_
        refine wpAny_bind (wpAny_runValue ?_)
        have h3 : A.in1.in1.in1.handled = none := by simp [hh]
        have nI : l ≠ (s.heap.push { cls := .type "set", dict := none, data := .set #[] 0 (.fresh 0 0 led) }).objs.size := by
          rw [Heap.size_push]
          exact Nat.ne_of_lt (Nat.lt_succ_of_lt (Heap.lt_size hol))
        have sf : s.heap.objs.size ∉ [(s.heap.push { cls := .type "set", dict := none, data := .set #[] 0 (.fresh 0 0 led) }).objs.size, l] := by
          rw [Heap.size_push]
          simp only [List.mem_cons, List.mem_singleton, List.not_mem_nil, or_false, not_or]
          exact ⟨Nat.ne_of_lt (Nat.lt_succ_self _), Nat.ne_of_gt (Heap.lt_size hol)⟩
        refine set_loop ((Walks.list h3 _ l nI its).toS) s.heap.objs.size sf ks hn (fun i v z => hk i v z) (its.size - 0) 0 _ (by omega) (Nat.zero_le _) ⟨⟨_, Heap.get?_push_size _ rfl, rfl, rfl⟩, (hl1.push _)⟩ (PyProof.Rows.SetOf_congr ((PyProof.Rows.setObjOf_fresh (knd := PySem.strKind prog w) led).setOf (Heap.get?_push_of_some _ hS) (by unfold scanBound; omega)) (fun _ => rfl) rfl) ?hR
        case hR =>
          intro s' m H'
          obtain ⟨h', g', d', tk', os'⟩ := s'
          obtain rfl : g' = s.gens := m.gens
          obtain rfl : d' = s.drawn := m.drawn
          obtain rfl : os' = s.os := m.os
          show wpAny _ _ _ _ _ _
          refine wpAny_pure ?_
          show wpAny _ _ (ret Value.none) _ _ _
          refine wpAny_pure ⟨rfl, h', tk', rfl, H', fun b o hb e => ?_⟩
          have b1 : b ≠ s.heap.objs.size := Nat.ne_of_lt hb
          have b2 : b ≠ (s.heap.push { cls := .type "set", dict := none, data := .set #[] 0 (.fresh 0 0 led) }).objs.size := by
            rw [Heap.size_push]
            exact Nat.ne_of_lt (Nat.lt_succ_of_lt hb)
          exact m.heap b o (by simp only [List.mem_cons, List.mem_singleton, List.not_mem_nil, or_false, not_or]; exact ⟨b1, b2⟩) (Heap.get?_push_of_some _ (Heap.get?_push_of_some _ e))

      · cases r₂ with
        | error e => exact hr₂
        | ok f2 =>
          cases f2 with
          | ret r =>
            obtain ⟨rfl, h', tk, rfl, H', k'⟩ := hr₂
            repeat (any_goals (first | assumption | wp_step))
            exact h _ _ H' k'
          | _ => exact hr₂.elim
    | _ => exact hr.elim
end
end L2.Jk

set_option Elab.async false
set_option linter.all false
set_option maxRecDepth 100000
set_option maxHeartbeats 8000000
namespace L2.Jk
open PySem PySem.W PySem.Spec PySem.Calls PyProof.Rows
section
variable {prog : Program} {w : World} {A : Around} {E : Value → Shared → Prop} {s : Shared}
set_option maxHeartbeats 8000000 in
theorem set_callTup {l : Addr} {its : Array Value} {ks : Nat → Str} {Q : Value → Shared → Prop} (hh : A.handled = none) (hl : s.heap.IsTuple l its) (hk : ∀ i v, its[i]? = some v → ∃ t : Tok, v = Value.str (ks i) t) (hn : its.size + 1 < scanBound)
    (h : ∀ (h' : Heap) (tk : Nat), HeldS prog w h' s.heap.objs.size (ks) (its.size) → (∀ b o, b < s.heap.objs.size → s.heap.get? b = some o → h'.get? b = some o) → Q (.ref s.heap.objs.size) { s with heap := h', toks := tk }) :
    wpAny (model prog w) A (call (.type "set") [(.ref l)]) Q E s := by
  obtain ⟨c, tl, hmro⟩ := PySem.F.called_set.mro
  have c1 := PySem.F.called_set.made
  have c2 := PySem.F.called_set.sub
  refine wpAny_call (codeAny_of_tree ?_)
  show wpAny _ _ (callAny (.type "set") _) _ _ _
  refine wpAny_pure ⟨Code.quiet_builtin _ (by decide +kernel), codeAny_builtin PySem.F.entry_type_call ?_⟩
  rw [Around.under_plain (weight_type_call_type "set" [(.ref l)] []) rfl]
  have c3 := PySem.F.called_set.notType
  have c4 := PySem.F.called_set.canCreate
  have c5 := PySem.F.typeCall_set_1 (.ref l)
  repeat (any_goals (first | assumption | wp_step))
  refine codeAny_mono (code_set_new_1 (.ref l) (E := E) (Q₁ := fun ob s₁ => ∃ led : Bool, ob = .ref s.heap.objs.size ∧ s₁ = { s with heap := s.heap.push { cls := .type "set", dict := none, data := .set #[] 0 (.fresh 0 0 led) } }) fun led => ⟨led, rfl, rfl⟩) fun r s₁ hr => ?_
  cases r with
  | error e => exact hr
  | ok fl =>
    cases fl with
    | ret ob =>
      obtain ⟨led, rfl, rfl⟩ := hr
      have hS : (s.heap.push { cls := .type "set", dict := none, data := .set #[] 0 (.fresh 0 0 led) }).get? s.heap.objs.size = some { cls := .type "set", dict := none, data := .set #[] 0 (.fresh 0 0 led) } := Heap.get?_push_size _ rfl
      have hT : Shared.TypeIs { s with heap := s.heap.push { cls := .type "set", dict := none, data := .set #[] 0 (.fresh 0 0 led) } } (.ref s.heap.objs.size) "set" := ⟨_, hS, rfl⟩
      have c6 := PySem.F.called_set.init.lookup
      have c7 := PySem.F.called_set.init.bind (.ref s.heap.objs.size)
      repeat (any_goals (first | assumption | wp_step))
      refine codeAny_mono (codeAny_call_builtin (R := wants (fun r s₂ => r = .none ∧ ∃ h' tk, s₂ = { s with heap := h', toks := tk } ∧ HeldS prog w h' s.heap.objs.size (ks) (its.size) ∧
          (∀ b o, b < s.heap.objs.size → s.heap.get? b = some o → h'.get? b = some o)) E) PySem.F.called_set.init.plain PySem.F.entry_set_init (check_set_init_1 hT ?_)) fun r₂ s₂ hr₂ => ?_
      · obtain ⟨⟨oc, od, odt, osl⟩, hol, hcl, nl, hdl⟩ := id hl
        dsimp only at hcl hdl
        subst hcl; subst hdl
        have old := Heap.get?_push_of_some ({ cls := .type "set", dict := none, data := .set #[] 0 (.fresh 0 0 led) } : Obj) hol
        have a1 := PySem.F.sub_tuple_set
        have a2 := PySem.F.sub_tuple_frozenset
        have a3 : (Value.type "tuple" == Value.type "dict") = false := by decide
        have hl1 : (s.heap.push { cls := .type "set", dict := none, data := .set #[] 0 (.fresh 0 0 led) }).IsTuple l its := ⟨_, old, rfl, nl, rfl⟩
        unfold Builtin.«set.__init__» noKeywords Builtin.Frozenset.updateFrom
        generalize hPI : pyIter = PI
        wp_walk
        subst hPI
        refine wpAny_pyIter_tuple hl1 ?_
        refine wpAny_bind (wpAny_runValue ?_)
        have h3 : A.in1.in1.in1.handled = none := by simp [hh]
        have nI : l ≠ (s.heap.push { cls := .type "set", dict := none, data := .set #[] 0 (.fresh 0 0 led) }).objs.size := by
          rw [Heap.size_push]
          exact Nat.ne_of_lt (Nat.lt_succ_of_lt (Heap.lt_size hol))
        have sf : s.heap.objs.size ∉ [(s.heap.push { cls := .type "set", dict := none, data := .set #[] 0 (.fresh 0 0 led) }).objs.size, l] := by
          rw [Heap.size_push]
          simp only [List.mem_cons, List.mem_singleton, List.not_mem_nil, or_false, not_or]
          exact ⟨Nat.ne_of_lt (Nat.lt_succ_self _), Nat.ne_of_gt (Heap.lt_size hol)⟩
        refine set_loop ((Walks.tuple h3 _ l nI its).toS) s.heap.objs.size sf ks hn (fun i v z => hk i v z) (its.size - 0) 0 _ (by omega) (Nat.zero_le _) ⟨⟨_, Heap.get?_push_size _ rfl, rfl, rfl⟩, (hl1.push _)⟩ (PyProof.Rows.SetOf_congr ((PyProof.Rows.setObjOf_fresh (knd := PySem.strKind prog w) led).setOf (Heap.get?_push_of_some _ hS) (by unfold scanBound; omega)) (fun _ => rfl) rfl) ?hR
        case hR =>
          intro s' m H'
          obtain ⟨h', g', d', tk', os'⟩ := s'
          obtain rfl : g' = s.gens := m.gens
          obtain rfl : d' = s.drawn := m.drawn
          obtain rfl : os' = s.os := m.os
          show wpAny _ _ _ _ _ _
          refine wpAny_pure ?_
          show wpAny _ _ (ret Value.none) _ _ _
          refine wpAny_pure ⟨rfl, h', tk', rfl, H', fun b o hb e => ?_⟩
          have b1 : b ≠ s.heap.objs.size := Nat.ne_of_lt hb
          have b2 : b ≠ (s.heap.push { cls := .type "set", dict := none, data := .set #[] 0 (.fresh 0 0 led) }).objs.size := by
            rw [Heap.size_push]
            exact Nat.ne_of_lt (Nat.lt_succ_of_lt hb)
          exact m.heap b o (by simp only [List.mem_cons, List.mem_singleton, List.not_mem_nil, or_false, not_or]; exact ⟨b1, b2⟩) (Heap.get?_push_of_some _ (Heap.get?_push_of_some _ e))

      · cases r₂ with
        | error e => exact hr₂
        | ok f2 =>
          cases f2 with
          | ret r =>
            obtain ⟨rfl, h', tk, rfl, H', k'⟩ := hr₂
            repeat (any_goals (first | assumption | wp_step))
            exact h _ _ H' k'
          | _ => exact hr₂.elim
    | _ => exact hr.elim
end
end L2.Jk

set_option Elab.async false
set_option linter.all false
set_option maxRecDepth 100000
set_option maxHeartbeats 4000000
/-! != of two tuples that are equal item by item, instances with an own __eq__ among the items. -/
namespace L2.Jk
open PySem PySem.W PySem.Spec PySem.Calls PyProof.Rows PySem.SeqAt
open AutoSeq1 (wpAny_loadPart')

section
variable {prog : Program} {w : World} {A : Around} {R : Result → Shared → Prop} {E : Value → Shared → Prop} {s : Shared}
theorem tup_ne_same (l b : Addr) (its jts : Array Value) (n n2 : Nat) (dd dd2 : Option Addr) (sl sl2 : Array (Option Value)) (hsz : its.size = jts.size) (J : Nat → Shared → Prop)
    (turn : ∀ i (h1 : i < its.size) (h2 : i < jts.size) s, J i s → wpAny (model prog w) A.in1 (eqBool its[i] jts[i]) (fun r s' => r = true ∧ J (i + 1) s') (fun e s' => R (.error e) s') s)
    (fin : ∀ s, J its.size s → R (.ok (.ret (.bool false))) s) (hl : s.heap.get? l = some { cls := .type "tuple", dict := dd, data := .seq its n, slots := sl }) (hb : s.heap.get? b = some { cls := .type "tuple", dict := dd2, data := .seq jts n2, slots := sl2 })
    (h : J 0 s) : wpAny (model prog w) A.in1 (Builtin.«tuple.__ne__» ⟨[.ref l, .ref b], []⟩) (GQ.FinOf prog w A R) (fun e s' => R (.error e) s') s := by
  have f2 := AutoSeq1.sub_tuple_tuple
  have len : (its.toList.zip jts.toList).length = its.size := by simp [hsz]
  have h0 := h
  obtain ⟨hp, g, d, tk, os⟩ := s
  wp_walk using wpAny_loadPart' hl, wpAny_loadPart' hb, wpAny_forIn_list _ (fun rest b s' => b.1 = none ∧ ∃ i, rest = (its.toList.zip jts.toList).drop i ∧ i ≤ its.size ∧ J i s') _
  case turn =>
    rintro ⟨y, x⟩ rest b s' ⟨hb', i, hz, hi, hJ⟩
    have lt : i < (its.toList.zip jts.toList).length := by
      refine Nat.lt_of_not_le fun z => ?_
      rw [List.drop_of_length_le z] at hz
      cases hz
    have h1 : i < its.size := len ▸ lt
    have h2 : i < jts.size := hsz ▸ h1
    rw [List.drop_eq_getElem_cons lt] at hz
    obtain ⟨e1, e2⟩ := List.cons.inj hz
    obtain rfl : y = its[i] := by simpa using congrArg Prod.fst e1
    obtain rfl : x = jts[i] := by simpa using congrArg Prod.snd e1
    refine wpAny_bind (wpAny_mono (turn i h1 h2 s' hJ) (fun r s2 q2 => ?_) fun _ _ x => x)
    obtain ⟨rfl, q2⟩ := q2
    wp_walk
    exact ⟨rfl, i + 1, e2, h1, q2⟩
  case fin =>
    rintro ⟨b1, b2⟩ s' ⟨hb', i, hz, hi, hJ⟩
    dsimp only at hb'
    subst hb'
    have ge : its.size ≤ i := by
      refine Nat.le_of_not_lt fun z => ?_
      rw [List.drop_eq_getElem_cons (by rw [len]; exact z)] at hz
      cases hz
    obtain rfl : i = its.size := by omega
    have hR := fin s' hJ
    wp_walk
    simpa [Builtin.Tuple.tupleCompareSizes, hsz] using hR
  case h => exact ⟨rfl, 0, rfl, Nat.zero_le _, h0⟩
theorem tup_ne_rich {l b : Addr} {its jts : Array Value} {Q : Value → Shared → Prop} (hsz : its.size = jts.size) (hu : A.units < cLine) (J : Nat → Shared → Prop) (hl : s.heap.IsTuple l its) (hb : s.heap.IsTuple b jts)
    (turn : ∀ i (h1 : i < its.size) (h2 : i < jts.size) s, J i s → wpAny (model prog w) A.in1 (eqBool its[i] jts[i]) (fun r s' => r = true ∧ J (i + 1) s') E s)
    (fin : ∀ s, J its.size s → Q (.bool false) s) (h : J 0 s) : wpAny (model prog w) A (richCompare .NotEq (.ref l) (.ref b)) Q E s := by
  obtain ⟨⟨c1, d1, t1, s1⟩, g1, k1, n1, e1⟩ := id hl
  obtain ⟨⟨c2, d2, t2, s2⟩, g2, k2, n2, e2⟩ := id hb
  dsimp only at k1 e1 k2 e2
  subst k1 e1 k2 e2
  refine wpAny_richCompare_same_room (op := .NotEq) ⟨_, g1, rfl⟩ ⟨_, g2, rfl⟩ PySem.F.slot_tuple_ne (GQ.call_here PySem.F.slot_tuple_ne ⟨_, g1, rfl⟩ PySem.F.entry_tuple_ne (PySem.F.args_tuple_ne_2 _ _) ?_) hu
  exact tup_ne_same (R := wants (fun v s' => v ≠ .notImplemented ∧ Q v s') E) l b its jts n1 n2 d1 d2 s1 s2 hsz J turn (fun s' q => ⟨(fun x => nomatch x), fin s' q⟩) g1 g2 h
end
section
variable {X : Cx} {n : Nat} {D : Eqv}
/-- t != u of two tuples whose items D says to be equal -/
def rNeT (X : Cx) (D : Eqv) : R2 := fun x y H Q => DTup X.K D x y H ∧ ∀ H', Same H H' → Q (.bl false) H'
theorem op_neT (hD : Mon D) (h : EqG X n D) (hr : Room (n + 1) X.A) : OpR X (compareOp .NotEq) (rNeT X D) := by
  intro pins s σ H x y v u Q I rx ry hq
  obtain ⟨⟨a, b, xs, ys, rfl, rfl, ha, hb, p⟩, q⟩ := hq
  cases rx
  cases ry
  obtain ⟨its, r, e, z⟩ := I.tuple ha
  obtain ⟨jts, r2, e2, z2⟩ := I.tuple hb
  have hsz : its.toArray.size = jts.toArray.size := by rw [List.size_toArray, List.size_toArray, ← r.length, ← r2.length]; exact p.1
  show wpAny (model X.prog X.w) X.A (richCompare .NotEq (.ref a) (.ref b)) (EP X pins σ Q) X.xe s
  refine tup_ne_rich hsz hr.units0 (fun _ s' => LoopI X pins σ H s') e e2 (fun i h1 h2 s' k => turnG hD h ⟨hr, rfl⟩ p r r2 i h1 h2 s' k) (fun s' k => ?_) ⟨H, I, Ext.rfl'⟩
  obtain ⟨H', I', x⟩ := k
  exact ⟨.bl false, H', I', rfl, q H' x⟩
end
end L2.Jk

set_option Elab.async false
set_option linter.all false
set_option maxRecDepth 100000
set_option maxHeartbeats 4000000
/-! ''.join(reversed(xs)), list(text), len(set(..)), type(x) is type(y). -/
namespace L2.Jk
open PySem PySem.W PySem.Spec PySem.Calls PyProof.Rows

theorem paired_of {α β : Type} {F : α → β → Prop} : ∀ {xs : List α} {ys : List β}, xs.length = ys.length → (∀ (i : Nat) x y, xs[i]? = some x → ys[i]? = some y → F x y) → Paired F xs ys
  | [], [], _, _ => .nil
  | [], _ :: _, e, _ => by cases e
  | _ :: _, [], e, _ => by cases e
  | x :: xs, y :: ys, e, h => .cons (h 0 x y rfl rfl) (paired_of (Nat.succ.inj e) fun i a b h1 h2 => h (i + 1) a b h1 h2)
section
variable {X : Cx}
/-! ### list(text) -/
/-- its signs, one text each -/
def signsV (z : Str) : List V := (List.range z.cps.size).map fun i => V.str ⟨#[z.cps.getD i 0]⟩
theorem call_listStr (hc : X.calm = true) : CallR X (.type "list") (fun xs H Q => ∃ z : Str, xs = [.str z] ∧ z.cps.size ≤ 1000 ∧ ∀ p H', H p = none → Same H H' → H' p = some (.lst (signsV z)) → Q (.ref p) H') := by
  intro pins s σ H xs us Q I r h
  obtain ⟨z, rfl, hz, q⟩ := h
  obtain ⟨u, rfl, t, rfl⟩ := vals1 r
  have hz' : z.cps.size ≤ sizeLine := by rw [sizeLine_eq]; omega
  refine call_list_str (I.ok.hd hc) z t (fun h' tk acc c k hp ha => ?_) hz'
  obtain ⟨al, ai⟩ := ha
  have vs : Vals (signsV z) acc.toList := by
    refine paired_of (show (signsV z).length = acc.toList.length by
      have e : acc.toList.length = acc.size := Array.length_toList
      rw [e, al]
      simp [signsV]) fun i x v hx hv => ?_
    have hi : i < z.cps.size := by
      have := (List.getElem?_eq_some_iff.mp hx).1
      simpa [signsV] using this
    obtain ⟨t', e⟩ := sign_at (ai i v (by rw [← Array.getElem?_toList]; exact hv))
    subst e
    have e2 : x = V.str ⟨#[z.cps.getD i 0]⟩ := by
      unfold signsV at hx
      rw [List.getElem?_map, List.getElem?_range hi] at hx
      exact (Option.some.inj hx).symm
    subst e2
    exact ⟨t', rfl⟩
  have n := I.fresh
  refine ⟨.ref s.heap.objs.size, _, I.laid (t' := tk) (h' := h') (o := .lst (signsV z)) k (Nat.le_refl _) ⟨?_, acc.toList, c, vs, by simpa using hp⟩, rfl, q _ _ n (same_upd n) upd_same⟩
  simp only [signsV, List.length_map, List.length_range]
  exact hz'
/-! ### len(set(..)) -/
def tLenSetStr (te : TE) : TE := fun σ H Q => te σ H fun x H1 => ∃ z : Str, x = .str z ∧ z.cps.size ≤ 4000 ∧ Q (.int (newS (fun i => ⟨#[z.cps.getD i 0]⟩) z.cps.size : Nat)) H1
theorem held_len {h : Heap} {S : Addr} {ks : Nat → Str} {i : Nat} {A : Around} {E : Value → Shared → Prop} {Q : Value → Shared → Prop} {s : Shared} (H : HeldS X.prog X.w s.heap S ks i) (hi : i ≤ 4000)
    (q : ∀ tk, Q (.int (newS ks i : Nat) tk) { s with toks := tk + 1 }) : wpAny (model X.prog X.w) A (call (.builtin "len") [.ref S]) Q E s := by
  have few := newS_le ks i
  obtain ⟨o, es, ep, t, ho, hex, hd, _, _, _, hf, hn⟩ := H
  exact call_len_set ho hex hd hf (by rw [hn]; omega) (by rw [hn]; exact q _)
theorem pe_lenSetStr {a : Expr} {ta : TE} {p p2 q pos : Pos} (hc : X.calm = true) (hg : Gl X "len") (hm : X.mg "len" = none) (hg2 : Gl X "set") (hm2 : X.mg "set" = none) (ha : PE X a ta)
    (na : starEach [a] X.env = (false, eval a X.env) :: starEach [] X.env := by rfl) : PE X (.Call (.Name "len" p) [.Call (.Name "set" p2) [a] [] q] [] pos) (tLenSetStr ta) := by
  constructor
  intro pins s σ H Q I h
  refine Call_ (ld_blt I hg hm boot_len (PyProof.Rows.callWith_builtin1 (PyProof.Rows.args_cons ?_ rfl) rfl rfl))
  refine Call_ (ld_blt I hg2 hm2 boot_set (PyProof.Rows.callWith_type1 (PyProof.Rows.args_cons (thn (ha.run pins s σ H _ I h) fun v s1 ⟨x, H1, I1, r1, z, ex, hz, q1⟩ => PyProof.Rows.args_nil ?_) na) na rfl))
  subst ex
  obtain ⟨t, rfl⟩ := r1
  refine set_callStr (I1.ok.hd hc) (by unfold scanBound; omega) fun h' tk hS hk => PyProof.Rows.args_nil ?_
  have I2 : Inv X pins σ H1 { s1 with heap := h', toks := tk } := I1.kept fun b o e => hk b o (Heap.lt_size e) e
  exact held_len (h := h') (s := { s1 with heap := h', toks := tk }) hS hz fun tk' => ⟨.int _, H1, I2.tok _, ⟨_, rfl⟩, q1⟩
/-- .. of a list or a tuple of texts -/
def tLenSetSeq (K : Frag) (te : TE) : TE := fun σ H Q => te σ H fun x H1 => ∃ (l : Addr) (ys : List Str), x = .ref l ∧ (SqL K H1 l (ys.map V.str) ∨ SqT K H1 l (ys.map V.str)) ∧ ys.length ≤ 4000 ∧ Q (.int (newS (fun i => ys.getD i Str.empty) ys.length : Nat)) H1
theorem strs_get {ys : List Str} {us : List Value} (r : Vals (ys.map V.str) us) (i : Nat) (v : Value) (h : us.toArray[i]? = some v) : ∃ t : Tok, v = Value.str (ys.getD i Str.empty) t := by
  have h' : us[i]? = some v := by simpa using h
  have lt : i < ys.length := by
    have := (List.getElem?_eq_some_iff.mp h').1
    rw [← r.length, List.length_map] at this
    exact this
  obtain ⟨u, hu, ru⟩ := r.get (i := i) (x := V.str (ys.getD i Str.empty)) (by rw [List.getElem?_map, List.getElem?_eq_getElem lt, List.getD_eq_getElem?_getD, List.getElem?_eq_getElem lt]; rfl)
  rw [h'] at hu
  cases hu
  exact ru
theorem pe_lenSetSeq {a : Expr} {ta : TE} {p p2 q pos : Pos} (hc : X.calm = true) (hg : Gl X "len") (hm : X.mg "len" = none) (hg2 : Gl X "set") (hm2 : X.mg "set" = none) (ha : PE X a ta)
    (na : starEach [a] X.env = (false, eval a X.env) :: starEach [] X.env := by rfl) : PE X (.Call (.Name "len" p) [.Call (.Name "set" p2) [a] [] q] [] pos) (tLenSetSeq X.K ta) := by
  constructor
  intro pins s σ H Q I h
  refine Call_ (ld_blt I hg hm boot_len (PyProof.Rows.callWith_builtin1 (PyProof.Rows.args_cons ?_ rfl) rfl rfl))
  refine Call_ (ld_blt I hg2 hm2 boot_set (PyProof.Rows.callWith_type1 (PyProof.Rows.args_cons (thn (ha.run pins s σ H _ I h) fun v s1 ⟨x, H1, I1, r1, l, ys, ex, hq, hz, q1⟩ => PyProof.Rows.args_nil ?_) na) na rfl))
  subst ex
  cases r1
  have fin : ∀ (its : List Value), Vals (ys.map V.str) its → ∀ (h' : Heap) (tk : Nat), HeldS X.prog X.w h' s1.heap.objs.size (fun i => ys.getD i Str.empty) its.toArray.size → (∀ b o, b < s1.heap.objs.size → s1.heap.get? b = some o → h'.get? b = some o) →
      wpAny (model X.prog X.w) X.A (spliced (backTo pos (starEach [] X.env))) (fun vs s₂ => wpAny (model X.prog X.w) X.A (call (.builtin "len") (Value.ref s1.heap.objs.size :: vs)) (EP X pins σ Q) X.xe s₂) X.xe { s1 with heap := h', toks := tk } := fun its r h' tk hS hk => by
    have hl : its.toArray.size = ys.length := by rw [List.size_toArray, ← r.length, List.length_map]
    rw [hl] at hS
    have I2 : Inv X pins σ H1 { s1 with heap := h', toks := tk } := I1.kept fun b o e => hk b o (Heap.lt_size e) e
    exact PyProof.Rows.args_nil (held_len (h := h') (s := { s1 with heap := h', toks := tk }) hS hz fun tk' => ⟨.int _, H1, I2.tok _, ⟨_, rfl⟩, q1⟩)
  rcases hq with hq | hq
  · obtain ⟨its, r, pl, _⟩ := I1.list hq
    have hl : its.toArray.size = ys.length := by rw [List.size_toArray, ← r.length, List.length_map]
    exact set_callList (I1.ok.hd hc) pl.isList (strs_get r) (by unfold scanBound; omega) fun h' tk hS hk => fin its r h' tk hS hk
  · obtain ⟨its, r, pl, _⟩ := I1.tuple hq
    have hl : its.toArray.size = ys.length := by rw [List.size_toArray, ← r.length, List.length_map]
    exact set_callTup (I1.ok.hd hc) pl (strs_get r) (by unfold scanBound; omega) fun h' tk hS hk => fin its r h' tk hS hk
/-! ### type(x) is type(y) -/
def rTyA (X : Cx) : List V → Hp → VK → Prop := fun xs H Q => ∃ x, xs = [x] ∧ ((∃ a C dx fs, x = .ref a ∧ H a = some (.ins C dx fs) ∧ Q (.ref C) H) ∨ ∃ T, RZ.Ty4 H x T ∧ Q (.ty T) H)
theorem call_tyA : CallR X (.type "type") (rTyA X) := by
  intro pins s σ H xs us Q I r h
  obtain ⟨x, rfl, h | h⟩ := h
  · obtain ⟨a, C, dx, fs, rfl, ha, q⟩ := h
    exact cr_type pins s σ H _ us Q I r ⟨a, C, dx, fs, rfl, ha, q⟩
  · obtain ⟨T, t, q⟩ := h
    exact RZ.call_type4 pins s σ H _ us Q I r ⟨x, T, rfl, t, q⟩
def rIsA (X : Cx) : R2 := fun x y H Q => ∃ a, x = .ref a ∧ ((∃ b, y = .ref b ∧ (a = b ∨ (makesIn X.K a = true ∧ makesIn X.K b = true)) ∧ Q (.bl (decide (a = b))) H) ∨ ∃ T, y = .ty T ∧ Q (.bl false) H)
theorem op_isA : OpR X (compareOp .Is) (rIsA X) := by
  intro pins s σ H x y v u Q I rx ry h
  obtain ⟨a, rfl, h | h⟩ := h
  · obtain ⟨b, rfl, hab, q⟩ := h
    exact op_is_cls pins s σ H _ _ v u Q I rx ry ⟨a, b, rfl, rfl, hab, q⟩
  · obtain ⟨T, rfl, q⟩ := h
    cases rx
    cases ry
    show wpAny _ _ (do return Value.bool (← isSame (.ref a) (.type T))) _ _ _
    exact wpAny_bind (wpAny_of_eq (a := false) rfl (wpAny_pure ⟨.bl false, H, I, rfl, q⟩))
/-! ### ''.join(reversed(xs)) -/
def tJoinRev (K : Frag) (to te : TE) : TE := fun σ H Q => to σ H fun o H0 => ∃ z : Str, o = .str z ∧ te σ H0 fun v H1 => ∃ (a : Addr) (ys : List Str), v = .ref a ∧ SqL K H1 a (ys.map V.str) ∧ JoinOk z ys.reverse = true ∧ Q (.str (Txt.join z ys.reverse)) H1
theorem strs_pairs : ∀ {ys : List Str} {us : List Value}, Vals (ys.map V.str) us → ∃ l : List (Str × Tok), strValues l = us ∧ l.map (·.1) = ys
  | [], _, .nil => ⟨[], rfl, rfl⟩
  | y :: ys, _, .cons r t => by
    obtain ⟨k, rfl⟩ := r
    obtain ⟨l, e1, e2⟩ := strs_pairs t
    exact ⟨(y, k) :: l, by rw [← e1]; rfl, by rw [← e2]; rfl⟩
theorem joined_tail (z : Str) : ∀ l : List (Str × Tok), Builtin.Str.tooLong ((l.map (·.1)).toArray.foldl (· + ·.length + z.length) 0) = false → Gives (joinTail z (strValues l)) (joinMade z l)
  | [], h => gives_joinTail z [] h
  | [p], h => gives_joinTail z [p] h
  | p :: q :: r, h => gives_joinTail z (p :: q :: r) h
theorem pe_joinRev {o e : Expr} {to te : TE} {apos p2 pos2 cpos : Pos} (hc : X.calm = true) (hg2 : Gl X "reversed") (hm2 : X.mg "reversed" = none) (ho : PE X o to) (he : PE X e te)
    (hbase : attributeBase o "join" X.env (eval o X.env) = eval o X.env := by rfl)
    (hfew : ((backTo cpos (starEach [Expr.Call (.Name "reversed" p2) [e] [] pos2] X.env)).all (fun x => !x.1) && (backToKw cpos (keywordEach [] X.env)).all (fun x => x.1.isSome)
      && decide ([Expr.Call (.Name "reversed" p2) [e] [] pos2].length + ([] : List Keyword).length + (if ([] : List Keyword).isEmpty then 0 else 1) < 30)) = true := by rfl)
    (hline : (apos.endLine == cpos.line) = true := by rfl) (hs : starEach [e] X.env = (false, eval e X.env) :: starEach [] X.env := by rfl)
    (hs2 : starEach [Expr.Call (.Name "reversed" p2) [e] [] pos2] X.env = (false, eval (.Call (.Name "reversed" p2) [e] [] pos2) X.env) :: starEach [] X.env := by rfl) :
    PE X (.Call (.Attribute o "join" apos) [.Call (.Name "reversed" p2) [e] [] pos2] [] cpos) (tJoinRev X.K to te) := by
  constructor
  intro pins s σ H Q I h
  refine wpAny_Call_method_late hbase hfew hline rfl (thn (ho.run pins s σ H _ I h) fun v s1 ⟨x, H0, I0, r0, z, ex, q0⟩ => ?_)
  subst ex
  obtain ⟨t, rfl⟩ := r0
  refine ⟨"str", "str.join", PySem.F.plainAttrs_str, PySem.F.slot_str_join, PySem.F.type_str_join, typeIs_str _ _ _, (fun a e => nomatch e), ?_⟩
  refine Calls.callWith_builtin (by rw [hs2]; rfl) ?_
  rw [hs2]
  refine Calls.evalArgs_plain (Calls.spliced_cons ?_)
  refine Call_ (ld_blt I0 hg2 hm2 PyProof.Rows.boot_reversed (PyProof.Rows.callWith_type1 (PyProof.Rows.args_cons (thn (he.run pins s1 σ H0 _ I0 q0) fun u s2 ⟨y, H1, I1, r1, a, ys, ey, hq, ok, q1⟩ => PyProof.Rows.args_nil ?_) hs) hs rfl))
  subst ey
  obtain rfl : u = Value.ref a := r1
  obtain ⟨its, rv, pl, hz⟩ := I1.list hq
  refine call_reversed_list pl.isList (Calls.spliced_nil ?_)
  have k0 : ∀ b o, s2.heap.get? b = some o → (s2.heap.push (revObj a ((its.toArray.size : Int) - 1))).get? b = some o := fun b o e => Heap.get?_push_of_some _ e
  have I2 : Inv X pins σ H1 { s2 with heap := s2.heap.push (revObj a ((its.toArray.size : Int) - 1)) } := I1.kept (t' := s2.toks) k0
  obtain ⟨f0, f1, f2, f3, f4, f5⟩ := I1.fpOk (H' := H1) (b := s2.heap.objs.size) (Nat.le_refl _) (I1.hok.fresh (Nat.le_refl _))
  have hl := pl.isList
  obtain ⟨ol, hol, _⟩ := id hl
  have ne : a ≠ s2.heap.objs.size := Nat.ne_of_lt (Heap.lt_size hol)
  have sm : its.toArray.size ≤ sizeLine := by rw [List.size_toArray, ← rv.length]; exact hz
  have hit : (s2.heap.push (revObj a ((its.toArray.size : Int) - 1))).IsRevIter s2.heap.objs.size a ((its.toArray.size : Int) - 1) := ⟨_, Heap.get?_push_size _ rfl, rfl, rfl⟩
  refine wpAny_call (codeAny_call_builtin F.slot_str_join.plain F.entry_str_join (F.slot_str_join.check _ _ _ _ _ _ _ _ (typeIs_str _ _ _) (F.args_str_join_2 _ _) ?_))
  show wpAny _ _ (Builtin.«str.join» ⟨[.str z t, .ref s2.heap.objs.size], []⟩) _ _ _
  rw [join_tree_other]
  refine wpAny_bind (wpAny_typeOf hit.typeIs ?_)
  show wpAny _ X.A.in1 ((pyIter (.ref s2.heap.objs.size)).tryCatch _ >>= fun it => collect it >>= fun items => joinTail z items) _ _ _
  refine wpAny_bind (wpAny_tryCatch (wpAny_pyIter_revIter hit ?_))
  refine wpAny_bind (RT.collect_rev (I1.ok.hd hc) hit (hl.push _) ne sm fun h' tk acc hk hi => ?_)
  have I3 : Inv X pins σ H1 { s2 with heap := h', toks := tk } := I2.turned (t' := tk) (fun b o hb e => hk b o hb e) f0 f1 f3 f4 f5
  have rr := RT.vals_rev rv hi
  rw [← List.map_reverse] at rr
  obtain ⟨l, el, em⟩ := strs_pairs rr
  rw [← el]
  have fit : Builtin.Str.tooLong ((l.map (·.1)).toArray.foldl (· + ·.length + z.length) 0) = false := by
    rw [em]
    unfold JoinOk at ok
    rwa [Bool.not_eq_true'] at ok
  have g : Gives (joinTail z (strValues l)) (joinMade z l) := joined_tail z l fit
  refine g X.prog X.w X.A (wants (EP X pins σ Q) X.xe) _ (post_join l ⟨?_, fun t' k => ?_⟩)
  · exact joinFit_length fit
  · rw [em]
    exact ⟨.str _, H1, I3.tok k, ⟨t', rfl⟩, q1⟩
end
end L2.Jk

set_option Elab.async false
set_option linter.all false
set_option maxRecDepth 100000
set_option maxHeartbeats 4000000
/-! Errors raised, instances made where their __init__ may raise, isinstance of flat values. -/
namespace L2.Jk
open PySem PySem.W PySem.Spec PySem.Calls PyProof.Rows

section
variable {X : Cx} {CX : CXT} {k : Nat} {x : Str} {ps : List Str} {sp : Sp} {e : Expr} {es : List Expr} {t : TA} {p pos : Pos} {W : WX}
theorem pe_fnS (G : FnAt X.prog X.w X.K X.mg X.base CX k x ps sp) (hr : Room k X.A) {E : St → XK} (hx : ∀ σ, PassesAt CX X σ (E σ)) (hg : Gl X x) (ha : PA X (e :: es) t)
    (hdb : (x == ("__debug__" : Str)) = false := by decide) (he : starEach (e :: es) X.env = (false, eval e X.env) :: starEach es X.env := by rfl) (hpl : (backTo pos (starEach es X.env)).any (·.1) = false := by rfl) :
    PE X (.Call (.Name x p) (e :: es) [] pos) (tCallS sp E t) := by
  obtain ⟨f, fd, hm, kp, F, hb⟩ := G.ex
  exact pe_callS F hr hg hm kp hb hx ha hdb he hpl
/-! ### an error that is raised -/
def tMkErr (C : Addr) (fs : List Str) (ta : TA) : St → Hp → XK → Prop := fun σ H Q => ta σ H fun vs H1 => vs.length = fs.length ∧ ∀ d H2, H1 d = none → Same H1 H2 → H2 d = some (.xd (fldE fs vs)) → Q (.ref C) (some d) H2
theorem same_raise {H : Hp} {a C d : Addr} {fs : List (Str × V)} (ha : H a = none) (hd : H d = none) (ne : d ≠ a) : Same H (upd (del (mkE H a C d fs) a) d (.xd fs)) := fun b o e => by
  have n1 := ne_of_none e ha
  have n2 := ne_of_none e hd
  rw [upd_ne n2, del_ne n1]
  unfold mkE
  rw [upd_ne n1, upd_ne n2]
  exact e
end
/-- what is wished of an error C(v) that is raised at H -/
def RaiseE (C : Addr) (f : Str) (v : V) (H : Hp) (Q : XK) : Prop := ∀ d H2, H d = none → Same H H2 → H2 d = some (.xd [(f, v)]) → Q (.ref C) (some d) H2
theorem mkO_1 {C : Addr} {f : Str} {v : V} {H : Hp} {Q : XK} (q : RaiseE C f v H Q) : ([v] : List V).length ≤ 1000 ∧ ∀ a, H a = none → spI1 C f (.ref a :: ([v] ++ [])) (upd H a (exo a C none))
    (fun u H2 => u = .non ∧ ∃ (d : Addr) (fs : List (Str × V)), H2 a = some (exo a C (some d)) ∧ H2 d = some (exd d fs) ∧ H d = none ∧ Q (.ref C) (some d) (upd (del H2 a) d (.xd fs))) (fun _ _ _ => False) := by
  refine ⟨by show 1 ≤ 1000; decide, fun a ha => ⟨a, v, rfl, upd_same, fun d hd ne => ⟨rfl, d, [(f, v)], ?_, ?_, ?_, ?_⟩⟩⟩
  · rw [mkE_new ne]
    exact upd_same
  · rw [mkE_new ne]
    unfold mkE
    rw [upd_ne ne, upd_same]
  · rw [upd_ne ne] at hd
    exact hd
  · rw [mkE_new ne]
    rw [upd_ne ne] at hd
    exact q d _ hd (same_raise ha hd ne) upd_same
section
variable {X : Cx} {x : Str} {e : Expr} {es : List Expr} {ta : TA} {p pos : Pos}
/-- raise C(e), C an error of one field -/
theorem pmk_1 {C : Addr} {f z : Str} (T : ErrAt X.prog X.w X.K X.mg X.base x C [f] z) (hr : Room 2 X.A) (hg : Gl X x) (ha : PA X (e :: es) ta)
    (hdb : (x == ("__debug__" : Str)) = false := by decide) (he : starEach (e :: es) X.env = (false, eval e X.env) :: starEach es X.env := by rfl) (hpl : (backTo pos (starEach es X.env)).any (·.1) = false := by rfl) :
    PMk X (.Call (.Name x p) (e :: es) [] pos) (tMkO C (spI1 C f) [] ta) := by
  obtain ⟨fd, hb, iok⟩ := T.iok
  exact pmk_oex (X := X) (ta := ta) T.ex.ec.ox T.ini.1 T.ini.2 iok hr hb .nil pass0 hg T.mgC ha hdb he hpl
/-! ### an instance made by a class whose __init__ may raise -/
structure ClsAt (P : Program) (w : World) (K : Frag) (mg : Str → Option Value) (base : Heap) (CX : CXT) (k : Nat) (x : Str) (C : Addr) (ps : List Str) (sp : Sp) : Prop where
  mgC : mg x = some (.ref C)
  cl : Cls K C
  mkr : Mk K C (He.ma K C "__init__")
  ok : ∃ fd, FnOk P w K mg base CX k (He.ma K C "__init__") fd ps sp ∧ Binds K fd ps []
def tNewS (C : Addr) (sp : Sp) (E : St → XK) (t : TA) : TE := fun σ H Q => t σ H fun vs H1 => ∀ a dx, H1 a = none → H1 dx = none → dx ≠ a → sp (.ref a :: vs) (upd (upd H1 dx (.own a)) a (.ins C dx [])) (fun v H2 => v = .non ∧ Q (.ref a) H2) (E σ)
theorem pe_newS {CX : CXT} {k : Nat} {C : Addr} {ps : List Str} {sp : Sp} {E : St → XK} (G : ClsAt X.prog X.w X.K X.mg X.base CX k x C ps sp) (hr : Room (k + 1) X.A) (hx : ∀ σ, PassesAt CX X σ (E σ)) (hg : Gl X x) (ha : PA X (e :: es) ta)
    (hdb : (x == ("__debug__" : Str)) = false := by decide) (he : starEach (e :: es) X.env = (false, eval e X.env) :: starEach es X.env := by rfl) (hpl : (backTo pos (starEach es X.env)).any (·.1) = false := by rfl) :
    PE X (.Call (.Name x p) (e :: es) [] pos) (tNewS C sp E ta) := by
  obtain ⟨fd, F, hb⟩ := G.ok
  have M := G.mkr
  constructor
  intro pins s σ H Q I h
  refine wpAny_Call_Name_kw (ld_glob I hg G.mgC ?_ hdb)
  refine callWith_K (h₀ := X.base) I.ok.mod.kin M.kp (thn (ha.run pos pins s σ H _ I h) fun us s1 ⟨vs, H1, I1, r, q⟩ => ⟨I1.kIn, ?_⟩) he hpl
  show wpAny _ _ (call (.ref C) us) _ _ _
  have pr := q (s1.heap.objs.size + 1) s1.heap.objs.size (I1.hok.fresh (Nat.le_succ _)) I1.fresh (Nat.ne_of_lt (Nat.lt_succ_self _))
  have I2 := Inv.made (C := C) I1
  have r2 : Vals (V.ref (s1.heap.objs.size + 1) :: vs) (Value.ref (s1.heap.objs.size + 1) :: us) := .cons rfl r
  have hl : (Value.ref (s1.heap.objs.size + 1) :: us).length = ps.length := by
    rw [← r2.length]
    exact F.len _ _ _ _ pr
  have hb' := hb _ (Value.ref (s1.heap.objs.size + 1) :: us) I2.kIn (by rw [List.append_nil]; exact hl)
  rw [List.append_nil] at hb'
  refine wpAny_call (make_map (f := He.ma X.K C "__init__") I1.kIn M.makes M.init (beq_iff_eq.mp M.fn) (codeAny_mono (F.run _ X.stack _ _ ⟨Value.ref (s1.heap.objs.size + 1) :: us, []⟩ (Value.ref (s1.heap.objs.size + 1) :: us) _ _ (E σ) (hr.make C us [])
    (I2.env0.make C us []) hb' r2 pr) fun r s' hq' => ?_))
  cases r with
  | error er => exact hx σ pins _ _ er s' I2 hq'
  | ok fl =>
    cases fl with
    | ret u =>
      obtain ⟨v, H', I3, rv, ev, q3⟩ := I2.after hq'
      subst ev
      exact ⟨rv, ⟨V.ref (s1.heap.objs.size + 1), H', I3, rfl, q3⟩⟩
    | next => exact False.elim hq'
    | brk => exact False.elim hq'
    | cont => exact False.elim hq'
end
/-! ### isinstance of flat values against built-in types -/
def tyN : V → String
  | .non => "NoneType"
  | .bl _ => "bool"
  | .int _ => "int"
  | .str _ => "str"
  | _ => ""
theorem flat_ty {K : Frag} {H : Hp} {v : V} (h : flatV v = true) : TyE K H v (.type (tyN v)) := by
  cases v with
  | non => exact .x (.base .non)
  | bl b => exact .x (.base (.bl b))
  | int i => exact .x (.base (.int i))
  | str z => exact .x (.base (.str z))
  | _ => cases h
def isStr : V → Bool
  | .str _ => true
  | _ => false
/-- an int or a bool -/
def isInt : V → Bool
  | .int _ => true
  | .bl _ => true
  | _ => false
def isBl : V → Bool
  | .bl _ => true
  | _ => false
theorem kit_str {v : V} (h : flatV v = true) : kitB (tyN v) "str" = some (isStr v) := by
  cases v with
  | non => show kitB "NoneType" "str" = some false; decide +kernel
  | bl b => show kitB "bool" "str" = some false; decide +kernel
  | int i => show kitB "int" "str" = some false; decide +kernel
  | str z => show kitB "str" "str" = some true; decide +kernel
  | _ => cases h
theorem kit_int {v : V} (h : flatV v = true) : kitB (tyN v) "int" = some (isInt v) := by
  cases v with
  | non => show kitB "NoneType" "int" = some false; decide +kernel
  | bl b => show kitB "bool" "int" = some true; decide +kernel
  | int i => show kitB "int" "int" = some true; decide +kernel
  | str z => show kitB "str" "int" = some false; decide +kernel
  | _ => cases h
theorem kit_bool {v : V} (h : flatV v = true) : kitB (tyN v) "bool" = some (isBl v) := by
  cases v with
  | non => show kitB "NoneType" "bool" = some false; decide +kernel
  | bl b => show kitB "bool" "bool" = some true; decide +kernel
  | int i => show kitB "int" "bool" = some false; decide +kernel
  | str z => show kitB "str" "bool" = some false; decide +kernel
  | _ => cases h
theorem ie_of {K : Frag} {H : Hp} {v : V} {S T : String} {b : Bool} {Q : VK} (ty : TyE K H v (.type S)) (k : kitB S T = some b) (q : Q (.bl b) H) : rIe K [v, .ty T] H Q :=
  ⟨v, .ty T, .type S, .type T, b, rfl, .ty T, ty, kit_ty k, q⟩
end L2.Jk

set_option Elab.async false
set_option linter.all false
set_option maxRecDepth 100000
set_option maxHeartbeats 4000000
/-! A comprehension over a text; a method of an instance whose class shows in the heap; what happens to an error that is raised in a make. -/
namespace L2.Jk
open PySem PySem.W PySem.Spec PySem.Calls PyProof.Rows

theorem lc_str {x : Str} {g : TG} {tt : TT} {te : TE} {vs : List Nat} {σ : St} {H1 : Hp} {D : Addr} {Qd : Hp → Prop} (Pv : Nat → Hp → Prop) (h0 : Pv 0 (upd H1 D (.lst [])))
    (hs : ∀ (i c : Nat) H, x.cps[i]? = some c → Pv i H → g (.str ⟨#[c]⟩) (wipe σ vs) H fun σ2 H2 => wipe σ2 vs = wipe σ vs ∧ tt σ2 H2 fun b H3 =>
      if b = true then te σ2 H3 fun y H4 => ∃ acc, H4 D = some (.lst acc) ∧ acc.length < sizeLine ∧ Pv (i + 1) (upd H4 D (.lst (acc ++ [y]))) else Pv (i + 1) H3) (hd : ∀ H, Pv x.cps.size H → Qd H) :
    ∃ W : Nat → Nat → Hp → Prop, (∃ m, W 0 m (upd H1 D (.lst []))) ∧ ∀ i m H, W i m H →
      ((Its x).stop i H ∧ Qd H) ∨ ((Its x).go i H ∧ ∃ Nx : Hp → Prop, (∀ H', Nx H' → ∃ m', m' < m ∧ W (i + 1) m' H') ∧ ∀ y H', (Its x).yld i H y H' → g y (wipe σ vs) H' fun σ2 H2 => wipe σ2 vs = wipe σ vs ∧ tt σ2 H2 fun b H3 =>
        if b = true then te σ2 H3 fun y H4 => ∃ acc, H4 D = some (.lst acc) ∧ acc.length < sizeLine ∧ Nx (upd H4 D (.lst (acc ++ [y]))) else Nx H3) := by
  refine ⟨fun i m H => m = x.cps.size - i ∧ i ≤ x.cps.size ∧ Pv i H, ⟨x.cps.size, by simp, Nat.zero_le _, h0⟩, ?_⟩
  rintro i m H ⟨rfl, hi, p⟩
  by_cases hlt : i < x.cps.size
  · refine .inr ⟨hlt, Pv (i + 1), fun H' p' => ⟨x.cps.size - (i + 1), by omega, rfl, hlt, p'⟩, fun y H' z => ?_⟩
    obtain ⟨e, c, hc, ev⟩ := z
    subst e ev
    exact hs i c _ hc p
  · have e : i = x.cps.size := by omega
    subst e
    exact .inl ⟨Nat.le_refl _, hd H p⟩
/-- o.m(e, ..), the class of o as the heap has it -/
def tMethD (X : Cx) (CX : CXT) (m : Str) (E : XK) (ta : TE) (t : TA) : TE := fun σ H Q => ta σ H fun x H1 => ∃ (a C dx f : Addr) (fs : List (Str × V)) (k : Nat) (fd : FuncData) (ps : List Str) (sp : Sp), x = .ref a ∧ H1 a = some (.ins C dx fs) ∧ fs.lookup m = none ∧
  Cls X.K C ∧ Meth X.K C m f ∧ FnOk X.prog X.w X.K X.mg X.base CX k f fd ps sp ∧ Room k X.A ∧ Binds X.K fd ps [] ∧ t σ H1 fun vs H2 => sp (x :: vs) H2 Q E
section
variable {X : Cx} {CX : CXT} {E : XK} {o e : Expr} {es : List Expr} {m : Str} {ta : TE} {t : TA} {apos pos : Pos}
theorem pe_methD {pl : Sem Bool} (he : PE X o ta) (hx : Passes CX X E) (ha : PA X (e :: es) t)
    (hst : starEach (e :: es) X.env = (false, eval e X.env) :: starEach es X.env := by rfl) (hpl : (backTo pos (starEach es X.env)).any (·.1) = false := by rfl)
    (ht : eval (.Call (.Attribute o m apos) (e :: es) [] pos) X.env = (do
      let ov ← eval o X.env
      standAt apos.atName
      let (f, first) ← holding [ov] (getMethod ov m pl)
      callWith pos f first (backTo pos (starEach (e :: es) X.env)) (backToKw pos (keywordEach [] X.env))) := by rfl) :
    PE X (.Call (.Attribute o m apos) (e :: es) [] pos) (tMethD X CX m E ta t) := by
  refine ⟨fun pins s σ H Q I h => ?_⟩
  refine PySem.W.methodCall_KW (pl := pl) (thn (he.run pins s σ H _ I h) fun u s1 hh => ?_) ht
  obtain ⟨x, H1, I1, rx, a, C, dx, f, fs, k, fd, ps, sp, ex, ea, l, c, hm, F, hr, hb, q⟩ := hh
  subst ex
  obtain rfl : u = Value.ref a := rx
  refine getmeth_ok I1 ea c hm l ?_
  refine PySem.W.callWith_K (first := [.ref a]) (h₀ := X.base) I.ok.mod.kin hm.kp (thn (ha.run pos pins s1 σ H1 _ I1 q) fun us s2 ⟨vs, H2, I2, r, q2⟩ => ⟨I2.kIn, ?_⟩) hst hpl
  have q2' : sp (V.ref a :: (vs ++ [])) H2 Q E := by rw [List.append_nil]; exact q2
  exact run_fn (us := .ref a :: us) (vs := .ref a :: vs) (dvs := []) (ds := []) F hr hb .nil hx I2 (.cons rfl r) q2'
end
/-- a call that the reading never comes to -/
theorem fn_never {P : Program} {w : World} {K : Frag} {mg : Str → Option Value} {base : Heap} {CX : CXT} {k : Nat} {f : Addr} {fd : FuncData} {ps : List Str} : FnOk P w K mg base CX k f fd ps (fun _ _ _ _ => False) where
  len := fun _ _ _ _ h => False.elim h
  run := fun _ _ _ _ _ _ _ _ _ _ _ _ _ h => False.elim h
theorem same_new {H : Hp} {a dx C : Addr} {fs : List (Str × V)} (ha : H a = none) (hd : H dx = none) : Same H (upd (upd H dx (.own a)) a (.ins C dx fs)) := fun b o e => by
  rw [upd_ne (ne_of_none e ha), upd_ne (ne_of_none e hd)]
  exact e
theorem same_put {H H1 : Hp} {p : Addr} {o : HO} (S : Same H H1) (n : H p = none) : Same H (upd H1 p o) := fun b u e => by
  rw [upd_ne (ne_of_none e n)]
  exact S b u e
end L2.Jk

set_option Elab.async false
set_option linter.all false
set_option maxRecDepth 100000
set_option maxHeartbeats 4000000
/-! The things that are drawn, and what is told of them. -/
namespace L2.K22
open PySem PySem.W PySem.Spec PySem.Calls PyProof.Rows L2.Jk

/-- a kind of things, by what is true of them -/
structure Menu (α : Type) where
  p : α → Prop
instance {α : Type} : Membership α (Menu α) := ⟨fun m a => m.p a⟩
def lenOf : V → Nat
  | .str z => z.length
  | _ => 0
def vM : Menu V := ⟨fun v => flatV v = true ∧ lenOf v ≤ 80⟩
abbrev sM := vM
abbrev eM := vM
abbrev mQ := vM
def nM : Menu V := ⟨fun v => flatV v = true ∧ ∀ i, v = .int i → i ≤ 999999999⟩
abbrev hM := nM
/-- what the texts of a listed field are drawn from -/
inductive LX where
  | lst (xs : List V)
  | tup (xs : List V)
  | val (v : V)
  deriving DecidableEq
def LX.els : LX → List V
  | .lst xs => xs
  | .tup xs => xs
  | .val _ => []
def dV : V → PyData
  | .bl b => .bool b
  | .int i => .int i
  | .str z => .str z
  | _ => .none
def lM : Menu LX := ⟨fun x => (x = .lst x.els ∨ x = .tup x.els) ∧ x.els.length ≤ 20 ∧ (∀ v ∈ x.els, v ∈ vM) ∧ SeqAt.shaped (.tuple (x.els.map dV)) = true⟩
def wM : Menu V := ⟨fun v => ∃ i, v = .int i ∧ 0 ≤ i ∧ i < 60⟩

/-- text.strip(signs) == '' -/
def madeB (a b : Str) : Bool := decide (V.str (Txt.stripChars a b) = V.str "")
/-- c in z, c one sign -/
def inB (c z : Str) : Bool := decide (c.cps.getD 0 0 ∈ z.cps.toList)
def isSignB : V → Bool
  | .str z => (z.length == 1) && inB z SG
  | _ => false
def areB : V → Bool
  | .str z => madeB z SG
  | _ => false
def sgB : V → Bool
  | .str z => z.cps.toList.all fun c => decide (c ∈ SG.cps.toList)
  | _ => false
def numB : V → Bool
  | .int _ => true
  | _ => false
def lenV : V → Nat
  | .str z => z.length
  | _ => 0
/-- signs that stand twice -/
def twB : V → Bool
  | .str z => decide ((newS (fun i => ⟨#[z.cps.getD i 0]⟩) z.cps.size : Nat) < z.length)
  | _ => false
def sBad (v : V) : Bool := !areB v || (decide (v = .str "") || twB v)
def ltV : V → V → Bool
  | .int a, .int b => decide (a < b)
  | _, _ => false
def bDue (l m : V) : Option Str :=
  if (!numB l || ltV l (.int 0)) = true then some "least" else if (!decide (m = .non) && (!numB m || ltV m l)) = true then some "most" else none
def wDue (w : V) : Option Str := if (!numB w || ltV w (.int 1)) = true then some "width" else none
/-- the texts of a list, if all are texts of signs -/
def strV : V → Str
  | .str z => z
  | _ => ""
def xsBad (xs : List V) : Bool := !xs.all areB || decide ((newS (fun i => (xs.map strV).getD i Str.empty) (xs.map strV).length : Nat) < xs.length)
def lxDue : LX → Option Str
  | .val _ => some "texts"
  | .lst xs => if (decide (xs.length = 0) || xsBad xs) = true then some "texts" else none
  | .tup xs => if (decide (xs.length = 0) || xsBad xs) = true then some "texts" else none
def eDue (s e l m : V) : Option Str :=
  if sBad s = true then some "signs" else if (!isSignB e || inB (strV e) (strV s)) = true then some "sign" else bDue l m
def oDue (s l m : V) : Option Str := if sBad s = true then some "signs" else bDue l m
inductive PD where
  | word (s l m : V)
  | number (l m : V)
  | fixed (w : V)
  | listed (x : LX)
  | ended (s e l m : V)
def PD.due : PD → Option Str
  | .word s l m => oDue s l m
  | .number l m => bDue l m
  | .fixed w => wDue w
  | .listed x => lxDue x
  | .ended s e l m => eDue s e l m
def PD.In : PD → Prop
  | .word s l m => s ∈ sM ∧ l ∈ nM ∧ m ∈ nM
  | .number l m => l ∈ nM ∧ m ∈ hM
  | .fixed w => w ∈ wM
  | .listed x => x ∈ lM
  | .ended s e l m => s ∈ sM ∧ e ∈ eM ∧ l ∈ nM ∧ m ∈ nM
/-- has a sign: what the program asks -/
def dg (n : Int) : Str := Txt.join "" [(toString n : Str)]
def wwB (s m : V) (c : Str) : Bool := inB c (strV s) && !decide (m = .int 0)
def intV : V → Int
  | .int i => i
  | _ => 0
def PD.has (c : Str) : PD → Bool
  | .word s _ m => wwB s m c
  | .number l m => if (decide (m = .non) || decide (9 ≤ intV m - intV l)) = true then inB c DG else (List.range (intV m + 1 - intV l).toNat).any fun (i : Nat) => inB c (dg (intV l + i))
  | .fixed _ => inB c DG
  | .listed x => x.els.any fun v => inB c (strV v)
  | .ended s e _ m => decide (V.str c = e) || wwB s m c
inductive OD where
  | val (v : V)
  | pl (d : PD)
  | mk (n m : V) (i : OD)
def iDue (n m : V) : OD → Option Str
  | .pl d => if (d.has (strV n) || d.has (strV m)) = true then some "field" else none
  | _ => some "field"
def OD.due : OD → Option Str
  | .val _ => none
  | .pl d => d.due
  | .mk n m i => if (!isSignB n) = true then some "none" else if (!isSignB m || decide (m = n)) = true then some "mark" else iDue n m i
theorem one_of {z : Str} (h : z.length = 1) : z = ⟨#[z.cps.getD 0 0]⟩ := by
  obtain ⟨a⟩ := z
  have h : a.size = 1 := h
  cases e : a.toList with
  | nil =>
    have z : a.toList.length = 1 := by rw [Array.length_toList]; exact h
    rw [e] at z
    cases z
  | cons x xs =>
    have z : a.toList.length = 1 := by rw [Array.length_toList]; exact h
    rw [e] at z
    have e2 : xs = [] := List.length_eq_zero_iff.mp (Nat.succ.inj z)
    have e3 : a = #[x] := by rw [← Array.toArray_toList (xs := a), e, e2]
    rw [e3]
    rfl
theorem vM_facts (v : V) (h : v ∈ vM) : flatV v = true ∧ True ∧ True ∧ lenV v ≤ 80 := by
  obtain ⟨h1, h2⟩ := (show flatV v = true ∧ lenOf v ≤ 80 from h)
  refine ⟨h1, trivial, trivial, ?_⟩
  cases v <;> exact h2
theorem one_sign (v : V) (_ : v ∈ vM) (h : lenV v = 1) : v = .str ⟨#[(strV v).cps.getD 0 0]⟩ := by
  cases v with
  | str z => exact congrArg V.str (one_of h)
  | _ => cases h
theorem bDue_none {l m : V} (h : bDue l m = none) : (∃ i, l = .int i ∧ 0 ≤ i) ∧ (m = .non ∨ ∃ j, m = .int j ∧ 0 ≤ j) := by
  unfold bDue at h
  split at h
  · cases h
  · rename_i h1
    split at h
    · cases h
    · rename_i h2
      cases l with
      | int i =>
        have hi : 0 ≤ i := by
          have z : ¬ (decide (i < 0)) = true := fun e => h1 (by show (!true || decide (i < 0)) = true; rw [e]; rfl)
          have : ¬ i < 0 := fun e => z (decide_eq_true e)
          omega
        refine ⟨⟨i, rfl, hi⟩, ?_⟩
        cases m with
        | non => exact .inl rfl
        | int j =>
          refine .inr ⟨j, rfl, ?_⟩
          have z : ¬ (decide (j < i)) = true := fun e => h2 (by show (!decide (V.int j = .non) && (!true || decide (j < i))) = true; rw [e, decide_eq_false (fun z => nomatch z)]; rfl)
          have : ¬ j < i := fun e => z (decide_eq_true e)
          omega
        | _ => exact absurd (by rw [decide_eq_false (fun z => nomatch z)]; rfl) h2
      | _ => exact absurd rfl h1
theorem sBad_str {s : V} (h : sBad s = false) : ∃ z, s = .str z := by
  cases s with
  | str z => exact ⟨z, rfl⟩
  | _ => cases h
theorem scal_flat {v : V} (h : flatV v = true) : scal v v = true := by cases v <;> first | rfl | cases h
theorem oDue_none {s l m : V} (h : oDue s l m = none) : sBad s = false ∧ bDue l m = none := by
  unfold oDue at h
  split at h
  · cases h
  · rename_i k
    exact ⟨Bool.eq_false_iff.mpr k, h⟩
theorem eDue_none {s e l m : V} (h : eDue s e l m = none) : sBad s = false ∧ isSignB e = true ∧ bDue l m = none := by
  unfold eDue at h
  split at h
  · cases h
  · rename_i k
    split at h
    · cases h
    · rename_i k2
      refine ⟨Bool.eq_false_iff.mpr k, ?_, h⟩
      cases z : isSignB e with
      | true => rfl
      | false => exact absurd (by rw [z]; rfl) k2
theorem sign_one {v : V} (h : isSignB v = true) : v = .str ⟨#[(strV v).cps.getD 0 0]⟩ ∧ True := by
  cases v with
  | str z =>
    have k : (z.length == 1) = true := (Bool.and_eq_true_iff.mp h).1
    exact ⟨congrArg V.str (one_of (by simpa using k)), trivial⟩
  | _ => cases h
theorem sM_vM {v : V} (h : v ∈ sM) : v ∈ vM := h
theorem eM_vM {v : V} (h : v ∈ eM) : v ∈ vM := h
theorem mQ_vM {v : V} (h : v ∈ mQ) : v ∈ vM := h
theorem nh {v : V} (h : v ∈ nM) : v ∈ hM := h
theorem word_due (s : V) (_ : s ∈ sM) (l : V) (_ : l ∈ nM) (m : V) (_ : m ∈ nM) (h : oDue s l m = none) : s = .str (strV s) ∧ scal m (.int 0) = true ∧ (scal s s && (scal l l && scal m m)) = true := by
  obtain ⟨h1, h2⟩ := oDue_none h
  obtain ⟨z, rfl⟩ := sBad_str h1
  obtain ⟨⟨i, rfl, _⟩, rfl | ⟨j, rfl, _⟩⟩ := bDue_none h2 <;> exact ⟨rfl, rfl, rfl⟩
theorem num_due (l : V) (hl : l ∈ nM) (m : V) (hm : m ∈ hM) (h : bDue l m = none) : l = .int (intV l) ∧ (m = .non ∨ m = .int (intV m)) ∧ 0 ≤ intV l ∧ intV l ≤ 999999999 ∧ 0 ≤ intV m ∧ intV m ≤ 999999999 ∧ (scal l l && scal m m) = true := by
  obtain ⟨⟨i, rfl, hi⟩, rfl | ⟨j, rfl, hj⟩⟩ := bDue_none h
  · exact ⟨rfl, .inl rfl, hi, hl.2 i rfl, Int.le_refl _, by decide, rfl⟩
  · exact ⟨rfl, .inr rfl, hi, hl.2 i rfl, hj, hm.2 j rfl, rfl⟩
theorem fix_due (w : V) (h : w ∈ wM) (_ : wDue w = none) : scal w w = true := by
  obtain ⟨i, rfl, _⟩ := h
  rfl
theorem lx_bad {x : LX} (hx : x ∈ lM) (h : lxDue x = none) : x.els.all areB = true ∧ x.els ≠ [] := by
  obtain ⟨k, _⟩ := hx
  have z : (if (decide (x.els.length = 0) || xsBad x.els) = true then (some "texts" : Option Str) else none) = none := by
    rcases k with k | k <;> (rw [k] at h ⊢; exact h)
  split at z
  · cases z
  · rename_i h1
    refine ⟨?_, fun e => h1 (by rw [e]; rfl)⟩
    cases q : x.els.all areB with
    | true => rfl
    | false => exact absurd (by unfold xsBad; rw [q]; show (_ || (true || _)) = true; rw [Bool.true_or, Bool.or_true]) h1
theorem are_str {v : V} (h : areB v = true) : v = .str (strV v) := by
  cases v with
  | str z => rfl
  | _ => cases h
theorem lst_due (x : LX) (hx : x ∈ lM) (h : lxDue x = none) : (∀ v ∈ x.els, v = .str (strV v)) ∧ x.els.length ≤ 20 ∧ x.els ≠ [] := by
  obtain ⟨h1, h2⟩ := lx_bad hx h
  exact ⟨fun v hv => are_str (List.all_eq_true.mp h1 v hv), hx.2.1, h2⟩
theorem lst_are (x : LX) (hx : x ∈ lM) (h : lxDue x = none) : x.els.all areB = true := (lx_bad hx h).1
theorem end_due (s : V) (_ : s ∈ sM) (e : V) (_ : e ∈ eM) (l : V) (_ : l ∈ nM) (m : V) (_ : m ∈ nM) (h : eDue s e l m = none) : s = .str (strV s) ∧ e = .str ⟨#[(strV e).cps.getD 0 0]⟩ ∧ scal m (.int 0) = true ∧ (scal s s && (scal e e && (scal l l && scal m m))) = true := by
  obtain ⟨h1, h2, h3⟩ := eDue_none h
  obtain ⟨z, rfl⟩ := sBad_str h1
  have ee := (sign_one h2).1
  refine ⟨rfl, ee, ?_⟩
  rw [ee]
  obtain ⟨⟨i, rfl, _⟩, rfl | ⟨j, rfl, _⟩⟩ := bDue_none h3 <;> exact ⟨rfl, rfl⟩
theorem nM_flat (v : V) (h : v ∈ hM) : flatV v = true := h.1
theorem wM_flat (v : V) (h : v ∈ wM) : flatV v = true := by
  obtain ⟨i, rfl, _⟩ := h
  rfl
theorem lM_vM (x : LX) (h : x ∈ lM) : (∀ v ∈ x.els, v ∈ vM) ∧ x.els.length ≤ 20 := ⟨h.2.2.1, h.2.1⟩
theorem lM_val (x : LX) (h : x ∈ lM) : x = .val (.str "ab") ∨ x = .val .non ∨ (x = .lst x.els ∨ x = .tup x.els) := .inr (.inr h.1)
theorem eM_one (e : V) (_ : e ∈ eM) (h : isSignB e = true) : e = .str ⟨#[(strV e).cps.getD 0 0]⟩ := (sign_one h).1
theorem sM_str (s : V) (_ : s ∈ sM) (h : sBad s = false) : s = .str (strV s) := by
  obtain ⟨z, rfl⟩ := sBad_str h
  rfl
theorem mQ_one (v : V) (_ : v ∈ mQ) (h : isSignB v = true) : v = .str ⟨#[(strV v).cps.getD 0 0]⟩ ∧ True := sign_one h
theorem lM_shaped (x : LX) (hx : x ∈ lM) (h : lxDue x = none) : x.els.all flatV = true ∧ SeqAt.shaped (.tuple (x.els.map dV)) = true :=
  ⟨List.all_eq_true.mpr fun v hv => (hx.2.2.1 v hv).1, hx.2.2.2⟩
theorem word_all (s : V) (_ : s ∈ sM) (l : V) (_ : l ∈ nM) (m : V) (_ : m ∈ nM) (h : oDue s l m = none) : s = .str (strV s) ∧ l = .int (intV l) ∧ (m = .non ∨ m = .int (intV m)) := by
  obtain ⟨h1, h2⟩ := oDue_none h
  obtain ⟨z, rfl⟩ := sBad_str h1
  obtain ⟨⟨i, rfl, _⟩, rfl | ⟨j, rfl, _⟩⟩ := bDue_none h2
  · exact ⟨rfl, rfl, .inl rfl⟩
  · exact ⟨rfl, rfl, .inr rfl⟩
theorem end_all (s : V) (_ : s ∈ sM) (e : V) (_ : e ∈ eM) (l : V) (_ : l ∈ nM) (m : V) (_ : m ∈ nM) (h : eDue s e l m = none) : s = .str (strV s) ∧ e = .str (strV e) ∧ l = .int (intV l) ∧ (m = .non ∨ m = .int (intV m)) ∧ (strV e).length ≤ 10 := by
  obtain ⟨h1, h2, h3⟩ := eDue_none h
  obtain ⟨z, rfl⟩ := sBad_str h1
  have ee := (sign_one h2).1
  have el : (strV e).length ≤ 10 := by rw [ee]; show 1 ≤ 10; decide
  have e2 : e = .str (strV e) := by
    cases e with
    | str y => rfl
    | _ => cases h2
  obtain ⟨⟨i, rfl, _⟩, rfl | ⟨j, rfl, _⟩⟩ := bDue_none h3
  · exact ⟨rfl, e2, rfl, .inl rfl, el⟩
  · exact ⟨rfl, e2, rfl, .inr rfl, el⟩
end L2.K22

set_option Elab.async false
set_option linter.all false
set_option maxRecDepth 100000
set_option maxHeartbeats 4000000
/-! Things that may be asked for their class: flat values, lists, tuples, dicts. -/
namespace L2.Jk
open PySem PySem.W PySem.Spec PySem.Calls PyProof.Rows
def Thg (H : Hp) (v : V) : Prop := flatV v = true ∨ ∃ p, v = .ref p ∧ ((∃ xs, H p = some (.lst xs)) ∨ (∃ xs, H p = some (.tup xs)) ∨ ∃ kvs, H p = some (.dK kvs))
theorem Thg.same {H H' : Hp} {v : V} (S : Same H H') : Thg H v → Thg H' v
  | .inl h => .inl h
  | .inr ⟨p, e, .inl ⟨xs, h⟩⟩ => .inr ⟨p, e, .inl ⟨xs, S _ _ h⟩⟩
  | .inr ⟨p, e, .inr (.inl ⟨xs, h⟩)⟩ => .inr ⟨p, e, .inr (.inl ⟨xs, S _ _ h⟩)⟩
  | .inr ⟨p, e, .inr (.inr ⟨xs, h⟩)⟩ => .inr ⟨p, e, .inr (.inr ⟨xs, S _ _ h⟩)⟩
theorem thg_ty {K : Frag} {H : Hp} {v : V} (h : Thg H v) : ∃ T : String, TyE K H v (.type T) ∧ kitB T "str" = some (isStr v) ∧ kitB T "int" = some (isInt v) ∧ kitB T "bool" = some (isBl v) := by
  rcases h with h | ⟨p, rfl, ⟨xs, h⟩ | ⟨xs, h⟩ | ⟨kvs, h⟩⟩
  · exact ⟨_, flat_ty h, kit_str h, kit_int h, kit_bool h⟩
  · exact ⟨"list", .x (.base (.lst h)), by show kitB "list" "str" = some false; decide +kernel, by show kitB "list" "int" = some false; decide +kernel, by show kitB "list" "bool" = some false; decide +kernel⟩
  · exact ⟨"tuple", .x (.base (.tup h)), by show kitB "tuple" "str" = some false; decide +kernel, by show kitB "tuple" "int" = some false; decide +kernel, by show kitB "tuple" "bool" = some false; decide +kernel⟩
  · exact ⟨"dict", .x (.base (.dK h)), by show kitB "dict" "str" = some false; decide +kernel, by show kitB "dict" "int" = some false; decide +kernel, by show kitB "dict" "bool" = some false; decide +kernel⟩
end L2.Jk

set_option Elab.async false
set_option linter.all false
set_option maxRecDepth 100000
set_option maxHeartbeats 4000000
namespace L2.K22
open PySem PySem.W PySem.Spec PySem.Calls PyProof.Rows L2.Jk



/-! ### the law's own numbers: a list of three -/
def StAt (H : Hp) (a : Addr) : Prop := ∃ p q r : Int, H a = some (.lst [.int p, .int q, .int r]) ∧ 0 ≤ p ∧ 0 ≤ q ∧ q < 2147483700 ∧ 0 ≤ r
def spSource : Sp := fun vs H Q _ => ∃ n : Int, vs = [.int n] ∧ ∀ a H', H a = none → Same H H' → StAt H' a → Q (.ref a) H'
def spDraw : Sp := fun vs H Q _ => ∃ (a : Addr) (b : Int), vs = [.ref a, .int b] ∧ StAt H a ∧ 0 < b ∧ b < 1073741824 ∧ ∀ d H', 0 ≤ d → d < b → But a H H' → StAt H' a → Q (.int d) H'
theorem abs_line (n : Int) : 0 ≤ (if n < 0 then -n else n) * (if decide (10 ^ (18 : Int).toNat ≤ (if n < 0 then -n else n)) = true then 1 else 0) := by
  by_cases h : n < 0
  · simp only [if_pos h]
    split <;> omega
  · simp only [if_neg h]
    split <;> omega

structure Bl (mg : Str → Option Value) : Prop where
  abs : mg "abs" = none
  int : mg "int" = none
  bool : mg "bool" = none
  isinstance : mg "isinstance" = none
  range : mg "range" = none
  len : mg "len" = none
  set : mg "set" = none
  type : mg "type" = none
  str : mg "str" = none
  reversed : mg "reversed" = none
  tuple : mg "tuple" = none
  list : mg "list" = none
  any : mg "any" = none
  all : mg "all" = none

theorem bit_line (c : Prop) [Decidable c] : -(2 ^ 64) < (if c then (1 : Int) else 0) ∧ (if c then (1 : Int) else 0) < 2 ^ 64 := by
  split <;> exact ⟨by decide, by decide⟩
/-- the module's own names, the error class -/
structure G0 (P : Program) (w : World) (K : Frag) (mg : Str → Option Value) (base : Heap) : Prop extends Bl mg where
  sg : ∃ t, mg "SIGNS" = some (.str SG t)
  dgs : ∃ t, mg "DIGITS" = some (.str DG t)
  bf : ErrAt P w K mg base "BadField" (He.ga K "BadField") ["what"] "refused badfield"
section
variable {P : Program} {w : World} {K : Frag} {mg : Str → Option Value} {base : Heap} {f : Addr} {fd : FuncData}

theorem pe_sg {X : Cx} {x : Str} {z : Str} {pos : Pos} (h : ∃ t, X.mg x = some (.str z t)) (hg : Gl X x := by rfl) (hd : (x == ("__debug__" : Str)) = false := by decide) : PE X (.Name x pos) (tC (.str z)) := by
  obtain ⟨t, h⟩ := h
  exact pe_glob (v := .str z) hg h ⟨t, rfl⟩ hd

def spMade : Sp := fun vs H Q _ => ∃ a b : Str, vs = [.str a, .str b] ∧ a.length ≤ 1000 ∧ Q (.bl (madeB a b)) H
def spV (p : V → Bool) : Sp := fun vs H Q _ => ∃ v : V, vs = [v] ∧ v ∈ vM ∧ Q (.bl (p v)) H
def spNumT : Sp := fun vs H Q _ => ∃ v : V, vs = [v] ∧ Thg H v ∧ Q (.bl (numB v)) H
def spNum : Sp := fun vs H Q _ => ∃ v : V, vs = [v] ∧ flatV v = true ∧ Q (.bl (numB v)) H
def spDig : Sp := fun vs H Q _ => ∃ n : Int, vs = [.int n] ∧ 0 ≤ n ∧ n < 1000000000000 ∧ ∀ H', Same H H' → Q (.str (dg n)) H'
theorem small_line (z : Str) (h : z.length ≤ 1000) : z.length ≤ sizeLine := by
  rw [sizeLine_eq]
  omega

abbrev s_source : Stmt := top 55
theorem sc_source : FnScope ["_law_cell"] ["_law_cell"] (defScope s_source) := ⟨rfl, rfl, rfl, by decide +kernel, rfl, by decide +kernel, by decide +kernel⟩

theorem ok_source (F : FunD K "_law_source" "_law_source" (defArgs s_source) (defBody s_source) (defScope s_source) [] [] f fd) (G : Bl mg) : FnOk P w K mg base CX0 1 f fd ["_law_cell"] spSource := by
  refine F.ok (CX := CX0) sc_source (fun vs H Q E h => ?_) (fun cdv A outer s H vs Q E hr h => ?_)
  · obtain ⟨n, rfl, _⟩ := h
    rfl
  · refine ⟨_, PSs.nox (pss_one (ps_ret (pe_lstS (pa_cons (pe_op op_mul (pe_callB call_abs (by rfl) G.abs (by decide +kernel) (pa_cons (pv 0) pa_nil)) (pe_callTy call_int1 (by rfl) G.int (by decide +kernel) (pa_cons (pe_cmpR op_ge (pe_callB call_abs (by rfl) G.abs (by decide +kernel) (pa_cons (pv 0) pa_nil)) (pe_op op_pow pe_int pe_int) (nomark _)) pa_nil))) (pa_cons (pe_op op_mod (pe_callTy call_int1 (by rfl) G.int (by decide +kernel) (pa_cons (pv 0) pa_nil)) pe_int) (pa_cons pe_int pa_nil)))))), ?_⟩
    obtain ⟨n, rfl, q⟩ := h
    refine ⟨_, rfl, n, rfl, ?_⟩
    refine ⟨_, rfl, n, rfl, _, _, rfl, rfl, ⟨by decide, by decide, by decide⟩, _, _, rfl, rfl, .inr ⟨_, rfl, ?_⟩⟩
    refine ⟨_, _, rfl, rfl, .inr (bit_line _), _, rfl, .inl ⟨_, rfl, _, _, rfl, rfl, (by show (0 : Int) < 2147483629; decide), ?_⟩⟩
    refine ⟨by show 3 ≤ 1000; decide, fun p H' hp S e => q p H' hp S ⟨_, _, _, e, abs_line n, ?_, ?_, by decide⟩⟩
    · exact Int.emod_nonneg _ (by decide)
    · have := Int.emod_lt_of_pos n (show (0 : Int) < 2147483629 by decide)
      omega

abbrev s_draw : Stmt := top 56
theorem sc_draw : FnScope ["_law_source_here", "_law_many", "_law_found", "_law_mixed"] ["_law_source_here", "_law_many"] (defScope s_draw) := ⟨rfl, rfl, rfl, by decide +kernel, rfl, by decide +kernel, by decide +kernel⟩

theorem ok_draw (F : FunD K "_law_draw" "_law_draw" (defArgs s_draw) (defBody s_draw) (defScope s_draw) [] [] f fd) (G : Bl mg) : FnOk P w K mg base CX0 1 f fd ["_law_source_here", "_law_many"] spDraw := by
  refine F.ok (CX := CX0) sc_draw (fun vs H Q E h => ?_) (fun cdv A outer s H vs Q E hr h => ?_)
  · obtain ⟨a, b, rfl, _⟩ := h
    rfl
  · refine ⟨_, PSs.nox (pss_cons (ps_if (pt_cmpR op_gt (pe_ix ix_list (pv 0) pe_int (fun _ _ => rfl)) pe_int (nomark _))
      (pss_cons (ps_set (i := 2) sc_draw.nd rfl (Or.inl rfl) (pe_op op_mod (pe_callTy call_int1 (by rfl) G.int (by decide +kernel) (pa_cons (pe_ix ix_list (pv 0) pe_int (fun _ _ => rfl)) pa_nil)) (pv 1)))
      (pss_cons (ps_asg (pe_op op_fdiv (pe_ix ix_list (pv 0) pe_int (fun _ _ => rfl)) (pv 1)) (pg_sub (pv 0) pe_int set_list))
      (pss_one (ps_ret (pv 2)))))
      pss_nil)
    (pss_cons (ps_asg (pe_op op_add (pe_ix ix_list (pv 0) pe_int (fun _ _ => rfl)) pe_int) (pg_sub (pv 0) pe_int set_list))
    (pss_cons (ps_set (i := 3) sc_draw.nd rfl (Or.inl rfl) (pe_op op_mod (pe_callTy call_int1 (by rfl) G.int (by decide +kernel) (pa_cons (pe_op op_mul (pe_op op_add (pe_op op_add (pe_ix ix_list (pv 0) pe_int (fun _ _ => rfl)) (pe_op op_mul pe_int (pe_ix ix_list (pv 0) pe_int (fun _ _ => rfl)))) pe_int) pe_int) pa_nil)) pe_int))
    (pss_cons (ps_set (i := 3) sc_draw.nd rfl (Or.inl rfl) (pe_op op_mod (pe_callTy call_int1 (by rfl) G.int (by decide +kernel) (pa_cons (pe_op op_mul (pv 3) (pe_op op_add (pe_op op_add (pe_op op_fdiv (pv 3) pe_int) pe_int) (pe_ix ix_list (pv 0) pe_int (fun _ _ => rfl)))) pa_nil)) pe_int))
    (pss_one (ps_ret (pe_op op_mod (pe_callTy call_int1 (by rfl) G.int (by decide +kernel) (pa_cons (pe_op op_fdiv (pe_op op_mod (pe_callTy call_int1 (by rfl) G.int (by decide +kernel) (pa_cons (pe_op op_mul (pv 3) (pe_op op_add (pe_op op_fdiv (pv 3) pe_int) pe_int)) pa_nil)) pe_int) pe_int) pa_nil)) (pv 1)))))))), ?_⟩
    obtain ⟨a, b, rfl, ⟨x, y, z, ha, hx, hy, hy2, hz⟩, hb, hb2, q⟩ := h
    refine ⟨_, rfl, _, _, _, _, rfl, rfl, SqL.of ha, atI_nat (j := 0) rfl, _, _, rfl, rfl, _, rfl, ?_⟩
    refine ite2 (fun h0 => ?_) (fun h0 => ?_)
    · refine ⟨_, rfl, _, _, _, _, rfl, rfl, SqL.of ha, atI_nat (j := 0) rfl, .inl ⟨_, rfl, _, rfl, _, _, rfl, rfl, hb, ?_⟩⟩
      refine ⟨_, rfl, _, _, _, _, rfl, rfl, SqL.of ha, atI_nat (j := 0) rfl, _, rfl, _, _, rfl, rfl, ⟨hb, hb2⟩, ?_⟩
      refine ⟨_, rfl, _, _, _, 0, rfl, rfl, ha, rfl, ?_⟩
      refine ⟨_, rfl, q _ _ (Int.emod_nonneg _ (by omega)) (Int.emod_lt_of_pos _ hb) (but_upd _ _ _) ⟨_, _, _, upd_same, Int.ediv_nonneg hx (by omega), hy, hy2, hz⟩⟩
    · refine ⟨_, rfl, _, _, _, _, rfl, rfl, SqL.of ha, atI_nat (j := 2) rfl, _, _, rfl, rfl, ?_⟩
      refine ⟨_, rfl, _, _, _, 2, rfl, rfl, ha, rfl, ?_⟩
      obtain ⟨H1, e1⟩ : ∃ H1, upd H a (.lst ([V.int x, V.int y, V.int z].set 2 (V.int (z + 1)))) = H1 := ⟨_, rfl⟩
      have ha1 : H1 a = some (.lst [.int x, .int y, .int (z + 1)]) := by rw [← e1, upd_same]; rfl
      rw [e1]
      refine ⟨_, rfl, _, _, _, _, rfl, rfl, SqL.of ha1, atI_nat (j := 1) rfl, _, rfl, _, _, _, _, rfl, rfl, SqL.of ha1, atI_nat (j := 2) rfl, _, _, rfl, rfl, .inl ⟨by decide, by decide⟩, _, _, rfl, rfl, _, _, rfl, rfl, _, _, rfl, rfl, .inr ⟨by decide, by decide⟩, .inl ⟨_, rfl, _, _, rfl, rfl, (by show (0 : Int) < 2147483647; decide), ?_⟩⟩
      have k1 := Int.emod_nonneg ((y + 104729 * (z + 1) + 11) * 48271) (show (2147483647 : Int) ≠ 0 by decide)
      have k2 := Int.emod_lt_of_pos ((y + 104729 * (z + 1) + 11) * 48271) (show (0 : Int) < 2147483647 by decide)
      refine ⟨_, rfl, _, rfl, _, _, rfl, rfl, ⟨by decide, by decide⟩, _, _, rfl, rfl, _, rfl, _, _, _, _, rfl, rfl, SqL.of ha1, atI_nat (j := 2) rfl, _, _, rfl, rfl, _, _, rfl, rfl, .inl ⟨by omega, by omega⟩, .inl ⟨_, rfl, _, _, rfl, rfl, (by show (0 : Int) < 2147483587; decide), ?_⟩⟩
      have k3 := Int.emod_nonneg ((((y + 104729 * (z + 1) + 11) * 48271) % 2147483647) * ((((y + 104729 * (z + 1) + 11) * 48271) % 2147483647) / 1009 + 69621 + (z + 1))) (show (2147483587 : Int) ≠ 0 by decide)
      have k4 := Int.emod_lt_of_pos ((((y + 104729 * (z + 1) + 11) * 48271) % 2147483647) * ((((y + 104729 * (z + 1) + 11) * 48271) % 2147483647) / 1009 + 69621 + (z + 1))) (show (0 : Int) < 2147483587 by decide)
      refine ⟨_, rfl, _, rfl, _, _, rfl, rfl, ⟨by decide, by decide⟩, _, _, rfl, rfl, _, _, rfl, rfl, .inl ⟨by omega, by omega⟩, .inl ⟨_, rfl, _, _, rfl, rfl, (by show (0 : Int) < 2147483563; decide), _, _, rfl, rfl, ⟨by decide, by decide⟩, .inl ⟨_, rfl, _, rfl, _, _, rfl, rfl, hb, ?_⟩⟩⟩
      refine q _ _ (Int.emod_nonneg _ (by omega)) (Int.emod_lt_of_pos _ hb) ?_ ⟨_, _, _, ha1, hx, hy, hy2, by omega⟩
      rw [← e1]
      exact but_upd _ _ _

abbrev s_made_of : Stmt := top 13
theorem sc_made_of : FnScope ["text", "signs"] ["text", "signs"] (defScope s_made_of) := ⟨rfl, rfl, rfl, by decide +kernel, rfl, by decide +kernel, by decide +kernel⟩

theorem ok_made_of (F : FunD K "is_made_of" "is_made_of" (defArgs s_made_of) (defBody s_made_of) (defScope s_made_of) [] [] f fd) (G : G0 P w K mg base) : FnOk P w K mg base CX0 1 f fd ["text", "signs"] spMade := by
  refine F.ok (CX := CX0) sc_made_of (fun vs H Q E h => ?_) (fun cdv A outer s H vs Q E hr h => ?_)
  · obtain ⟨a, b, rfl, _⟩ := h
    rfl
  · refine ⟨_, PSs.nox (pss_one (ps_ret (pe_cmpR op_eq (pe_bm PySem.F.plainAttrs_str PySem.F.slot_str_strip PySem.F.type_str_strip mt_stripChars (pv 0) (pa_cons (pv 1) pa_nil)) pe_str (nomark _)))), ?_⟩
    obtain ⟨a, b, rfl, hz, q⟩ := h
    exact ⟨_, rfl, rfl, _, rfl, a, b, rfl, rfl, small_line a hz, rfl, q⟩

abbrev s_is_sign : Stmt := top 14
theorem sc_is_sign : FnScope ["thing"] ["thing"] (defScope s_is_sign) := ⟨rfl, rfl, rfl, by decide +kernel, rfl, by decide +kernel, by decide +kernel⟩

theorem ok_is_sign (F : FunD K "is_sign" "is_sign" (defArgs s_is_sign) (defBody s_is_sign) (defScope s_is_sign) [] [] f fd) (G : G0 P w K mg base) : FnOk P w K mg base CX0 1 f fd ["thing"] (spV isSignB) := by
  refine F.ok (CX := CX0) sc_is_sign (fun vs H Q E h => ?_) (fun cdv A outer s H vs Q E hr h => ?_)
  · obtain ⟨v, rfl, _⟩ := h
    rfl
  · refine ⟨_, PSs.nox (pss_one (ps_ret (pe_and (pe_callB call_ie (by rfl) G.isinstance (by decide +kernel) (pa_cons (pv 0) (pa_cons (pe_bty (n := "str") (by rfl) G.str (by decide +kernel)) pa_nil))) (pe_and (pe_cmpR op_eq (pe_callB call_len_str (by rfl) G.len (by decide +kernel) (pa_cons (pv 0) pa_nil)) pe_int (nomark _)) (pe_one (pe_cmpR op_in_sign (pv 0) (pe_sg G.sg) (by rfl))))))), ?_⟩
    obtain ⟨v, rfl, hv, q⟩ := h
    obtain ⟨hf, _, _, hz⟩ := vM_facts v hv
    refine ⟨_, rfl, _, _, _, _, _, rfl, .ty _, flat_ty hf, kit_ty (kit_str hf), _, rfl, ?_⟩
    cases v with
    | str z =>
      refine iteT ⟨_, rfl, z, rfl, small_line z (Nat.le_trans hz (by decide)), rfl, _, rfl, ?_⟩
      refine ite2 (fun h1 => ?_) (fun h1 => ?_)
      · have h1' : z.length = 1 := by have := of_decide_eq_true h1; simp at this; omega
        have e := one_sign (.str z) hv h1'
        refine ⟨_, rfl, _, SG, e, rfl, ?_⟩
        have r : isSignB (.str z) = decide (z.cps.getD 0 0 ∈ SG.cps.toList) := by show ((z.length == 1) && inB z SG) = _; rw [h1']; rfl
        rw [r] at q
        exact q
      · have h1' : z.length ≠ 1 := fun e => h1 (by rw [e]; rfl)
        have r : isSignB (.str z) = false := by show ((z.length == 1) && inB z SG) = _; rw [beq_eq_false_iff_ne.mpr h1']; rfl
        rw [r] at q
        exact q
    | non => exact iteF q
    | bl b => exact iteF q
    | int i => exact iteF q
    | _ => cases hf

abbrev s_is_numberT : Stmt := top 17
theorem sc_is_numberT : FnScope ["thing"] ["thing"] (defScope s_is_numberT) := ⟨rfl, rfl, rfl, by decide +kernel, rfl, by decide +kernel, by decide +kernel⟩

theorem ok_is_numberT (F : FunD K "is_number" "is_number" (defArgs s_is_numberT) (defBody s_is_numberT) (defScope s_is_numberT) [] [] f fd) (G : G0 P w K mg base) : FnOk P w K mg base CX0 1 f fd ["thing"] spNumT := by
  refine F.ok (CX := CX0) sc_is_numberT (fun vs H Q E h => ?_) (fun cdv A outer s H vs Q E hr h => ?_)
  · obtain ⟨v, rfl, _⟩ := h
    rfl
  · refine ⟨_, PSs.nox (pss_one (ps_ret (pe_and (pe_callB call_ie (by rfl) G.isinstance (by decide +kernel) (pa_cons (pv 0) (pa_cons (pe_bty (n := "int") (by rfl) G.int (by decide +kernel)) pa_nil))) (pe_one (pe_not (pe_callB call_ie (by rfl) G.isinstance (by decide +kernel) (pa_cons (pv 0) (pa_cons (pe_bty (n := "bool") (by rfl) G.bool (by decide +kernel)) pa_nil)))))))), ?_⟩
    obtain ⟨v, rfl, hf, q⟩ := h
    obtain ⟨T, ty, ks, ki, kb⟩ := thg_ty (K := K) hf
    refine ⟨_, rfl, _, _, _, _, _, rfl, .ty _, ty, kit_ty ki, _, rfl, ?_⟩
    cases v with
    | bl b => exact iteT ⟨_, rfl, _, _, _, _, _, rfl, .ty _, ty, kit_ty kb, _, rfl, q⟩
    | int i => exact iteT ⟨_, rfl, _, _, _, _, _, rfl, .ty _, ty, kit_ty kb, _, rfl, q⟩
    | _ => exact iteF q

theorem ok_is_number (F : FunD K "is_number" "is_number" (defArgs s_is_numberT) (defBody s_is_numberT) (defScope s_is_numberT) [] [] f fd) (G : G0 P w K mg base) : FnOk P w K mg base CX0 1 f fd ["thing"] spNum := (ok_is_numberT F G).imp fun vs H Q E ⟨v, e, h, q⟩ => ⟨v, e, .inl h, q⟩
theorem dg_is (n : Int) : dg n = (toString n : Str) := rfl
theorem dg_len12 {n : Nat} (h : n < 1000000000000) : (dg (n : Nat)).length ≤ 12 := toString_length_le (Int.natCast_nonneg n) (by decide) (by show (n : Int) < 1000000000000; omega)
theorem dg_log {n : Nat} (h : n < 1000000000000) : (n : Int).natAbs.log2 < 1920 := by
  have h : (n : Int).natAbs < 2 ^ 40 := by show n < 1099511627776; omega
  by_cases h0 : (n : Int).natAbs = 0
  · rw [h0]
    decide
  · have := (Nat.log2_lt h0).mpr h
    omega
theorem dg_ok {n : Nat} (h : n < 1000000000000) : JoinOk "" [(toString (n : Int) : Str)] = true := by
  have := dg_len12 h
  rw [dg_is] at this
  show (!decide (0 + (toString (n : Int) : Str).length + 0 > 2 ^ 24)) = true
  rw [decide_eq_false (by omega)]
  rfl

abbrev s_digits_of : Stmt := top 18
theorem sc_digits_of : FnScope ["number", "limit", "pieces", "piece"] ["number"] (defScope s_digits_of) := ⟨rfl, rfl, rfl, by decide +kernel, rfl, by decide +kernel, by decide +kernel⟩

theorem ok_digits_of (F : FunD K "digits_of" "digits_of" (defArgs s_digits_of) (defBody s_digits_of) (defScope s_digits_of) [] [] f fd) (G : G0 P w K mg base) : FnOk P w K mg base CX0 1 f fd ["number"] spDig := by
  refine F.ok (CX := CX0) sc_digits_of (fun vs H Q E h => ?_) (fun cdv A outer s H vs Q E hr h => ?_)
  · obtain ⟨n, rfl, _⟩ := h
    rfl
  · refine ⟨_, PSs.nox (pss_cons (ps_set (i := 1) sc_digits_of.nd rfl (Or.inl rfl) (pe_op op_pow pe_int pe_int))
    (pss_cons (ps_set (i := 2) sc_digits_of.nd rfl (Or.inl rfl) (pe_lstS pa_nil))
    (pss_cons (ps_while PassesOwn.never (pt_cmpR op_ge (pv 0) (pv 1) (nomark _)) pss_never)
    (pss_cons (ps_expr (pe_bm PySem.F.plainAttrs_list PySem.F.slot_list_append PySem.F.type_list_append mt_append (pv 2) (pa_cons (pe_callTy call_str_int (by rfl) G.str (by decide +kernel) (pa_cons (pv 0) pa_nil)) pa_nil)))
    (pss_one (ps_ret (pe_joinRev rfl (by rfl) G.reversed pe_str (pv 2)))))))), ?_⟩
    obtain ⟨n, rfl, h0, h1, q⟩ := h
    obtain ⟨k, rfl⟩ : ∃ k : Nat, n = (k : Int) := ⟨n.toNat, by omega⟩
    have hk : k < 1000000000000 := by omega
    refine ⟨_, _, rfl, rfl, ⟨by decide, by decide, by decide⟩, ?_⟩
    refine ⟨by show 0 ≤ 1000; decide, fun p H1 hp S e => ?_⟩
    refine ⟨fun m σ' H' => m = 0 ∧ σ' = [some (.int (k : Int)), some (.int (10 ^ (64 : Int).toNat)), some (.ref p), none] ∧ H' = H1, ⟨0, rfl, rfl, rfl⟩, ?_⟩
    rintro m σ' H' ⟨rfl, rfl, rfl⟩
    refine ⟨_, rfl, _, rfl, _, _, rfl, rfl, _, rfl, ?_⟩
    refine ite2 (fun hf => ?_) (fun _ => ?_)
    · have z := of_decide_eq_true hf
      have e : (10 : Int) ^ (64 : Int).toNat = 10000000000000000000000000000000000000000000000000000000000000000 := by decide +kernel
      rw [e] at z
      omega
    refine ⟨_, rfl, .inl ⟨rfl, _, SqL.of e⟩, _, rfl, _, rfl, dg_log hk, p, _, _, rfl, rfl, e, (by rw [sizeLine_eq]; decide), ?_⟩
    refine ⟨_, rfl, _, rfl, p, [(toString (k : Int) : Str)], rfl, SqL.of upd_same, dg_ok hk, ?_⟩
    exact q _ (same_put S hp)

structure G1 (P : Program) (w : World) (K : Frag) (mg : Str → Option Value) (base : Heap) : Prop extends G0 P w K mg base where
  is_made_of : FnAt P w K mg base CX0 1 "is_made_of" ["text", "signs"] spMade
  is_sign : FnAt P w K mg base CX0 1 "is_sign" ["thing"] (spV isSignB)
  is_number : FnAt P w K mg base CX0 1 "is_number" ["thing"] spNum
  digits_of : FnAt P w K mg base CX0 1 "digits_of" ["number"] spDig

abbrev s_are_signs : Stmt := top 15
theorem sc_are_signs : FnScope ["thing"] ["thing"] (defScope s_are_signs) := ⟨rfl, rfl, rfl, by decide +kernel, rfl, by decide +kernel, by decide +kernel⟩

theorem ok_are_signs (F : FunD K "are_signs" "are_signs" (defArgs s_are_signs) (defBody s_are_signs) (defScope s_are_signs) [] [] f fd) (G : G1 P w K mg base) : FnOk P w K mg base CX0 2 f fd ["thing"] (spV areB) := by
  refine F.ok (CX := CX0) sc_are_signs (fun vs H Q E h => ?_) (fun cdv A outer s H vs Q E hr h => ?_)
  · obtain ⟨v, rfl, _⟩ := h
    rfl
  · refine ⟨_, PSs.nox (pss_one (ps_ret (pe_and (pe_callB call_ie (by rfl) G.isinstance (by decide +kernel) (pa_cons (pv 0) (pa_cons (pe_bty (n := "str") (by rfl) G.str (by decide +kernel)) pa_nil))) (pe_one (pe_fn G.is_made_of hr pass0 (by rfl) (pa_cons (pv 0) (pa_cons (pe_sg G.sg) pa_nil))))))), ?_⟩
    obtain ⟨v, rfl, hv, q⟩ := h
    obtain ⟨hf, _, _, hz⟩ := vM_facts v hv
    refine ⟨_, rfl, _, _, _, _, _, rfl, .ty _, flat_ty hf, kit_ty (kit_str hf), _, rfl, ?_⟩
    cases v with
    | str z => exact iteT ⟨_, rfl, z, SG, rfl, Nat.le_trans hz (by decide), q⟩
    | non => exact iteF q
    | bl b => exact iteF q
    | int i => exact iteF q
    | _ => cases hf

structure G2 (P : Program) (w : World) (K : Frag) (mg : Str → Option Value) (base : Heap) : Prop extends G1 P w K mg base where
  are_signs : FnAt P w K mg base CX0 2 "are_signs" ["thing"] (spV areB)
def spChkS (K : Frag) : Sp := fun vs H Q E => ∃ v : V, vs = [v] ∧ v ∈ sM ∧ (sBad v = false → Q .non H) ∧ (sBad v = true → RaiseE (BF K) "what" (.str "signs") H E)
def spChkB (K : Frag) : Sp := fun vs H Q E => ∃ l m : V, vs = [l, m] ∧ flatV l = true ∧ flatV m = true ∧ (bDue l m = none → Q .non H) ∧ (∀ z, bDue l m = some z → RaiseE (BF K) "what" (.str z) H E)

abbrev s_check_signs : Stmt := top 21
theorem sc_check_signs : FnScope ["signs"] ["signs"] (defScope s_check_signs) := ⟨rfl, rfl, rfl, by decide +kernel, rfl, by decide +kernel, by decide +kernel⟩

theorem ok_check_signs (F : FunD K "check_signs" "check_signs" (defArgs s_check_signs) (defBody s_check_signs) (defScope s_check_signs) [] [] f fd) (G : G2 P w K mg base) : FnOk P w K mg base (L2.CX P w) 3 f fd ["signs"] (spChkS K) := by
  refine F.ok (CX := (L2.CX P w)) sc_check_signs (fun vs H Q E h => ?_) (fun cdv A outer s H vs Q E hr h => ?_)
  · obtain ⟨v, rfl, _⟩ := h
    rfl
  · have hr2 : Room 2 _ := hr
    refine ⟨_, (pss_one (ps_if (PW.pt (pw_or (pt_not (pt_val (pe_fn G.are_signs hr2 pass0 (by rfl) (pa_cons (pv 0) pa_nil)))) (pw_or (pt_cmpR op_eq (pv 0) pe_str (nomark _)) (pw_or1 (pt_cmpR op_lt (pe_lenSetStr rfl (by rfl) G.len (by rfl) G.set (pv 0)) (pe_callB call_len_str (by rfl) G.len (by decide +kernel) (pa_cons (pv 0) pa_nil)) (nomark _))))))
      (pss_one (ps_raise rfl (takes_of rfl rfl rfl rfl) (pmk_1 G.bf hr2 (by rfl) (pa_cons pe_str pa_nil))))
      pss_nil)), ?_⟩
    obtain ⟨v, rfl, hv, q1, q2⟩ := h
    obtain ⟨hf, _, _, hz⟩ := vM_facts v (sM_vM hv)
    refine ⟨_, rfl, v, rfl, sM_vM hv, _, rfl, ?_⟩
    have bad : ∀ h : sBad v = true, _ := fun h => mkO_1 (q2 h)
    show if (!areB v) = true then _ else _
    refine ite2 (fun h1 => bad (by show (!areB v || _) = true; rw [h1]; rfl)) (fun h1 => ?_)
    cases v with
    | str z =>
      refine ⟨_, rfl, rfl, _, rfl, ?_⟩
      refine ite2 (fun h2 => bad (by show (_ || (decide _ || _)) = true; rw [h2]; exact Bool.or_true _)) (fun h2 => ?_)
      refine ⟨_, rfl, z, rfl, Nat.le_trans hz (by decide), _, rfl, z, rfl, small_line z (Nat.le_trans hz (by decide)), _, _, rfl, rfl, _, rfl, ?_⟩
      refine ite2 (fun h3 => bad ?_) (fun h3 => q1 ?_)
      · have h4 : twB (.str z) = true := decide_eq_true (by have := of_decide_eq_true h3; omega)
        show (_ || (_ || twB (.str z))) = true
        rw [h4, Bool.or_true, Bool.or_true]
      · have h4 : twB (.str z) = false := decide_eq_false (fun h => h3 (decide_eq_true (by omega)))
        show (!areB (.str z) || (decide (V.str z = .str "") || twB (.str z))) = false
        rw [h4, Bool.eq_false_iff.mpr h1, Bool.eq_false_iff.mpr h2]
        rfl
    | _ => exact absurd rfl h1

abbrev s_check_span : Stmt := top 22
theorem sc_check_span : FnScope ["least", "most"] ["least", "most"] (defScope s_check_span) := ⟨rfl, rfl, rfl, by decide +kernel, rfl, by decide +kernel, by decide +kernel⟩

theorem ok_check_span (F : FunD K "check_span" "check_span" (defArgs s_check_span) (defBody s_check_span) (defScope s_check_span) [] [] f fd) (G : G2 P w K mg base) : FnOk P w K mg base (L2.CX P w) 3 f fd ["least", "most"] (spChkB K) := by
  refine F.ok (CX := (L2.CX P w)) sc_check_span (fun vs H Q E h => ?_) (fun cdv A outer s H vs Q E hr h => ?_)
  · obtain ⟨l, m, rfl, _⟩ := h
    rfl
  · have hr2 : Room 2 _ := hr
    refine ⟨_, (pss_cons (ps_if (PW.pt (pw_or (pt_not (pt_val (pe_fn G.is_number (hr2.mono (by decide)) pass0 (by rfl) (pa_cons (pv 0) pa_nil)))) (pw_or1 (pt_cmpR op_lt (pv 0) pe_int (nomark _)))))
      (pss_one (ps_raise rfl (takes_of rfl rfl rfl rfl) (pmk_1 G.bf hr2 (by rfl) (pa_cons pe_str pa_nil))))
      pss_nil)
    (pss_one (ps_if (PW.pt (pw_and (pt_cmpR op_notN (pv 1) pe_non (nomark _)) (pw_and1 (PW.pt (pw_or (pt_not (pt_val (pe_fn G.is_number (hr2.mono (by decide)) pass0 (by rfl) (pa_cons (pv 1) pa_nil)))) (pw_or1 (pt_cmpR op_lt (pv 1) (pv 0) (nomark _))))))))
      (pss_one (ps_raise rfl (takes_of rfl rfl rfl rfl) (pmk_1 G.bf hr2 (by rfl) (pa_cons pe_str pa_nil))))
      pss_nil))), ?_⟩
    obtain ⟨l, m, rfl, hl, hm, q1, q2⟩ := h
    refine ⟨_, rfl, l, rfl, hl, _, rfl, ?_⟩
    show if (!numB l) = true then _ else _
    refine ite2 (fun h1 => mkO_1 (q2 _ (by show (if (!numB l || _) = true then _ else _) = _; rw [h1]; rfl))) (fun h1 => ?_)
    cases l with
    | int i =>
      refine ⟨_, rfl, _, _, rfl, rfl, _, rfl, ?_⟩
      refine ite2 (fun h2 => mkO_1 (q2 _ (by show (if (_ || decide (i < 0)) = true then _ else _) = _; rw [h2]; rfl))) (fun h2 => ?_)
      refine ⟨_, rfl, rfl, _, rfl, ?_⟩
      have e0 : bDue (.int i) m = if (!decide (m = .non) && (!numB m || ltV m (.int i))) = true then (some "most" : Option Str) else none := by
        show (if (!true || decide (i < 0)) = true then _ else _) = _
        rw [Bool.eq_false_iff.mpr h2]
        rfl
      rw [e0] at q1 q2
      refine ite2 (fun h3 => ?_) (fun h3 => q1 (by rw [Bool.eq_false_iff.mpr h3]; rfl))
      refine ⟨_, rfl, m, rfl, hm, _, rfl, ?_⟩
      show if (!numB m) = true then _ else _
      refine ite2 (fun h4 => mkO_1 (q2 _ (by rw [h3, h4]; rfl))) (fun h4 => ?_)
      cases m with
      | int j =>
        refine ⟨_, rfl, _, rfl, _, _, rfl, rfl, _, rfl, ?_⟩
        refine ite2 (fun h5 => mkO_1 (q2 _ (by show (if (_ && (_ || decide (j < i))) = true then _ else _) = _; rw [h3, h5]; rfl))) (fun h5 => q1 (by show (if (_ && (!true || decide (j < i))) = true then _ else _) = _; rw [h3, Bool.eq_false_iff.mpr h5]; rfl))
      | _ => exact absurd rfl h4
    | _ => exact absurd rfl h1

def spHww (K : Frag) : Sp := fun vs H Q _ => ∃ (a C dx : Addr) (fs : List (Str × V)) (c : Nat) (z : Str) (m : V), vs = [.ref a, .str ⟨#[c]⟩] ∧ H a = some (.ins C dx fs) ∧ Cls K C ∧ NoAttr K C "signs" ∧ NoAttr K C "most" ∧ fs.lookup ("signs" : Str) = some (.str z) ∧ fs.lookup ("most" : Str) = some m ∧
  scal m (.int 0) = true ∧ Q (.bl (wwB (.str z) m ⟨#[c]⟩)) H

abbrev s_has_words : Stmt := top 24
theorem sc_has_words : FnScope ["field", "sign"] ["field", "sign"] (defScope s_has_words) := ⟨rfl, rfl, rfl, by decide +kernel, rfl, by decide +kernel, by decide +kernel⟩

theorem ok_has_words (F : FunD K "has_words_with" "has_words_with" (defArgs s_has_words) (defBody s_has_words) (defScope s_has_words) [] [] f fd) (G : G0 P w K mg base) : FnOk P w K mg base CX0 1 f fd ["field", "sign"] (spHww K) := by
  refine F.ok (CX := CX0) sc_has_words (fun vs H Q E h => ?_) (fun cdv A outer s H vs Q E hr h => ?_)
  · obtain ⟨a, C, dx, fs, c, z, m, rfl, _⟩ := h
    rfl
  · refine ⟨_, PSs.nox (pss_one (ps_ret (pe_and (pe_cmpR op_in_sign (pv 1) (pe_fld (pv 0) rfl) (by rfl)) (pe_one (pe_cmpR op_ne (pe_fld (pv 0) rfl) pe_int (nomark _)))))), ?_⟩
    obtain ⟨a, C, dx, fs, c, z, m, rfl, ha, hC, n1, n2, l1, l2, sc, q⟩ := h
    refine ⟨_, rfl, _, rfl, a, C, dx, fs, _, rfl, ha, hC, n1, l1, c, z, rfl, rfl, _, rfl, ?_⟩
    refine ite2 (fun h1 => ?_) (fun h1 => ?_)
    · refine ⟨_, rfl, a, C, dx, fs, _, rfl, ha, hC, n2, l2, sc, ?_⟩
      have e : wwB (.str z) m ⟨#[c]⟩ = !decide (m = .int 0) := by show (decide (c ∈ z.cps.toList) && _) = _; rw [h1]; rfl
      rw [e] at q
      exact q
    · have e : wwB (.str z) m ⟨#[c]⟩ = false := by show (decide (c ∈ z.cps.toList) && _) = _; rw [Bool.eq_false_iff.mpr h1]; rfl
      rw [e] at q
      exact q

end
end L2.K22

set_option Elab.async false
set_option linter.all false
set_option maxRecDepth 100000
set_option maxHeartbeats 4000000
/-! 'x' * n, n at least 1. -/
namespace L2.Jk
open PySem PySem.W PySem.Spec PySem.Calls PyProof.Rows
def repS (z : Str) (i : Int) : Str := ⟨(List.replicate i.toNat z.cps).foldl (· ++ ·) #[]⟩
/-- it may be done -/
def repOk (z : Str) (i : Int) : Bool := decide (1 ≤ i) && (decide (i < 1000) && (decide (z.length = 1) && (!Builtin.Str.tooLong (z.length * i.toNat) && decide ((repS z i).length ≤ 16777216))))
theorem op_mulStr {X : Cx} : OpR X (binaryOp .Mult) (fun x y H Q => ∃ (z : Str) (i : Int), x = .str z ∧ y = .int i ∧ repOk z i = true ∧ Q (.str (repS z i)) H) := by
  intro pins s σ H x y v u Q I rx ry h
  obtain ⟨z, i, rfl, rfl, ok, q⟩ := h
  obtain ⟨t, rfl⟩ := rx
  obtain ⟨t', rfl⟩ := ry
  obtain ⟨o1, ok⟩ := Bool.and_eq_true_iff.mp ok
  obtain ⟨o2, ok⟩ := Bool.and_eq_true_iff.mp ok
  obtain ⟨o3, ok⟩ := Bool.and_eq_true_iff.mp ok
  obtain ⟨o4, o5⟩ := Bool.and_eq_true_iff.mp ok
  replace o1 := of_decide_eq_true o1
  replace o2 := of_decide_eq_true o2
  replace o3 := of_decide_eq_true o3
  replace o5 := of_decide_eq_true o5
  have e1 : ¬ i < 1 := by omega
  by_cases h1 : i = 1
  · subst h1
    have er : repS z 1 = z := by
      obtain ⟨c⟩ := z
      show (⟨(List.replicate 1 c).foldl (· ++ ·) #[]⟩ : Str) = ⟨c⟩
      simp
    rw [er] at q
    refine P.mul_str (by decide) (fun _ h => absurd h (by simp)) (fun _ h => absurd h (by simp)) ?_
    rw [if_neg e1, if_pos (show ((1 : Int) == 1 || z.length == 0) = true from rfl)]
    exact ⟨.str z, H, I, ⟨t, rfl⟩, q⟩
  have e2 : (i == 1 || z.length == 0) = false := by
    rw [o3, show (i == 1) = false from beq_eq_false_iff_ne.mpr h1]
    rfl
  refine P.mul_str (by rw [decide_eq_false (by omega), decide_eq_false (by omega)]; rfl) (fun _ _ => ?_) (fun _ _ => by rwa [Bool.not_eq_true'] at o4) ?_
  · rw [o3]
    have h2 : (1 : Int) ≤ (2 ^ 63 - 1) / i := Int.le_ediv_of_mul_le (by omega) (by omega)
    omega
  · rw [if_neg e1, e2]
    exact ⟨by rw [sizeLine_eq]; exact o5, ⟨.str _, H, I.tok _, ⟨_, rfl⟩, q⟩⟩
end L2.Jk

set_option Elab.async false
set_option linter.all false
set_option maxRecDepth 100000
set_option maxHeartbeats 4000000
/-! Tuples of which it is known that they have no dict: made, their methods called. -/
namespace L2.Jk
open PySem PySem.W PySem.Spec PySem.Calls PyProof.Rows
/-- at t: a tuple of these items, an object without a dict -/
def TupZ (H : Hp) (t : Addr) (xs : List V) : Prop := ∃ o : Obj, o.cls = .type "tuple" ∧ o.dict = none ∧ H t = some (.frz o (.tup xs))
theorem TupZ.same {H H' : Hp} {t : Addr} {xs : List V} (S : Same H H') (h : TupZ H t xs) : TupZ H' t xs := by
  obtain ⟨o, c, d, e⟩ := h
  exact ⟨o, c, d, S _ _ e⟩
theorem TupZ.sq {K : Frag} {H : Hp} {t : Addr} {xs : List V} (h : TupZ H t xs) : SqT K H t xs := by
  obtain ⟨o, c, d, e⟩ := h
  exact .inl (.inr ⟨o, e⟩)
section
variable {X : Cx}
def rTupZ (K : Frag) : List V → Hp → VK → Prop := fun xs H Q => ∃ p ys, xs = [.ref p] ∧ ((SqL K H p ys ∧ ∀ l H', H l = none → Same H H' → TupZ H' l ys → Q (.ref l) H') ∨ (SqT K H p ys ∧ Q (.ref p) H))
theorem call_tupleZ : CallR X (.type "tuple") (rTupZ X.K) := by
  intro pins s σ H xs us Q I r h
  obtain ⟨p, ys, rfl, h⟩ := h
  obtain ⟨u, rfl, rx⟩ := vals1 r
  cases rx
  rcases h with ⟨hq, q⟩ | ⟨hq, q⟩
  · obtain ⟨its, r', pl, hz⟩ := I.list hq
    have hlen := r'.length
    refine call_tuple_list pl.isList (fun h' kp => ?_) (by simp only [List.size_toArray] <;> omega)
    have I1 : Inv X pins σ H { s with heap := h' } := I.kept (t' := s.toks) kp
    have I2 : Inv X pins σ (upd H h'.objs.size (.frz { cls := .type "tuple", data := .seq its.toArray } (.tup ys))) { s with heap := h'.push { cls := .type "tuple", data := .seq its.toArray } } :=
      I1.laid (t' := s.toks) (fun b o e => Heap.get?_push_of_some _ e) (Nat.le_refl _) ⟨Heap.get?_push_size _ rfl, show ObjOk X.prog X.w _ _ _ (.tup ys) from ⟨hz, its, r', IsTup.new _ _⟩⟩
    have n := I1.hok.fresh (a := h'.objs.size) (Nat.le_refl _)
    exact ⟨.ref h'.objs.size, _, I2, rfl, q _ _ n (same_upd n) ⟨_, rfl, rfl, upd_same⟩⟩
  · obtain ⟨its, r', pl, hz⟩ := I.tuple hq
    exact call_tuple_same pl ⟨.ref p, H, I, rfl, q⟩
/-- a tuple display -/
def tTupZ (t : TA) : TE := fun σ H Q => t σ H fun xs H1 => xs.length ≤ 1000 ∧ ∀ p H', H1 p = none → Same H1 H' → TupZ H' p xs → Q (.ref p) H'
theorem pe_tupZ {es : List Expr} {t : TA} {pos : Pos} {k} (ha : PA X es t) : PE X (.Tuple es k pos) (tTupZ t) := by
  constructor
  intro pins s σ H Q I h
  refine wpAny_Tuple_spliced (thn (ha.run pos pins s σ H _ I h) fun us s1 ⟨xs, H1, I1, r, z, q⟩ => ?_)
  have z' := Nat.le_of_lt (small1000 z)
  have n : H1 s1.heap.objs.size = none := I1.fresh
  refine ⟨by rw [← r.length]; exact z', .ref s1.heap.objs.size, _, I1.laid (t' := s1.toks) (o := .frz { cls := .type "tuple", data := .seq us.toArray } (.tup xs)) (fun b u e => Heap.get?_push_of_some _ e) (Nat.le_refl _) ?_, rfl, q _ _ n (same_upd n) ⟨_, rfl, rfl, upd_same⟩⟩
  exact ⟨Heap.get?_push_size _ rfl, z', us, r, IsTup.new _ _⟩
/-- o.m(e, ..) of such a tuple -/
def tBMZ (r : V → List V → Hp → VK → Prop) (to : TE) (t : TA) : TE := fun σ H Q => to σ H fun x H1 => (∃ p xs, x = .ref p ∧ TupZ H1 p xs) ∧ t σ H1 fun xs H2 => r x xs H2 Q
variable {o e : Expr} {es : List Expr} {to : TE} {t : TA} {name : Str} {apos cpos : Pos} {id : String} {r : V → List V → Hp → VK → Prop}
theorem pe_bmZ (slot : Slot "tuple" name id) (hty : typeOf (.builtin id) = pure (.type "method_descriptor")) (pa : PlainAttrs "tuple") (hm : MtR X id r) (ho : PE X o to) (ha : PA X (e :: es) t)
    (hbase : attributeBase o name X.env (eval o X.env) = eval o X.env := by rfl)
    (hfew : ((backTo cpos (starEach (e :: es) X.env)).all (fun x => !x.1) && (backToKw cpos (keywordEach [] X.env)).all (fun x => x.1.isSome)
      && decide ((e :: es).length + ([] : List Keyword).length + (if ([] : List Keyword).isEmpty then 0 else 1) < 30)) = true := by rfl)
    (hline : (apos.endLine == cpos.line) = true := by rfl) (hs : starEach (e :: es) X.env = (false, eval e X.env) :: starEach es X.env := by rfl) (hplain : (backTo cpos (starEach es X.env)).any (·.1) = false := by rfl) :
    PE X (.Call (.Attribute o name apos) (e :: es) [] cpos) (tBMZ r to t) := by
  refine ⟨fun pins s σ H Q I h => ?_⟩
  refine wpAny_Call_method_late hbase hfew hline rfl (thn (ho.run pins s σ H _ I h) fun v s1 ⟨x, H1, I1, r1, ⟨p, ys, ex, ob, hc, hd, hp⟩, q1⟩ => ?_)
  subst ex
  obtain rfl : v = Value.ref p := r1
  obtain ⟨hg, _⟩ := (show s1.heap.get? p = some ob ∧ ObjOk X.prog X.w H1 s1.heap p (.tup ys) from I1.hok p _ hp)
  refine ⟨"tuple", id, pa, slot, hty, ⟨ob, hg, hc⟩, (fun a e => by cases e; exact ⟨ob, hg, hd⟩), ?_⟩
  have hA := ha.run cpos pins s1 σ H1 _ I1 q1
  rw [hs] at hA ⊢
  refine Calls.callWith_builtin (by show (false || (backTo cpos (starEach es X.env)).any (·.1)) = false; rw [hplain] <;> rfl) (Calls.evalArgs_plain ?_)
  exact thn hA fun us s2 ⟨vs, H2, I2, r2, q2⟩ => hm pins s2 σ H2 (.ref p) vs (.ref p) us Q I2 rfl r2 q2
end
end L2.Jk

set_option Elab.async false
set_option linter.all false
set_option maxRecDepth 100000
set_option maxHeartbeats 4000000
namespace L2.K22
open PySem PySem.W PySem.Spec PySem.Calls PyProof.Rows L2.Jk
section
variable {P : Program} {w : World} {K : Frag} {mg : Str → Option Value} {base : Heap} {f : Addr} {fd : FuncData}

/-- a field class: its name, its attributes -/
structure C0 (K : Frag) (mg : Str → Option Value) (x : Str) (fs : List Str) : Prop where
  mgC : mg x = some (.ref (He.ga K x))
  cl : Cls K (He.ga K x)
  no : ∀ f ∈ fs, NoAttr K (He.ga K x) f

def fWord (s l m : V) : List (Str × V) := (putF "most" m (putF "least" l (putF "signs" s [])))
theorem lWord_signs {s l m : V} : (fWord s l m).lookup ("signs" : Str) = some s := by unfold fWord; rw [lookup_putF, if_neg (by decide +kernel)]; rw [lookup_putF, if_neg (by decide +kernel)]; rw [lookup_putF, if_pos rfl]
theorem lWord_least {s l m : V} : (fWord s l m).lookup ("least" : Str) = some l := by unfold fWord; rw [lookup_putF, if_neg (by decide +kernel)]; rw [lookup_putF, if_pos rfl]
theorem lWord_most {s l m : V} : (fWord s l m).lookup ("most" : Str) = some m := by unfold fWord; rw [lookup_putF, if_pos rfl]
theorem lWord_hs {s l m : V} : (fWord s l m).lookup ("has_sign" : Str) = none := by unfold fWord; rw [lookup_putF, if_neg (by decide +kernel)]; rw [lookup_putF, if_neg (by decide +kernel)]; rw [lookup_putF, if_neg (by decide +kernel)]; rfl
def fNumber (l m : V) : List (Str × V) := (putF "most" m (putF "least" l []))
theorem lNumber_least {l m : V} : (fNumber l m).lookup ("least" : Str) = some l := by unfold fNumber; rw [lookup_putF, if_neg (by decide +kernel)]; rw [lookup_putF, if_pos rfl]
theorem lNumber_most {l m : V} : (fNumber l m).lookup ("most" : Str) = some m := by unfold fNumber; rw [lookup_putF, if_pos rfl]
theorem lNumber_hs {l m : V} : (fNumber l m).lookup ("has_sign" : Str) = none := by unfold fNumber; rw [lookup_putF, if_neg (by decide +kernel)]; rw [lookup_putF, if_neg (by decide +kernel)]; rfl
def fFixed (w : V) : List (Str × V) := (putF "width" w [])
theorem lFixed_width {w : V} : (fFixed w).lookup ("width" : Str) = some w := by unfold fFixed; rw [lookup_putF, if_pos rfl]
theorem lFixed_hs {w : V} : (fFixed w).lookup ("has_sign" : Str) = none := by unfold fFixed; rw [lookup_putF, if_neg (by decide +kernel)]; rfl
def fListed (x : V) : List (Str × V) := (putF "texts" x [])
theorem lListed_texts {x : V} : (fListed x).lookup ("texts" : Str) = some x := by unfold fListed; rw [lookup_putF, if_pos rfl]
theorem lListed_hs {x : V} : (fListed x).lookup ("has_sign" : Str) = none := by unfold fListed; rw [lookup_putF, if_neg (by decide +kernel)]; rfl
def fEnded (s e l m : V) : List (Str × V) := (putF "most" m (putF "least" l (putF "sign" e (putF "signs" s []))))
theorem lEnded_signs {s e l m : V} : (fEnded s e l m).lookup ("signs" : Str) = some s := by unfold fEnded; rw [lookup_putF, if_neg (by decide +kernel)]; rw [lookup_putF, if_neg (by decide +kernel)]; rw [lookup_putF, if_neg (by decide +kernel)]; rw [lookup_putF, if_pos rfl]
theorem lEnded_sign {s e l m : V} : (fEnded s e l m).lookup ("sign" : Str) = some e := by unfold fEnded; rw [lookup_putF, if_neg (by decide +kernel)]; rw [lookup_putF, if_neg (by decide +kernel)]; rw [lookup_putF, if_pos rfl]
theorem lEnded_least {s e l m : V} : (fEnded s e l m).lookup ("least" : Str) = some l := by unfold fEnded; rw [lookup_putF, if_neg (by decide +kernel)]; rw [lookup_putF, if_pos rfl]
theorem lEnded_most {s e l m : V} : (fEnded s e l m).lookup ("most" : Str) = some m := by unfold fEnded; rw [lookup_putF, if_pos rfl]
theorem lEnded_hs {s e l m : V} : (fEnded s e l m).lookup ("has_sign" : Str) = none := by unfold fEnded; rw [lookup_putF, if_neg (by decide +kernel)]; rw [lookup_putF, if_neg (by decide +kernel)]; rw [lookup_putF, if_neg (by decide +kernel)]; rw [lookup_putF, if_neg (by decide +kernel)]; rfl
def fMarked (n k y : V) : List (Str × V) := (putF "field" y (putF "mark" k (putF "none" n [])))
theorem lMarked_none {n k y : V} : (fMarked n k y).lookup ("none" : Str) = some n := by unfold fMarked; rw [lookup_putF, if_neg (by decide +kernel)]; rw [lookup_putF, if_neg (by decide +kernel)]; rw [lookup_putF, if_pos rfl]
theorem lMarked_mark {n k y : V} : (fMarked n k y).lookup ("mark" : Str) = some k := by unfold fMarked; rw [lookup_putF, if_neg (by decide +kernel)]; rw [lookup_putF, if_pos rfl]
theorem lMarked_field {n k y : V} : (fMarked n k y).lookup ("field" : Str) = some y := by unfold fMarked; rw [lookup_putF, if_pos rfl]
theorem lMarked_hs {n k y : V} : (fMarked n k y).lookup ("has_sign" : Str) = none := by unfold fMarked; rw [lookup_putF, if_neg (by decide +kernel)]; rw [lookup_putF, if_neg (by decide +kernel)]; rw [lookup_putF, if_neg (by decide +kernel)]; rfl

/-- the field d stands at a -/
def FieldAt (K : Frag) (H : Hp) (a : Addr) : PD → Prop
  | .word s l m => ∃ dx, H a = some (.ins (He.ga K "Word") dx (fWord s l m))
  | .number l m => ∃ dx, H a = some (.ins (He.ga K "Number") dx (fNumber l m))
  | .fixed w => ∃ dx, H a = some (.ins (He.ga K "Fixed") dx (fFixed w))
  | .listed x => ∃ dx t, H a = some (.ins (He.ga K "Listed") dx (fListed (.ref t))) ∧ TupZ H t x.els
  | .ended s e l m => ∃ dx, H a = some (.ins (He.ga K "Ended") dx (fEnded s e l m))
theorem FieldAt.same {H H' : Hp} {a : Addr} (S : Same H H') : ∀ {d : PD}, FieldAt K H a d → FieldAt K H' a d
  | .word .., ⟨dx, h⟩ => ⟨dx, S _ _ h⟩
  | .number .., ⟨dx, h⟩ => ⟨dx, S _ _ h⟩
  | .fixed _, ⟨dx, h⟩ => ⟨dx, S _ _ h⟩
  | .listed _, ⟨dx, t, h, k⟩ => ⟨dx, t, S _ _ h, k.same S⟩
  | .ended .., ⟨dx, h⟩ => ⟨dx, S _ _ h⟩
/-- of values that are taken -/
structure G3 (P : Program) (w : World) (K : Frag) (mg : Str → Option Value) (base : Heap) : Prop extends G2 P w K mg base where
  check_signs : FnAt P w K mg base (L2.CX P w) 3 "check_signs" ["signs"] (spChkS K)
  check_span : FnAt P w K mg base (L2.CX P w) 3 "check_span" ["least", "most"] (spChkB K)
  has_words_with : FnAt P w K mg base CX0 1 "has_words_with" ["field", "sign"] (spHww K)
  cWord : C0 K mg "Word" ["signs", "least", "most"]
  cNumber : C0 K mg "Number" ["least", "most"]
  cFixed : C0 K mg "Fixed" ["width"]
  cListed : C0 K mg "Listed" ["texts"]
  cEnded : C0 K mg "Ended" ["signs", "sign", "least", "most"]
  cMarked : C0 K mg "Marked" ["none", "mark", "field"]

def spWord (K : Frag) : Sp := fun vs H Q E => ∃ (a dx : Addr) (s l m : V), vs = [.ref a, s, l, m] ∧ H a = some (.ins (He.ga K "Word") dx []) ∧ s ∈ sM ∧ l ∈ nM ∧ m ∈ nM ∧ (oDue s l m = none → Q .non (upd H a (.ins (He.ga K "Word") dx (fWord s l m)))) ∧
  ∀ z, oDue s l m = some z → RaiseE (BF K) "what" (.str z) H E

abbrev s_Word_init : Stmt := inClass (top 25) 0
theorem sc_Word_init : FnScope ["self", "signs", "least", "most"] ["self", "signs", "least", "most"] (defScope s_Word_init) := ⟨rfl, rfl, rfl, by decide +kernel, rfl, by decide +kernel, by decide +kernel⟩

theorem ok_Word_init (F : FunD K "__init__" "Word.__init__" (defArgs s_Word_init) (defBody s_Word_init) (defScope s_Word_init) [] [] f fd) (G : G3 P w K mg base) : FnOk P w K mg base (L2.CX P w) 4 f fd ["self", "signs", "least", "most"] (spWord K) := by
  refine F.ok (CX := (L2.CX P w)) sc_Word_init (fun vs H Q E h => ?_) (fun cdv A outer s H vs Q E hr h => ?_)
  · obtain ⟨a, dx, s, l, m, rfl, _⟩ := h
    rfl
  · have hr3 : Room 3 _ := hr
    refine ⟨_, (pss_cons (ps_expr (pe_fnS G.check_signs hr3 (fun σ => passAt (takes_of rfl rfl rfl rfl) σ) (by rfl) (pa_cons (pv 1) pa_nil)))
    (pss_cons (ps_expr (pe_fnS G.check_span hr3 (fun σ => passAt (takes_of rfl rfl rfl rfl) σ) (by rfl) (pa_cons (pv 2) (pa_cons (pv 3) pa_nil))))
    (pss_cons (ps_fld (pv 0) (pv 1) rfl)
    (pss_cons (ps_fld (pv 0) (pv 2) rfl)
    (pss_one (ps_fld (pv 0) (pv 3) rfl)))))), ?_⟩
    obtain ⟨a, dx, s, l, m, rfl, ha, hs, hl, hm, q1, q2⟩ := h
    refine ⟨_, rfl, s, rfl, hs, fun e1 => ?_, fun e1 => q2 _ (by unfold oDue; rw [if_pos e1])⟩
    have e0 : oDue s l m = bDue l m := by unfold oDue; rw [e1]; rfl
    rw [e0] at q1 q2
    refine ⟨_, rfl, _, rfl, l, m, rfl, nM_flat l (nh hl), nM_flat m (nh hm), fun e2 => ?_, fun z e2 => q2 z e2⟩
    refine ⟨_, rfl, _, rfl, a, _, dx, _, rfl, ha, G.cWord.cl, G.cWord.no _ (by decide +kernel), (by show 0 < 1000; decide), _, rfl, _, rfl, a, _, dx, _, rfl, upd_same, G.cWord.cl, G.cWord.no _ (by decide +kernel), (by show 1 < 1000; decide), _, rfl, _, rfl, a, _, dx, _, rfl, upd_same, G.cWord.cl, G.cWord.no _ (by decide +kernel), (by show 2 < 1000; decide), ?_⟩
    have z := q1 e2
    show Q .non _
    rw [upd_upd, upd_upd]
    exact z

theorem pi_or {X : Cx} {tg e : Expr} {t1 t2 : TI} (h1 : PI X tg e t1) (h2 : PI X tg e t2) : PI X tg e (fun σ H R => t1 σ H R ∨ t2 σ H R) :=
  ⟨fun pins s σ H R I h => h.elim (h1.run pins s σ H R I) (h2.run pins s σ H R I)⟩
def spNumber (K : Frag) : Sp := fun vs H Q E => ∃ (a dx : Addr) (l m : V), vs = [.ref a, l, m] ∧ H a = some (.ins (He.ga K "Number") dx []) ∧ l ∈ nM ∧ m ∈ hM ∧ (bDue l m = none → Q .non (upd H a (.ins (He.ga K "Number") dx (fNumber l m)))) ∧
  ∀ z, bDue l m = some z → RaiseE (BF K) "what" (.str z) H E

abbrev s_Number_init : Stmt := inClass (top 26) 0
theorem sc_Number_init : FnScope ["self", "least", "most"] ["self", "least", "most"] (defScope s_Number_init) := ⟨rfl, rfl, rfl, by decide +kernel, rfl, by decide +kernel, by decide +kernel⟩

theorem ok_Number_init (F : FunD K "__init__" "Number.__init__" (defArgs s_Number_init) (defBody s_Number_init) (defScope s_Number_init) [] [] f fd) (G : G3 P w K mg base) : FnOk P w K mg base (L2.CX P w) 4 f fd ["self", "least", "most"] (spNumber K) := by
  refine F.ok (CX := (L2.CX P w)) sc_Number_init (fun vs H Q E h => ?_) (fun cdv A outer s H vs Q E hr h => ?_)
  · obtain ⟨a, dx, l, m, rfl, _⟩ := h
    rfl
  · have hr3 : Room 3 _ := hr
    refine ⟨_, (pss_cons (ps_expr (pe_fnS G.check_span hr3 (fun σ => passAt (takes_of rfl rfl rfl rfl) σ) (by rfl) (pa_cons (pv 1) (pa_cons (pv 2) pa_nil))))
    (pss_cons (ps_fld (pv 0) (pv 1) rfl)
    (pss_one (ps_fld (pv 0) (pv 2) rfl)))), ?_⟩
    obtain ⟨a, dx, l, m, rfl, ha, hl, hm, q1, q2⟩ := h
    refine ⟨_, rfl, _, rfl, l, m, rfl, nM_flat l (nh hl), nM_flat m hm, fun e2 => ?_, fun z e2 => q2 z e2⟩
    refine ⟨_, rfl, _, rfl, a, _, dx, _, rfl, ha, G.cNumber.cl, G.cNumber.no _ (by decide +kernel), (by show 0 < 1000; decide), _, rfl, _, rfl, a, _, dx, _, rfl, upd_same, G.cNumber.cl, G.cNumber.no _ (by decide +kernel), (by show 1 < 1000; decide), ?_⟩
    have z := q1 e2
    show Q .non _
    rw [upd_upd]
    exact z

def spFixed (K : Frag) : Sp := fun vs H Q E => ∃ (a dx : Addr) (v : V), vs = [.ref a, v] ∧ H a = some (.ins (He.ga K "Fixed") dx []) ∧ v ∈ wM ∧ (wDue v = none → Q .non (upd H a (.ins (He.ga K "Fixed") dx (fFixed v)))) ∧
  ∀ z, wDue v = some z → RaiseE (BF K) "what" (.str z) H E

abbrev s_Fixed_init : Stmt := inClass (top 27) 0
theorem sc_Fixed_init : FnScope ["self", "width"] ["self", "width"] (defScope s_Fixed_init) := ⟨rfl, rfl, rfl, by decide +kernel, rfl, by decide +kernel, by decide +kernel⟩

theorem ok_Fixed_init (F : FunD K "__init__" "Fixed.__init__" (defArgs s_Fixed_init) (defBody s_Fixed_init) (defScope s_Fixed_init) [] [] f fd) (G : G3 P w K mg base) : FnOk P w K mg base (L2.CX P w) 4 f fd ["self", "width"] (spFixed K) := by
  refine F.ok (CX := (L2.CX P w)) sc_Fixed_init (fun vs H Q E h => ?_) (fun cdv A outer s H vs Q E hr h => ?_)
  · obtain ⟨a, dx, v, rfl, _⟩ := h
    rfl
  · have hr3 : Room 3 _ := hr
    have hr2 : Room 2 _ := hr.mono (by decide)
    refine ⟨_, (pss_cons (ps_if (PW.pt (pw_or (pt_not (pt_val (pe_fn G.is_number (hr2.mono (by decide)) pass0 (by rfl) (pa_cons (pv 1) pa_nil)))) (pw_or1 (pt_cmpR op_lt (pv 1) pe_int (nomark _)))))
      (pss_one (ps_raise rfl (takes_of rfl rfl rfl rfl) (pmk_1 G.bf hr2 (by rfl) (pa_cons pe_str pa_nil))))
      pss_nil)
    (pss_one (ps_fld (pv 0) (pv 1) rfl))), ?_⟩
    obtain ⟨a, dx, v, rfl, ha, hv, q1, q2⟩ := h
    refine ⟨_, rfl, v, rfl, wM_flat v hv, _, rfl, ?_⟩
    show if (!numB v) = true then _ else _
    refine ite2 (fun h1 => mkO_1 (q2 _ (by show (if (!numB v || _) = true then _ else _) = _; rw [h1]; rfl))) (fun h1 => ?_)
    cases v with
    | int i =>
      refine ⟨_, rfl, _, _, rfl, rfl, _, rfl, ?_⟩
      refine ite2 (fun h2 => mkO_1 (q2 _ (by show (if (_ || decide (i < 1)) = true then _ else _) = _; rw [h2]; rfl))) (fun h2 => ?_)
      refine ⟨_, rfl, _, rfl, a, _, dx, _, rfl, ha, G.cFixed.cl, G.cFixed.no _ (by decide +kernel), (by show 0 < 1000; decide), q1 ?_⟩
      show (if (!true || decide (i < 1)) = true then _ else _) = _
      rw [Bool.eq_false_iff.mpr h2]
      rfl
    | _ => exact absurd rfl h1

/-- what is handed in as texts -/
def LXAt (H : Hp) (v : V) : LX → Prop
  | .lst xs => ∃ b, v = .ref b ∧ H b = some (.lst xs)
  | .tup xs => ∃ b, v = .ref b ∧ TupZ H b xs
  | .val u => v = u
theorem LXAt.same {H H' : Hp} {v : V} (S : Same H H') : ∀ {x : LX}, LXAt H v x → LXAt H' v x
  | .lst _, ⟨b, e, h⟩ => ⟨b, e, S _ _ h⟩
  | .tup _, ⟨b, e, h⟩ => ⟨b, e, h.same S⟩
  | .val _, e => e
theorem all_str : ∀ xs : List V, xs.all areB = true → (xs.map strV).map V.str = xs
  | [], _ => rfl
  | v :: xs, h => by
    obtain ⟨h1, h2⟩ := Bool.and_eq_true_iff.mp (show (areB v && xs.all areB) = true from h)
    have e : V.str (strV v) = v := by cases v <;> first | rfl | cases h1
    show V.str (strV v) :: (xs.map strV).map V.str = v :: xs
    rw [e, all_str xs h2]
theorem raise_mono {C : Addr} {g : Str} {v : V} {H H1 : Hp} {E : XK} (S : Same H H1) (h : RaiseE C g v H E) : RaiseE C g v H1 E := fun d H2 hd S2 e => by
  refine h d H2 ?_ (S.trans S2) e
  cases q : H d with
  | none => rfl
  | some o => rw [S d o q] at hd; cases hd
def spListed (K : Frag) : Sp := fun vs H Q E => ∃ (a dx : Addr) (v : V) (x : LX), vs = [.ref a, v] ∧ H a = some (.ins (He.ga K "Listed") dx []) ∧ x ∈ lM ∧ LXAt H v x ∧
  (lxDue x = none → ∀ t H2, Same H H2 → TupZ H2 t x.els → Q .non (upd H2 a (.ins (He.ga K "Listed") dx (fListed (.ref t))))) ∧ ∀ z, lxDue x = some z → RaiseE (BF K) "what" (.str z) H E
theorem kit_LT (K : Frag) : kitAny K (.type "list") [.type "list", .type "tuple"] = some true ∧ kitAny K (.type "tuple") [.type "list", .type "tuple"] = some true ∧ kitAny K (.type "str") [.type "list", .type "tuple"] = some false ∧ kitAny K (.type "NoneType") [.type "list", .type "tuple"] = some false := by
  have k : ∀ {S T : String} {b : Bool}, kitB S T = some b → kitOne K (.type S) (.type T) = some b := fun h => kit_ty h
  refine ⟨?_, ?_, ?_, ?_⟩
  · exact kitAny_cons (b := true) (k (by decide +kernel)) (fun z => nomatch z) (fun _ => rfl)
  · exact kitAny_cons (b := false) (k (by decide +kernel)) (fun _ => kitAny_cons (b := true) (k (by decide +kernel)) (fun z => nomatch z) (fun _ => rfl)) (fun z => nomatch z)
  · exact kitAny_cons (b := false) (k (by decide +kernel)) (fun _ => kitAny_cons (b := false) (k (by decide +kernel)) (fun _ => kitAny_nil) (fun z => nomatch z)) (fun z => nomatch z)
  · exact kitAny_cons (b := false) (k (by decide +kernel)) (fun _ => kitAny_cons (b := false) (k (by decide +kernel)) (fun _ => kitAny_nil) (fun z => nomatch z)) (fun z => nomatch z)
theorem take_succ_map {α β : Type} (g : α → β) {xs : List α} {i : Nat} {x : α} (h : xs[i]? = some x) : (xs.take (i + 1)).map g = (xs.take i).map g ++ [g x] := by
  rw [List.take_add_one, h, List.map_append]
  rfl

abbrev s_Listed_init : Stmt := inClass (top 28) 0
theorem sc_Listed_init : FnScope ["self", "texts", "text"] ["self", "texts"] (defScope s_Listed_init) := ⟨rfl, rfl, rfl, by decide +kernel, rfl, by decide +kernel, by decide +kernel⟩

theorem ok_Listed_init (F : FunD K "__init__" "Listed.__init__" (defArgs s_Listed_init) (defBody s_Listed_init) (defScope s_Listed_init) [] [] f fd) (G : G3 P w K mg base) : FnOk P w K mg base (L2.CX P w) 4 f fd ["self", "texts"] (spListed K) := by
  refine F.ok (CX := (L2.CX P w)) sc_Listed_init (fun vs H Q E h => ?_) (fun cdv A outer s H vs Q E hr h => ?_)
  · obtain ⟨a, dx, v, x, rfl, _⟩ := h
    rfl
  · have hr3 : Room 3 _ := hr
    have hr2 : Room 2 _ := hr.mono (by decide)
    refine ⟨_, (pss_cons (ps_if (PW.pt (pw_or (pt_not (pt_val (pe_callB call_ieT (by rfl) G.isinstance (by decide +kernel) (pa_cons (pv 1) (pa_cons (pe_tupS (pa_cons (pe_bty (n := "list") (by rfl) G.list (by decide +kernel)) (pa_cons (pe_bty (n := "tuple") (by rfl) G.tuple (by decide +kernel)) pa_nil))) pa_nil))))) (pw_or1 (pt_cmpR op_eq (pe_callB call_len_seq (by rfl) G.len (by decide +kernel) (pa_cons (pv 1) pa_nil)) pe_int (nomark _)))))
      (pss_one (ps_raise rfl (takes_of rfl rfl rfl rfl) (pmk_1 G.bf hr2 (by rfl) (pa_cons pe_str pa_nil))))
      pss_nil)
    (pss_cons (ps_if (PW.pt (pw_or (pt_not (pt_val (pe_callB (cr_all rfl) (by rfl) G.all (by decide +kernel) (pa_cons (pe_lc (own := [("text", 2)]) (g := gName 2) (tt := tYes) rfl sc_Listed_init.nd (pi_or (pi_list (pv 1)) (pi_tup (pv 1))) (blkOk_by (N := ["self", "texts", "text"]) (sc := defScope s_Listed_init) (by decide +kernel)) (fun _ _ _ _ _ => pg_name (i := 2) sc_Listed_init.nd rfl (Or.inl rfl)) (fun _ _ _ _ _ => pts_nil) (fun _ _ _ _ _ => (pe_fn G.are_signs hr2 pass0 (by rfl) (pa_cons (pv 2) pa_nil)))) pa_nil)))) (pw_or1 (pt_cmpR op_lt (pe_lenSetSeq rfl (by rfl) G.len (by rfl) G.set (pv 1)) (pe_callB call_len_seq (by rfl) G.len (by decide +kernel) (pa_cons (pv 1) pa_nil)) (nomark _)))))
      (pss_one (ps_raise rfl (takes_of rfl rfl rfl rfl) (pmk_1 G.bf hr2 (by rfl) (pa_cons pe_str pa_nil))))
      pss_nil)
    (pss_one (ps_fld (pv 0) (pe_callTy call_tupleZ (by rfl) G.tuple (by decide +kernel) (pa_cons (pv 1) pa_nil)) rfl)))), ?_⟩
    obtain ⟨a, dx, v, x, rfl, ha, hx, hL, q1, q2⟩ := h
    obtain ⟨hv, hz⟩ := lM_vM x hx
    rcases lM_val x hx with e | e | e
    · subst e
      obtain rfl : v = .str "ab" := hL
      refine ⟨_, rfl, by show 2 ≤ 1000; decide, fun p0 H0 hp0 S0 e0 => ⟨_, p0, _, _, _, false, rfl, e0, .cons (.ty _) (.cons (.ty _) Paired.nil), .x (.base (.str _)), (kit_LT K).2.2.1, _, rfl, iteT (mkO_1 (raise_mono S0 (q2 _ rfl)))⟩⟩
    · subst e
      obtain rfl : v = .non := hL
      refine ⟨_, rfl, by show 2 ≤ 1000; decide, fun p0 H0 hp0 S0 e0 => ⟨_, p0, _, _, _, false, rfl, e0, .cons (.ty _) (.cons (.ty _) Paired.nil), .x (.base .non), (kit_LT K).2.2.2, _, rfl, iteT (mkO_1 (raise_mono S0 (q2 _ rfl)))⟩⟩
    · cases x with
      | val u => rcases e with e | e <;> cases e
      | lst xs =>
      obtain ⟨b, rfl, hb⟩ := hL
      have hz' : xs.length ≤ 20 := hz
      refine ⟨_, rfl, by show 2 ≤ 1000; decide, fun p0 H0 hp0 S0 e0 => ⟨_, p0, _, _, _, true, rfl, e0, .cons (.ty _) (.cons (.ty _) Paired.nil), .x (.base (.lst (S0 _ _ hb))), (kit_LT K).1, _, rfl, iteF ?_⟩⟩
      refine ⟨_, rfl, b, _, rfl, .inl (SqL.of (S0 _ _ hb)), rfl, _, rfl, ?_⟩
      refine ite2 (fun h1 => mkO_1 (raise_mono S0 (q2 _ (by show (if (decide (xs.length = 0) || _) = true then _ else _) = _; rw [show decide (xs.length = 0) = true from decide_eq_true (by have := of_decide_eq_true h1; simpa using this)]; rfl)))) (fun h1 => ?_)
      have n0 : decide (xs.length = 0) = false := decide_eq_false (fun z => h1 (decide_eq_true (by rw [z]; rfl)))
      have eD : lxDue (.lst xs) = if xsBad xs = true then (some "texts" : Option Str) else none := by
        show (if (decide (xs.length = 0) || xsBad xs) = true then _ else _) = _
        rw [n0]
        rfl
      rw [eD] at q1 q2
      refine .inl ⟨_, rfl, b, rfl, ⟨_, SqL.of (S0 _ _ hb)⟩, fun D hD => ?_⟩
      refine lc_list (K := K) (a := b) (xs := xs) (LcP H0 D fun n => (xs.take n).map fun v => V.bl (areB v)) (LcP.start hD rfl) (fun i J hi p => SqL.of (p.1 _ _ (S0 _ _ hb))) ?_ ?_
      · intro i v J hx p
        refine ⟨rfl, _, rfl, v, rfl, hv v (List.mem_of_getElem? hx), p.put (Same.refl _) (take_succ_map _ hx) ?_⟩
        have := (List.getElem?_eq_some_iff.mp hx).1
        omega
      · rintro J ⟨S1, _, eJ, _⟩
        have eJ2 : J D = some (.lst ((xs.map areB).map V.bl)) := by rw [eJ]; show some (HO.lst ((xs.take xs.length).map fun v => V.bl (areB v))) = _; rw [List.take_length, List.map_map]; rfl
        refine ⟨D, xs.map areB, rfl, SqL.of eJ2, _, rfl, ?_⟩
        have ea : (xs.map areB).all id = xs.all areB := by rw [List.all_map]; rfl
        rw [ea]
        show if (!xs.all areB) = true then _ else _
        have S2 : Same H J := S0.trans S1
        refine ite2 (fun h2 => mkO_1 (raise_mono S2 (q2 _ (by unfold xsBad; rw [h2]; rfl)))) (fun h2 => ?_)
        have h2' : xs.all areB = true := by cases z : xs.all areB with | true => rfl | false => exact absurd (by rw [z]; rfl) h2
        refine ⟨_, rfl, b, xs.map strV, rfl, .inl (by rw [all_str xs h2']; exact SqL.of (S2 _ _ hb)), by rw [List.length_map]; omega, _, rfl, b, _, rfl, .inl (SqL.of (S2 _ _ hb)), _, _, rfl, rfl, _, rfl, ?_⟩
        refine ite2 (fun h3 => mkO_1 (raise_mono S2 (q2 _ ?_))) (fun h3 => ?_)
        · unfold xsBad
          rw [show decide ((newS (fun i => (xs.map strV).getD i Str.empty) (xs.map strV).length : Nat) < xs.length) = true from decide_eq_true (by have := of_decide_eq_true h3; omega), Bool.or_true]
          rfl
        · have q1' := q1 (by unfold xsBad; rw [h2', show decide ((newS (fun i => (xs.map strV).getD i Str.empty) (xs.map strV).length : Nat) < xs.length) = false from decide_eq_false (fun z => h3 (decide_eq_true (by omega)))]; rfl)
          refine ⟨_, rfl, b, xs, rfl, .inl ⟨SqL.of (S2 _ _ hb), fun t H3 ht S3 tz => ?_⟩⟩
          refine ⟨_, rfl, a, _, dx, _, rfl, S3 _ _ (S2 _ _ ha), G.cListed.cl, G.cListed.no _ (by decide +kernel), (by show 0 < 1000; decide), ?_⟩
          exact q1' t _ (S2.trans S3) tz
      | tup xs =>
      obtain ⟨b, rfl, hb⟩ := hL
      have hz' : xs.length ≤ 20 := hz
      refine ⟨_, rfl, by show 2 ≤ 1000; decide, fun p0 H0 hp0 S0 e0 => ⟨_, p0, _, _, _, true, rfl, e0, .cons (.ty _) (.cons (.ty _) Paired.nil), .x (.fTuple (hb.same S0).choose_spec.2.2), (kit_LT K).2.1, _, rfl, iteF ?_⟩⟩
      refine ⟨_, rfl, b, _, rfl, .inr ((hb.same S0).sq), rfl, _, rfl, ?_⟩
      refine ite2 (fun h1 => mkO_1 (raise_mono S0 (q2 _ (by show (if (decide (xs.length = 0) || _) = true then _ else _) = _; rw [show decide (xs.length = 0) = true from decide_eq_true (by have := of_decide_eq_true h1; simpa using this)]; rfl)))) (fun h1 => ?_)
      have n0 : decide (xs.length = 0) = false := decide_eq_false (fun z => h1 (decide_eq_true (by rw [z]; rfl)))
      have eD : lxDue (.tup xs) = if xsBad xs = true then (some "texts" : Option Str) else none := by
        show (if (decide (xs.length = 0) || xsBad xs) = true then _ else _) = _
        rw [n0]
        rfl
      rw [eD] at q1 q2
      refine .inr ⟨_, rfl, b, rfl, ⟨_, (hb.same S0).sq⟩, fun D hD => ?_⟩
      refine lc_tup (K := K) (a := b) (xs := xs) (LcP H0 D fun n => (xs.take n).map fun v => V.bl (areB v)) (LcP.start hD rfl) (fun i J hi p => ((hb.same S0).same p.1).sq) ?_ ?_
      · intro i v J hx p
        refine ⟨rfl, _, rfl, v, rfl, hv v (List.mem_of_getElem? hx), p.put (Same.refl _) (take_succ_map _ hx) ?_⟩
        have := (List.getElem?_eq_some_iff.mp hx).1
        omega
      · rintro J ⟨S1, _, eJ, _⟩
        have eJ2 : J D = some (.lst ((xs.map areB).map V.bl)) := by rw [eJ]; show some (HO.lst ((xs.take xs.length).map fun v => V.bl (areB v))) = _; rw [List.take_length, List.map_map]; rfl
        refine ⟨D, xs.map areB, rfl, SqL.of eJ2, _, rfl, ?_⟩
        have ea : (xs.map areB).all id = xs.all areB := by rw [List.all_map]; rfl
        rw [ea]
        show if (!xs.all areB) = true then _ else _
        have S2 : Same H J := S0.trans S1
        refine ite2 (fun h2 => mkO_1 (raise_mono S2 (q2 _ (by unfold xsBad; rw [h2]; rfl)))) (fun h2 => ?_)
        have h2' : xs.all areB = true := by cases z : xs.all areB with | true => rfl | false => exact absurd (by rw [z]; rfl) h2
        refine ⟨_, rfl, b, xs.map strV, rfl, .inr (by rw [all_str xs h2']; exact (hb.same S2).sq), by rw [List.length_map]; omega, _, rfl, b, _, rfl, .inr ((hb.same S2).sq), _, _, rfl, rfl, _, rfl, ?_⟩
        refine ite2 (fun h3 => mkO_1 (raise_mono S2 (q2 _ ?_))) (fun h3 => ?_)
        · unfold xsBad
          rw [show decide ((newS (fun i => (xs.map strV).getD i Str.empty) (xs.map strV).length : Nat) < xs.length) = true from decide_eq_true (by have := of_decide_eq_true h3; omega), Bool.or_true]
          rfl
        · have q1' := q1 (by unfold xsBad; rw [h2', show decide ((newS (fun i => (xs.map strV).getD i Str.empty) (xs.map strV).length : Nat) < xs.length) = false from decide_eq_false (fun z => h3 (decide_eq_true (by omega)))]; rfl)
          refine ⟨_, rfl, b, xs, rfl, .inr ⟨(hb.same S2).sq, ?_⟩⟩
          refine ⟨_, rfl, a, _, dx, _, rfl, S2 _ _ ha, G.cListed.cl, G.cListed.no _ (by decide +kernel), (by show 0 < 1000; decide), ?_⟩
          exact q1' b _ S2 (hb.same S2)


def spEnded (K : Frag) : Sp := fun vs H Q E => ∃ (a dx : Addr) (s e l m : V), vs = [.ref a, s, e, l, m] ∧ H a = some (.ins (He.ga K "Ended") dx []) ∧ s ∈ sM ∧ e ∈ eM ∧ l ∈ nM ∧ m ∈ nM ∧ (eDue s e l m = none → Q .non (upd H a (.ins (He.ga K "Ended") dx (fEnded s e l m)))) ∧
  ∀ z, eDue s e l m = some z → RaiseE (BF K) "what" (.str z) H E

abbrev s_Ended_init : Stmt := inClass (top 29) 0
theorem sc_Ended_init : FnScope ["self", "signs", "sign", "least", "most"] ["self", "signs", "sign", "least", "most"] (defScope s_Ended_init) := ⟨rfl, rfl, rfl, by decide +kernel, rfl, by decide +kernel, by decide +kernel⟩

theorem ok_Ended_init (F : FunD K "__init__" "Ended.__init__" (defArgs s_Ended_init) (defBody s_Ended_init) (defScope s_Ended_init) [] [] f fd) (G : G3 P w K mg base) : FnOk P w K mg base (L2.CX P w) 4 f fd ["self", "signs", "sign", "least", "most"] (spEnded K) := by
  refine F.ok (CX := (L2.CX P w)) sc_Ended_init (fun vs H Q E h => ?_) (fun cdv A outer s H vs Q E hr h => ?_)
  · obtain ⟨a, dx, s, e, l, m, rfl, _⟩ := h
    rfl
  · have hr3 : Room 3 _ := hr
    have hr2 : Room 2 _ := hr.mono (by decide)
    refine ⟨_, (pss_cons (ps_expr (pe_fnS G.check_signs hr3 (fun σ => passAt (takes_of rfl rfl rfl rfl) σ) (by rfl) (pa_cons (pv 1) pa_nil)))
    (pss_cons (ps_if (PW.pt (pw_or (pt_not (pt_val (pe_fn G.is_sign (hr2.mono (by decide)) pass0 (by rfl) (pa_cons (pv 2) pa_nil)))) (pw_or1 (pt_cmpR op_in_sign (pv 2) (pv 1) (by rfl)))))
      (pss_one (ps_raise rfl (takes_of rfl rfl rfl rfl) (pmk_1 G.bf hr2 (by rfl) (pa_cons pe_str pa_nil))))
      pss_nil)
    (pss_cons (ps_expr (pe_fnS G.check_span hr3 (fun σ => passAt (takes_of rfl rfl rfl rfl) σ) (by rfl) (pa_cons (pv 3) (pa_cons (pv 4) pa_nil))))
    (pss_cons (ps_fld (pv 0) (pv 1) rfl)
    (pss_cons (ps_fld (pv 0) (pv 2) rfl)
    (pss_cons (ps_fld (pv 0) (pv 3) rfl)
    (pss_one (ps_fld (pv 0) (pv 4) rfl)))))))), ?_⟩
    obtain ⟨a, dx, s, e, l, m, rfl, ha, hs, he, hl, hm, q1, q2⟩ := h
    refine ⟨_, rfl, s, rfl, hs, fun e1 => ?_, fun e1 => q2 _ (by unfold eDue; rw [if_pos e1])⟩
    have e0 : eDue s e l m = if (!isSignB e || inB (strV e) (strV s)) = true then (some "sign" : Option Str) else bDue l m := by unfold eDue; rw [e1]; rfl
    rw [e0] at q1 q2
    refine ⟨_, rfl, e, rfl, eM_vM he, _, rfl, ?_⟩
    show if (!isSignB e) = true then _ else _
    refine ite2 (fun h1 => mkO_1 (q2 _ (by rw [h1]; rfl))) (fun h1 => ?_)
    have h1' : isSignB e = true := by cases z : isSignB e with | true => rfl | false => exact absurd (by rw [z]; rfl) h1
    refine ⟨_, rfl, _, rfl, _, strV s, eM_one e he h1', sM_str s hs e1, _, rfl, ?_⟩
    show if inB (strV e) (strV s) = true then _ else _
    refine ite2 (fun h2 => mkO_1 (q2 _ (by rw [h2, Bool.or_true]; rfl))) (fun h2 => ?_)
    have h2' : inB (strV e) (strV s) = false := Bool.eq_false_iff.mpr h2
    rw [h1', h2'] at q1 q2
    refine ⟨_, rfl, _, rfl, l, m, rfl, nM_flat l (nh hl), nM_flat m (nh hm), fun e2 => ?_, fun z e2 => q2 z e2⟩
    refine ⟨_, rfl, _, rfl, a, _, dx, _, rfl, ha, G.cEnded.cl, G.cEnded.no _ (by decide +kernel), (by show 0 < 1000; decide), _, rfl, _, rfl, a, _, dx, _, rfl, upd_same, G.cEnded.cl, G.cEnded.no _ (by decide +kernel), (by show 1 < 1000; decide), _, rfl, _, rfl, a, _, dx, _, rfl, upd_same, G.cEnded.cl, G.cEnded.no _ (by decide +kernel), (by show 2 < 1000; decide), _, rfl, _, rfl, a, _, dx, _, rfl, upd_same, G.cEnded.cl, G.cEnded.no _ (by decide +kernel), (by show 3 < 1000; decide), ?_⟩
    have z := q1 e2
    show Q .non _
    rw [upd_upd, upd_upd, upd_upd]
    exact z

def spHasWord (K : Frag) : Sp := fun vs H Q _ => ∃ (a : Addr) (c : Nat) (s l m : V), vs = [.ref a, .str ⟨#[c]⟩] ∧ FieldAt K H a (.word s l m) ∧ PD.In (.word s l m) ∧ PD.due (.word s l m) = none ∧ ∀ H', Same H H' → Q (.bl (PD.has ⟨#[c]⟩ (.word s l m))) H'

def spHasNumber (K : Frag) : Sp := fun vs H Q _ => ∃ (a : Addr) (c : Nat) (l m : V), vs = [.ref a, .str ⟨#[c]⟩] ∧ FieldAt K H a (.number l m) ∧ PD.In (.number l m) ∧ PD.due (.number l m) = none ∧ ∀ H', Same H H' → Q (.bl (PD.has ⟨#[c]⟩ (.number l m))) H'

def spHasFixed (K : Frag) : Sp := fun vs H Q _ => ∃ (a : Addr) (c : Nat) (v : V), vs = [.ref a, .str ⟨#[c]⟩] ∧ FieldAt K H a (.fixed v) ∧ PD.In (.fixed v) ∧ PD.due (.fixed v) = none ∧ ∀ H', Same H H' → Q (.bl (PD.has ⟨#[c]⟩ (.fixed v))) H'

def spHasListed (K : Frag) : Sp := fun vs H Q _ => ∃ (a : Addr) (c : Nat) (x : LX), vs = [.ref a, .str ⟨#[c]⟩] ∧ FieldAt K H a (.listed x) ∧ PD.In (.listed x) ∧ PD.due (.listed x) = none ∧ ∀ H', Same H H' → Q (.bl (PD.has ⟨#[c]⟩ (.listed x))) H'

def spHasEnded (K : Frag) : Sp := fun vs H Q _ => ∃ (a : Addr) (c : Nat) (s e l m : V), vs = [.ref a, .str ⟨#[c]⟩] ∧ FieldAt K H a (.ended s e l m) ∧ PD.In (.ended s e l m) ∧ PD.due (.ended s e l m) = none ∧ ∀ H', Same H H' → Q (.bl (PD.has ⟨#[c]⟩ (.ended s e l m))) H'

abbrev s_Word_has : Stmt := inClass (top 25) 7
theorem sc_Word_has : FnScope ["self", "sign"] ["self", "sign"] (defScope s_Word_has) := ⟨rfl, rfl, rfl, by decide +kernel, rfl, by decide +kernel, by decide +kernel⟩

theorem ok_Word_has (F : FunD K "has_sign" "Word.has_sign" (defArgs s_Word_has) (defBody s_Word_has) (defScope s_Word_has) [] [] f fd) (G : G3 P w K mg base) : FnOk P w K mg base CX0 2 f fd ["self", "sign"] (spHasWord K) := by
  refine F.ok (CX := CX0) sc_Word_has (fun vs H Q E h => ?_) (fun cdv A outer s H vs Q E hr h => ?_)
  · obtain ⟨a, c, s, l, m, rfl, _⟩ := h
    rfl
  · refine ⟨_, PSs.nox (pss_one (ps_ret (pe_fn G.has_words_with hr pass0 (by rfl) (pa_cons (pv 0) (pa_cons (pv 1) pa_nil))))), ?_⟩
    obtain ⟨a, c, s, l, m, rfl, ⟨dx, ha⟩, ⟨hs, hl, hm⟩, hd, q⟩ := h
    obtain ⟨es, sc, _⟩ := word_due s hs l hl m hm hd
    rw [es] at ha q
    exact ⟨_, rfl, _, rfl, a, _, dx, _, c, strV s, m, rfl, ha, G.cWord.cl, G.cWord.no _ (by decide +kernel), G.cWord.no _ (by decide +kernel), lWord_signs, lWord_most, sc, q _ (Same.refl _)⟩

abbrev s_Fixed_has : Stmt := inClass (top 27) 7
theorem sc_Fixed_has : FnScope ["self", "sign"] ["self", "sign"] (defScope s_Fixed_has) := ⟨rfl, rfl, rfl, by decide +kernel, rfl, by decide +kernel, by decide +kernel⟩

theorem ok_Fixed_has (F : FunD K "has_sign" "Fixed.has_sign" (defArgs s_Fixed_has) (defBody s_Fixed_has) (defScope s_Fixed_has) [] [] f fd) (G : G3 P w K mg base) : FnOk P w K mg base CX0 2 f fd ["self", "sign"] (spHasFixed K) := by
  refine F.ok (CX := CX0) sc_Fixed_has (fun vs H Q E h => ?_) (fun cdv A outer s H vs Q E hr h => ?_)
  · obtain ⟨a, c, v, rfl, _⟩ := h
    rfl
  · refine ⟨_, PSs.nox (pss_one (ps_ret (pe_cmpR op_in_sign (pv 1) (pe_sg G.dgs) (by rfl)))), ?_⟩
    obtain ⟨a, c, v, rfl, hf, _, _, q⟩ := h
    exact ⟨_, rfl, c, DG, rfl, rfl, q _ (Same.refl _)⟩

abbrev s_Ended_has : Stmt := inClass (top 29) 7
theorem sc_Ended_has : FnScope ["self", "sign"] ["self", "sign"] (defScope s_Ended_has) := ⟨rfl, rfl, rfl, by decide +kernel, rfl, by decide +kernel, by decide +kernel⟩

theorem ok_Ended_has (F : FunD K "has_sign" "Ended.has_sign" (defArgs s_Ended_has) (defBody s_Ended_has) (defScope s_Ended_has) [] [] f fd) (G : G3 P w K mg base) : FnOk P w K mg base CX0 2 f fd ["self", "sign"] (spHasEnded K) := by
  refine F.ok (CX := CX0) sc_Ended_has (fun vs H Q E h => ?_) (fun cdv A outer s H vs Q E hr h => ?_)
  · obtain ⟨a, c, s, e, l, m, rfl, _⟩ := h
    rfl
  · refine ⟨_, PSs.nox (pss_one (ps_ret (pe_or (pe_cmpR op_eq (pv 1) (pe_fld (pv 0) rfl) (nomark _)) (pe_one (pe_fn G.has_words_with hr pass0 (by rfl) (pa_cons (pv 0) (pa_cons (pv 1) pa_nil))))))), ?_⟩
    obtain ⟨a, c, s, e, l, m, rfl, ⟨dx, ha⟩, ⟨hs, he, hl, hm⟩, hd, q⟩ := h
    obtain ⟨es, ee, sc, _⟩ := end_due s hs e he l hl m hm hd
    have q0 := q _ (Same.refl _)
    refine ⟨_, rfl, _, rfl, a, _, dx, _, _, rfl, ha, G.cEnded.cl, G.cEnded.no _ (by decide +kernel), lEnded_sign, (by rw [ee]; rfl), _, rfl, ?_⟩
    refine ite2 (fun h1 => ?_) (fun h1 => ?_)
    · have r : PD.has ⟨#[c]⟩ (.ended s e l m) = true := by show (decide (V.str ⟨#[c]⟩ = e) || _) = true; rw [h1]; rfl
      rw [r] at q0
      exact q0
    · have r : PD.has ⟨#[c]⟩ (.ended s e l m) = wwB s m ⟨#[c]⟩ := by show (decide (V.str ⟨#[c]⟩ = e) || _) = _; rw [Bool.eq_false_iff.mpr h1]; rfl
      rw [r] at q0
      rw [es] at ha q0
      exact ⟨_, rfl, _, rfl, a, _, dx, _, c, strV s, m, rfl, ha, G.cEnded.cl, G.cEnded.no _ (by decide +kernel), G.cEnded.no _ (by decide +kernel), lEnded_signs, lEnded_most, sc, q0⟩

abbrev s_Listed_has : Stmt := inClass (top 28) 7
theorem sc_Listed_has : FnScope ["self", "sign", "text"] ["self", "sign"] (defScope s_Listed_has) := ⟨rfl, rfl, rfl, by decide +kernel, rfl, by decide +kernel, by decide +kernel⟩

theorem ok_Listed_has (F : FunD K "has_sign" "Listed.has_sign" (defArgs s_Listed_has) (defBody s_Listed_has) (defScope s_Listed_has) [] [] f fd) (G : G3 P w K mg base) : FnOk P w K mg base CX0 2 f fd ["self", "sign"] (spHasListed K) := by
  refine F.ok (CX := CX0) sc_Listed_has (fun vs H Q E h => ?_) (fun cdv A outer s H vs Q E hr h => ?_)
  · obtain ⟨a, c, x, rfl, _⟩ := h
    rfl
  · refine ⟨_, PSs.nox (pss_one (ps_ret (pe_callB (cr_any rfl) (by rfl) G.any (by decide +kernel) (pa_cons (pe_lc (own := [("text", 2)]) (g := gName 2) (tt := tYes) rfl sc_Listed_has.nd (pi_tup (pe_fld (pv 0) rfl)) (blkOk_by (N := ["self", "sign", "text"]) (sc := defScope s_Listed_has) (by decide +kernel)) (fun _ _ _ _ _ => pg_name (i := 2) sc_Listed_has.nd rfl (Or.inl rfl)) (fun _ _ _ _ _ => pts_nil) (fun _ _ _ _ _ => (pe_cmpR op_in_sign (pv 1) (pv 2) (by rfl)))) pa_nil)))), ?_⟩
    obtain ⟨a, c, x, rfl, ⟨dx, t, ha, ht⟩, hx, hd, q⟩ := h
    obtain ⟨hs, hz, _⟩ := lst_due x hx hd
    refine ⟨_, rfl, a, _, dx, _, _, rfl, ha, G.cListed.cl, G.cListed.no _ (by decide +kernel), lListed_texts, t, rfl, ⟨_, ht.sq⟩, fun D hD => ?_⟩
    refine lc_tup (K := K) (a := t) (xs := x.els) (LcP H D fun n => (x.els.take n).map fun v => V.bl (inB ⟨#[c]⟩ (strV v))) (LcP.start hD rfl) (fun i J hi p => (ht.same p.1).sq) ?_ ?_
    · intro i v J hv p
      have ev := hs v (List.mem_of_getElem? hv)
      have := (List.getElem?_eq_some_iff.mp hv).1
      exact ⟨rfl, _, rfl, _, rfl, c, strV v, rfl, ev, p.put (Same.refl _) (take_succ_map _ hv) (by omega)⟩
    · rintro J ⟨S1, _, eJ, _⟩
      have eJ2 : J D = some (.lst ((x.els.map fun v => inB ⟨#[c]⟩ (strV v)).map V.bl)) := by rw [eJ]; show some (HO.lst ((x.els.take x.els.length).map fun v => V.bl (inB ⟨#[c]⟩ (strV v)))) = _; rw [List.take_length, List.map_map]; rfl
      refine ⟨D, _, rfl, SqL.of eJ2, ?_⟩
      rw [List.any_map]
      exact q _ S1

abbrev s_Number_has : Stmt := inClass (top 26) 7
theorem sc_Number_has : FnScope ["self", "sign", "number"] ["self", "sign"] (defScope s_Number_has) := ⟨rfl, rfl, rfl, by decide +kernel, rfl, by decide +kernel, by decide +kernel⟩

theorem ok_Number_has (F : FunD K "has_sign" "Number.has_sign" (defArgs s_Number_has) (defBody s_Number_has) (defScope s_Number_has) [] [] f fd) (G : G3 P w K mg base) : FnOk P w K mg base CX0 2 f fd ["self", "sign"] (spHasNumber K) := by
  refine F.ok (CX := CX0) sc_Number_has (fun vs H Q E h => ?_) (fun cdv A outer s H vs Q E hr h => ?_)
  · obtain ⟨a, c, l, m, rfl, _⟩ := h
    rfl
  · refine ⟨_, PSs.nox (pss_cons (ps_if (PW.pt (pw_or (pt_cmpR op_isN (pe_fld (pv 0) rfl) pe_non (nomark _)) (pw_or1 (pt_cmpR op_ge (pe_op op_sub (pe_fld (pv 0) rfl) (pe_fld (pv 0) rfl)) pe_int (nomark _)))))
      (pss_one (ps_ret (pe_cmpR op_in_sign (pv 1) (pe_sg G.dgs) (by rfl))))
      pss_nil)
    (pss_one (ps_ret (pe_callB (cr_any rfl) (by rfl) G.any (by decide +kernel) (pa_cons (pe_lc (own := [("number", 2)]) (g := gName 2) (tt := tYes) rfl sc_Number_has.nd (pi_range2 (by rfl) G.range (pa_cons (pe_fld (pv 0) rfl) (pa_cons (pe_op op_add (pe_fld (pv 0) rfl) pe_int) pa_nil))) (blkOk_by (N := ["self", "sign", "number"]) (sc := defScope s_Number_has) (by decide +kernel)) (fun _ _ _ _ _ => pg_name (i := 2) sc_Number_has.nd rfl (Or.inl rfl)) (fun _ _ _ _ _ => pts_nil) (fun _ _ _ _ _ => (pe_cmpR op_in_sign (pv 1) (pe_fn G.digits_of hr pass0 (by rfl) (pa_cons (pv 2) pa_nil)) (by rfl)))) pa_nil))))), ?_⟩
    obtain ⟨a, c, l, m, rfl, ⟨dx, ha⟩, ⟨hl, hm⟩, hd, q⟩ := h
    obtain ⟨el, em, hl0, hl1, hm0, hm1, _⟩ := num_due l hl m hm hd
    refine ⟨_, rfl, a, _, dx, _, _, rfl, ha, G.cNumber.cl, G.cNumber.no _ (by decide +kernel), lNumber_most, rfl, _, rfl, ?_⟩
    refine ite2 (fun h1 => ?_) (fun h1 => ?_)
    · have r : PD.has ⟨#[c]⟩ (.number l m) = inB ⟨#[c]⟩ DG := by show (if (decide (m = .non) || _) = true then _ else _) = _; rw [h1]; rfl
      have q0 := q _ (Same.refl _)
      rw [r] at q0
      exact ⟨_, rfl, c, DG, rfl, rfl, q0⟩
    rcases em with em | em
    · exact absurd (decide_eq_true em) h1
    refine ⟨_, rfl, a, _, dx, _, _, rfl, ha, G.cNumber.cl, G.cNumber.no _ (by decide +kernel), lNumber_most, _, rfl, a, _, dx, _, _, rfl, ha, G.cNumber.cl, G.cNumber.no _ (by decide +kernel), lNumber_least, intV m, intV l, em, el, _, _, rfl, rfl, _, rfl, ?_⟩
    refine ite2 (fun h2 => ?_) (fun h2 => ?_)
    · have r : PD.has ⟨#[c]⟩ (.number l m) = inB ⟨#[c]⟩ DG := by show (if (_ || decide (9 ≤ intV m - intV l)) = true then _ else _) = _; rw [h2, Bool.or_true]; rfl
      have q0 := q _ (Same.refl _)
      rw [r] at q0
      exact ⟨_, rfl, c, DG, rfl, rfl, q0⟩
    have h9 : ¬ 9 ≤ intV m - intV l := fun z => h2 (decide_eq_true z)
    have r : PD.has ⟨#[c]⟩ (.number l m) = (List.range (intV m + 1 - intV l).toNat).any fun (i : Nat) => inB ⟨#[c]⟩ (dg (intV l + i)) := by
      show (if (decide (m = .non) || decide (9 ≤ intV m - intV l)) = true then _ else _) = _
      rw [Bool.eq_false_iff.mpr h1, Bool.eq_false_iff.mpr h2]
      rfl
    rw [r] at q
    refine ⟨_, rfl, a, _, dx, _, _, rfl, ha, G.cNumber.cl, G.cNumber.no _ (by decide +kernel), lNumber_least, _, rfl, a, _, dx, _, _, rfl, ha, G.cNumber.cl, G.cNumber.no _ (by decide +kernel), lNumber_most, intV m, 1, em, rfl, intV l, intV m + 1, by rw [el]; rfl, ⟨by omega, by omega, by omega, by omega⟩, fun D hD => ?_⟩
    refine lc_range (lo := intV l) (n := (intV m + 1 - intV l).toNat) (LcP H D fun n => (List.range n).map fun (i : Nat) => V.bl (inB ⟨#[c]⟩ (dg (intV l + i)))) (LcP.start hD rfl) ?_ ?_
    · intro i J hi p
      refine ⟨rfl, _, rfl, _, rfl, _, rfl, by omega, by omega, fun J' S' => ⟨c, _, rfl, rfl, p.put S' (by rw [List.range_succ, List.map_append]; rfl) (by omega)⟩⟩
    · rintro J ⟨S1, _, eJ, _⟩
      have eJ2 : J D = some (.lst (((List.range (intV m + 1 - intV l).toNat).map fun (i : Nat) => inB ⟨#[c]⟩ (dg (intV l + i))).map V.bl)) := by rw [eJ, List.map_map]; rfl
      refine ⟨D, _, rfl, SqL.of eJ2, ?_⟩
      rw [List.any_map]
      exact q _ S1

end
end L2.K22

set_option Elab.async false
set_option linter.all false
set_option maxRecDepth 100000
set_option maxHeartbeats 4000000
namespace L2.K22
open PySem PySem.W PySem.Spec PySem.Calls PyProof.Rows L2.Jk
def PD.ci : PD → Nat
  | .word .. => 0
  | .number .. => 1
  | .fixed _ => 2
  | .listed _ => 3
  | .ended .. => 4
theorem PD.ci_lt (d : PD) : d.ci < 5 := by cases d <;> simp [PD.ci]
/-- what the head says of a field class beyond C0 -/
structure KC (K : Frag) (C : Addr) : Prop where
  kk : findIn K (.ref C) "__class__" = some (some (.builtin "object.__class__"))
  km : mroIn K C (.type "object") = some true
  nf : notFirst K C (.type "tuple") = true
  eq : EqcC K C
  ke : keepIn K (.ref (He.ma K C "__eq__")) = true
structure G4 (P : Program) (w : World) (K : Frag) (mg : Str → Option Value) (base : Heap) : Prop extends G3 P w K mg base where
  kc : ∀ i, i < 6 → KC K (ca K i)
  kn : specialIn K (.builtin "object.__class__") "__get__" = some (some (.builtin "getset_descriptor.__get__"))
  kt : takesIn K (.builtin "object.__class__") = some true
  kit : ∀ i j, i < 6 → j < 6 → kitOne K (.ref (ca K i)) (.ref (ca K j)) = some (decide (i = j))
  mks : ∀ i, i < 7 → makesIn K (ca K i) = true
  ne : ∀ i j, i < 7 → j < 7 → (ca K i = ca K j ↔ i = j)
  kitN : ∀ j, j < 6 → kitOne K (.type "NoneType") (.ref (ca K j)) = some false
  kitS : ∀ j, j < 6 → kitOne K (.type "str") (.ref (ca K j)) = some false
section
variable {P : Program} {w : World} {K : Frag} {mg : Str → Option Value} {base : Heap} {f : Addr} {fd : FuncData}
theorem FieldAt.ins {H : Hp} {y : Addr} : ∀ {d : PD}, FieldAt K H y d → ∃ dx fs, H y = some (.ins (ca K d.ci) dx fs) ∧ fs.lookup ("has_sign" : Str) = none
  | .word .., ⟨dx, h⟩ => ⟨dx, _, h, lWord_hs⟩
  | .number .., ⟨dx, h⟩ => ⟨dx, _, h, lNumber_hs⟩
  | .fixed _, ⟨dx, h⟩ => ⟨dx, _, h, lFixed_hs⟩
  | .listed _, ⟨dx, t, h, k⟩ => ⟨dx, _, h, lListed_hs⟩
  | .ended .., ⟨dx, h⟩ => ⟨dx, _, h, lEnded_hs⟩
theorem G4.cl (G : G4 P w K mg base) : ∀ i, i < 6 → Cls K (ca K i)
  | 0, _ => G.cWord.cl
  | 1, _ => G.cNumber.cl
  | 2, _ => G.cFixed.cl
  | 3, _ => G.cListed.cl
  | 4, _ => G.cEnded.cl
  | 5, _ => G.cMarked.cl
  | n + 6, h => absurd h (by omega)
theorem G4.ty (G : G4 P w K mg base) {H : Hp} {y dx : Addr} {fs : List (Str × V)} {i : Nat} (hi : i < 6) (h : H y = some (.ins (ca K i) dx fs)) : TyE K H (.ref y) (.ref (ca K i)) :=
  .x (.base (.ins h (G.cl i hi) (G.kc i hi).kk G.kn G.kt (G.kc i hi).km))
theorem dp_flat {H : Hp} : ∀ {v : V}, flatV v = true → Dp K H v (dV v)
  | .non, _ => .non
  | .bl b, _ => .bl b
  | .int i, _ => .int i
  | .str z, _ => .str z
theorem dpAll_flat {H : Hp} : ∀ {xs : List V}, xs.all flatV = true → DpAll K H xs (xs.map dV)
  | [], _ => .nil
  | v :: xs, h => by
    obtain ⟨h1, h2⟩ := Bool.and_eq_true_iff.mp (show (flatV v && xs.all flatV) = true from h)
    exact .cons (dp_flat h1) (dpAll_flat h2)

def spEqWord (K : Frag) : Sp := fun vs H Q _ => ∃ (a : Addr) (u : V) (s l m : V), vs = [.ref a, u] ∧ FieldAt K H a (.word s l m) ∧ PD.In (.word s l m) ∧ PD.due (.word s l m) = none ∧
  ((∃ b, u = .ref b ∧ FieldAt K H b (.word s l m) ∧ Q (.bl true) H) ∨ (∃ b xs, u = .ref b ∧ H b = some (.tup xs) ∧ Q (.bl false) H) ∨ (∃ b j dy fs, u = .ref b ∧ H b = some (.ins (ca K j) dy fs) ∧ j < 7 ∧ j ≠ 0 ∧ Q (.bl false) H))

def spEqNumber (K : Frag) : Sp := fun vs H Q _ => ∃ (a : Addr) (u : V) (l m : V), vs = [.ref a, u] ∧ FieldAt K H a (.number l m) ∧ PD.In (.number l m) ∧ PD.due (.number l m) = none ∧
  ((∃ b, u = .ref b ∧ FieldAt K H b (.number l m) ∧ Q (.bl true) H) ∨ (∃ b xs, u = .ref b ∧ H b = some (.tup xs) ∧ Q (.bl false) H) ∨ (∃ b j dy fs, u = .ref b ∧ H b = some (.ins (ca K j) dy fs) ∧ j < 7 ∧ j ≠ 1 ∧ Q (.bl false) H))

def spEqFixed (K : Frag) : Sp := fun vs H Q _ => ∃ (a : Addr) (u : V) (v : V), vs = [.ref a, u] ∧ FieldAt K H a (.fixed v) ∧ PD.In (.fixed v) ∧ PD.due (.fixed v) = none ∧
  ((∃ b, u = .ref b ∧ FieldAt K H b (.fixed v) ∧ Q (.bl true) H) ∨ (∃ b xs, u = .ref b ∧ H b = some (.tup xs) ∧ Q (.bl false) H) ∨ (∃ b j dy fs, u = .ref b ∧ H b = some (.ins (ca K j) dy fs) ∧ j < 7 ∧ j ≠ 2 ∧ Q (.bl false) H) ∨ (∃ b z, u = .ref b ∧ FieldAt K H b (.fixed z) ∧ scal v z = true ∧ v ≠ z ∧ Q (.bl false) H))

def spEqListed (K : Frag) : Sp := fun vs H Q _ => ∃ (a : Addr) (u : V) (x : LX), vs = [.ref a, u] ∧ FieldAt K H a (.listed x) ∧ PD.In (.listed x) ∧ PD.due (.listed x) = none ∧
  ((∃ b, u = .ref b ∧ FieldAt K H b (.listed x) ∧ Q (.bl true) H) ∨ (∃ b xs, u = .ref b ∧ H b = some (.tup xs) ∧ Q (.bl false) H) ∨ (∃ b j dy fs, u = .ref b ∧ H b = some (.ins (ca K j) dy fs) ∧ j < 7 ∧ j ≠ 3 ∧ Q (.bl false) H))

def spEqEnded (K : Frag) : Sp := fun vs H Q _ => ∃ (a : Addr) (u : V) (s e l m : V), vs = [.ref a, u] ∧ FieldAt K H a (.ended s e l m) ∧ PD.In (.ended s e l m) ∧ PD.due (.ended s e l m) = none ∧
  ((∃ b, u = .ref b ∧ FieldAt K H b (.ended s e l m) ∧ Q (.bl true) H) ∨ (∃ b xs, u = .ref b ∧ H b = some (.tup xs) ∧ Q (.bl false) H) ∨ (∃ b j dy fs, u = .ref b ∧ H b = some (.ins (ca K j) dy fs) ∧ j < 7 ∧ j ≠ 4 ∧ Q (.bl false) H))

abbrev s_Word_eq : Stmt := inClass (top 25) 1
theorem sc_Word_eq : FnScope ["self", "other"] ["self", "other"] (defScope s_Word_eq) := ⟨rfl, rfl, rfl, by decide +kernel, rfl, by decide +kernel, by decide +kernel⟩

theorem ok_Word_eq (F : FunD K "__eq__" "Word.__eq__" (defArgs s_Word_eq) (defBody s_Word_eq) (defScope s_Word_eq) [] [] f fd) (G : G4 P w K mg base) : FnOk P w K mg base CX0 1 f fd ["self", "other"] (spEqWord K) := by
  refine F.ok (CX := CX0) sc_Word_eq (fun vs H Q E h => ?_) (fun cdv A outer s H vs Q E hr h => ?_)
  · obtain ⟨a, u, s, l, m, rfl, _⟩ := h
    rfl
  · refine ⟨_, PSs.nox (pss_one (ps_ret (pe_and (pe_cmpR op_isA (pe_callTy call_tyA (by rfl) G.type (by decide +kernel) (pa_cons (pv 0) pa_nil)) (pe_callTy call_tyA (by rfl) G.type (by decide +kernel) (pa_cons (pv 1) pa_nil)) (nomark _)) (pe_and (pe_cmpR op_eq (pe_fld (pv 0) rfl) (pe_fld (pv 1) rfl) (nomark _)) (pe_and (pe_cmpR op_eq (pe_fld (pv 0) rfl) (pe_fld (pv 1) rfl) (nomark _)) (pe_one (pe_cmpR op_eq (pe_fld (pv 0) rfl) (pe_fld (pv 1) rfl) (nomark _)))))))), ?_⟩
    obtain ⟨a, u, s, l, m, rfl, ⟨dx, ha⟩, hin, hd, h⟩ := h
    obtain ⟨hs, hl, hm⟩ := hin
    obtain ⟨_, _, z⟩ := word_due s hs l hl m hm hd
    obtain ⟨k0, z⟩ := Bool.and_eq_true_iff.mp z
    obtain ⟨k1, k2⟩ := Bool.and_eq_true_iff.mp z

    rcases h with ⟨b, rfl, ⟨dy, hb⟩, q⟩ | ⟨b, xs, rfl, hb, q⟩ | ⟨b, j, dy, fs, rfl, hb, hj, hn, q⟩
    · refine ⟨_, rfl, _, rfl, .inl ⟨a, _, dx, _, rfl, ha, _, rfl, _, rfl, .inl ⟨b, _, dy, _, rfl, hb, _, rfl, .inl ⟨_, rfl, .inl rfl, _, rfl, ?_⟩⟩⟩⟩
      refine ite2 (fun _ => ?_) (fun h => absurd (decide_eq_true rfl) h)
      refine ⟨_, rfl, a, _, dx, _, _, rfl, ha, G.cWord.cl, G.cWord.no _ (by decide +kernel), lWord_signs, _, rfl, b, _, dy, _, _, rfl, hb, G.cWord.cl, G.cWord.no _ (by decide +kernel), lWord_signs, k0, _, rfl, ?_⟩
      refine ite2 (fun _ => ?_) (fun h => absurd (decide_eq_true rfl) h)
      refine ⟨_, rfl, a, _, dx, _, _, rfl, ha, G.cWord.cl, G.cWord.no _ (by decide +kernel), lWord_least, _, rfl, b, _, dy, _, _, rfl, hb, G.cWord.cl, G.cWord.no _ (by decide +kernel), lWord_least, k1, _, rfl, ?_⟩
      refine ite2 (fun _ => ?_) (fun h => absurd (decide_eq_true rfl) h)
      refine ⟨_, rfl, a, _, dx, _, _, rfl, ha, G.cWord.cl, G.cWord.no _ (by decide +kernel), lWord_most, _, rfl, b, _, dy, _, _, rfl, hb, G.cWord.cl, G.cWord.no _ (by decide +kernel), lWord_most, k2, ?_⟩
      rw [decide_eq_true rfl]
      exact q
    · exact ⟨_, rfl, _, rfl, .inl ⟨a, _, dx, _, rfl, ha, _, rfl, _, rfl, .inr ⟨_, .tup hb, _, rfl, .inr ⟨_, rfl, _, rfl, iteF q⟩⟩⟩⟩
    · refine ⟨_, rfl, _, rfl, .inl ⟨a, _, dx, _, rfl, ha, _, rfl, _, rfl, .inl ⟨b, _, dy, _, rfl, hb, _, rfl, .inl ⟨_, rfl, .inr ⟨G.mks 0 (by decide), G.mks j hj⟩, _, rfl, ?_⟩⟩⟩⟩
      rw [decide_eq_false (show ¬ He.ga K "Word" = ca K j from fun e => hn ((G.ne 0 j (by decide) hj).mp e).symm)]
      exact iteF q


abbrev s_Number_eq : Stmt := inClass (top 26) 1
theorem sc_Number_eq : FnScope ["self", "other"] ["self", "other"] (defScope s_Number_eq) := ⟨rfl, rfl, rfl, by decide +kernel, rfl, by decide +kernel, by decide +kernel⟩

theorem ok_Number_eq (F : FunD K "__eq__" "Number.__eq__" (defArgs s_Number_eq) (defBody s_Number_eq) (defScope s_Number_eq) [] [] f fd) (G : G4 P w K mg base) : FnOk P w K mg base CX0 1 f fd ["self", "other"] (spEqNumber K) := by
  refine F.ok (CX := CX0) sc_Number_eq (fun vs H Q E h => ?_) (fun cdv A outer s H vs Q E hr h => ?_)
  · obtain ⟨a, u, l, m, rfl, _⟩ := h
    rfl
  · refine ⟨_, PSs.nox (pss_one (ps_ret (pe_and (pe_cmpR op_isA (pe_callTy call_tyA (by rfl) G.type (by decide +kernel) (pa_cons (pv 0) pa_nil)) (pe_callTy call_tyA (by rfl) G.type (by decide +kernel) (pa_cons (pv 1) pa_nil)) (nomark _)) (pe_and (pe_cmpR op_eq (pe_fld (pv 0) rfl) (pe_fld (pv 1) rfl) (nomark _)) (pe_one (pe_cmpR op_eq (pe_fld (pv 0) rfl) (pe_fld (pv 1) rfl) (nomark _))))))), ?_⟩
    obtain ⟨a, u, l, m, rfl, ⟨dx, ha⟩, hin, hd, h⟩ := h
    obtain ⟨hl, hm⟩ := hin
    obtain ⟨_, _, _, _, _, _, z⟩ := num_due l hl m hm hd
    obtain ⟨k0, k1⟩ := Bool.and_eq_true_iff.mp z

    rcases h with ⟨b, rfl, ⟨dy, hb⟩, q⟩ | ⟨b, xs, rfl, hb, q⟩ | ⟨b, j, dy, fs, rfl, hb, hj, hn, q⟩
    · refine ⟨_, rfl, _, rfl, .inl ⟨a, _, dx, _, rfl, ha, _, rfl, _, rfl, .inl ⟨b, _, dy, _, rfl, hb, _, rfl, .inl ⟨_, rfl, .inl rfl, _, rfl, ?_⟩⟩⟩⟩
      refine ite2 (fun _ => ?_) (fun h => absurd (decide_eq_true rfl) h)
      refine ⟨_, rfl, a, _, dx, _, _, rfl, ha, G.cNumber.cl, G.cNumber.no _ (by decide +kernel), lNumber_least, _, rfl, b, _, dy, _, _, rfl, hb, G.cNumber.cl, G.cNumber.no _ (by decide +kernel), lNumber_least, k0, _, rfl, ?_⟩
      refine ite2 (fun _ => ?_) (fun h => absurd (decide_eq_true rfl) h)
      refine ⟨_, rfl, a, _, dx, _, _, rfl, ha, G.cNumber.cl, G.cNumber.no _ (by decide +kernel), lNumber_most, _, rfl, b, _, dy, _, _, rfl, hb, G.cNumber.cl, G.cNumber.no _ (by decide +kernel), lNumber_most, k1, ?_⟩
      rw [decide_eq_true rfl]
      exact q
    · exact ⟨_, rfl, _, rfl, .inl ⟨a, _, dx, _, rfl, ha, _, rfl, _, rfl, .inr ⟨_, .tup hb, _, rfl, .inr ⟨_, rfl, _, rfl, iteF q⟩⟩⟩⟩
    · refine ⟨_, rfl, _, rfl, .inl ⟨a, _, dx, _, rfl, ha, _, rfl, _, rfl, .inl ⟨b, _, dy, _, rfl, hb, _, rfl, .inl ⟨_, rfl, .inr ⟨G.mks 1 (by decide), G.mks j hj⟩, _, rfl, ?_⟩⟩⟩⟩
      rw [decide_eq_false (show ¬ He.ga K "Number" = ca K j from fun e => hn ((G.ne 1 j (by decide) hj).mp e).symm)]
      exact iteF q


abbrev s_Fixed_eq : Stmt := inClass (top 27) 1
theorem sc_Fixed_eq : FnScope ["self", "other"] ["self", "other"] (defScope s_Fixed_eq) := ⟨rfl, rfl, rfl, by decide +kernel, rfl, by decide +kernel, by decide +kernel⟩

theorem ok_Fixed_eq (F : FunD K "__eq__" "Fixed.__eq__" (defArgs s_Fixed_eq) (defBody s_Fixed_eq) (defScope s_Fixed_eq) [] [] f fd) (G : G4 P w K mg base) : FnOk P w K mg base CX0 1 f fd ["self", "other"] (spEqFixed K) := by
  refine F.ok (CX := CX0) sc_Fixed_eq (fun vs H Q E h => ?_) (fun cdv A outer s H vs Q E hr h => ?_)
  · obtain ⟨a, u, v, rfl, _⟩ := h
    rfl
  · refine ⟨_, PSs.nox (pss_one (ps_ret (pe_and (pe_cmpR op_isA (pe_callTy call_tyA (by rfl) G.type (by decide +kernel) (pa_cons (pv 0) pa_nil)) (pe_callTy call_tyA (by rfl) G.type (by decide +kernel) (pa_cons (pv 1) pa_nil)) (nomark _)) (pe_one (pe_cmpR op_eq (pe_fld (pv 0) rfl) (pe_fld (pv 1) rfl) (nomark _)))))), ?_⟩
    obtain ⟨a, u, v, rfl, ⟨dx, ha⟩, hin, hd, h⟩ := h
    have k0 := fix_due v hin hd

    rcases h with ⟨b, rfl, ⟨dy, hb⟩, q⟩ | ⟨b, xs, rfl, hb, q⟩ | ⟨b, j, dy, fs, rfl, hb, hj, hn, q⟩ | ⟨b, z, rfl, ⟨dy, hb⟩, hz, hv, q⟩
    · refine ⟨_, rfl, _, rfl, .inl ⟨a, _, dx, _, rfl, ha, _, rfl, _, rfl, .inl ⟨b, _, dy, _, rfl, hb, _, rfl, .inl ⟨_, rfl, .inl rfl, _, rfl, ?_⟩⟩⟩⟩
      refine ite2 (fun _ => ?_) (fun h => absurd (decide_eq_true rfl) h)
      refine ⟨_, rfl, a, _, dx, _, _, rfl, ha, G.cFixed.cl, G.cFixed.no _ (by decide +kernel), lFixed_width, _, rfl, b, _, dy, _, _, rfl, hb, G.cFixed.cl, G.cFixed.no _ (by decide +kernel), lFixed_width, k0, ?_⟩
      rw [decide_eq_true rfl]
      exact q
    · exact ⟨_, rfl, _, rfl, .inl ⟨a, _, dx, _, rfl, ha, _, rfl, _, rfl, .inr ⟨_, .tup hb, _, rfl, .inr ⟨_, rfl, _, rfl, iteF q⟩⟩⟩⟩
    · refine ⟨_, rfl, _, rfl, .inl ⟨a, _, dx, _, rfl, ha, _, rfl, _, rfl, .inl ⟨b, _, dy, _, rfl, hb, _, rfl, .inl ⟨_, rfl, .inr ⟨G.mks 2 (by decide), G.mks j hj⟩, _, rfl, ?_⟩⟩⟩⟩
      rw [decide_eq_false (show ¬ He.ga K "Fixed" = ca K j from fun e => hn ((G.ne 2 j (by decide) hj).mp e).symm)]
      exact iteF q
    · refine ⟨_, rfl, _, rfl, .inl ⟨a, _, dx, _, rfl, ha, _, rfl, _, rfl, .inl ⟨b, _, dy, _, rfl, hb, _, rfl, .inl ⟨_, rfl, .inl rfl, _, rfl, ?_⟩⟩⟩⟩
      refine ite2 (fun _ => ?_) (fun h => absurd (decide_eq_true rfl) h)
      refine ⟨_, rfl, a, _, dx, _, _, rfl, ha, G.cFixed.cl, G.cFixed.no _ (by decide +kernel), lFixed_width, _, rfl, b, _, dy, _, _, rfl, hb, G.cFixed.cl, G.cFixed.no _ (by decide +kernel), lFixed_width, hz, ?_⟩
      rw [decide_eq_false hv]
      exact q


abbrev s_Ended_eq : Stmt := inClass (top 29) 1
theorem sc_Ended_eq : FnScope ["self", "other"] ["self", "other"] (defScope s_Ended_eq) := ⟨rfl, rfl, rfl, by decide +kernel, rfl, by decide +kernel, by decide +kernel⟩

theorem ok_Ended_eq (F : FunD K "__eq__" "Ended.__eq__" (defArgs s_Ended_eq) (defBody s_Ended_eq) (defScope s_Ended_eq) [] [] f fd) (G : G4 P w K mg base) : FnOk P w K mg base CX0 1 f fd ["self", "other"] (spEqEnded K) := by
  refine F.ok (CX := CX0) sc_Ended_eq (fun vs H Q E h => ?_) (fun cdv A outer s H vs Q E hr h => ?_)
  · obtain ⟨a, u, s, e, l, m, rfl, _⟩ := h
    rfl
  · refine ⟨_, PSs.nox (pss_one (ps_ret (pe_and (pe_cmpR op_isA (pe_callTy call_tyA (by rfl) G.type (by decide +kernel) (pa_cons (pv 0) pa_nil)) (pe_callTy call_tyA (by rfl) G.type (by decide +kernel) (pa_cons (pv 1) pa_nil)) (nomark _)) (pe_and (pe_cmpR op_eq (pe_fld (pv 0) rfl) (pe_fld (pv 1) rfl) (nomark _)) (pe_and (pe_cmpR op_eq (pe_fld (pv 0) rfl) (pe_fld (pv 1) rfl) (nomark _)) (pe_and (pe_cmpR op_eq (pe_fld (pv 0) rfl) (pe_fld (pv 1) rfl) (nomark _)) (pe_one (pe_cmpR op_eq (pe_fld (pv 0) rfl) (pe_fld (pv 1) rfl) (nomark _))))))))), ?_⟩
    obtain ⟨a, u, s, e, l, m, rfl, ⟨dx, ha⟩, hin, hd, h⟩ := h
    obtain ⟨hs, he, hl, hm⟩ := hin
    obtain ⟨_, _, _, z⟩ := end_due s hs e he l hl m hm hd
    obtain ⟨k0, z⟩ := Bool.and_eq_true_iff.mp z
    obtain ⟨k1, z⟩ := Bool.and_eq_true_iff.mp z
    obtain ⟨k2, k3⟩ := Bool.and_eq_true_iff.mp z

    rcases h with ⟨b, rfl, ⟨dy, hb⟩, q⟩ | ⟨b, xs, rfl, hb, q⟩ | ⟨b, j, dy, fs, rfl, hb, hj, hn, q⟩
    · refine ⟨_, rfl, _, rfl, .inl ⟨a, _, dx, _, rfl, ha, _, rfl, _, rfl, .inl ⟨b, _, dy, _, rfl, hb, _, rfl, .inl ⟨_, rfl, .inl rfl, _, rfl, ?_⟩⟩⟩⟩
      refine ite2 (fun _ => ?_) (fun h => absurd (decide_eq_true rfl) h)
      refine ⟨_, rfl, a, _, dx, _, _, rfl, ha, G.cEnded.cl, G.cEnded.no _ (by decide +kernel), lEnded_signs, _, rfl, b, _, dy, _, _, rfl, hb, G.cEnded.cl, G.cEnded.no _ (by decide +kernel), lEnded_signs, k0, _, rfl, ?_⟩
      refine ite2 (fun _ => ?_) (fun h => absurd (decide_eq_true rfl) h)
      refine ⟨_, rfl, a, _, dx, _, _, rfl, ha, G.cEnded.cl, G.cEnded.no _ (by decide +kernel), lEnded_sign, _, rfl, b, _, dy, _, _, rfl, hb, G.cEnded.cl, G.cEnded.no _ (by decide +kernel), lEnded_sign, k1, _, rfl, ?_⟩
      refine ite2 (fun _ => ?_) (fun h => absurd (decide_eq_true rfl) h)
      refine ⟨_, rfl, a, _, dx, _, _, rfl, ha, G.cEnded.cl, G.cEnded.no _ (by decide +kernel), lEnded_least, _, rfl, b, _, dy, _, _, rfl, hb, G.cEnded.cl, G.cEnded.no _ (by decide +kernel), lEnded_least, k2, _, rfl, ?_⟩
      refine ite2 (fun _ => ?_) (fun h => absurd (decide_eq_true rfl) h)
      refine ⟨_, rfl, a, _, dx, _, _, rfl, ha, G.cEnded.cl, G.cEnded.no _ (by decide +kernel), lEnded_most, _, rfl, b, _, dy, _, _, rfl, hb, G.cEnded.cl, G.cEnded.no _ (by decide +kernel), lEnded_most, k3, ?_⟩
      rw [decide_eq_true rfl]
      exact q
    · exact ⟨_, rfl, _, rfl, .inl ⟨a, _, dx, _, rfl, ha, _, rfl, _, rfl, .inr ⟨_, .tup hb, _, rfl, .inr ⟨_, rfl, _, rfl, iteF q⟩⟩⟩⟩
    · refine ⟨_, rfl, _, rfl, .inl ⟨a, _, dx, _, rfl, ha, _, rfl, _, rfl, .inl ⟨b, _, dy, _, rfl, hb, _, rfl, .inl ⟨_, rfl, .inr ⟨G.mks 4 (by decide), G.mks j hj⟩, _, rfl, ?_⟩⟩⟩⟩
      rw [decide_eq_false (show ¬ He.ga K "Ended" = ca K j from fun e => hn ((G.ne 4 j (by decide) hj).mp e).symm)]
      exact iteF q


abbrev s_Listed_eq : Stmt := inClass (top 28) 1
theorem sc_Listed_eq : FnScope ["self", "other"] ["self", "other"] (defScope s_Listed_eq) := ⟨rfl, rfl, rfl, by decide +kernel, rfl, by decide +kernel, by decide +kernel⟩

theorem ok_Listed_eq (F : FunD K "__eq__" "Listed.__eq__" (defArgs s_Listed_eq) (defBody s_Listed_eq) (defScope s_Listed_eq) [] [] f fd) (G : G4 P w K mg base) : FnOk P w K mg base CX0 1 f fd ["self", "other"] (spEqListed K) := by
  refine F.ok (CX := CX0) sc_Listed_eq (fun vs H Q E h => ?_) (fun cdv A outer s H vs Q E hr h => ?_)
  · obtain ⟨a, u, x, rfl, _⟩ := h
    rfl
  · refine ⟨_, PSs.nox (pss_one (ps_ret (pe_and (pe_cmpR op_isA (pe_callTy call_tyA (by rfl) G.type (by decide +kernel) (pa_cons (pv 0) pa_nil)) (pe_callTy call_tyA (by rfl) G.type (by decide +kernel) (pa_cons (pv 1) pa_nil)) (nomark _)) (pe_one (pe_cmpR (op_eqD hr.units) (pe_fld (pv 0) rfl) (pe_fld (pv 1) rfl) (nomark _)))))), ?_⟩
    obtain ⟨a, u, x, rfl, ⟨dx, t, ha, ht⟩, hin, hd, h⟩ := h
    obtain ⟨hf, hsh⟩ := lM_shaped x hin hd
    rcases h with ⟨b, rfl, ⟨dy, t2, hb, ht2⟩, q⟩ | ⟨b, xs, rfl, hb, q⟩ | ⟨b, j, dy, fs, rfl, hb, hj, hn, q⟩
    · refine ⟨_, rfl, _, rfl, .inl ⟨a, _, dx, _, rfl, ha, _, rfl, _, rfl, .inl ⟨b, _, dy, _, rfl, hb, _, rfl, .inl ⟨_, rfl, .inl rfl, _, rfl, ?_⟩⟩⟩⟩
      refine ite2 (fun _ => ?_) (fun h => absurd (decide_eq_true rfl) h)
      refine ⟨_, rfl, a, _, dx, _, _, rfl, ha, G.cListed.cl, G.cListed.no _ (by decide +kernel), lListed_texts, _, rfl, b, _, dy, _, _, rfl, hb, G.cListed.cl, G.cListed.no _ (by decide +kernel), lListed_texts, _, _, .tup ht.sq (dpAll_flat hf), .tup ht2.sq (dpAll_flat hf), hsh, hsh, ?_⟩
      rw [eqv_same hsh]
      exact q
    · exact ⟨_, rfl, _, rfl, .inl ⟨a, _, dx, _, rfl, ha, _, rfl, _, rfl, .inr ⟨_, .tup hb, _, rfl, .inr ⟨_, rfl, _, rfl, iteF q⟩⟩⟩⟩
    · refine ⟨_, rfl, _, rfl, .inl ⟨a, _, dx, _, rfl, ha, _, rfl, _, rfl, .inl ⟨b, _, dy, _, rfl, hb, _, rfl, .inl ⟨_, rfl, .inr ⟨G.mks 3 (by decide), G.mks j hj⟩, _, rfl, ?_⟩⟩⟩⟩
      rw [decide_eq_false (show ¬ He.ga K "Listed" = ca K j from fun e => hn ((G.ne 3 j (by decide) hj).mp e).symm)]
      exact iteF q


/-- has_sign and == of each class -/
structure HM (P : Program) (w : World) (K : Frag) (mg : Str → Option Value) (base : Heap) (k : Nat) (C : Addr) (m : Str) (ps : List Str) (sp : Sp) : Prop where
  me : Meth K C m (He.ma K C m)
  ok : ∃ fd, FnOk P w K mg base CX0 k (He.ma K C m) fd ps sp ∧ Binds K fd ps []
structure EQ (P : Program) (w : World) (K : Frag) (mg : Str → Option Value) (base : Heap) (C : Addr) (sp : Sp) : Prop where
  ok : ∃ fd, FnOk P w K mg base CX0 1 (He.ma K C "__eq__") fd ["self", "other"] sp ∧ Binds K fd ["self", "other"] []
structure G5 (P : Program) (w : World) (K : Frag) (mg : Str → Option Value) (base : Heap) : Prop extends G4 P w K mg base where
  hWord : HM P w K mg base 2 (ca K 0) "has_sign" ["self", "sign"] (spHasWord K)
  eWord : EQ P w K mg base (ca K 0) (spEqWord K)
  hNumber : HM P w K mg base 2 (ca K 1) "has_sign" ["self", "sign"] (spHasNumber K)
  eNumber : EQ P w K mg base (ca K 1) (spEqNumber K)
  hFixed : HM P w K mg base 2 (ca K 2) "has_sign" ["self", "sign"] (spHasFixed K)
  eFixed : EQ P w K mg base (ca K 2) (spEqFixed K)
  hListed : HM P w K mg base 2 (ca K 3) "has_sign" ["self", "sign"] (spHasListed K)
  eListed : EQ P w K mg base (ca K 3) (spEqListed K)
  hEnded : HM P w K mg base 2 (ca K 4) "has_sign" ["self", "sign"] (spHasEnded K)
  eEnded : EQ P w K mg base (ca K 4) (spEqEnded K)
theorem G5.has (G : G5 P w K mg base) {H : Hp} {y : Addr} : ∀ {d : PD}, FieldAt K H y d → d.In → d.due = none → ∃ sp, HM P w K mg base 2 (ca K d.ci) "has_sign" ["self", "sign"] sp ∧
    ∀ c Q E, (∀ H', Same H H' → Q (.bl (d.has ⟨#[c]⟩)) H') → sp [.ref y, .str ⟨#[c]⟩] H Q E
  | .word s l m, h, i, u => ⟨_, G.hWord, fun c Q E q => ⟨y, c, s, l, m, rfl, h, i, u, q⟩⟩
  | .number l m, h, i, u => ⟨_, G.hNumber, fun c Q E q => ⟨y, c, l, m, rfl, h, i, u, q⟩⟩
  | .fixed v, h, i, u => ⟨_, G.hFixed, fun c Q E q => ⟨y, c, v, rfl, h, i, u, q⟩⟩
  | .listed x, h, i, u => ⟨_, G.hListed, fun c Q E q => ⟨y, c, x, rfl, h, i, u, q⟩⟩
  | .ended s e l m, h, i, u => ⟨_, G.hEnded, fun c Q E q => ⟨y, c, s, e, l, m, rfl, h, i, u, q⟩⟩
theorem G5.eqs (G : G5 P w K mg base) {H : Hp} {y : Addr} : ∀ {d : PD}, FieldAt K H y d → d.In → d.due = none → ∃ sp, EQ P w K mg base (ca K d.ci) sp ∧
    ∀ u Q E, ((∃ b, u = .ref b ∧ FieldAt K H b d ∧ Q (.bl true) H) ∨ (∃ b xs, u = .ref b ∧ H b = some (.tup xs) ∧ Q (.bl false) H) ∨ (∃ b j dy fs, u = .ref b ∧ H b = some (.ins (ca K j) dy fs) ∧ j < 7 ∧ j ≠ d.ci ∧ Q (.bl false) H)) → sp [.ref y, u] H Q E
  | .word s l m, h, i, u => ⟨_, G.eWord, fun v Q E q => ⟨y, v, s, l, m, rfl, h, i, u, q⟩⟩
  | .number l m, h, i, u => ⟨_, G.eNumber, fun v Q E q => ⟨y, v, l, m, rfl, h, i, u, q⟩⟩
  | .fixed z, h, i, u => ⟨_, G.eFixed, fun v Q E q => ⟨y, v, z, rfl, h, i, u, q.imp id (Or.imp id Or.inl)⟩⟩
  | .listed x, h, i, u => ⟨_, G.eListed, fun v Q E q => ⟨y, v, x, rfl, h, i, u, q⟩⟩
  | .ended s e l m, h, i, u => ⟨_, G.eEnded, fun v Q E q => ⟨y, v, s, e, l, m, rfl, h, i, u, q⟩⟩
/-- what is handed in as the field of a marked one -/
def IVAt (K : Frag) (H : Hp) (fv : V) : OD → Prop
  | .val u => fv = u ∧ (u = .non ∨ u = .str "word")
  | .pl d => ∃ y, fv = .ref y ∧ FieldAt K H y d ∧ d.In ∧ d.due = none
  | .mk .. => ∃ y dx fs, fv = .ref y ∧ H y = some (.ins (ca K 5) dx fs)
theorem kit5 (G : G4 P w K mg base) : ∀ i, i < 6 → kitAny K (.ref (ca K i)) [.ref (ca K 0), .ref (ca K 1), .ref (ca K 2), .ref (ca K 3), .ref (ca K 4)] = some (decide (i < 5))
  | 0, h => by
    have k := fun j (hj : j < 6) => G.kit 0 j h hj
    exact kitAny_cons (b := true) (k 0 (by decide)) (fun z => nomatch z) (fun _ => rfl)
  | 1, h => by
    have k := fun j (hj : j < 6) => G.kit 1 j h hj
    exact kitAny_cons (b := false) (k 0 (by decide)) (fun _ => kitAny_cons (b := true) (k 1 (by decide)) (fun z => nomatch z) (fun _ => rfl)) (fun z => nomatch z)
  | 2, h => by
    have k := fun j (hj : j < 6) => G.kit 2 j h hj
    exact kitAny_cons (b := false) (k 0 (by decide)) (fun _ => kitAny_cons (b := false) (k 1 (by decide)) (fun _ => kitAny_cons (b := true) (k 2 (by decide)) (fun z => nomatch z) (fun _ => rfl)) (fun z => nomatch z)) (fun z => nomatch z)
  | 3, h => by
    have k := fun j (hj : j < 6) => G.kit 3 j h hj
    exact kitAny_cons (b := false) (k 0 (by decide)) (fun _ => kitAny_cons (b := false) (k 1 (by decide)) (fun _ => kitAny_cons (b := false) (k 2 (by decide)) (fun _ => kitAny_cons (b := true) (k 3 (by decide)) (fun z => nomatch z) (fun _ => rfl)) (fun z => nomatch z)) (fun z => nomatch z)) (fun z => nomatch z)
  | 4, h => by
    have k := fun j (hj : j < 6) => G.kit 4 j h hj
    exact kitAny_cons (b := false) (k 0 (by decide)) (fun _ => kitAny_cons (b := false) (k 1 (by decide)) (fun _ => kitAny_cons (b := false) (k 2 (by decide)) (fun _ => kitAny_cons (b := false) (k 3 (by decide)) (fun _ => kitAny_cons (b := true) (k 4 (by decide)) (fun z => nomatch z) (fun _ => rfl)) (fun z => nomatch z)) (fun z => nomatch z)) (fun z => nomatch z)) (fun z => nomatch z)
  | 5, h => by
    have k := fun j (hj : j < 6) => G.kit 5 j h hj
    exact kitAny_cons (b := false) (k 0 (by decide)) (fun _ => kitAny_cons (b := false) (k 1 (by decide)) (fun _ => kitAny_cons (b := false) (k 2 (by decide)) (fun _ => kitAny_cons (b := false) (k 3 (by decide)) (fun _ => kitAny_cons (b := false) (k 4 (by decide)) (fun _ => kitAny_nil) (fun z => nomatch z)) (fun z => nomatch z)) (fun z => nomatch z)) (fun z => nomatch z)) (fun z => nomatch z)
  | n + 6, h => absurd h (by omega)
theorem kit5N (G : G4 P w K mg base) : kitAny K (.type "NoneType") [.ref (ca K 0), .ref (ca K 1), .ref (ca K 2), .ref (ca K 3), .ref (ca K 4)] = some false := by
  have k := G.kitN
  exact kitAny_cons (b := false) (k 0 (by decide)) (fun _ => kitAny_cons (b := false) (k 1 (by decide)) (fun _ => kitAny_cons (b := false) (k 2 (by decide)) (fun _ => kitAny_cons (b := false) (k 3 (by decide)) (fun _ => kitAny_cons (b := false) (k 4 (by decide)) (fun _ => kitAny_nil) (fun z => nomatch z)) (fun z => nomatch z)) (fun z => nomatch z)) (fun z => nomatch z)) (fun z => nomatch z)
theorem kit5S (G : G4 P w K mg base) : kitAny K (.type "str") [.ref (ca K 0), .ref (ca K 1), .ref (ca K 2), .ref (ca K 3), .ref (ca K 4)] = some false := by
  have k := G.kitS
  exact kitAny_cons (b := false) (k 0 (by decide)) (fun _ => kitAny_cons (b := false) (k 1 (by decide)) (fun _ => kitAny_cons (b := false) (k 2 (by decide)) (fun _ => kitAny_cons (b := false) (k 3 (by decide)) (fun _ => kitAny_cons (b := false) (k 4 (by decide)) (fun _ => kitAny_nil) (fun z => nomatch z)) (fun z => nomatch z)) (fun z => nomatch z)) (fun z => nomatch z)) (fun z => nomatch z)
def spMarked (K : Frag) : Sp := fun vs H Q E => ∃ (a dx : Addr) (n m fv : V) (i : OD), vs = [.ref a, n, m, fv] ∧ H a = some (.ins (ca K 5) dx []) ∧ n ∈ mQ ∧ m ∈ mQ ∧ IVAt K H fv i ∧
  (OD.due (.mk n m i) = none → ∀ H2, Same H H2 → Q .non (upd H2 a (.ins (ca K 5) dx (fMarked n m fv)))) ∧ ∀ z, OD.due (.mk n m i) = some z → RaiseE (BF K) "what" (.str z) H E

abbrev s_Marked_init : Stmt := inClass (top 30) 0
theorem sc_Marked_init : FnScope ["self", "none", "mark", "field"] ["self", "none", "mark", "field"] (defScope s_Marked_init) := ⟨rfl, rfl, rfl, by decide +kernel, rfl, by decide +kernel, by decide +kernel⟩

theorem ok_Marked_init (F : FunD K "__init__" "Marked.__init__" (defArgs s_Marked_init) (defBody s_Marked_init) (defScope s_Marked_init) [] [] f fd) (G : G5 P w K mg base) : FnOk P w K mg base (L2.CX P w) 4 f fd ["self", "none", "mark", "field"] (spMarked K) := by
  refine F.ok (CX := (L2.CX P w)) sc_Marked_init (fun vs H Q E h => ?_) (fun cdv A outer s H vs Q E hr h => ?_)
  · obtain ⟨a, dx, n, m, fv, i, rfl, _⟩ := h
    rfl
  · have hr3 : Room 3 _ := hr
    have hr2 : Room 2 _ := hr.mono (by decide)
    refine ⟨_, (pss_cons (ps_if (pt_not (pt_val (pe_fn G.is_sign (hr2.mono (by decide)) pass0 (by rfl) (pa_cons (pv 1) pa_nil))))
      (pss_one (ps_raise rfl (takes_of rfl rfl rfl rfl) (pmk_1 G.bf hr2 (by rfl) (pa_cons pe_str pa_nil))))
      pss_nil)
    (pss_cons (ps_if (PW.pt (pw_or (pt_not (pt_val (pe_fn G.is_sign (hr2.mono (by decide)) pass0 (by rfl) (pa_cons (pv 2) pa_nil)))) (pw_or1 (pt_cmpR op_eq (pv 2) (pv 1) (nomark _)))))
      (pss_one (ps_raise rfl (takes_of rfl rfl rfl rfl) (pmk_1 G.bf hr2 (by rfl) (pa_cons pe_str pa_nil))))
      pss_nil)
    (pss_cons (ps_if (pt_not (pt_val (pe_callB call_ieT (by rfl) G.isinstance (by decide +kernel) (pa_cons (pv 3) (pa_cons (pe_tupS (pa_cons (pe_gref (by rfl) G.cWord.mgC) (pa_cons (pe_gref (by rfl) G.cNumber.mgC) (pa_cons (pe_gref (by rfl) G.cFixed.mgC) (pa_cons (pe_gref (by rfl) G.cListed.mgC) (pa_cons (pe_gref (by rfl) G.cEnded.mgC) pa_nil)))))) pa_nil)))))
      (pss_one (ps_raise rfl (takes_of rfl rfl rfl rfl) (pmk_1 G.bf hr2 (by rfl) (pa_cons pe_str pa_nil))))
      pss_nil)
    (pss_cons (ps_if (PW.pt (pw_or (pt_val (pe_methD (CX := CX0) (pv 3) pass0 (pa_cons (pv 1) pa_nil))) (pw_or1 (pt_val (pe_methD (CX := CX0) (pv 3) pass0 (pa_cons (pv 2) pa_nil))))))
      (pss_one (ps_raise rfl (takes_of rfl rfl rfl rfl) (pmk_1 G.bf hr2 (by rfl) (pa_cons pe_str pa_nil))))
      pss_nil)
    (pss_cons (ps_fld (pv 0) (pv 1) rfl)
    (pss_cons (ps_fld (pv 0) (pv 2) rfl)
    (pss_one (ps_fld (pv 0) (pv 3) rfl)))))))), ?_⟩
    obtain ⟨a, dx, n, m, fv, i, rfl, ha, hn, hm, hI, q1, q2⟩ := h
    refine ⟨_, rfl, n, rfl, mQ_vM hn, _, rfl, ?_⟩
    show if (!isSignB n) = true then _ else _
    refine ite2 (fun h1 => mkO_1 (q2 _ (by show (if (!isSignB n) = true then _ else _) = _; rw [if_pos h1]))) (fun h1 => ?_)
    have e1 : OD.due (.mk n m i) = if (!isSignB m || decide (m = n)) = true then (some "mark" : Option Str) else iDue n m i := by show (if (!isSignB n) = true then _ else _) = _; rw [if_neg h1]
    rw [e1] at q1 q2
    have h1' : isSignB n = true := by cases z : isSignB n with | true => rfl | false => exact absurd (by rw [z]; rfl) h1
    obtain ⟨en, cn⟩ := mQ_one n hn h1'
    refine ⟨_, rfl, m, rfl, mQ_vM hm, _, rfl, ?_⟩
    show if (!isSignB m) = true then _ else _
    refine ite2 (fun h2 => mkO_1 (q2 _ (by rw [h2]; rfl))) (fun h2 => ?_)
    have h2' : isSignB m = true := by cases z : isSignB m with | true => rfl | false => exact absurd (by rw [z]; rfl) h2
    obtain ⟨em, cm⟩ := mQ_one m hm h2'
    refine ⟨_, rfl, _, rfl, (by rw [en, em]; rfl), _, rfl, ?_⟩
    refine ite2 (fun h3 => mkO_1 (q2 _ (by rw [h3, Bool.or_true]; rfl))) (fun h3 => ?_)
    rw [h2', Bool.eq_false_iff.mpr h3] at q1 q2
    replace q1 : iDue n m i = none → ∀ H2, Same H H2 → Q .non (upd H2 a (.ins (ca K 5) dx (fMarked n m fv))) := q1
    replace q2 : ∀ z, iDue n m i = some z → RaiseE (BF K) "what" (.str z) H E := q2
    clear e1
    cases i with
    | val u =>
      obtain ⟨rfl, rfl | rfl⟩ := hI
      · refine ⟨_, rfl, by show 5 ≤ 1000; decide, fun p0 H0 hp0 S0 e0 => ⟨_, p0, _, _, _, false, rfl, e0, .cons (.own _) (.cons (.own _) (.cons (.own _) (.cons (.own _) (.cons (.own _) Paired.nil)))), .x (.base .non), (kit5N G.toG4), _, rfl, iteT (mkO_1 (raise_mono S0 (q2 _ rfl)))⟩⟩
      · refine ⟨_, rfl, by show 5 ≤ 1000; decide, fun p0 H0 hp0 S0 e0 => ⟨_, p0, _, _, _, false, rfl, e0, .cons (.own _) (.cons (.own _) (.cons (.own _) (.cons (.own _) (.cons (.own _) Paired.nil)))), .x (.base (.str _)), (kit5S G.toG4), _, rfl, iteT (mkO_1 (raise_mono S0 (q2 _ rfl)))⟩⟩
    | mk n2 m2 i2 =>
      obtain ⟨y, dy, fs, rfl, hy⟩ := hI
      refine ⟨_, rfl, by show 5 ≤ 1000; decide, fun p0 H0 hp0 S0 e0 => ⟨_, p0, _, _, _, false, rfl, e0, .cons (.own _) (.cons (.own _) (.cons (.own _) (.cons (.own _) (.cons (.own _) Paired.nil)))), G.ty (i := 5) (by decide) (S0 _ _ hy), (kit5 G.toG4 5 (by decide)), _, rfl, iteT (mkO_1 (raise_mono S0 (q2 _ rfl)))⟩⟩
    | pl d =>
      obtain ⟨y, rfl, hy, hin, hd⟩ := hI
      have eD : iDue n m (.pl d) = if (d.has ⟨#[(strV n).cps.getD 0 0]⟩ || d.has ⟨#[(strV m).cps.getD 0 0]⟩) = true then (some "field" : Option Str) else none := by
        have e1 : strV n = ⟨#[(strV n).cps.getD 0 0]⟩ := congrArg strV en
        have e2 : strV m = ⟨#[(strV m).cps.getD 0 0]⟩ := congrArg strV em
        rw [← e1, ← e2]
        rfl
      rw [eD] at q1 q2
      obtain ⟨dy, fs, hi, lf⟩ := hy.ins
      refine ⟨_, rfl, by show 5 ≤ 1000; decide, fun p0 H0 hp0 S0 e0 => ⟨_, p0, _, _, _, true, rfl, e0, .cons (.own _) (.cons (.own _) (.cons (.own _) (.cons (.own _) (.cons (.own _) Paired.nil)))), G.ty (Nat.lt_of_lt_of_le d.ci_lt (by decide)) (S0 _ _ hi), ((kit5 G.toG4 d.ci (Nat.lt_of_lt_of_le d.ci_lt (by decide))).trans (congrArg some (decide_eq_true d.ci_lt))), _, rfl, iteF ?_⟩⟩
      obtain ⟨sp, M, Hs⟩ := G.has (hy.same S0) hin hd
      obtain ⟨fdh, Fh, Bh⟩ := M.ok
      refine ⟨_, rfl, y, _, dy, _, fs, 2, fdh, _, sp, rfl, S0 _ _ hi, lf, G.cl _ (Nat.lt_of_lt_of_le d.ci_lt (by decide)), M.me, Fh, hr2, Bh, _, rfl, ?_⟩
      show sp [.ref y, n] H0 _ _
      rw [en]
      refine Hs _ _ _ fun H1 S1 => ⟨_, rfl, ?_⟩
      have S1' := S0.trans S1
      refine ite2 (fun h4 => mkO_1 (raise_mono S1' (q2 _ (by rw [h4]; rfl)))) (fun h4 => ?_)
      obtain ⟨sp2, M2, Hs2⟩ := G.has (hy.same S1') hin hd
      obtain ⟨fdh2, Fh2, Bh2⟩ := M2.ok
      refine ⟨_, rfl, y, _, dy, _, fs, 2, fdh2, _, sp2, rfl, S1' _ _ hi, lf, G.cl _ (Nat.lt_of_lt_of_le d.ci_lt (by decide)), M2.me, Fh2, hr2, Bh2, _, rfl, ?_⟩
      show sp2 [.ref y, m] H1 _ _
      rw [em]
      refine Hs2 _ _ _ fun H2 S2 => ⟨_, rfl, ?_⟩
      have S2' := S1'.trans S2
      refine ite2 (fun h5 => mkO_1 (raise_mono S2' (q2 _ (by rw [h5, Bool.or_true]; rfl)))) (fun h5 => ?_)
      have z := q1 (by rw [Bool.eq_false_iff.mpr h4, Bool.eq_false_iff.mpr h5]; rfl) H2 S2'
      rw [← en, ← em]
      have ha := S2' _ _ ha
      refine ⟨_, rfl, _, rfl, a, _, dx, _, rfl, ha, G.cMarked.cl, G.cMarked.no _ (by decide +kernel), (by show 0 < 1000; decide), _, rfl, _, rfl, a, _, dx, _, rfl, upd_same, G.cMarked.cl, G.cMarked.no _ (by decide +kernel), (by show 1 < 1000; decide), _, rfl, _, rfl, a, _, dx, _, rfl, upd_same, G.cMarked.cl, G.cMarked.no _ (by decide +kernel), (by show 2 < 1000; decide), ?_⟩
      show Q .non _
      rw [upd_upd, upd_upd]
      exact z

/-- a marked field -/
def MkAt (K : Frag) (H : Hp) (a : Addr) (n m : V) (d : PD) : Prop := ∃ dx y, H a = some (.ins (ca K 5) dx (fMarked n m (.ref y))) ∧ FieldAt K H y d
def spEqMarked (K : Frag) : Sp := fun vs H Q _ => ∃ (a : Addr) (u n m : V) (d : PD), vs = [.ref a, u] ∧ MkAt K H a n m d ∧ d.In ∧ d.due = none ∧ scal n n = true ∧ scal m m = true ∧
  ((∃ b, u = .ref b ∧ MkAt K H b n m d ∧ Q (.bl true) H) ∨ (∃ b xs, u = .ref b ∧ H b = some (.tup xs) ∧ Q (.bl false) H) ∨ (∃ b j dy fs, u = .ref b ∧ H b = some (.ins (ca K j) dy fs) ∧ j < 7 ∧ j ≠ 5 ∧ Q (.bl false) H))

abbrev s_Marked_eq : Stmt := inClass (top 30) 1
theorem sc_Marked_eq : FnScope ["self", "other"] ["self", "other"] (defScope s_Marked_eq) := ⟨rfl, rfl, rfl, by decide +kernel, rfl, by decide +kernel, by decide +kernel⟩

theorem ok_Marked_eq (F : FunD K "__eq__" "Marked.__eq__" (defArgs s_Marked_eq) (defBody s_Marked_eq) (defScope s_Marked_eq) [] [] f fd) (G : G5 P w K mg base) : FnOk P w K mg base CX0 2 f fd ["self", "other"] (spEqMarked K) := by
  refine F.ok (CX := CX0) sc_Marked_eq (fun vs H Q E h => ?_) (fun cdv A outer s H vs Q E hr h => ?_)
  · obtain ⟨a, u, n, m, d, rfl, _⟩ := h
    rfl
  · refine ⟨_, PSs.nox (pss_one (ps_ret (pe_and (pe_cmpR op_isA (pe_callTy call_tyA (by rfl) G.type (by decide +kernel) (pa_cons (pv 0) pa_nil)) (pe_callTy call_tyA (by rfl) G.type (by decide +kernel) (pa_cons (pv 1) pa_nil)) (nomark _)) (pe_and (pe_cmpR op_eq (pe_fld (pv 0) rfl) (pe_fld (pv 1) rfl) (nomark _)) (pe_and (pe_cmpR op_eq (pe_fld (pv 0) rfl) (pe_fld (pv 1) rfl) (nomark _)) (pe_one (pe_cmpR (op_eqO (CX := CX0) pass0) (pe_fld (pv 0) rfl) (pe_fld (pv 1) rfl) (nomark _)))))))), ?_⟩
    obtain ⟨a, u, n, m, d, rfl, ⟨dx, y, ha, hy⟩, hin, hd, k0, k1, h⟩ := h
    rcases h with ⟨b, rfl, ⟨dy, y2, hb, hy2⟩, q⟩ | ⟨b, xs, rfl, hb, q⟩ | ⟨b, j, dy, fs, rfl, hb, hj, hn, q⟩
    · refine ⟨_, rfl, _, rfl, .inl ⟨a, _, dx, _, rfl, ha, _, rfl, _, rfl, .inl ⟨b, _, dy, _, rfl, hb, _, rfl, .inl ⟨_, rfl, .inl rfl, _, rfl, ?_⟩⟩⟩⟩
      refine ite2 (fun _ => ?_) (fun h => absurd (decide_eq_true rfl) h)
      refine ⟨_, rfl, a, _, dx, _, _, rfl, ha, G.cMarked.cl, G.cMarked.no _ (by decide +kernel), lMarked_none, _, rfl, b, _, dy, _, _, rfl, hb, G.cMarked.cl, G.cMarked.no _ (by decide +kernel), lMarked_none, k0, _, rfl, ?_⟩
      refine ite2 (fun _ => ?_) (fun h => absurd (decide_eq_true rfl) h)
      refine ⟨_, rfl, a, _, dx, _, _, rfl, ha, G.cMarked.cl, G.cMarked.no _ (by decide +kernel), lMarked_mark, _, rfl, b, _, dy, _, _, rfl, hb, G.cMarked.cl, G.cMarked.no _ (by decide +kernel), lMarked_mark, k1, _, rfl, ?_⟩
      refine ite2 (fun _ => ?_) (fun h => absurd (decide_eq_true rfl) h)
      obtain ⟨ey, fs, hi, _⟩ := hy.ins
      obtain ⟨ey2, fs2, hi2, _⟩ := hy2.ins
      have h6 := Nat.lt_of_lt_of_le d.ci_lt (by decide : 5 ≤ 6)
      obtain ⟨sp, M, Hs⟩ := G.eqs hy hin hd
      obtain ⟨fde, Fe, Be⟩ := M.ok
      refine ⟨_, rfl, a, _, dx, _, _, rfl, ha, G.cMarked.cl, G.cMarked.no _ (by decide +kernel), lMarked_field, _, rfl, b, _, dy, _, _, rfl, hb, G.cMarked.cl, G.cMarked.no _ (by decide +kernel), lMarked_field, y, ca K d.ci, ey, fs, .ref (ca K d.ci), rfl, hi, (G.kc _ h6).eq, G.ty h6 hi2, ?_, 1, fde, _, sp, (G.kc _ h6).ke, Fe, hr, Be, Hs _ _ _ (.inl ⟨y2, rfl, hy2, true, rfl, q⟩)⟩
      unfold notFirst
      rw [beq_self_eq_true]
      rfl
    · exact ⟨_, rfl, _, rfl, .inl ⟨a, _, dx, _, rfl, ha, _, rfl, _, rfl, .inr ⟨_, .tup hb, _, rfl, .inr ⟨_, rfl, _, rfl, iteF q⟩⟩⟩⟩
    · refine ⟨_, rfl, _, rfl, .inl ⟨a, _, dx, _, rfl, ha, _, rfl, _, rfl, .inl ⟨b, _, dy, _, rfl, hb, _, rfl, .inl ⟨_, rfl, .inr ⟨G.mks 5 (by decide), G.mks j hj⟩, _, rfl, ?_⟩⟩⟩⟩
      rw [decide_eq_false (show ¬ ca K 5 = ca K j from fun e => hn ((G.ne 5 j (by decide) hj).mp e).symm)]
      exact iteF q


end
end L2.K22

set_option Elab.async false
set_option linter.all false
set_option maxRecDepth 100000
set_option maxHeartbeats 4000000
/-! Fields, layouts: what stands where. -/
namespace L2.K22
open PySem PySem.W PySem.Spec PySem.Calls PyProof.Rows L2.Jk
def withinB (l m : V) (n : Int) : Bool := decide (intV l ≤ n) && (decide (m = .non) || decide (n ≤ intV m))
def wordB (s l m : V) : V → Bool
  | .str z => madeB z (strV s) && withinB l m z.length
  | _ => false
def numeralB (t : Str) : Bool := if (decide (V.str t = .str "") || !madeB t DG) = true then false else decide (V.str t = .str "0") || !decide (V.str ⟨#[t.cps.getD 0 0]⟩ = .str "0")
def numTx (t : Str) : Str := ("0" : Str) ++ cutS t none (some ((t.length : Int) % 64))
def numOf (t : Str) : Int := (PySem.intText? (numTx t)).getD 0
def numOk (t : Str) : Bool := (PySem.intText? (numTx t)).isSome && (decide (t.length < 64) && (decide ((numTx t).length ≤ 640) && decide (("0" : Str).length + (cutS t none (some ((t.length : Int) % 64))).length ≤ 640)))
def great (w : V) : Int := numOf (repS "9" (intV w))
def greatOk (w : V) : Bool := numOk (repS "9" (intV w)) && repOk "9" (intV w)
def init1 (t : Str) : Str := cutS t none (some (-1))
def last1 (t : Str) : Str := cutS t (some (-1)) none
def PD.hasV (v : V) : PD → Bool
  | .word s l m => wordB s l m v
  | .number l m => numB v && withinB l m (intV v)
  | .fixed w => numB v && (decide (0 ≤ intV v) && decide (intV v ≤ great w))
  | .listed x => (match v with | .str _ => inV v x.els | _ => false)
  | .ended s _ l m => wordB s l m v
def PD.hasT (t : Str) : PD → Bool
  | .word s l m => wordB s l m (.str t)
  | .number l m => numeralB t && withinB l m (numOf t)
  | .fixed w => decide (V.int t.length = w) && madeB t DG
  | .listed x => inV (.str t) x.els
  | .ended s e l m => decide (V.str (last1 t) = e) && wordB s l m (.str (init1 t))
def PD.textF (v : V) : PD → Str
  | .word .. => strV v
  | .number .. => dg (intV v)
  | .fixed w => Txt.zfill (dg (intV v)) (intV w)
  | .listed _ => strV v
  | .ended _ e _ _ => strV v ++ strV e
def PD.valF (t : Str) : PD → V
  | .word .. => .str t
  | .number .. => .int (numOf t)
  | .fixed _ => .int (numOf t)
  | .listed _ => .str t
  | .ended .. => .str (init1 t)
def txOk (t : Str) : Bool := decide (t.length ≤ 900) && (decide ((init1 t).length ≤ 900) && (!numeralB t || numOk t))
def vaOk : V → Bool
  | .int i => decide (0 ≤ i) && decide (i < 400)
  | .str z => decide (z.length ≤ 900)
  | _ => true
def idx (z : Str) : List Str → Nat
  | [] => 0
  | y :: ys => if y = z then 0 else idx z ys + 1
theorem idx_at {z : Str} : ∀ {ys : List Str}, z ∈ ys → ys[idx z ys]? = some z ∧ ∀ m, m < idx z ys → ys[m]? ≠ some z
  | [], h => by cases h
  | y :: ys, h => by
    unfold idx
    by_cases e : y = z
    · rw [if_pos e]
      exact ⟨by rw [e]; rfl, fun m hm => absurd hm (Nat.not_lt_zero _)⟩
    · rw [if_neg e]
      have h2 : z ∈ ys := by
        rcases List.mem_cons.mp h with k | k
        · exact absurd k.symm e
        · exact k
      obtain ⟨i1, i2⟩ := idx_at h2
      refine ⟨i1, fun m hm => ?_⟩
      cases m with
      | zero => exact fun k => e (Option.some.inj k)
      | succ m => exact i2 m (Nat.lt_of_succ_lt_succ hm)
def PD.bef (v u : V) : PD → Bool
  | .word .. => decide ((strV v).cps.toList < (strV u).cps.toList)
  | .number .. => decide (intV v < intV u)
  | .fixed _ => decide (intV v < intV u)
  | .listed x => decide ((idx (strV v) (x.els.map strV) : Int) < (idx (strV u) (x.els.map strV) : Int))
  | .ended .. => decide ((strV v).cps.toList < (strV u).cps.toList)
theorem in_els {x : LX} (ha : x.els.all areB = true) {z : Str} (h : inV (.str z) x.els = true) : z ∈ x.els.map strV := by
  obtain ⟨y, hy, e⟩ := List.any_eq_true.mp h
  have hy2 := List.all_eq_true.mp ha y hy
  cases y with
  | str t =>
    have e2 : t = z := by simpa [eqV] using e
    exact List.mem_map.mpr ⟨_, hy, e2⟩
  | _ => cases hy2
inductive FD where
  | pl (d : PD)
  | mk (n m : V) (d : PD)
def FdAt (K : Frag) (H : Hp) (a : Addr) : FD → Prop
  | .pl d => FieldAt K H a d ∧ d.In ∧ d.due = none
  | .mk n m d => MkAt K H a n m d ∧ d.In ∧ d.due = none ∧ (∃ c, n = .str ⟨#[c]⟩) ∧ ∃ c, m = .str ⟨#[c]⟩
theorem FdAt.same {K : Frag} {H H' : Hp} {a : Addr} (S : Same H H') : ∀ {d : FD}, FdAt K H a d → FdAt K H' a d
  | .pl _, ⟨h, i⟩ => ⟨h.same S, i⟩
  | .mk _ _ _, ⟨⟨dx, y, h, k⟩, i⟩ => ⟨⟨dx, y, S _ _ h, k.same S⟩, i⟩
def tail1 (t : Str) : Str := cutS t (some 1) none
def head1 (t : Str) : Str := cutS t none (some 1)
def FD.hasV (v : V) : FD → Bool
  | .pl d => d.hasV v
  | .mk _ _ d => decide (v = .non) || d.hasV v
def FD.textF (v : V) : FD → Str
  | .pl d => d.textF v
  | .mk n m d => if decide (v = .non) = true then strV n else strV m ++ d.textF v
def FD.bef (v u : V) : FD → Bool
  | .pl d => d.bef v u
  | .mk _ _ d => if decide (u = .non) = true then false else decide (v = .non) || d.bef v u
abbrev LA (K : Frag) : Addr := He.ga K "Layout"
def FD.ci : FD → Nat
  | .pl d => d.ci
  | .mk .. => 5
theorem FD.ci_lt : ∀ d : FD, d.ci < 6
  | .pl d => Nat.lt_of_lt_of_le d.ci_lt (by decide)
  | .mk .. => by show 5 < 6; decide
def FD.tfOk (v : V) : FD → Bool
  | .pl _ => true
  | .mk _ _ d => decide ((d.textF v).length ≤ 900)
section
variable {P : Program} {w : World} {K : Frag} {mg : Str → Option Value} {base : Heap} {f : Addr} {fd : FuncData}
theorem FdAt.ins {H : Hp} {y : Addr} : ∀ {d : FD}, FdAt K H y d → ∃ dx fs, H y = some (.ins (ca K d.ci) dx fs)
  | .pl d, ⟨h, _⟩ => by
    obtain ⟨dx, fs, e, _⟩ := h.ins
    exact ⟨dx, fs, e⟩
  | .mk _ _ _, ⟨⟨dx, y, h, _⟩, _⟩ => ⟨dx, _, h⟩
end
def fLayout (x y : V) : List (Str × V) := putF "joints" y (putF "fields" x [])
theorem lLayout_fields {x y : V} : (fLayout x y).lookup ("fields" : Str) = some x := by unfold fLayout; rw [lookup_putF, if_neg (by decide +kernel)]; rw [lookup_putF, if_pos rfl]
theorem lLayout_joints {x y : V} : (fLayout x y).lookup ("joints" : Str) = some y := by unfold fLayout; rw [lookup_putF, if_pos rfl]
def FsAt (K : Frag) (H : Hp) (ys : List V) (ds : List FD) : Prop := ys.length = ds.length ∧ ∀ (i : Nat) (v : V) (d : FD), ys[i]? = some v → ds[i]? = some d → ∃ y, v = .ref y ∧ FdAt K H y d
theorem FsAt.same {K : Frag} {H H' : Hp} {ys : List V} {ds : List FD} (S : Same H H') (h : FsAt K H ys ds) : FsAt K H' ys ds := ⟨h.1, fun i v d a b => by
  obtain ⟨y, e, k⟩ := h.2 i v d a b
  exact ⟨y, e, k.same S⟩⟩
theorem FsAt.get {K : Frag} {H : Hp} {ys : List V} {ds : List FD} (h : FsAt K H ys ds) {i : Nat} {v : V} (e : ys[i]? = some v) : ∃ y d, v = .ref y ∧ ds[i]? = some d ∧ FdAt K H y d := by
  have hi := (List.getElem?_eq_some_iff.mp e).1
  have e2 := List.getElem?_eq_getElem (show i < ds.length by rw [← h.1]; exact hi)
  obtain ⟨y, ev, k⟩ := h.2 i v _ e e2
  exact ⟨y, _, ev, e2, k⟩
def JN : List Str := ["", "!", "~"]
structure LyOk (ds : List FD) (js : List Str) : Prop where
  few : ds.length ≤ 30
  some : ds ≠ []
  len : js.length + 1 = ds.length
  jn : ∀ j ∈ js, j ∈ JN
structure LayAt (K : Frag) (H : Hp) (L : Addr) (ds : List FD) (js : List Str) : Prop where
  ex : ∃ dx t1 t2 ys, H L = some (.ins (LA K) dx (fLayout (.ref t1) (.ref t2))) ∧ SqT K H t1 ys ∧ FsAt K H ys ds ∧ SqT K H t2 (js.map V.str)
  ok : LyOk ds js
def JK : List Str := JN
theorem call_ieTK {X : Cx} {K : Frag} (h : X.K = K) : CallR X (.builtin "isinstance") (rIeT K) := by
  subst h
  exact call_ieT
theorem seqT_same {K : Frag} {H H' : Hp} {a : Addr} {xs : List V} (S : Same H H') (h : SqT K H a xs) : SqT K H' a xs := by
  rcases h with (h | ⟨o, h⟩) | h
  · exact .inl (.inl (S _ _ h))
  · exact .inl (.inr ⟨o, S _ _ h⟩)
  · exact .inr h
theorem LayAt.same {K : Frag} {H H' : Hp} {L : Addr} {ds : List FD} {js : List Str} (S : Same H H') (h : LayAt K H L ds js) : LayAt K H' L ds js := by
  obtain ⟨⟨dx, t1, t2, ys, a, b, c, d⟩, o⟩ := h
  exact ⟨⟨dx, t1, t2, ys, S _ _ a, seqT_same S b, c.same S, seqT_same S d⟩, o⟩
section
variable {P : Program} {w : World} {K : Frag} {mg : Str → Option Value} {base : Heap} {f : Addr} {fd : FuncData}
theorem kit6 (G : G4 P w K mg base) : ∀ i, i < 6 → kitAny K (.ref (ca K i)) [.ref (ca K 0), .ref (ca K 1), .ref (ca K 2), .ref (ca K 3), .ref (ca K 4), .ref (ca K 5)] = some true
  | 0, h => by
    have k := fun j (hj : j < 6) => G.kit 0 j h hj
    exact kitAny_cons (b := true) (k 0 (by decide)) (fun z => nomatch z) (fun _ => rfl)
  | 1, h => by
    have k := fun j (hj : j < 6) => G.kit 1 j h hj
    exact kitAny_cons (b := false) (k 0 (by decide)) (fun _ => kitAny_cons (b := true) (k 1 (by decide)) (fun z => nomatch z) (fun _ => rfl)) (fun z => nomatch z)
  | 2, h => by
    have k := fun j (hj : j < 6) => G.kit 2 j h hj
    exact kitAny_cons (b := false) (k 0 (by decide)) (fun _ => kitAny_cons (b := false) (k 1 (by decide)) (fun _ => kitAny_cons (b := true) (k 2 (by decide)) (fun z => nomatch z) (fun _ => rfl)) (fun z => nomatch z)) (fun z => nomatch z)
  | 3, h => by
    have k := fun j (hj : j < 6) => G.kit 3 j h hj
    exact kitAny_cons (b := false) (k 0 (by decide)) (fun _ => kitAny_cons (b := false) (k 1 (by decide)) (fun _ => kitAny_cons (b := false) (k 2 (by decide)) (fun _ => kitAny_cons (b := true) (k 3 (by decide)) (fun z => nomatch z) (fun _ => rfl)) (fun z => nomatch z)) (fun z => nomatch z)) (fun z => nomatch z)
  | 4, h => by
    have k := fun j (hj : j < 6) => G.kit 4 j h hj
    exact kitAny_cons (b := false) (k 0 (by decide)) (fun _ => kitAny_cons (b := false) (k 1 (by decide)) (fun _ => kitAny_cons (b := false) (k 2 (by decide)) (fun _ => kitAny_cons (b := false) (k 3 (by decide)) (fun _ => kitAny_cons (b := true) (k 4 (by decide)) (fun z => nomatch z) (fun _ => rfl)) (fun z => nomatch z)) (fun z => nomatch z)) (fun z => nomatch z)) (fun z => nomatch z)
  | 5, h => by
    have k := fun j (hj : j < 6) => G.kit 5 j h hj
    exact kitAny_cons (b := false) (k 0 (by decide)) (fun _ => kitAny_cons (b := false) (k 1 (by decide)) (fun _ => kitAny_cons (b := false) (k 2 (by decide)) (fun _ => kitAny_cons (b := false) (k 3 (by decide)) (fun _ => kitAny_cons (b := false) (k 4 (by decide)) (fun _ => kitAny_cons (b := true) (k 5 (by decide)) (fun z => nomatch z) (fun _ => rfl)) (fun z => nomatch z)) (fun z => nomatch z)) (fun z => nomatch z)) (fun z => nomatch z)) (fun z => nomatch z)
  | n + 6, h => absurd h (by omega)
end
theorem append_len (a b : Str) : (a ++ b).length = a.length + b.length := by
  show (a.cps ++ b.cps).size = _
  rw [Array.size_append]
  rfl
theorem sum_len {α : Type} {f : α → Nat} {k : Nat} : ∀ (xs : List α), (∀ x ∈ xs, f x ≤ k) → (xs.map f).sum ≤ xs.length * k
  | [], _ => Nat.zero_le _
  | x :: xs, h => by
    have h1 := h x (List.mem_cons_self ..)
    have h2 := sum_len xs fun y hy => h y (List.mem_cons_of_mem _ hy)
    rw [List.map_cons, List.sum_cons, List.length_cons, Nat.succ_mul]
    omega
end L2.K22

set_option Elab.async false
set_option linter.all false
set_option maxRecDepth 100000
set_option maxHeartbeats 4000000
/-! Layouts: what is refused. -/
namespace L2.K22
open PySem PySem.W PySem.Spec PySem.Calls PyProof.Rows L2.Jk
structure Q0 (P : Program) (w : World) (K : Frag) (mg : Str → Option Value) (base : Heap) : Prop extends G5 P w K mg base where
  byl : ErrAt P w K mg base "BadLayout" (BY K) ["what"] "refused badlayout"
  low : ∃ t, mg "LOW" = some (.str "!" t)
  high : ∃ t, mg "HIGH" = some (.str "~" t)
  cLayout : C0 K mg "Layout" ["fields", "joints"]
  kitO : ∀ T ∈ (["NoneType", "str", "int", "bool", "tuple", "list"] : List String), ∀ j, j < 6 → kitOne K (.type T) (.ref (ca K j)) = some false
/-! ### sequences -/
inductive SeqIs (K : Frag) (H : Hp) : V → Option (List V) → Prop
  | flat {v : V} (h : flatV v = true) : SeqIs K H v none
  | dict {p : Addr} {kvs : List (Key × V)} (h : H p = some (.dK kvs)) : SeqIs K H (.ref p) none
  | lst {p : Addr} {xs : List V} (h : H p = some (.lst xs)) : SeqIs K H (.ref p) (some xs)
  | tup {p : Addr} {xs : List V} (h : H p = some (.tup xs)) : SeqIs K H (.ref p) (some xs)
theorem SeqIs.same {K : Frag} {H H' : Hp} {v : V} {o : Option (List V)} (S : Same H H') : SeqIs K H v o → SeqIs K H' v o
  | .flat h => .flat h
  | .dict h => .dict (S _ _ h)
  | .lst h => .lst (S _ _ h)
  | .tup h => .tup (S _ _ h)
theorem SeqIs.sqb {K : Frag} {H : Hp} {v : V} {xs : List V} (h : SeqIs K H v (some xs)) : ∃ p, v = .ref p ∧ (SqL K H p xs ∨ SqT K H p xs) := by
  cases h with
  | lst h => exact ⟨_, rfl, .inl (SqL.of h)⟩
  | tup h => exact ⟨_, rfl, .inr (SqT.of h)⟩
def spSeq (K : Frag) : Sp := fun vs H Q _ => ∃ (v : V) (o : Option (List V)), vs = [v] ∧ SeqIs K H v o ∧ ∀ H', Same H H' → Q (.bl o.isSome) H'
section
variable {P : Program} {w : World} {K : Frag} {mg : Str → Option Value} {base : Heap} {f : Addr} {fd : FuncData}

abbrev s_is_sequence : Stmt := top 32
theorem sc_is_sequence : FnScope ["thing"] ["thing"] (defScope s_is_sequence) := ⟨rfl, rfl, rfl, by decide +kernel, rfl, by decide +kernel, by decide +kernel⟩

theorem ok_is_sequence (F : FunD K "is_sequence" "is_sequence" (defArgs s_is_sequence) (defBody s_is_sequence) (defScope s_is_sequence) [] [] f fd) (G : Q0 P w K mg base) : FnOk P w K mg base CX0 1 f fd ["thing"] (spSeq K) := by
  refine F.ok (CX := CX0) sc_is_sequence (fun vs H Q E h => ?_) (fun cdv A outer s H vs Q E hr h => ?_)
  · obtain ⟨v, o, rfl, _⟩ := h
    rfl
  · refine ⟨_, PSs.nox (pss_one (ps_ret (pe_callB call_ieT (by rfl) G.isinstance (by decide +kernel) (pa_cons (pv 0) (pa_cons (pe_tupS (pa_cons (pe_bty (n := "list") (by rfl) G.list (by decide +kernel)) (pa_cons (pe_bty (n := "tuple") (by rfl) G.tuple (by decide +kernel)) pa_nil))) pa_nil))))), ?_⟩
    obtain ⟨v, o, rfl, h, q⟩ := h
    refine ⟨_, rfl, by show 2 ≤ 1000; decide, fun p0 H0 hp0 S0 e0 => ?_⟩
    have h := h.same S0
    have hn : ∀ S : String, kitB S "list" = some false → kitB S "tuple" = some false → kitAny K (.type S) [.type "list", .type "tuple"] = some false := fun S a b =>
      kitAny_cons (b := false) (kit_ty a) (fun _ => kitAny_cons (b := false) (kit_ty b) (fun _ => kitAny_nil) (fun z => nomatch z)) (fun z => nomatch z)
    cases h with
    | flat hf =>
      refine ⟨_, p0, _, _, _, false, rfl, e0, .cons (.ty _) (.cons (.ty _) Paired.nil), flat_ty hf, ?_, q _ S0⟩
      cases v with
      | non => exact hn "NoneType" (by decide +kernel) (by decide +kernel)
      | bl b => exact hn "bool" (by decide +kernel) (by decide +kernel)
      | int i => exact hn "int" (by decide +kernel) (by decide +kernel)
      | str z => exact hn "str" (by decide +kernel) (by decide +kernel)
      | _ => cases hf
    | dict hd => exact ⟨_, p0, _, _, _, false, rfl, e0, .cons (.ty _) (.cons (.ty _) Paired.nil), .x (.base (.dK hd)), hn "dict" (by decide +kernel) (by decide +kernel), q _ S0⟩
    | lst hl => exact ⟨_, p0, _, _, _, true, rfl, e0, .cons (.ty _) (.cons (.ty _) Paired.nil), .x (.base (.lst hl)), (kit_LT K).1, q _ S0⟩
    | tup hl => exact ⟨_, p0, _, _, _, true, rfl, e0, .cons (.ty _) (.cons (.ty _) Paired.nil), .x (.base (.tup hl)), (kit_LT K).2.1, q _ S0⟩

structure Q1 (P : Program) (w : World) (K : Frag) (mg : Str → Option Value) (base : Heap) : Prop extends Q0 P w K mg base where
  is_sequence : FnAt P w K mg base CX0 1 "is_sequence" ["thing"] (spSeq K)
/-- an item of what is handed in as fields: a field, or something else -/
def Itm (K : Frag) (H : Hp) (y : V) (g : Bool) : Prop := if g = true then ∃ a dx fs i, y = .ref a ∧ H a = some (.ins (ca K i) dx fs) ∧ i < 6 else flatV y = true ∨ ∃ a, y = .ref a ∧ ((∃ xs, H a = some (.lst xs)) ∨ ∃ xs, H a = some (.tup xs))
theorem Itm.same {K : Frag} {H H' : Hp} {y : V} {g : Bool} (S : Same H H') (h : Itm K H y g) : Itm K H' y g := by
  unfold Itm at h ⊢
  cases g with
  | true =>
    obtain ⟨a, dx, fs, i, e, k, hi⟩ := h
    exact ⟨a, dx, fs, i, e, S _ _ k, hi⟩
  | false =>
    rcases h with h | ⟨a, e, ⟨xs, h⟩ | ⟨xs, h⟩⟩
    · exact .inl h
    · exact .inr ⟨a, e, .inl ⟨xs, S _ _ h⟩⟩
    · exact .inr ⟨a, e, .inr ⟨xs, S _ _ h⟩⟩
def Itms (K : Frag) (H : Hp) (ys : List V) (gs : List Bool) : Prop := gs.length = ys.length ∧ ∀ (i : Nat) (y : V) (g : Bool), ys[i]? = some y → gs[i]? = some g → Itm K H y g
theorem Itms.same {K : Frag} {H H' : Hp} {ys : List V} {gs : List Bool} (S : Same H H') (h : Itms K H ys gs) : Itms K H' ys gs := ⟨h.1, fun i y g a b => (h.2 i y g a b).same S⟩
/-- what is handed in as fields -/
def FsIn (K : Frag) (H : Hp) (v : V) (o : Option (List V)) (gs : List Bool) : Prop := SeqIs K H v o ∧ ∀ ys, o = some ys → ys.length ≤ 1000 ∧ Itms K H ys gs
theorem FsIn.same {K : Frag} {H H' : Hp} {v : V} {o : Option (List V)} {gs : List Bool} (S : Same H H') (h : FsIn K H v o gs) : FsIn K H' v o gs := ⟨h.1.same S, fun ys e => ⟨(h.2 ys e).1, (h.2 ys e).2.same S⟩⟩
def fsGood (o : Option (List V)) (gs : List Bool) : Bool := match o with
  | none => false
  | some ys => !decide (ys.length = 0) && gs.all id
def spCkF (K : Frag) : Sp := fun vs H Q E => ∃ (v : V) (o : Option (List V)) (gs : List Bool), vs = [v] ∧ FsIn K H v o gs ∧ (fsGood o gs = true → ∀ H', Same H H' → Q .non H') ∧ (fsGood o gs = false → RaiseE (BY K) "what" (.str "fields") H E)
theorem kitO6 (G : Q0 P w K mg base) {T : String} (h : T ∈ (["NoneType", "str", "int", "bool", "tuple", "list"] : List String)) : kitAny K (.type T) [.ref (ca K 0), .ref (ca K 1), .ref (ca K 2), .ref (ca K 3), .ref (ca K 4), .ref (ca K 5)] = some false := by
  have k := G.kitO T h
  exact kitAny_cons (b := false) (k 0 (by decide)) (fun _ => kitAny_cons (b := false) (k 1 (by decide)) (fun _ => kitAny_cons (b := false) (k 2 (by decide)) (fun _ => kitAny_cons (b := false) (k 3 (by decide)) (fun _ => kitAny_cons (b := false) (k 4 (by decide)) (fun _ => kitAny_cons (b := false) (k 5 (by decide)) (fun _ => kitAny_nil) (fun z => nomatch z)) (fun z => nomatch z)) (fun z => nomatch z)) (fun z => nomatch z)) (fun z => nomatch z)) (fun z => nomatch z)
theorem itm_kit (G : Q0 P w K mg base) {H : Hp} {y : V} {g : Bool} (h : Itm K H y g) : ∃ t, TyE K H y t ∧ kitAny K t [.ref (ca K 0), .ref (ca K 1), .ref (ca K 2), .ref (ca K 3), .ref (ca K 4), .ref (ca K 5)] = some g := by
  unfold Itm at h
  cases g with
  | true =>
    obtain ⟨a, dx, fs, i, rfl, k, hi⟩ := h
    exact ⟨_, G.ty hi k, kit6 G.toG4 _ hi⟩
  | false =>
    rcases h with h | ⟨a, rfl, ⟨xs, h⟩ | ⟨xs, h⟩⟩
    · refine ⟨_, flat_ty h, ?_⟩
      cases y with
      | non => exact kitO6 G (T := "NoneType") (by decide)
      | bl b => exact kitO6 G (T := "bool") (by decide)
      | int i => exact kitO6 G (T := "int") (by decide)
      | str z => exact kitO6 G (T := "str") (by decide)
      | _ => cases h
    · exact ⟨_, .x (.base (.lst h)), kitO6 G (T := "list") (by decide)⟩
    · exact ⟨_, .x (.base (.tup h)), kitO6 G (T := "tuple") (by decide)⟩

abbrev s_check_fields : Stmt := top 33
theorem sc_check_fields : FnScope ["fields", "field"] ["fields"] (defScope s_check_fields) := ⟨rfl, rfl, rfl, by decide +kernel, rfl, by decide +kernel, by decide +kernel⟩

theorem ok_check_fields (F : FunD K "check_fields" "check_fields" (defArgs s_check_fields) (defBody s_check_fields) (defScope s_check_fields) [] [] f fd) (G : Q1 P w K mg base) : FnOk P w K mg base (L2.CX P w) 3 f fd ["fields"] (spCkF K) := by
  refine F.ok (CX := (L2.CX P w)) sc_check_fields (fun vs H Q E h => ?_) (fun cdv A outer s H vs Q E hr h => ?_)
  · obtain ⟨v, o, gs, rfl, _⟩ := h
    rfl
  · have hr2 : Room 2 _ := hr.mono (by decide)
    refine ⟨_, (pss_cons (ps_if (PW.pt (pw_or (pt_not (pt_val (pe_fn G.is_sequence (hr.mono (by decide)) pass0 (by rfl) (pa_cons (pv 0) pa_nil)))) (pw_or1 (pt_cmpR op_eq (pe_callB call_len_seq (by rfl) G.len (by decide +kernel) (pa_cons (pv 0) pa_nil)) pe_int (nomark _)))))
      (pss_one (ps_raise rfl (takes_of rfl rfl rfl rfl) (pmk_1 G.byl hr2 (by rfl) (pa_cons pe_str pa_nil))))
      pss_nil)
    (pss_one (ps_if (pt_not (pt_val (pe_callB (cr_all rfl) (by rfl) G.all (by decide +kernel) (pa_cons (pe_lc (own := [("field", 1)]) (g := gName 1) (tt := tYes) rfl sc_check_fields.nd (pi_or (pi_list (pv 0)) (pi_tup (pv 0))) (blkOk_by (N := ["fields", "field"]) (sc := defScope s_check_fields) (by decide +kernel)) (fun _ _ _ _ _ => pg_name (i := 1) sc_check_fields.nd rfl (Or.inl rfl)) (fun _ _ _ _ _ => pts_nil) (fun _ _ _ _ _ => (pe_callB (call_ieTK (K := K) rfl) (by rfl) G.isinstance (by decide +kernel) (pa_cons (pv 1) (pa_cons (pe_tupS (pa_cons (pe_gref (by rfl) G.cWord.mgC) (pa_cons (pe_gref (by rfl) G.cNumber.mgC) (pa_cons (pe_gref (by rfl) G.cFixed.mgC) (pa_cons (pe_gref (by rfl) G.cListed.mgC) (pa_cons (pe_gref (by rfl) G.cEnded.mgC) (pa_cons (pe_gref (by rfl) G.cMarked.mgC) pa_nil))))))) pa_nil))))) pa_nil))))
      (pss_one (ps_raise rfl (takes_of rfl rfl rfl rfl) (pmk_1 G.byl hr2 (by rfl) (pa_cons pe_str pa_nil))))
      pss_nil))), ?_⟩
    obtain ⟨v, o, gs, rfl, hI, q1, q2⟩ := h
    refine ⟨_, rfl, v, o, rfl, hI.1, fun H0 S0 => ⟨_, rfl, ?_⟩⟩
    have hI0 := hI.same S0
    cases o with
    | none => exact iteT (mkO_1 (raise_mono S0 (q2 rfl)))
    | some ys =>
    refine iteF ?_
    obtain ⟨p, rfl, hor⟩ := hI0.1.sqb
    obtain ⟨hz, hit⟩ := hI0.2 ys rfl
    refine ⟨_, rfl, p, ys, rfl, hor, rfl, _, rfl, ?_⟩
    refine ite2 (fun c => mkO_1 (raise_mono S0 (q2 ?_))) (fun c => ?_)
    · show (!decide (ys.length = 0) && _) = false
      rw [decide_eq_true (show ys.length = 0 by have z := of_decide_eq_true c; injection z with z; omega)]
      rfl
    have hne : ys.length ≠ 0 := fun z => c (decide_eq_true (by rw [z]; rfl))
    have hgl : gs.length = ys.length := hit.1
    have fin : ∀ (D : Addr) (J : Hp), Same H0 J → J D = some (.lst (gs.map V.bl)) → (if (!gs.all id) = true then RaiseE (BY K) "what" (.str "fields") J E else Q .non J) := fun D J S e => by
      have r : fsGood (some ys) gs = gs.all id := by
        show (!decide (ys.length = 0) && gs.all id) = gs.all id
        rw [decide_eq_false hne]
        rfl
      cases z : gs.all id with
      | true => exact q1 (r.trans z) _ (S0.trans S)
      | false => exact raise_mono (S0.trans S) (q2 (r.trans z))
    rcases hor with hl | hl
    · refine .inl ⟨_, rfl, p, rfl, ⟨_, hl⟩, fun D hD => ?_⟩
      refine lc_list (K := K) (a := p) (xs := ys) (LcP H0 D fun n => (gs.take n).map V.bl) (LcP.start hD rfl) (fun i J hi pJ => pJ.1.seq hl) ?_ ?_
      · intro i v J hv pJ
        have hlt := (List.getElem?_eq_some_iff.mp hv).1
        have hg := List.getElem?_eq_getElem (show i < gs.length by omega)
        refine ⟨rfl, _, rfl, by show 6 ≤ 1000; decide, fun p1 H1 hp1 S1 e1 => ?_⟩
        obtain ⟨t, ty, kt⟩ := itm_kit G.toQ0 ((hit.2 i v _ hv hg).same (pJ.1.trans S1))
        exact ⟨_, p1, _, t, _, _, rfl, e1, .cons (.own _) (.cons (.own _) (.cons (.own _) (.cons (.own _) (.cons (.own _) (.cons (.own _) Paired.nil))))), ty, kt, pJ.put S1 (by rw [List.take_add_one, hg, List.map_append]; rfl) (by omega)⟩
      · rintro J ⟨S1, _, eJ, _⟩
        have eJ2 : J D = some (.lst (gs.map V.bl)) := by rw [eJ]; show some (HO.lst ((gs.take ys.length).map V.bl)) = _; rw [← hgl, List.take_length]
        have z := fin D J S1 eJ2
        refine ⟨D, gs, rfl, SqL.of eJ2, _, rfl, ?_⟩
        refine ite2 (fun c => ?_) (fun c => ?_)
        · rw [if_pos c] at z
          exact mkO_1 z
        · rw [if_neg c] at z
          exact z
    · refine .inr ⟨_, rfl, p, rfl, ⟨_, hl⟩, fun D hD => ?_⟩
      refine lc_tup (K := K) (a := p) (xs := ys) (LcP H0 D fun n => (gs.take n).map V.bl) (LcP.start hD rfl) (fun i J hi pJ => seqT_same pJ.1 hl) ?_ ?_
      · intro i v J hv pJ
        have hlt := (List.getElem?_eq_some_iff.mp hv).1
        have hg := List.getElem?_eq_getElem (show i < gs.length by omega)
        refine ⟨rfl, _, rfl, by show 6 ≤ 1000; decide, fun p1 H1 hp1 S1 e1 => ?_⟩
        obtain ⟨t, ty, kt⟩ := itm_kit G.toQ0 ((hit.2 i v _ hv hg).same (pJ.1.trans S1))
        exact ⟨_, p1, _, t, _, _, rfl, e1, .cons (.own _) (.cons (.own _) (.cons (.own _) (.cons (.own _) (.cons (.own _) (.cons (.own _) Paired.nil))))), ty, kt, pJ.put S1 (by rw [List.take_add_one, hg, List.map_append]; rfl) (by omega)⟩
      · rintro J ⟨S1, _, eJ, _⟩
        have eJ2 : J D = some (.lst (gs.map V.bl)) := by rw [eJ]; show some (HO.lst ((gs.take ys.length).map V.bl)) = _; rw [← hgl, List.take_length]
        have z := fin D J S1 eJ2
        refine ⟨D, gs, rfl, SqL.of eJ2, _, rfl, ?_⟩
        refine ite2 (fun c => ?_) (fun c => ?_)
        · rw [if_pos c] at z
          exact mkO_1 z
        · rw [if_neg c] at z
          exact z

structure Q2 (P : Program) (w : World) (K : Frag) (mg : Str → Option Value) (base : Heap) : Prop extends Q1 P w K mg base where
  check_fields : FnAt P w K mg base (L2.CX P w) 3 "check_fields" ["fields"] (spCkF K)
def jnB : V → Bool
  | .str z => inV (.str z) [V.str "", V.str "!", V.str "~"]
  | _ => false
def spJn : Sp := fun vs H Q _ => ∃ v : V, vs = [v] ∧ Thg H v ∧ ∀ H', Same H H' → Q (.bl (jnB v)) H'

abbrev s_is_joint : Stmt := top 34
theorem sc_is_joint : FnScope ["thing"] ["thing"] (defScope s_is_joint) := ⟨rfl, rfl, rfl, by decide +kernel, rfl, by decide +kernel, by decide +kernel⟩

theorem ok_is_joint (F : FunD K "is_joint" "is_joint" (defArgs s_is_joint) (defBody s_is_joint) (defScope s_is_joint) [] [] f fd) (G : Q0 P w K mg base) : FnOk P w K mg base CX0 1 f fd ["thing"] spJn := by
  refine F.ok (CX := CX0) sc_is_joint (fun vs H Q E h => ?_) (fun cdv A outer s H vs Q E hr h => ?_)
  · obtain ⟨v, rfl, _⟩ := h
    rfl
  · refine ⟨_, PSs.nox (pss_one (ps_ret (pe_and (pe_callB call_ie (by rfl) G.isinstance (by decide +kernel) (pa_cons (pv 0) (pa_cons (pe_bty (n := "str") (by rfl) G.str (by decide +kernel)) pa_nil))) (pe_one (pe_cmpR op_in_seq (pv 0) (pe_tupS (pa_cons pe_str (pa_cons (pe_sg G.low) (pa_cons (pe_sg G.high) pa_nil)))) (by rfl)))))), ?_⟩
    obtain ⟨v, rfl, hv, q⟩ := h
    obtain ⟨T, ty, ks, _, _⟩ := thg_ty (K := K) hv
    refine ⟨_, rfl, _, _, _, _, _, rfl, .ty _, ty, kit_ty ks, _, rfl, ?_⟩
    cases v with
    | str z => exact iteT ⟨_, rfl, by show 3 ≤ 1000; decide, fun p H1 hp S1 e1 => ⟨p, _, rfl, .inr (SqT.of e1), rfl, rfl, q _ S1⟩⟩
    | _ => exact iteF (q _ (Same.refl _))

structure Q3 (P : Program) (w : World) (K : Frag) (mg : Str → Option Value) (base : Heap) : Prop extends Q2 P w K mg base where
  is_joint : FnAt P w K mg base CX0 1 "is_joint" ["thing"] spJn
/-- what is handed in as joints -/
def JsIn (K : Frag) (H : Hp) (v : V) (o : Option (List V)) : Prop := SeqIs K H v o ∧ ∀ xs, o = some xs → xs.length ≤ 1000 ∧ ∀ x ∈ xs, Thg H x
theorem JsIn.same {K : Frag} {H H' : Hp} {v : V} {o : Option (List V)} (S : Same H H') (h : JsIn K H v o) : JsIn K H' v o := ⟨h.1.same S, fun ys e => ⟨(h.2 ys e).1, fun x hx => ((h.2 ys e).2 x hx).same S⟩⟩
def jsGood (n : Nat) (o : Option (List V)) : Bool := match o with
  | none => false
  | some xs => decide (xs.length + 1 = n) && xs.all jnB
def oLen : Option (List V) → Nat
  | none => 0
  | some ys => ys.length
/-- the layout's own parameters -/
def spLay (K : Frag) : Sp := fun vs H Q E => ∃ (L dx : Addr) (v u : V) (o o2 : Option (List V)) (gs : List Bool), vs = [.ref L, v, u] ∧ H L = some (.ins (LA K) dx []) ∧ FsIn K H v o gs ∧ JsIn K H u o2 ∧
  (fsGood o gs = false → RaiseE (BY K) "what" (.str "fields") H E) ∧ (fsGood o gs = true → jsGood (oLen o) o2 = false → RaiseE (BY K) "what" (.str "joints") H E) ∧
  (fsGood o gs = true → jsGood (oLen o) o2 = true → ∀ ys xs, o = some ys → o2 = some xs → ∀ H' t1 t2, Same H H' → SqT K H' t1 ys → SqT K H' t2 xs → Q .non (upd H' L (.ins (LA K) dx (fLayout (.ref t1) (.ref t2)))))
def rTupA2 (K : Frag) : List V → Hp → VK → Prop := fun xs H Q => ∃ p ys, xs = [.ref p] ∧ (SqL K H p ys ∨ SqT K H p ys) ∧ ∀ t H', Same H H' → SqT K H' t ys → (t = p ∨ H t = none) → Q (.ref t) H'
theorem call_tupleA2 {X : Cx} : CallR X (.type "tuple") (rTupA2 X.K) := by
  intro pins s σ H xs us Q I r h
  obtain ⟨p, ys, e, hh, q⟩ := h
  exact call_tupleZ pins s σ H xs us Q I r ⟨p, ys, e, hh.imp (fun hl => ⟨hl, fun l H' hn S z => q l H' S z.sq (.inr hn)⟩) (fun ht => ⟨ht, q p H (Same.refl _) ht (.inl rfl)⟩)⟩
theorem ne_tup {H : Hp} {p t L : Addr} (n : p ≠ L) (hL : H L ≠ none) (h : t = p ∨ H t = none) : t ≠ L := by
  rcases h with rfl | h
  · exact n
  · exact fun e => hL (by rw [← e]; exact h)
theorem seqT_ne {K : Frag} {H : Hp} {t L : Addr} {o : HO} {xs : List V} (n : t ≠ L) (h : SqT K H t xs) : SqT K (upd H L o) t xs := by
  rcases h with (h | ⟨u, h⟩) | h
  · exact .inl (.inl (by rw [upd_ne n]; exact h))
  · exact .inl (.inr ⟨u, by rw [upd_ne n]; exact h⟩)
  · exact .inr h
theorem seqL_ne {K : Frag} {H : Hp} {t L : Addr} {o : HO} {xs : List V} (n : t ≠ L) (h : SqL K H t xs) : SqL K (upd H L o) t xs := by
  rcases h with (h | ⟨u, h⟩) | h
  · exact .inl (.inl (by rw [upd_ne n]; exact h))
  · exact .inl (.inr ⟨u, by rw [upd_ne n]; exact h⟩)
  · exact .inr h
theorem ne_lay {H : Hp} {p L dx C : Addr} {fs : List (Str × V)} {K : Frag} {v : V} {o : Option (List V)} (h : SeqIs K H v o) (hL : H L = some (.ins C dx fs)) (e : v = .ref p) : p ≠ L := fun z => by
  subst e
  cases h with
  | flat h => cases h
  | dict h => rw [z, hL] at h; cases h
  | lst h => rw [z, hL] at h; cases h
  | tup h => rw [z, hL] at h; cases h

abbrev s_Layout_init : Stmt := inClass (top 35) 0
theorem sc_Layout_init : FnScope ["self", "fields", "joints", "joint"] ["self", "fields", "joints"] (defScope s_Layout_init) := ⟨rfl, rfl, rfl, by decide +kernel, rfl, by decide +kernel, by decide +kernel⟩

theorem ok_Layout_init (F : FunD K "__init__" "Layout.__init__" (defArgs s_Layout_init) (defBody s_Layout_init) (defScope s_Layout_init) [] [] f fd) (G : Q3 P w K mg base) : FnOk P w K mg base (L2.CX P w) 4 f fd ["self", "fields", "joints"] (spLay K) := by
  refine F.ok (CX := (L2.CX P w)) sc_Layout_init (fun vs H Q E h => ?_) (fun cdv A outer s H vs Q E hr h => ?_)
  · obtain ⟨L, dx, v, u, o, o2, gs, rfl, _⟩ := h
    rfl
  · have hr2 : Room 2 _ := hr.mono (by decide)
    refine ⟨_, (pss_cons (ps_expr (pe_fnS G.check_fields hr (fun σ => passAt (takes_of rfl rfl rfl rfl) σ) (by rfl) (pa_cons (pv 1) pa_nil)))
    (pss_cons (ps_if (PW.pt (pw_or (pt_not (pt_val (pe_fn G.is_sequence (hr.mono (by decide)) pass0 (by rfl) (pa_cons (pv 2) pa_nil)))) (pw_or1 (pt_cmpR op_ne (pe_callB call_len_seq (by rfl) G.len (by decide +kernel) (pa_cons (pv 2) pa_nil)) (pe_op op_sub (pe_callB call_len_seq (by rfl) G.len (by decide +kernel) (pa_cons (pv 1) pa_nil)) pe_int) (nomark _)))))
      (pss_one (ps_raise rfl (takes_of rfl rfl rfl rfl) (pmk_1 G.byl hr2 (by rfl) (pa_cons pe_str pa_nil))))
      pss_nil)
    (pss_cons (ps_if (pt_not (pt_val (pe_callB (cr_all rfl) (by rfl) G.all (by decide +kernel) (pa_cons (pe_lc (own := [("joint", 3)]) (g := gName 3) (tt := tYes) rfl sc_Layout_init.nd (pi_or (pi_list (pv 2)) (pi_tup (pv 2))) (blkOk_by (N := ["self", "fields", "joints", "joint"]) (sc := defScope s_Layout_init) (by decide +kernel)) (fun _ _ _ _ _ => pg_name (i := 3) sc_Layout_init.nd rfl (Or.inl rfl)) (fun _ _ _ _ _ => pts_nil) (fun _ _ _ _ _ => (pe_fn G.is_joint (hr.mono (by decide)) pass0 (by rfl) (pa_cons (pv 3) pa_nil)))) pa_nil))))
      (pss_one (ps_raise rfl (takes_of rfl rfl rfl rfl) (pmk_1 G.byl hr2 (by rfl) (pa_cons pe_str pa_nil))))
      pss_nil)
    (pss_cons (ps_fld (pv 0) (pe_callTy call_tupleA2 (by rfl) G.tuple (by decide +kernel) (pa_cons (pv 1) pa_nil)) rfl)
    (pss_one (ps_fld (pv 0) (pe_callTy call_tupleA2 (by rfl) G.tuple (by decide +kernel) (pa_cons (pv 2) pa_nil)) rfl)))))), ?_⟩
    obtain ⟨L, dx, v, u, o, o2, gs, rfl, hL, hI, hJ, q1, q2, q3⟩ := h
    refine ⟨_, rfl, v, o, gs, rfl, hI, fun gd H0 S0 => ?_, fun gd => q1 gd⟩
    have hI0 := hI.same S0
    have hJ0 := hJ.same S0
    refine ⟨_, rfl, u, o2, rfl, hJ0.1, fun H1 S1 => ⟨_, rfl, ?_⟩⟩
    have T1 := S0.trans S1
    have hI1 := hI.same T1
    have hJ1 := hJ.same T1
    cases o2 with
    | none => exact iteT (mkO_1 (raise_mono T1 (q2 gd rfl)))
    | some xs =>
    refine iteF ?_
    cases o with
    | none => cases gd
    | some ys =>
    obtain ⟨p2, rfl, hor2⟩ := hJ1.1.sqb
    obtain ⟨p, rfl, hor⟩ := hI1.1.sqb
    obtain ⟨hz2, hth⟩ := hJ1.2 xs rfl
    obtain ⟨hz, hit⟩ := hI1.2 ys rfl
    refine ⟨_, rfl, p2, _, rfl, hor2, _, rfl, p, _, rfl, hor, _, _, rfl, rfl, rfl, _, rfl, ?_⟩
    refine ite2 (fun c => mkO_1 (raise_mono T1 (q2 gd ?_))) (fun c => ?_)
    · have c2 : V.int (xs.length : Nat) ≠ V.int ((ys.length : Int) - 1) := fun e => by
        rw [decide_eq_true e] at c
        cases c
      show (decide (xs.length + 1 = ys.length) && _) = false
      rw [decide_eq_false (fun e => c2 (congrArg V.int (by omega)))]
      rfl
    have hjl : xs.length + 1 = ys.length := by
      have e : decide (V.int (xs.length : Nat) = V.int ((ys.length : Int) - 1)) = true := by
        cases e : decide (V.int (xs.length : Nat) = V.int ((ys.length : Int) - 1)) with
        | true => rfl
        | false => exact absurd (show (!decide (V.int (xs.length : Nat) = V.int ((ys.length : Int) - 1))) = true by rw [e]; rfl) c
      have z := of_decide_eq_true e
      injection z with z
      omega
    have r : jsGood ys.length (some xs) = xs.all jnB := by
      show (decide (xs.length + 1 = ys.length) && xs.all jnB) = _
      rw [decide_eq_true hjl]
      rfl
    have fin : ∀ (D : Addr) (J : Hp), Same H1 J → J D = some (.lst ((xs.map jnB).map V.bl)) → xs.all jnB = false → RaiseE (BY K) "what" (.str "joints") J E := fun D J S e z => raise_mono (T1.trans S) (q2 gd (r.trans z))
    have nL : p ≠ L := ne_lay hI.1 hL rfl
    have nL2 : p2 ≠ L := ne_lay hJ.1 hL rfl
    have hL1 : H1 L = some (.ins (LA K) dx []) := T1 _ _ hL
    rcases hor2 with hl | hl
    · refine .inl ⟨_, rfl, p2, rfl, ⟨_, hl⟩, fun D hD => ?_⟩
      refine lc_list (K := K) (a := p2) (xs := xs) (LcP H1 D fun n => ((xs.take n).map jnB).map V.bl) (LcP.start hD rfl) (fun i J hi pJ => pJ.1.seq hl) ?_ ?_
      · intro i v J hv pJ
        have hlt := (List.getElem?_eq_some_iff.mp hv).1
        exact ⟨rfl, _, rfl, v, rfl, (hth v (List.mem_of_getElem? hv)).same pJ.1, fun H2 S2 => pJ.put S2 (by rw [List.take_add_one, hv, List.map_append, List.map_append]; rfl) (by omega)⟩
      · rintro J ⟨S2, _, eJ, _⟩
        have eJ2 : J D = some (.lst ((xs.map jnB).map V.bl)) := by rw [eJ]; show some (HO.lst (((xs.take xs.length).map jnB).map V.bl)) = _; rw [List.take_length]
        have ea : (xs.map jnB).all id = xs.all jnB := by rw [List.all_map]; rfl
        refine ⟨D, xs.map jnB, rfl, SqL.of eJ2, _, rfl, ?_⟩
        rw [ea]
        refine ite2 (fun c => ?_) (fun c => ?_)
        · exact mkO_1 (fin D J S2 eJ2 (by cases z : xs.all jnB with
            | false => rfl
            | true => rw [z] at c; cases c))
        · have good : xs.all jnB = true := by
            cases z : xs.all jnB with
            | true => rfl
            | false => rw [z] at c; exact absurd rfl c
          have hLJ := S2 _ _ hL1
          refine ⟨_, rfl, p, ys, rfl, hor.imp (fun h => S2.seq h) (fun h => seqT_same S2 h), fun t1 J3 S3 w1 n1 => ?_⟩
          replace n1 := ne_tup nL (by rw [hLJ]; exact fun e => by cases e) n1
          have hL3 := S3 _ _ hLJ
          refine ⟨_, rfl, L, _, dx, _, rfl, hL3, G.cLayout.cl, G.cLayout.no _ (by decide +kernel), (by show 0 < 1000; decide), ?_⟩
          have w2 : SqL K J3 p2 xs := (S2.trans S3).seq hl
          refine ⟨_, rfl, p2, xs, rfl, .inl (seqL_ne nL2 w2), fun t2 J4 S4 w3 n2 => ?_⟩
          replace n2 := ne_tup nL2 (by rw [upd_same]; exact fun e => by cases e) n2
          refine ⟨_, rfl, L, _, dx, _, rfl, S4 _ _ upd_same, G.cLayout.cl, G.cLayout.no _ (by decide +kernel), (by show 1 < 1000; decide), ?_⟩
          have z := q3 gd (r.trans good) ys xs rfl rfl (upd J4 L (.ins (LA K) dx [])) t1 t2 (fun b o e => by
            by_cases hb : b = L
            · subst hb
              rw [upd_same]
              rw [hL] at e
              exact e
            · rw [upd_ne hb]
              refine S4 _ _ ?_
              rw [upd_ne hb]
              exact S3 _ _ (S2 _ _ (T1 _ _ e))) (seqT_ne n1 (seqT_same S4 (seqT_ne n1 w1))) (seqT_ne n2 w3)
          rw [upd_upd] at z
          exact z
    · refine .inr ⟨_, rfl, p2, rfl, ⟨_, hl⟩, fun D hD => ?_⟩
      refine lc_tup (K := K) (a := p2) (xs := xs) (LcP H1 D fun n => ((xs.take n).map jnB).map V.bl) (LcP.start hD rfl) (fun i J hi pJ => seqT_same pJ.1 hl) ?_ ?_
      · intro i v J hv pJ
        have hlt := (List.getElem?_eq_some_iff.mp hv).1
        exact ⟨rfl, _, rfl, v, rfl, (hth v (List.mem_of_getElem? hv)).same pJ.1, fun H2 S2 => pJ.put S2 (by rw [List.take_add_one, hv, List.map_append, List.map_append]; rfl) (by omega)⟩
      · rintro J ⟨S2, _, eJ, _⟩
        have eJ2 : J D = some (.lst ((xs.map jnB).map V.bl)) := by rw [eJ]; show some (HO.lst (((xs.take xs.length).map jnB).map V.bl)) = _; rw [List.take_length]
        have ea : (xs.map jnB).all id = xs.all jnB := by rw [List.all_map]; rfl
        refine ⟨D, xs.map jnB, rfl, SqL.of eJ2, _, rfl, ?_⟩
        rw [ea]
        refine ite2 (fun c => ?_) (fun c => ?_)
        · exact mkO_1 (fin D J S2 eJ2 (by cases z : xs.all jnB with
            | false => rfl
            | true => rw [z] at c; cases c))
        · have good : xs.all jnB = true := by
            cases z : xs.all jnB with
            | true => rfl
            | false => rw [z] at c; exact absurd rfl c
          have hLJ := S2 _ _ hL1
          refine ⟨_, rfl, p, ys, rfl, hor.imp (fun h => S2.seq h) (fun h => seqT_same S2 h), fun t1 J3 S3 w1 n1 => ?_⟩
          replace n1 := ne_tup nL (by rw [hLJ]; exact fun e => by cases e) n1
          have hL3 := S3 _ _ hLJ
          refine ⟨_, rfl, L, _, dx, _, rfl, hL3, G.cLayout.cl, G.cLayout.no _ (by decide +kernel), (by show 0 < 1000; decide), ?_⟩
          have w2 : SqT K J3 p2 xs := seqT_same (S2.trans S3) hl
          refine ⟨_, rfl, p2, xs, rfl, .inr (seqT_ne nL2 w2), fun t2 J4 S4 w3 n2 => ?_⟩
          replace n2 := ne_tup nL2 (by rw [upd_same]; exact fun e => by cases e) n2
          refine ⟨_, rfl, L, _, dx, _, rfl, S4 _ _ upd_same, G.cLayout.cl, G.cLayout.no _ (by decide +kernel), (by show 1 < 1000; decide), ?_⟩
          have z := q3 gd (r.trans good) ys xs rfl rfl (upd J4 L (.ins (LA K) dx [])) t1 t2 (fun b o e => by
            by_cases hb : b = L
            · subst hb
              rw [upd_same]
              rw [hL] at e
              exact e
            · rw [upd_ne hb]
              refine S4 _ _ ?_
              rw [upd_ne hb]
              exact S3 _ _ (S2 _ _ (T1 _ _ e))) (seqT_ne n1 (seqT_same S4 (seqT_ne n1 w1))) (seqT_ne n2 w3)
          rw [upd_upd] at z
          exact z

end
end L2.K22

set_option Elab.async false
set_option linter.all false
set_option maxRecDepth 100000
set_option maxHeartbeats 4000000
/-! Where a field's texts may stand in a text: words. -/
namespace L2.K22
open PySem PySem.W PySem.Spec PySem.Calls PyProof.Rows L2.Jk
abbrev RS (K : Frag) : Addr := He.ga K "RunSpots"
abbrev WS (K : Frag) : Addr := He.ga K "WordSpots"
def fRun (t z : V) : List (Str × V) := putF "signs" z (putF "text" t [])
def fWS (t z l m : V) : List (Str × V) := putF "most" m (putF "least" l (fRun t z))
theorem lWS_text {t z l m : V} : (fWS t z l m).lookup ("text" : Str) = some t := by unfold fWS fRun; rw [lookup_putF, if_neg (by decide +kernel)]; rw [lookup_putF, if_neg (by decide +kernel)]; rw [lookup_putF, if_neg (by decide +kernel)]; rw [lookup_putF, if_pos rfl]
theorem lWS_signs {t z l m : V} : (fWS t z l m).lookup ("signs" : Str) = some z := by unfold fWS fRun; rw [lookup_putF, if_neg (by decide +kernel)]; rw [lookup_putF, if_neg (by decide +kernel)]; rw [lookup_putF, if_pos rfl]
theorem lWS_least {t z l m : V} : (fWS t z l m).lookup ("least" : Str) = some l := by unfold fWS; rw [lookup_putF, if_neg (by decide +kernel)]; rw [lookup_putF, if_pos rfl]
theorem lWS_most {t z l m : V} : (fWS t z l m).lookup ("most" : Str) = some m := by unfold fWS; rw [lookup_putF, if_pos rfl]
/-- an object of which all fields are told -/
def spRi (K : Frag) : Sp := fun vs H Q _ => ∃ (a C dx : Addr) (t z : V), vs = [.ref a, t, z] ∧ H a = some (.ins C dx []) ∧ Cls K C ∧ NoAttr K C "text" ∧ NoAttr K C "signs" ∧ Q .non (upd H a (.ins C dx (fRun t z)))
def spWi (K : Frag) : Sp := fun vs H Q _ => ∃ (a dx y : Addr) (t : Str) (z l m : V), vs = [.ref a, .ref y, .str t] ∧ H a = some (.ins (WS K) dx []) ∧ y ≠ a ∧ FieldAt K H y (.word z l m) ∧ t.length ≤ sizeLine ∧ Q .non (upd H a (.ins (WS K) dx (fWS (.str t) z l (if decide (m = .non) = true then .int (t.length : Nat) else m))))
structure S0 (P : Program) (w : World) (K : Frag) (mg : Str → Option Value) (base : Heap) : Prop extends Q0 P w K mg base where
  clsR : ClsFn K (RS K) (He.ma K (RS K) "__init__") "__init__"
  mgR : mg "RunSpots" = some (.ref (RS K))
  runI : ∃ fd, FnOk P w K mg base CX0 1 (He.ma K (RS K) "__init__") fd ["self", "text", "signs"] (spRi K) ∧ Binds K fd ["self", "text", "signs"] []
  cWS : C0 K mg "WordSpots" ["text", "signs", "least", "most"]
  min : mg "min" = none
section
variable {P : Program} {w : World} {K : Frag} {mg : Str → Option Value} {base : Heap} {f : Addr} {fd : FuncData}

abbrev s_RunSpots_init : Stmt := inClass (top 41) 0
theorem sc_RunSpots_init : FnScope ["self", "text", "signs"] ["self", "text", "signs"] (defScope s_RunSpots_init) := ⟨rfl, rfl, rfl, by decide +kernel, rfl, by decide +kernel, by decide +kernel⟩

theorem ok_RunSpots_init (F : FunD K "__init__" "RunSpots.__init__" (defArgs s_RunSpots_init) (defBody s_RunSpots_init) (defScope s_RunSpots_init) [] [] f fd) (G : Q0 P w K mg base) : FnOk P w K mg base CX0 1 f fd ["self", "text", "signs"] (spRi K) := by
  refine F.ok (CX := CX0) sc_RunSpots_init (fun vs H Q E h => ?_) (fun cdv A outer s H vs Q E hr h => ?_)
  · obtain ⟨_, _, _, _, _, rfl, _⟩ := h
    rfl
  · refine ⟨_, PSs.nox (pss_cons (ps_fld (pv 0) (pv 1) rfl)
    (pss_one (ps_fld (pv 0) (pv 2) rfl))), ?_⟩
    obtain ⟨a, C, dx, t, z, rfl, ha, hc, n1, n2, q⟩ := h
    refine ⟨_, rfl, _, rfl, a, _, dx, _, rfl, ha, hc, n1, (by show 0 < 1000; decide), _, rfl, _, rfl, a, _, dx, _, rfl, upd_same, hc, n2, (by show 1 < 1000; decide), ?_⟩
    show Q .non _
    rw [upd_upd]
    exact q

abbrev s_WordSpots_init : Stmt := inClass (top 42) 0
theorem sc_WordSpots_init : FnScope ["self", "field", "text"] ["self", "field", "text"] (defScope s_WordSpots_init) := ⟨rfl, rfl, rfl, by decide +kernel, rfl, by decide +kernel, by decide +kernel⟩

theorem ok_WordSpots_init (F : FunD K "__init__" "WordSpots.__init__" (defArgs s_WordSpots_init) (defBody s_WordSpots_init) (defScope s_WordSpots_init) [] [] f fd) (G : S0 P w K mg base) : FnOk P w K mg base CX0 2 f fd ["self", "field", "text"] (spWi K) := by
  refine F.ok (CX := CX0) sc_WordSpots_init (fun vs H Q E h => ?_) (fun cdv A outer s H vs Q E hr h => ?_)
  · obtain ⟨_, _, _, _, _, _, _, rfl, _⟩ := h
    rfl
  · obtain ⟨fdR, FR, BR⟩ := G.runI
    refine ⟨_, PSs.nox (pss_cons (ps_expr (pe_clsM G.clsR FR (hr.mono (by decide)) BR pass0 (by rfl) G.mgR (pa_cons (pv 0) (pa_cons (pv 2) (pa_cons (pe_fld (pv 1) rfl) pa_nil)))))
    (pss_cons (ps_fld (pv 0) (pe_fld (pv 1) rfl) rfl)
    (pss_one (ps_fld (pv 0) (pe_ifExp (pt_cmpR op_isN (pe_fld (pv 1) rfl) pe_non (nomark _)) (pe_callB call_len_str (by rfl) G.len (by decide +kernel) (pa_cons (pv 2) pa_nil)) (pe_fld (pv 1) rfl)) rfl)))), ?_⟩
    obtain ⟨a, dx, y, t, z, l, m, rfl, ha, ne, ⟨dy, hy⟩, ht, q⟩ := h
    have W := G.cWord
    have C := G.cWS
    refine ⟨_, rfl, _, rfl, _, rfl, y, _, dy, _, _, rfl, hy, W.cl, W.no _ (by decide +kernel), lWord_signs, ?_⟩
    refine ⟨a, WS K, dx, .str t, z, rfl, ha, C.cl, C.no _ (by decide +kernel), C.no _ (by decide +kernel), ?_⟩
    have hy1 : ∀ o, upd H a o y = some (.ins (He.ga K "Word") dy (fWord z l m)) := fun o => by rw [upd_ne ne]; exact hy
    refine ⟨_, rfl, y, _, dy, _, _, rfl, hy1 _, W.cl, W.no _ (by decide +kernel), lWord_least, _, rfl, a, _, dx, _, rfl, upd_same, C.cl, C.no _ (by decide +kernel), (by show 2 < 1000; decide), ?_⟩
    rw [upd_upd]
    refine ⟨_, rfl, y, _, dy, _, _, rfl, hy1 _, W.cl, W.no _ (by decide +kernel), lWord_most, rfl, _, rfl, ?_⟩
    refine ite2 (fun h1 => ?_) (fun h1 => ?_)
    · rw [if_pos h1] at q
      refine ⟨_, rfl, t, rfl, ht, _, rfl, a, _, dx, _, rfl, upd_same, C.cl, C.no _ (by decide +kernel), (by show 3 < 1000; decide), ?_⟩
      rw [upd_upd]
      exact q
    · rw [if_neg h1] at q
      refine ⟨_, rfl, y, _, dy, _, _, rfl, hy1 _, W.cl, W.no _ (by decide +kernel), lWord_most, _, rfl, a, _, dx, _, rfl, upd_same, C.cl, C.no _ (by decide +kernel), (by show 3 < 1000; decide), ?_⟩
      rw [upd_upd]
      exact q

end
end L2.K22

set_option Elab.async false
set_option linter.all false
set_option maxRecDepth 100000
set_option maxHeartbeats 4000000
/-! A method of an instance of a known class, which may raise. -/
namespace L2.Jk
open PySem PySem.W PySem.Spec PySem.Calls PyProof.Rows
structure MetAt (P : Program) (w : World) (K : Frag) (mg : Str → Option Value) (base : Heap) (CX : CXT) (k : Nat) (C : Addr) (m : Str) (ps : List Str) (sp : Sp) : Prop where
  cl : Cls K C
  me : Meth K C m (He.ma K C m)
  ok : ∃ fd, FnOk P w K mg base CX k (He.ma K C m) fd ps sp ∧ Binds K fd ps []
def tMetS (C : Addr) (m : Str) (sp : Sp) (E : St → XK) (ta : TE) (t : TA) : TE := fun σ H Q => ta σ H fun x H1 => ∃ (a dx : Addr) (fs : List (Str × V)), x = .ref a ∧ H1 a = some (.ins C dx fs) ∧ fs.lookup m = none ∧ t σ H1 fun vs H2 => sp (x :: vs) H2 Q (E σ)
section
variable {X : Cx} {CX : CXT} {k : Nat} {C : Addr} {ps : List Str} {sp : Sp} {E : St → XK} {o e : Expr} {es : List Expr} {m : Str} {ta : TE} {t : TA} {apos pos : Pos}
theorem pe_metS {pl : Sem Bool} (G : MetAt X.prog X.w X.K X.mg X.base CX k C m ps sp) (hr : Room k X.A) (he : PE X o ta) (hx : ∀ σ, PassesAt CX X σ (E σ)) (ha : PA X (e :: es) t)
    (hst : starEach (e :: es) X.env = (false, eval e X.env) :: starEach es X.env := by rfl) (hpl : (backTo pos (starEach es X.env)).any (·.1) = false := by rfl)
    (ht : eval (.Call (.Attribute o m apos) (e :: es) [] pos) X.env = (do
      let ov ← eval o X.env
      standAt apos.atName
      let (f, first) ← holding [ov] (getMethod ov m pl)
      callWith pos f first (backTo pos (starEach (e :: es) X.env)) (backToKw pos (keywordEach [] X.env))) := by rfl) :
    PE X (.Call (.Attribute o m apos) (e :: es) [] pos) (tMetS C m sp E ta t) := by
  obtain ⟨fd, F, hb⟩ := G.ok
  refine ⟨fun pins s σ H Q I h => ?_⟩
  refine PySem.W.methodCall_KW (pl := pl) (thn (he.run pins s σ H _ I h) fun u s1 hh => ?_) ht
  obtain ⟨x, H1, I1, rx, a, dx, fs, ex, ea, l, q⟩ := hh
  subst ex
  obtain rfl : u = Value.ref a := rx
  refine getmeth_ok I1 ea G.cl G.me l ?_
  refine PySem.W.callWith_K (first := [.ref a]) (h₀ := X.base) I.ok.mod.kin G.me.kp (thn (ha.run pos pins s1 σ H1 _ I1 q) fun us s2 ⟨vs, H2, I2, r, q2⟩ => ⟨I2.kIn, ?_⟩) hst hpl
  exact run_fnS (us := .ref a :: us) (vs := .ref a :: vs) F hr hb (hx σ) I2 (.cons rfl r) q2
theorem pe_metS0 {pl : Sem Bool} (G : MetAt X.prog X.w X.K X.mg X.base CX k C m ps sp) (hr : Room k X.A) (he : PE X o ta) (hx : ∀ σ, PassesAt CX X σ (E σ))
    (ht : eval (.Call (.Attribute o m apos) [] [] pos) X.env = (do
      let ov ← eval o X.env
      standAt apos.atName
      let (f, first) ← holding [ov] (getMethod ov m pl)
      callWith pos f first (backTo pos (starEach [] X.env)) (backToKw pos (keywordEach [] X.env))) := by rfl) :
    PE X (.Call (.Attribute o m apos) [] [] pos) (tMetS C m sp E ta tNil) := by
  obtain ⟨fd, F, hb⟩ := G.ok
  refine ⟨fun pins s σ H Q I h => ?_⟩
  refine PySem.W.methodCall_KW (pl := pl) (thn (he.run pins s σ H _ I h) fun u s1 hh => ?_) ht
  obtain ⟨x, H1, I1, rx, a, dx, fs, ex, ea, l, q⟩ := hh
  subst ex
  obtain rfl : u = Value.ref a := rx
  refine getmeth_ok I1 ea G.cl G.me l ?_
  exact PySem.W.callWith_K0 (first := [.ref a]) I1.kIn G.me.kp (run_fnS (us := [.ref a]) (vs := [.ref a]) F hr hb (hx σ) I1 (.cons rfl .nil) q)
theorem pass0A {E : St → XK} : ∀ σ, PassesAt CX0 X σ (E σ) := fun σ => fun pins H s e s' I h => pass0 pins σ H s e s' I h
end
end L2.Jk

set_option Elab.async false
set_option linter.all false
set_option maxRecDepth 100000
set_option maxHeartbeats 4000000
/-! Where words may stand in a text. -/
namespace L2.K22
open PySem PySem.W PySem.Spec PySem.Calls PyProof.Rows L2.Jk
theorem lWS_m {t z l m : V} (x : Str) (h : x ≠ "text" ∧ x ≠ "signs" ∧ x ≠ "least" ∧ x ≠ "most") : (fWS t z l m).lookup x = none := by
  unfold fWS fRun
  rw [lookup_putF, if_neg h.2.2.2, lookup_putF, if_neg h.2.2.1, lookup_putF, if_neg h.2.1, lookup_putF, if_neg h.1]
  rfl
def WSAt (K : Frag) (H : Hp) (a : Addr) (t z : Str) (l m : Int) : Prop := ∃ dx, H a = some (.ins (WS K) dx (fWS (.str t) (.str z) (.int l) (.int m)))
def spSa (K : Frag) : Sp := fun vs H Q _ => ∃ (a : Addr) (p e : Int) (t z : Str) (l m : Int), vs = [.ref a, .int p, .int e] ∧ WSAt K H a t z l m ∧ ∀ T H', Same H H' → H' T = some (.tup [.int (p + l), .int (if p + m < e then p + m else e)]) → Q (.ref T) H'
section
variable {P : Program} {w : World} {K : Frag} {mg : Str → Option Value} {base : Heap} {f : Addr} {fd : FuncData}

abbrev s_WordSpots_span_at : Stmt := inClass (top 42) 1
theorem sc_WordSpots_span_at : FnScope ["self", "place", "end"] ["self", "place", "end"] (defScope s_WordSpots_span_at) := ⟨rfl, rfl, rfl, by decide +kernel, rfl, by decide +kernel, by decide +kernel⟩

theorem ok_WordSpots_span_at (F : FunD K "span_at" "WordSpots.span_at" (defArgs s_WordSpots_span_at) (defBody s_WordSpots_span_at) (defScope s_WordSpots_span_at) [] [] f fd) (G : S0 P w K mg base) : FnOk P w K mg base CX0 1 f fd ["self", "place", "end"] (spSa K) := by
  refine F.ok (CX := CX0) sc_WordSpots_span_at (fun vs H Q E h => ?_) (fun cdv A outer s H vs Q E hr h => ?_)
  · obtain ⟨_, _, _, _, _, _, _, rfl, _⟩ := h
    rfl
  · refine ⟨_, PSs.nox (pss_one (ps_ret (pe_tupS (pa_cons (pe_op op_add (pv 1) (pe_fld (pv 0) rfl)) (pa_cons (pe_callB (call_min2 rfl) (by rfl) G.min (by decide +kernel) (pa_cons (pv 2) (pa_cons (pe_op op_add (pv 1) (pe_fld (pv 0) rfl)) pa_nil))) pa_nil))))), ?_⟩
    obtain ⟨a, p, e, t, z, l, m, rfl, ⟨dx, ha⟩, q⟩ := h
    have C := G.cWS
    refine ⟨_, rfl, _, rfl, a, _, dx, _, _, rfl, ha, C.cl, C.no _ (by decide +kernel), lWS_least, _, _, rfl, rfl, ?_⟩
    refine ⟨_, rfl, _, rfl, _, rfl, a, _, dx, _, _, rfl, ha, C.cl, C.no _ (by decide +kernel), lWS_most, _, _, rfl, rfl, _, _, rfl, ?_⟩
    exact ⟨by show 2 ≤ 1000; decide, fun T H' _ S e => q T H' S e⟩

end
end L2.K22

set_option Elab.async false
set_option linter.all false
set_option maxRecDepth 100000
set_option maxHeartbeats 4000000
/-! All places of a word in a text. -/
namespace L2.K22
open PySem PySem.W PySem.Spec PySem.Calls PyProof.Rows L2.Jk
theorem lstrip_le (a b : Str) : (Txt.lstripChars a b).length ≤ a.length := by
  unfold Txt.lstripChars
  rw [PyProof.Rows.stripBy_eq]
  show (a.cps.extract _ _).size ≤ a.cps.size
  rw [Array.size_extract]
  omega
/-- where the run of signs that begins at a place ends -/
def runTo (t z : Str) (p : Nat) : Int := (t.length : Nat) - ((Txt.lstripChars (cutS t (some (p : Int)) none) z).length : Nat)
/-- places, each with the first and the last end of a word there; e: where the last run ended -/
def wsp (t z : Str) (l m : Int) : Int → List Nat → List (Int × Int × Int)
  | _, [] => []
  | e, p :: ps =>
    let e' := if (p : Int) > e then runTo t z p else e
    let q := if (p : Int) + m < e' then (p : Int) + m else e'
    (if (p : Int) + l ≤ q then [((p : Int), (p : Int) + l, q)] else []) ++ wsp t z l m e' ps
def wspE (t z : Str) : Int → List Nat → Int
  | e, [] => e
  | e, p :: ps => wspE t z (if (p : Int) > e then runTo t z p else e) ps
theorem wsp_snoc (t z : Str) (l m : Int) : ∀ (ps : List Nat) (e : Int) (p : Nat), wsp t z l m e (ps ++ [p]) = wsp t z l m e ps ++ wsp t z l m (wspE t z e ps) [p]
  | [], _, _ => rfl
  | x :: ps, e, p => by
    show (if _ then [_] else []) ++ wsp t z l m _ (ps ++ [p]) = ((if _ then [_] else []) ++ wsp t z l m _ ps) ++ _
    rw [wsp_snoc t z l m ps _ p, List.append_assoc]
    rfl
theorem wspE_snoc (t z : Str) : ∀ (ps : List Nat) (e : Int) (p : Nat), wspE t z e (ps ++ [p]) = (if (p : Int) > wspE t z e ps then runTo t z p else wspE t z e ps)
  | [], _, _ => rfl
  | x :: ps, e, p => wspE_snoc t z ps _ p
/-- a list of such triples -/
def TriV (H : Hp) (v : V) (x : Int × Int × Int) : Prop := ∃ b, v = .ref b ∧ H b = some (.tup [.int x.1, .int x.2.1, .int x.2.2])
def Tris (H : Hp) (vs : List V) (xs : List (Int × Int × Int)) : Prop := vs.length = xs.length ∧ ∀ (i : Nat) (v : V) (x : Int × Int × Int), vs[i]? = some v → xs[i]? = some x → TriV H v x
theorem TriV.put {J : Hp} {fl : Addr} {xs : List V} {o : HO} {v : V} {x : Int × Int × Int} (e : J fl = some (.lst xs)) : TriV J v x → TriV (upd J fl o) v x
  | ⟨b, ev, h⟩ => ⟨b, ev, by rw [upd_ne (ne_of h e (fun z => by cases z))]; exact h⟩
theorem TriV.same {J J' : Hp} {v : V} {x : Int × Int × Int} (S : Same J J') : TriV J v x → TriV J' v x
  | ⟨b, ev, h⟩ => ⟨b, ev, S _ _ h⟩
theorem Tris.put {J : Hp} {fl : Addr} {xs : List V} {o : HO} {vs : List V} {ys : List (Int × Int × Int)} (e : J fl = some (.lst xs)) (h : Tris J vs ys) : Tris (upd J fl o) vs ys := ⟨h.1, fun i v x a b => (h.2 i v x a b).put e⟩
theorem Tris.same {J J' : Hp} {vs : List V} {ys : List (Int × Int × Int)} (S : Same J J') (h : Tris J vs ys) : Tris J' vs ys := ⟨h.1, fun i v x a b => (h.2 i v x a b).same S⟩
theorem Tris.snoc {J : Hp} {vs : List V} {ys : List (Int × Int × Int)} {v : V} {y : Int × Int × Int} (h : Tris J vs ys) (k : TriV J v y) : Tris J (vs ++ [v]) (ys ++ [y]) := by
  refine ⟨by rw [List.length_append, List.length_append, h.1]; rfl, fun i u x a b => ?_⟩
  by_cases hi : i < vs.length
  · rw [List.getElem?_append_left hi] at a
    rw [List.getElem?_append_left (by rw [← h.1]; exact hi)] at b
    exact h.2 i u x a b
  · rw [List.getElem?_append_right (by omega)] at a
    rw [List.getElem?_append_right (by rw [← h.1]; omega)] at b
    have hz : i - vs.length = 0 := by
      have := (List.getElem?_eq_some_iff.mp a).1
      simp only [List.length_cons, List.length_nil] at this
      omega
    rw [hz] at a
    rw [← h.1, hz] at b
    obtain rfl := Option.some.inj a
    obtain rfl := Option.some.inj b
    exact k
theorem Tris.snoc2 {J : Hp} {vs : List V} {ys zs : List (Int × Int × Int)} {v : V} {y : Int × Int × Int} (h : Tris J vs ys) (e : zs = [y]) (k : TriV J v y) : Tris J (vs ++ [v]) (ys ++ zs) := by
  rw [e]
  exact h.snoc k
def spSf (K : Frag) : Sp := fun vs H Q _ => ∃ (a pl : Addr) (ps : List Nat) (t z : Str) (l m : Int), vs = [.ref a, .ref pl] ∧ WSAt K H a t z l m ∧ H pl = some (.lst (ps.map fun p => V.int (p : Nat))) ∧ ps.length ≤ 5000 ∧ t.length ≤ 4000 ∧
  ∀ L vs H', H L = none → Same H H' → H' L = some (.lst vs) → Tris H' vs (wsp t z l m (-1) ps) → Q (.ref L) H'
structure S1 (P : Program) (w : World) (K : Frag) (mg : Str → Option Value) (base : Heap) : Prop extends S0 P w K mg base where
  mSpan : MetAt P w K mg base CX0 1 (WS K) "span_at" ["self", "place", "end"] (spSa K)

section
variable {P : Program} {w : World} {K : Frag} {mg : Str → Option Value} {base : Heap} {f : Addr} {fd : FuncData}

abbrev s_RunSpots_spans : Stmt := inClass (top 41) 1
theorem sc_RunSpots_spans : FnScope ["self", "places", "found", "end", "place", "first", "last"] ["self", "places"] (defScope s_RunSpots_spans) := ⟨rfl, rfl, rfl, by decide +kernel, rfl, by decide +kernel, by decide +kernel⟩

theorem ok_RunSpots_spans (F : FunD K "spans_from" "RunSpots.spans_from" (defArgs s_RunSpots_spans) (defBody s_RunSpots_spans) (defScope s_RunSpots_spans) [] [] f fd) (G : S1 P w K mg base) : FnOk P w K mg base CX0 2 f fd ["self", "places"] (spSf K) := by
  refine F.ok (CX := CX0) sc_RunSpots_spans (fun vs H Q E h => ?_) (fun cdv A outer s H vs Q E hr h => ?_)
  · obtain ⟨_, _, _, _, _, _, _, rfl, _⟩ := h
    rfl
  · refine ⟨_, PSs.nox (pss_cons (ps_set (i := 2) sc_RunSpots_spans.nd rfl (Or.inl rfl) (pe_lstS pa_nil))
    (pss_cons (ps_set (i := 3) sc_RunSpots_spans.nd rfl (Or.inl rfl) (pe_un un_neg pe_int))
    (pss_cons (ps_for PassesOwn.never rfl (pi_list (pv 1)) (pg_name (i := 4) sc_RunSpots_spans.nd rfl (Or.inl rfl))
      (C8.pss_cut (ps_if (pt_cmpR op_gt (pv 4) (pv 3) (nomark _))
        (pss_one (ps_set (i := 3) sc_RunSpots_spans.nd rfl (Or.inl rfl) (pe_op op_sub (pe_callB call_len_str (by rfl) G.len (by decide +kernel) (pa_cons (pe_fld (pv 0) rfl) pa_nil)) (pe_callB call_len_str (by rfl) G.len (by decide +kernel) (pa_cons (pe_bm PySem.F.plainAttrs_str PySem.F.slot_str_lstrip PySem.F.type_str_lstrip mt_lstripChars (pe_slice sl_str (pe_fld (pv 0) rfl) (po_some (pv 4)) po_none) (pa_cons (pe_fld (pv 0) rfl) pa_nil)) pa_nil)))))
        pss_nil)
      (pss_cons (ps_asg (pe_metS G.mSpan (hr.mono (by decide)) (pv 0) (E := fun _ => E0) pass0A (pa_cons (pv 4) (pa_cons (pv 3) pa_nil))) (pg_tup rfl (pgs_cons (pg_name (i := 5) sc_RunSpots_spans.nd rfl (Or.inl rfl)) (pgs_cons (pg_name (i := 6) sc_RunSpots_spans.nd rfl (Or.inl rfl)) pgs_nil))))
      (pss_one (ps_if (pt_cmpR op_le (pv 5) (pv 6) (nomark _))
        (pss_one (ps_expr (pe_bm PySem.F.plainAttrs_list PySem.F.slot_list_append PySem.F.type_list_append mt_append (pv 2) (pa_cons (pe_tupS (pa_cons (pv 4) (pa_cons (pv 5) (pa_cons (pv 6) pa_nil)))) pa_nil))))
        pss_nil)))))
    (pss_one (ps_ret (pv 2)))))), ?_⟩
    obtain ⟨a, pl, ps, t, z, l, m, rfl, hW, hpl, hn, ht, q⟩ := h
    obtain ⟨dx0, ha0⟩ := id hW
    have C := G.cWS
    have hal : ∀ {D : Addr} {o : HO}, H D = none → ∀ J, Same H J → D ≠ a := fun hD J S e => by rw [e] at hD; rw [hD] at ha0; cases ha0
    refine ⟨by show 0 ≤ 1000; decide, fun fl J hfl S e => ?_⟩
    refine ⟨1, rfl, ?_⟩
    have hWm : ∀ {J}, Same H J → J a = some (.ins (WS K) dx0 (fWS (.str t) (.str z) (.int l) (.int m))) := fun S => S _ _ ha0
    refine ⟨_, rfl, pl, rfl, ⟨_, SqL.of (S _ _ hpl)⟩, for_list (K := K) (a := pl) (xs := ps.map fun p => V.int (p : Nat)) (fun i σ J1 => ∃ (v4 v5 v6 : Option V) (vs : List V), σ = [some (.ref a), some (.ref pl), some (.ref fl), some (.int (wspE t z (-1) (ps.take i))), v4, v5, v6] ∧ Same H J1 ∧ J1 fl = some (.lst vs) ∧ Tris J1 vs (wsp t z l m (-1) (ps.take i)) ∧ vs.length ≤ i)
      ⟨_, _, _, [], rfl, S, e, ⟨rfl, fun i v x a => by cases a⟩, Nat.le_refl _⟩ (fun i σ J1 _ ⟨_, _, _, _, _, SJ, _⟩ => SqL.of (SJ _ _ hpl)) ?_ ?_⟩
    · rintro i x σ J1 hx ⟨v4, v5, v6, vs, rfl, SJ, eF, hT, hvl⟩
      rw [List.getElem?_map] at hx
      obtain ⟨p, hp, rfl⟩ := Option.map_eq_some_iff.mp hx
      have hi := (List.getElem?_eq_some_iff.mp hp).1
      have tk : ps.take (i + 1) = ps.take i ++ [p] := by rw [List.take_add_one, hp]; rfl
      have eE := wspE_snoc t z (ps.take i) (-1) p
      have eS := wsp_snoc t z l m (ps.take i) (-1) p
      rw [← tk] at eE eS
      have haJ := hWm SJ
      refine ⟨fun σ J2 => J2 = J1 ∧ σ = [some (.ref a), some (.ref pl), some (.ref fl), some (.int (wspE t z (-1) (ps.take (i + 1)))), some (.int (p : Nat)), v5, v6], ?_, ?_⟩
      · rw [eE]
        refine ⟨_, rfl, _, rfl, _, _, rfl, rfl, _, rfl, ?_⟩
        refine ite2 (fun h1 => ?_) (fun h1 => ?_)
        · have h1 : (p : Int) > wspE t z (-1) (ps.take i) := of_decide_eq_true h1
          rw [if_pos h1]
          have hc := cutS_length t (some (p : Int)) none
          have hl2 : (Txt.lstripChars (cutS t (some (p : Int)) none) z).length ≤ sizeLine := by have := lstrip_le (cutS t (some (p : Int)) none) z; rw [sizeLine_eq]; omega
          refine ⟨_, rfl, a, _, dx0, _, _, rfl, haJ, C.cl, C.no _ (by decide +kernel), lWS_text, t, rfl, by rw [sizeLine_eq]; omega, ?_⟩
          refine ⟨_, rfl, a, _, dx0, _, _, rfl, haJ, C.cl, C.no _ (by decide +kernel), lWS_text, _, rfl, p, rfl, t, rfl, by rw [sizeLine_eq]; omega, ?_⟩
          exact ⟨rfl, _, rfl, a, _, dx0, _, _, rfl, haJ, C.cl, C.no _ (by decide +kernel), lWS_signs, _, z, rfl, rfl, by rw [sizeLine_eq]; omega, _, rfl, hl2, _, _, rfl, rfl, rfl, rfl⟩
        · have h1 : ¬ (p : Int) > wspE t z (-1) (ps.take i) := fun k => h1 (decide_eq_true k)
          rw [if_neg h1]
          exact ⟨rfl, rfl⟩
      rintro σ J2 ⟨rfl, rfl⟩
      have eW : wsp t z l m (wspE t z (-1) (ps.take i)) [p] = if (p : Int) + l ≤ (if (p : Int) + m < wspE t z (-1) (ps.take (i + 1)) then (p : Int) + m else wspE t z (-1) (ps.take (i + 1))) then [((p : Int), (p : Int) + l, (if (p : Int) + m < wspE t z (-1) (ps.take (i + 1)) then (p : Int) + m else wspE t z (-1) (ps.take (i + 1))))] else [] := by
        rw [eE]
        exact List.append_nil _
      skip
      -- generalize (if (p : Int) + m < wspE t z (-1) (ps.take (i + 1)) then (p : Int) + m else wspE t z (-1) (ps.take (i + 1))) = q2 at eW
      refine ⟨_, rfl, a, dx0, _, rfl, haJ, lWS_m _ (by decide +kernel), _, rfl, _, rfl, a, _, _, t, z, l, m, rfl, ⟨dx0, haJ⟩, fun T J3 S3 eT => ?_⟩
      refine ⟨T, _, rfl, SqT.of eT, rfl, _, _, rfl, _, _, rfl, rfl, ?_⟩
      have SJ3 := SJ.trans S3
      refine ⟨_, rfl, _, rfl, _, _, rfl, rfl, _, rfl, ?_⟩
      refine ite2 (fun h2 => ?_) (fun h2 => ?_)
      · refine ⟨_, rfl, .inl ⟨rfl, _, SqL.of (S3 _ _ eF)⟩, _, rfl, _, rfl, _, rfl, by show 3 ≤ 1000; decide, fun T2 J4 hT2 S4 eT2 => ?_⟩
        refine ⟨fl, _, _, rfl, rfl, S4 _ _ (S3 _ _ eF), by rw [sizeLine_eq]; omega, ?_⟩
        have eF4 := S4 _ _ (S3 _ _ eF)
        have hT4 := (hT.same (S3.trans S4)).put (o := .lst (vs ++ [.ref T2])) eF4
        have eT4 : TriV (upd J4 fl (.lst (vs ++ [.ref T2]))) (.ref T2) ((p : Int), (p : Int) + l, _) := TriV.put eF4 ⟨T2, rfl, eT2⟩
        refine ⟨_, _, _, vs ++ [.ref T2], rfl, same_put (SJ3.trans S4) hfl, upd_same, ?_, by rw [List.length_append]; show vs.length + 1 ≤ i + 1; omega⟩
        rw [eS]
        exact hT4.snoc2 (eW.trans (if_pos (of_decide_eq_true h2))) eT4
      · refine ⟨_, _, _, vs, rfl, SJ3, S3 _ _ eF, ?_, by omega⟩
        rw [eS, eW.trans (if_neg fun k => h2 (decide_eq_true k)), List.append_nil]
        exact hT.same S3
    · rintro σ J1 ⟨v4, v5, v6, vs, rfl, SJ, eF, hT, hvl⟩
      rw [List.length_map, List.take_length] at hT
      exact ⟨_, rfl, q fl vs J1 hfl SJ eF hT⟩

end
end L2.K22

set_option Elab.async false
set_option linter.all false
set_option maxRecDepth 100000
set_option maxHeartbeats 4000000
/-! Comparisons with instances in them: lists by !=, tuples of unlike lengths by ==, an instance != anything that is no subclass' instance. -/
namespace L2.Jk
open PySem PySem.W PySem.Spec PySem.Calls PyProof.Rows PySem.SeqAt
open AutoSeq1 (wpAny_loadPart')
open MeetsSeq MeetsSeq2 MeetsSeq3 SeqRoads2
section
variable {prog : Program} {w : World} {A : Around} {R : Result → Shared → Prop} {E : Value → Shared → Prop} {s : Shared}
/-- the two lists, read anew each turn, have N items each, and the next two are equal -/
def LsI (prog : Program) (w : World) (A : Around) (E : Value → Shared → Prop) (a b : Addr) (N : Nat) (J : Nat → Shared → Prop) : Prop :=
  ∀ i s, J i s → ∃ (its jts : Array Value) (n m : Nat), s.heap.get? a = some { cls := .type "list", data := .seq its n } ∧ s.heap.get? b = some { cls := .type "list", data := .seq jts m } ∧ its.size = N ∧ jts.size = N ∧
    ∀ (h1 : i < its.size) (h2 : i < jts.size), wpAny (model prog w) A.in1 (eqBool its[i] jts[i]) (fun r s' => r = true ∧ J (i + 1) s') E s
theorem ne_turns (a b : Addr) (N : Nat) (J : Nat → Shared → Prop) (hJ : LsI prog w A (fun e s' => R (.error e) s') a b N J) (fin : ∀ s, J N s → R (.ok (.ret (.bool false))) s) (m : Nat) :
    ∀ i : Nat, N - i = m → i ≤ N → ∀ s, J i s → wpAny (model prog w) A.in1 (Builtin.«list.__eq__.loop» ⟨[.ref a, .ref b, rawInt i, rawInt 3], []⟩) (GQ.FinOf prog w A R) (fun e s' => R (.error e) s') s := by
  induction m with
  | zero =>
    intro i hm hi s h
    obtain ⟨its, jts, n, m, ea, eb, sa, sb, _⟩ := hJ _ _ h
    obtain rfl : i = N := by omega
    have done : R (.ok (.ret (.bool false))) s := fin s h
    obtain ⟨hp, g, d, tk, os⟩ := s
    wp_walk using wpAny_loadPart' ea, wpAny_loadPart' eb
    rw [show its[((i : Nat) : Int).toNat]? = none by simp; omega, show jts[((i : Nat) : Int).toNat]? = none by simp; omega]
    wp_walk using wpAny_loadPart' ea, wpAny_loadPart' eb
    show R (.ok (.ret (.bool (its.size != jts.size)))) _
    rw [sa, sb]
    simpa using done
  | succ m ih =>
    intro i hm hi s h
    obtain ⟨its, jts, n, k, ea, eb, sa, sb, turn⟩ := hJ _ _ h
    have l1 : i < its.size := by omega
    have l2 : i < jts.size := by omega
    have one := turn l1 l2
    obtain ⟨hp, g, d, tk, os⟩ := s
    wp_walk using wpAny_loadPart' ea, wpAny_loadPart' eb
    rw [show its[((i : Nat) : Int).toNat]? = some its[i] by simp [l1], show jts[((i : Nat) : Int).toNat]? = some jts[i] by simp [l2]]
    refine wpAny_bind (wpAny_mono one (fun r s2 q2 => ?_) fun _ _ x => x)
    obtain ⟨rfl, q2⟩ := q2
    have next := ih (i + 1) (by omega) (by omega) s2 q2
    obtain ⟨hp2, g2, d2, tk2, os2⟩ := s2
    wp_walk
    rw [show ((i : Int) + 1) = ((i + 1 : Nat) : Int) by omega]
    refine ⟨plainId_quiet plain_eq_loop _, codeAny_builtin entry_eq_loop ?_⟩
    rw [Around.under_plainId plain_eq_loop _]
    exact next
theorem list_ne_same (a b : Addr) (N : Nat) (J : Nat → Shared → Prop) (hJ : LsI prog w A (fun e s' => R (.error e) s') a b N J) (fin : ∀ s, J N s → R (.ok (.ret (.bool false))) s) (h : J 0 s) :
    wpAny (model prog w) A.in1 (Builtin.«list.__ne__» ⟨[.ref a, .ref b], []⟩) (GQ.FinOf prog w A R) (fun e s' => R (.error e) s') s := by
  obtain ⟨its, jts, n, m, ea, eb, sa, sb, _⟩ := hJ _ _ h
  have all := ne_turns (A := A) (R := R) a b N J hJ fin _ 0 rfl (Nat.zero_le _) s h
  obtain ⟨hp, g, d, tk, os⟩ := s
  have f3 := AutoSeq1.sub_list_list
  have same : ¬ (its.size != jts.size) = true := by simp [sa, sb]
  wp_walk using wpAny_loadPart' ea, wpAny_loadPart' eb
  refine ⟨plainId_quiet plain_eq_loop _, codeAny_builtin entry_eq_loop ?_⟩
  rw [Around.under_plainId plain_eq_loop _]
  exact all
/-- == of tuples of unlike lengths whose items are equal as far as both go -/
theorem tup_eq_pre (l b : Addr) (its jts : Array Value) (n n2 : Nat) (dd dd2 : Option Addr) (sl sl2 : Array (Option Value)) (hsz : jts.size < its.size) (J : Nat → Shared → Prop)
    (turn : ∀ i (h1 : i < its.size) (h2 : i < jts.size) s, J i s → wpAny (model prog w) A.in1 (eqBool its[i] jts[i]) (fun r s' => r = true ∧ J (i + 1) s') (fun e s' => R (.error e) s') s)
    (fin : ∀ s, J jts.size s → R (.ok (.ret (.bool false))) s) (hl : s.heap.get? l = some { cls := .type "tuple", dict := dd, data := .seq its n, slots := sl }) (hb : s.heap.get? b = some { cls := .type "tuple", dict := dd2, data := .seq jts n2, slots := sl2 })
    (h : J 0 s) : wpAny (model prog w) A.in1 (Builtin.«tuple.__eq__» ⟨[.ref l, .ref b], []⟩) (GQ.FinOf prog w A R) (fun e s' => R (.error e) s') s := by
  have f2 := AutoSeq1.sub_tuple_tuple
  have len : (its.toList.zip jts.toList).length = jts.size := by simp; omega
  have h0 := h
  obtain ⟨hp, g, d, tk, os⟩ := s
  wp_walk using wpAny_loadPart' hl, wpAny_loadPart' hb, wpAny_forIn_list _ (fun rest b s' => b.1 = none ∧ ∃ i, rest = (its.toList.zip jts.toList).drop i ∧ i ≤ jts.size ∧ J i s') _
  case turn =>
    rintro ⟨y, x⟩ rest b s' ⟨hb', i, hz, hi, hJ⟩
    have lt : i < (its.toList.zip jts.toList).length := by
      refine Nat.lt_of_not_le fun z => ?_
      rw [List.drop_of_length_le z] at hz
      cases hz
    have h2 : i < jts.size := len ▸ lt
    have h1 : i < its.size := by omega
    rw [List.drop_eq_getElem_cons lt] at hz
    obtain ⟨e1, e2⟩ := List.cons.inj hz
    obtain rfl : y = its[i] := by simpa using congrArg Prod.fst e1
    obtain rfl : x = jts[i] := by simpa using congrArg Prod.snd e1
    refine wpAny_bind (wpAny_mono (turn i h1 h2 s' hJ) (fun r s2 q2 => ?_) fun _ _ x => x)
    obtain ⟨rfl, q2⟩ := q2
    wp_walk
    exact ⟨rfl, i + 1, e2, h2, q2⟩
  case fin =>
    rintro ⟨b1, b2⟩ s' ⟨hb', i, hz, hi, hJ⟩
    dsimp only at hb'
    subst hb'
    have ge : jts.size ≤ i := by
      refine Nat.le_of_not_lt fun z => ?_
      rw [List.drop_eq_getElem_cons (by rw [len]; exact z)] at hz
      cases hz
    obtain rfl : i = jts.size := by omega
    have hR := fin s' hJ
    have ns : (its.size == jts.size) = false := beq_eq_false_iff_ne.mpr (by omega)
    wp_walk
    simpa [Builtin.Tuple.tupleCompareSizes, ns] using hR
  case h => exact ⟨rfl, 0, rfl, Nat.zero_le _, h0⟩
end
section
variable {X : Cx} {n : Nat} {D : Eqv}
/-- xs != ys of two lists whose items D says to be equal -/
def rNeL (D : Eqv) : R2 := fun x y H Q => DList D x y H ∧ ∀ H', Same H H' → Q (.bl false) H'
theorem op_neL (hD : Mon D) (h : EqG X n D) (hr : Room (n + 1) X.A) : OpR X (compareOp .NotEq) (rNeL D) := by
  intro pins s σ H x y v u Q I rx ry hq
  obtain ⟨⟨a, b, xs, ys, rfl, rfl, ha, hb, p⟩, q⟩ := hq
  cases rx
  cases ry
  obtain ⟨_, its, n1, r, e⟩ := I.hok a _ ha
  obtain ⟨_, jts, n2, r2, e2⟩ := I.hok b _ hb
  show wpAny (model X.prog X.w) X.A (richCompare .NotEq (.ref a) (.ref b)) (EP X pins σ Q) X.xe s
  refine wpAny_richCompare_same_room (op := .NotEq) ⟨_, e, rfl⟩ ⟨_, e2, rfl⟩ PySem.F.slot_list_ne (GQ.call_here PySem.F.slot_list_ne ⟨_, e, rfl⟩ PySem.F.entry_list_ne (PySem.F.args_list_ne_2 _ _) ?_) hr.units0
  refine list_ne_same (R := wants (fun v s' => v ≠ .notImplemented ∧ EP X pins σ Q v s') X.xe) a b xs.length (fun _ s' => LoopI X pins σ H s') (fun i s' q => ?_) (fun s' k => ⟨(fun x => nomatch x), ?_⟩) ⟨H, I, Ext.rfl'⟩
  · obtain ⟨H1, I1, e1⟩ := id q
    obtain ⟨z, its, k, r, e⟩ := I1.hok a _ (e1 _ _ ha)
    obtain ⟨z2, its2, k2, r2, e2⟩ := I1.hok b _ (e1 _ _ hb)
    refine ⟨its.toArray, its2.toArray, k, k2, e, e2, by rw [List.size_toArray, ← r.length], by rw [List.size_toArray, ← r2.length, ← p.1], fun h1 h2 => ?_⟩
    exact turnG hD h ⟨hr, rfl⟩ p r r2 i h1 h2 s' q
  · obtain ⟨H', I', x⟩ := k
    exact ⟨.bl false, H', I', rfl, q H' x⟩
/-- t == u of two tuples, the second one shorter, whose items D says to be equal as far as it goes -/
def rEqP (X : Cx) (D : Eqv) : R2 := fun x y H Q => ∃ a b xs ys, x = .ref a ∧ y = .ref b ∧ SqT X.K H a xs ∧ SqT X.K H b ys ∧ ys.length < xs.length ∧ Prs D (xs.take ys.length) ys H ∧ ∀ H', Same H H' → Q (.bl false) H'
theorem op_eqP (hD : Mon D) (h : EqG X n D) (hr : Room (n + 1) X.A) : OpR X (compareOp .Eq) (rEqP X D) := by
  intro pins s σ H x y v u Q I rx ry hq
  obtain ⟨a, b, xs, ys, rfl, rfl, ha, hb, hlt, p, q⟩ := hq
  cases rx
  cases ry
  obtain ⟨its, r, e, z⟩ := I.tuple ha
  obtain ⟨jts, r2, e2, z2⟩ := I.tuple hb
  have hsz : jts.toArray.size < its.toArray.size := by rw [List.size_toArray, List.size_toArray, ← r.length, ← r2.length]; exact hlt
  obtain ⟨⟨c1, d1, t1, s1⟩, g1, k1, n1, e1⟩ := id e
  obtain ⟨⟨c2, d2, t2, s2⟩, g2, k2, n2, e22⟩ := id e2
  dsimp only at k1 e1 k2 e22
  subst k1 e1 k2 e22
  show wpAny (model X.prog X.w) X.A (richCompare .Eq (.ref a) (.ref b)) (EP X pins σ Q) X.xe s
  refine wpAny_richCompare_same_room (op := .Eq) ⟨_, g1, rfl⟩ ⟨_, g2, rfl⟩ PySem.F.slot_tuple_eq (GQ.call_here PySem.F.slot_tuple_eq ⟨_, g1, rfl⟩ PySem.F.entry_tuple_eq (PySem.F.args_tuple_eq_2 _ _) ?_) hr.units0
  refine tup_eq_pre (R := wants (fun v s' => v ≠ .notImplemented ∧ EP X pins σ Q v s') X.xe) a b its.toArray jts.toArray n1 n2 d1 d2 s1 s2 hsz (fun _ s' => LoopI X pins σ H s') (fun i h1 h2 s' k => ?_) (fun s' k => ⟨(fun x => nomatch x), ?_⟩) g1 g2 ⟨H, I, Ext.rfl'⟩
  · have h1' : i < (its.take ys.length).toArray.size := by
      rw [List.size_toArray, List.length_take, ← r.length]
      rw [List.size_toArray, ← r2.length] at h2
      omega
    have t := turnG hD h ⟨hr, rfl⟩ p (Vals.take ys.length r) r2 i h1' h2 s' k
    have et : (its.take ys.length).toArray[i] = its.toArray[i] := by simp
    rw [et] at t
    exact t
  · obtain ⟨H', I', x⟩ := k
    exact ⟨.bl false, H', I', rfl, q H' x⟩
end
section
variable {X : Cx} {CX : CXT} {E : XK}
/-- x != y, x an instance with an own __eq__ and no __ne__, y a reference whose class does not come first -/
def rNeA (X : Cx) (CX : CXT) (E : XK) : R2 := fun x y H Q => ∃ (a b C dx : Addr) (fs : List (Str × V)) (t : Value), x = .ref a ∧ y = .ref b ∧ H a = some (.ins C dx fs) ∧ EqcC X.K C ∧ TyE X.K H y t ∧ notFirst X.K C t = true ∧
  ∃ (k : Nat) (fd : FuncData) (ps : List Str) (sp : Sp), keepIn X.K (.ref (He.ma X.K C "__eq__")) = true ∧ FnOk X.prog X.w X.K X.mg X.base CX k (He.ma X.K C "__eq__") fd ps sp ∧ Room (k + 1) X.A ∧ Binds X.K fd ps [] ∧ sp [x, y] H (fun v H' => ∃ b, v = .bl b ∧ Q (.bl !b) H') E
theorem op_neA (hx : Passes CX X E) : OpR X (compareOp .NotEq) (rNeA X CX E) := by
  intro pins s σ H x y v u Q I rx ry h
  obtain ⟨a, b, C, dx, fs, t, rfl, rfl, ha, T, ty, nf, k, fd, ps, sp, kp, G, hr, hb, q⟩ := h
  cases rx
  obtain ⟨mA, J, _⟩ := ins_get I.hok ha
  obtain ⟨od, J, _⟩ := J.look
  obtain ⟨P, Z, p, _⟩ := kit_ofE I ry ty
  cases ry
  have hty : Looks (model X.prog X.w) s.heap (typeOf (.ref b)) t := Z.ty _ _ I.kIn p
  obtain ⟨nm, qn, N, bs, hdct, sn, sub, ab, col, dd, k0, k1, k2, k3, k5, nid, hC, ok, ne1, ne2⟩ := T.cls
  have hn : s.heap.Ns N (s.heap.nsMap N) := .of_isNs (isNs_of_in I.kIn ok)
  obtain ⟨of, hof, hcl⟩ := Option.map_eq_some_iff.mp (show (X.K.lookup (He.ma X.K C "__eq__")).map (·.cls) = some (.type "function") from beq_iff_eq.mp T.fn)
  have own : s.heap.OwnEqNoNe a C (He.ma X.K C "__eq__") "object" [.type "object"] := ⟨_, of, nm, qn, N, bs, hdct, sn, sub, ab, col, dd, k0, k1, k2, k3, k5, nid, _, _, J.at_, rfl, I.kIn _ _ hC, hn, ns_at_of I.kIn hn ne1,
    I.kIn _ _ hof, hcl, F.cmp_object.mro, F.cmp_object.eq.lookup, ns_none_of I.kIn hn ne2⟩
  have kin := I.kIn
  have fin : wpAny (model X.prog X.w) X.A (tryCompare (.ref a) "__ne__" (.ref b)) (fun r s' => ∃ v, r = some v ∧ EP X pins σ Q v s') X.xe s := by
    have c := run_in1 (us := [.ref a, .ref b]) (vs := [.ref a, .ref b]) G hr.in1 hb hx I (.cons rfl (.cons rfl .nil)) q
    obtain ⟨hp, g, d, tk, os⟩ := s
    refine tryCompare_ne_ownEq F.cmp_object own (by have := hr.units; omega) (wpAny_mono c (fun z s' hz => ?_) fun _ _ e => e)
    obtain ⟨v', H', I', r', b', rfl, q'⟩ := hz
    obtain rfl : z = Value.bool b' := r'
    exact ⟨b', rfl, _, rfl, .bl !b', H', I', rfl, q'⟩
  show wpAny (model X.prog X.w) X.A (richCompare .NotEq (.ref a) (.ref b)) (EP X pins σ Q) X.xe s
  unfold richCompare
  simp only [oneThing_ref]
  refine wpAny_holding (wpAny_bind (wpAny_cRoomFor (by have := hr.units; omega) ?_))
  rw [cmpInfo_NotEq]
  dsimp only
  refine wpAny_bind (J.type.here (wpAny_bind (hty.here ?_)))
  have last : wpAny (model X.prog X.w) X.A (tryCompare (.ref a) "__ne__" (.ref b)) (fun r s' => ∃ v, r = some v ∧ EP X pins σ Q v s') X.xe s := fin
  split
  · rename_i z
    have e : subIn X.K t (.ref C) = some false := by
      rcases Bool.or_eq_true_iff.mp nf with e | e
      · rw [beq_iff_eq.mp e] at z
        simp at z
      · exact beq_iff_eq.mp e
    refine wpAny_bind ((looks_subIn kin e).here ?_)
    simp only [Bool.false_eq_true, if_false]
    refine wpAny_bind (wpAny_mono last (fun r s' z => ?_) fun _ _ e => e)
    obtain ⟨v, rfl, hq⟩ := z
    exact wpAny_pure hq
  · refine wpAny_bind (wpAny_pure ?_)
    simp only [Bool.false_eq_true, if_false]
    refine wpAny_bind (wpAny_mono last (fun r s' z => ?_) fun _ _ e => e)
    obtain ⟨v, rfl, hq⟩ := z
    exact wpAny_pure hq
end
end L2.Jk

set_option Elab.async false
set_option linter.all false
set_option maxRecDepth 100000
set_option maxHeartbeats 4000000
/-! == inside tuples, whatever it answers: instances with an own __eq__ among the items. -/
namespace L2.Jk
open PySem PySem.W PySem.Spec PySem.Calls PyProof.Rows PySem.SeqAt
open AutoSeq1 (wpAny_loadPart')
open MeetsSeq MeetsSeq2 MeetsSeq3 SeqRoads2
/-- how the items answer, up to the first No -/
def allE (e : Nat → Bool) (n : Nat) : Bool := (List.range n).all e
theorem allE_of {e : Nat → Bool} {n : Nat} (h : ∀ i, i < n → e i = true) : allE e n = true := List.all_eq_true.mpr fun i hi => h i (List.mem_range.mp hi)
theorem allE_no {e : Nat → Bool} {n i : Nat} (hi : i < n) (h : e i = false) : allE e n = false := by
  cases z : allE e n with
  | false => rfl
  | true => rw [List.all_eq_true.mp z i (List.mem_range.mpr hi)] at h; cases h
section
variable {prog : Program} {w : World} {A : Around} {R : Result → Shared → Prop} {E : Value → Shared → Prop} {s : Shared}
theorem tup_eq_any (l b : Addr) (its jts : Array Value) (n n2 : Nat) (dd dd2 : Option Addr) (sl sl2 : Array (Option Value)) (e : Nat → Bool) (J : Nat → Shared → Prop)
    (turn : ∀ i (h1 : i < its.size) (h2 : i < jts.size) s, J i s → wpAny (model prog w) A.in1 (eqBool its[i] jts[i]) (fun r s' => r = e i ∧ J (i + 1) s') (fun e s' => R (.error e) s') s)
    (fin : ∀ i s, J i s → R (.ok (.ret (.bool (allE e (min its.size jts.size) && (its.size == jts.size))))) s) (hl : s.heap.get? l = some { cls := .type "tuple", dict := dd, data := .seq its n, slots := sl }) (hb : s.heap.get? b = some { cls := .type "tuple", dict := dd2, data := .seq jts n2, slots := sl2 })
    (h : J 0 s) : wpAny (model prog w) A.in1 (Builtin.«tuple.__eq__» ⟨[.ref l, .ref b], []⟩) (GQ.FinOf prog w A R) (fun e s' => R (.error e) s') s := by
  have f2 := AutoSeq1.sub_tuple_tuple
  have len : (its.toList.zip jts.toList).length = min its.size jts.size := by simp
  have h0 := h
  obtain ⟨hp, g, d, tk, os⟩ := s
  wp_walk using wpAny_loadPart' hl, wpAny_loadPart' hb, wpAny_forIn_list _ (fun rest b s' => b.1 = none ∧ ∃ i, rest = (its.toList.zip jts.toList).drop i ∧ i ≤ min its.size jts.size ∧ (∀ k, k < i → e k = true) ∧ J i s') _
  case turn =>
    rintro ⟨y, x⟩ rest b s' ⟨hb', i, hz, hi, he, hJ⟩
    have lt : i < (its.toList.zip jts.toList).length := by
      refine Nat.lt_of_not_le fun z => ?_
      rw [List.drop_of_length_le z] at hz
      cases hz
    have h1 : i < its.size := by omega
    have h2 : i < jts.size := by omega
    rw [List.drop_eq_getElem_cons lt] at hz
    obtain ⟨e1, e2⟩ := List.cons.inj hz
    obtain rfl : y = its[i] := by simpa using congrArg Prod.fst e1
    obtain rfl : x = jts[i] := by simpa using congrArg Prod.snd e1
    refine wpAny_bind (wpAny_mono (turn i h1 h2 s' hJ) (fun r s2 q2 => ?_) fun _ _ x => x)
    obtain ⟨rfl, q2⟩ := q2
    cases ez : e i with
    | true =>
      wp_walk
      exact ⟨rfl, i + 1, e2, by omega, fun k hk => if h : k = i then h ▸ ez else he k (by omega), q2⟩
    | false =>
      have hR := fin (i + 1) s2 q2
      rw [allE_no (show i < min its.size jts.size by omega) ez, Bool.false_and] at hR
      wp_walk
      exact hR
  case fin =>
    rintro ⟨b1, b2⟩ s' ⟨hb', i, hz, hi, he, hJ⟩
    dsimp only at hb'
    subst hb'
    have ge : min its.size jts.size ≤ i := by
      refine Nat.le_of_not_lt fun z => ?_
      rw [List.drop_eq_getElem_cons (by rw [len]; exact z)] at hz
      cases hz
    have hR := fin i s' hJ
    rw [allE_of (fun k hk => he k (by omega)), Bool.true_and] at hR
    wp_walk
    simpa [Builtin.Tuple.tupleCompareSizes] using hR
  case h => exact ⟨rfl, 0, rfl, Nat.zero_le _, (fun k hk => absurd hk (Nat.not_lt_zero _)), h0⟩
end
/-- how two values are seen to answer, by the abstract heap -/
abbrev EqvB := V → V → Bool → Hp → Prop
def MonB (D : EqvB) : Prop := ∀ x y b H H', Ext H H' → D x y b H → D x y b H'
def EqGB (X : Cx) (n : Nat) (D : EqvB) : Prop := ∀ (A : Around) (pins : List (Addr × Obj)) (s : Shared) (σ : St) (H : Hp) (x y : V) (u v : Value) (b : Bool), Sub X n A → Inv X pins σ H s → RelV x u → RelV y v → D x y b H →
  wpAny (model X.prog X.w) A (eqBool u v) (fun r s' => r = b ∧ ∃ H', Inv X pins σ H' s' ∧ Ext H H') X.xe s
section
variable {X : Cx} {n : Nat} {D : EqvB}
theorem EqGB.mono {m : Nat} (h : EqGB X n D) (hn : n ≤ m) : EqGB X m D := fun A pins s σ H x y u v b sb => h A pins s σ H x y u v b (sb.mono hn)
theorem EqGB.or {D' : EqvB} (h : EqGB X n D) (h' : EqGB X n D') : EqGB X n (fun x y b H => D x y b H ∨ D' x y b H) := fun A pins s σ H x y u v b sb I rx ry d => by
  rcases d with d | d
  · exact h A pins s σ H x y u v b sb I rx ry d
  · exact h' A pins s σ H x y u v b sb I rx ry d
/-- instances of the class at C with the text's own ==: what it answers -/
def DInB (C : Addr) (R : Addr → Addr → Bool → Hp → Prop) : EqvB := fun x y c H => ∃ a b dx dy fs gs, x = .ref a ∧ y = .ref b ∧ H a = some (.ins C dx fs) ∧ H b = some (.ins C dy gs) ∧ R a b c H ∧ (a = b → c = true)
def spEqB (R : Addr → Addr → Bool → Hp → Prop) : Sp := fun vs H Q _ => ∃ a b c, vs = [.ref a, .ref b] ∧ R a b c H ∧ ∀ H', Ext H H' → Q (.bl c) H'
theorem monB_in {C : Addr} {R : Addr → Addr → Bool → Hp → Prop} (hR : ∀ a b c H H', Ext H H' → R a b c H → R a b c H') : MonB (DInB C R) := fun x y c H H' e d => by
  obtain ⟨a, b, dx, dy, fs, gs, hx, hy, h1, h2, r, z⟩ := d
  exact ⟨a, b, dx, dy, fs, gs, hx, hy, e _ _ h1, e _ _ h2, hR a b c H H' e r, z⟩
theorem eqGB_in {CX : CXT} {C f : Addr} {fd : FuncData} {ps : List Str} {R : Addr → Addr → Bool → Hp → Prop} {E : XK} (F : FnOk X.prog X.w X.K X.mg X.base CX n f fd ps (spEqB R))
    (hs : PySem.W.findIn X.K (.ref C) "__eq__" = some (some (.ref f))) (hf : PySem.W.isFn X.K (.ref f) = true) (hb : Binds X.K fd ps []) (hx : Passes CX X E) : EqGB X n (DInB C R) := by
  intro A pins s σ H x y u v c sb I rx ry d
  obtain ⟨a, b, dx, dy, fs, gs, rfl, rfl, ha, hb', hr, hsame⟩ := d
  cases rx
  cases ry
  by_cases hab : a = b
  · subst hab
    rw [hsame rfl]
    exact SeqAt.EqAt.same (A := A) (s := s) (.ref a) X.prog X.w X.xe _ ⟨rfl, H, I, Ext.rfl'⟩
  refine GQ.eqBool_refG hab ?_
  obtain ⟨mA, J, _⟩ := ins_get I.hok ha
  obtain ⟨mB, J', _⟩ := ins_get I.hok hb'
  obtain ⟨od, J, _⟩ := J.look
  obtain ⟨od', J', _⟩ := J'.look
  obtain ⟨m, hF⟩ := I.fr
  refine cmp_K (op := .Eq) (tb := .ref C) sb.room.units0 hF I.ok.mod.kin J J'.type (by simp [notFirst]) hs hf ?_
  have sp : spEqB R [.ref a, .ref b] H (fun v H' => v = .bl c ∧ Ext H H') E := ⟨a, b, c, rfl, hr, fun H' e => ⟨rfl, e⟩⟩
  have e0 : Env0 X.prog X.w X.K X.mg X.base A X.stack s H := by
    have e := I.env0
    exact ⟨(by rw [sb.fr]; exact e.frames), e.mod, e.bs, e.bsz, e.funs, e.frf, e.hok, e.bare⟩
  have hl := F.len _ _ _ _ sp
  have rv : Vals [V.ref a, V.ref b] [Value.ref a, Value.ref b] := .cons rfl (.cons rfl .nil)
  have bt := hb s [.ref a, .ref b] I.kIn (by simpa using hl)
  refine wpAny_call (codeAny_mono (F.run A X.stack s H ⟨[.ref a, .ref b], []⟩ [.ref a, .ref b] [.ref a, .ref b] _ E sb.room e0 (by simpa using bt) rv sp) fun r s' hq => ?_)
  cases r with
  | error e => exact hx pins σ H s e s' I hq
  | ok fl =>
    cases fl with
    | ret w =>
      obtain ⟨z, H', I', rz, ez, ex⟩ := I.after hq
      subst ez
      cases rz
      exact ⟨c, rfl, rfl, H', I', ex⟩
    | next => exact False.elim hq
    | brk => exact False.elim hq
    | cont => exact False.elim hq
/-- t == u of tuples whose items answer as D says -/
def rEqTB (K : Frag) (D : EqvB) : R2 := fun x y H Q => ∃ (a b : Addr) (xs ys : List V) (e : Nat → Bool), x = .ref a ∧ y = .ref b ∧ SqT K H a xs ∧ SqT K H b ys ∧ (∀ (i : Nat) x y, xs[i]? = some x → ys[i]? = some y → D x y (e i) H) ∧
  ∀ H', Same H H' → Q (.bl (allE e (min xs.length ys.length) && (xs.length == ys.length))) H'
theorem op_eqTB (hD : MonB D) (h : EqGB X n D) (hr : Room (n + 1) X.A) : OpR X (compareOp .Eq) (rEqTB X.K D) := by
  intro pins s σ H x y v u Q I rx ry hq
  obtain ⟨a, b, xs, ys, e, rfl, rfl, ha, hb, p, q⟩ := hq
  cases rx
  cases ry
  obtain ⟨its, r, ea, z⟩ := I.tuple ha
  obtain ⟨jts, r2, eb, z2⟩ := I.tuple hb
  obtain ⟨⟨c1, d1, t1, s1⟩, g1, k1, n1, e1⟩ := id ea
  obtain ⟨⟨c2, d2, t2, s2⟩, g2, k2, n2, e2⟩ := id eb
  dsimp only at k1 e1 k2 e2
  subst k1 e1 k2 e2
  have sz1 : its.toArray.size = xs.length := by rw [List.size_toArray, ← r.length]
  have sz2 : jts.toArray.size = ys.length := by rw [List.size_toArray, ← r2.length]
  show wpAny (model X.prog X.w) X.A (richCompare .Eq (.ref a) (.ref b)) (EP X pins σ Q) X.xe s
  refine wpAny_richCompare_same_room (op := .Eq) ⟨_, g1, rfl⟩ ⟨_, g2, rfl⟩ PySem.F.slot_tuple_eq (GQ.call_here PySem.F.slot_tuple_eq ⟨_, g1, rfl⟩ PySem.F.entry_tuple_eq (PySem.F.args_tuple_eq_2 _ _) ?_) hr.units0
  refine tup_eq_any (R := wants (fun v s' => v ≠ .notImplemented ∧ EP X pins σ Q v s') X.xe) a b its.toArray jts.toArray n1 n2 d1 d2 s1 s2 e (fun _ s' => LoopI X pins σ H s') (fun i h1 h2 s' k => ?_) (fun i s' k => ⟨(fun x => nomatch x), ?_⟩) g1 g2 ⟨H, I, Ext.rfl'⟩
  · obtain ⟨H1, I1, x1⟩ := k
    have i1 : i < xs.length := by rw [← sz1]; exact h1
    have i2 : i < ys.length := by rw [← sz2]; exact h2
    obtain ⟨u', hu, ru⟩ := r.get (List.getElem?_eq_getElem i1)
    obtain ⟨v', hv, rv⟩ := r2.get (List.getElem?_eq_getElem i2)
    have g1' : its[i]? = some its.toArray[i] := by
      have h1' : i < its.length := by simpa using h1
      rw [List.getElem?_eq_getElem h1'] <;> simp
    have g2' : jts[i]? = some jts.toArray[i] := by
      have h2' : i < jts.length := by simpa using h2
      rw [List.getElem?_eq_getElem h2'] <;> simp
    rw [g1'] at hu
    rw [g2'] at hv
    rw [Option.some.inj hu, Option.some.inj hv]
    refine wpAny_mono (h X.A.in1 pins s' σ H1 _ _ u' v' (e i) (Sub.in1 ⟨hr, rfl⟩) I1 ru rv (hD _ _ _ _ _ x1 (p i _ _ (List.getElem?_eq_getElem i1) (List.getElem?_eq_getElem i2)))) (fun r s2 q => ?_) fun _ _ x => x
    obtain ⟨hr', H2, I2, e2⟩ := q
    exact ⟨hr', H2, I2, x1.trans e2⟩
  · obtain ⟨H', I', x⟩ := k
    rw [sz1, sz2]
    exact ⟨.bl _, H', I', rfl, q H' x⟩
end
end L2.Jk

set_option Elab.async false
set_option linter.all false
set_option maxRecDepth 100000
set_option maxHeartbeats 4000000
/-! == inside tuples: an instance with an own __eq__ and an instance of any class. -/
namespace L2.Jk
open PySem PySem.W PySem.Spec PySem.Calls PyProof.Rows PySem.SeqAt
section
variable {X : Cx} {n : Nat} {D : EqvB}
/-- an instance of the class at C with the text's own ==, and an instance of any class that does not come first: what it answers -/
def DInX (K : Frag) (C : Addr) (R : Addr → Addr → Bool → Hp → Prop) : EqvB := fun x y c H => ∃ a b dx dy C2 fs gs, x = .ref a ∧ y = .ref b ∧ H a = some (.ins C dx fs) ∧ H b = some (.ins C2 dy gs) ∧ notFirst K C (.ref C2) = true ∧ R a b c H ∧ (a = b → c = true)
theorem monB_inX {K : Frag} {C : Addr} {R : Addr → Addr → Bool → Hp → Prop} (hR : ∀ a b c H H', Ext H H' → R a b c H → R a b c H') : MonB (DInX K C R) := fun x y c H H' e d => by
  obtain ⟨a, b, dx, dy, C2, fs, gs, hx, hy, h1, h2, nf, r, z⟩ := d
  exact ⟨a, b, dx, dy, C2, fs, gs, hx, hy, e _ _ h1, e _ _ h2, nf, hR a b c H H' e r, z⟩
theorem eqGB_inX {CX : CXT} {C f : Addr} {fd : FuncData} {ps : List Str} {R : Addr → Addr → Bool → Hp → Prop} {E : XK} (F : FnOk X.prog X.w X.K X.mg X.base CX n f fd ps (spEqB R))
    (hs : PySem.W.findIn X.K (.ref C) "__eq__" = some (some (.ref f))) (hf : PySem.W.isFn X.K (.ref f) = true) (hb : Binds X.K fd ps []) (hx : Passes CX X E) : EqGB X n (DInX X.K C R) := by
  intro A pins s σ H x y u v c sb I rx ry d
  obtain ⟨a, b, dx, dy, C2, fs, gs, rfl, rfl, ha, hb', nf, hr, hsame⟩ := d
  cases rx
  cases ry
  by_cases hab : a = b
  · subst hab
    rw [hsame rfl]
    exact SeqAt.EqAt.same (A := A) (s := s) (.ref a) X.prog X.w X.xe _ ⟨rfl, H, I, Ext.rfl'⟩
  refine GQ.eqBool_refG hab ?_
  obtain ⟨mA, J, _⟩ := ins_get I.hok ha
  obtain ⟨mB, J', _⟩ := ins_get I.hok hb'
  obtain ⟨od, J, _⟩ := J.look
  obtain ⟨od', J', _⟩ := J'.look
  obtain ⟨m, hF⟩ := I.fr
  refine cmp_K (op := .Eq) (tb := .ref C2) sb.room.units0 hF I.ok.mod.kin J J'.type nf hs hf ?_
  have sp : spEqB R [.ref a, .ref b] H (fun v H' => v = .bl c ∧ Ext H H') E := ⟨a, b, c, rfl, hr, fun H' e => ⟨rfl, e⟩⟩
  have e0 : Env0 X.prog X.w X.K X.mg X.base A X.stack s H := by
    have e := I.env0
    exact ⟨(by rw [sb.fr]; exact e.frames), e.mod, e.bs, e.bsz, e.funs, e.frf, e.hok, e.bare⟩
  have hl := F.len _ _ _ _ sp
  have rv : Vals [V.ref a, V.ref b] [Value.ref a, Value.ref b] := .cons rfl (.cons rfl .nil)
  have bt := hb s [.ref a, .ref b] I.kIn (by simpa using hl)
  refine wpAny_call (codeAny_mono (F.run A X.stack s H ⟨[.ref a, .ref b], []⟩ [.ref a, .ref b] [.ref a, .ref b] _ E sb.room e0 (by simpa using bt) rv sp) fun r s' hq => ?_)
  cases r with
  | error e => exact hx pins σ H s e s' I hq
  | ok fl =>
    cases fl with
    | ret w =>
      obtain ⟨z, H', I', rz, ez, ex⟩ := I.after hq
      subst ez
      cases rz
      exact ⟨c, rfl, rfl, H', I', ex⟩
    | next => exact False.elim hq
    | brk => exact False.elim hq
    | cont => exact False.elim hq
theorem MonB.or {D' : EqvB} (h : MonB D) (h' : MonB D') : MonB (fun x y b H => D x y b H ∨ D' x y b H) := fun x y b H H' e d => d.imp (h x y b H H' e) (h' x y b H H' e)
/-- the same object -/
def DSameB : EqvB := fun x y c _ => ∃ a : Addr, x = .ref a ∧ y = .ref a ∧ c = true
theorem monB_same : MonB DSameB := fun _ _ _ _ _ _ d => d
theorem eqGB_same : EqGB X 0 DSameB := by
  intro A pins s σ H x y u v c sb I rx ry d
  obtain ⟨a, rfl, rfl, rfl⟩ := d
  cases rx
  cases ry
  exact SeqAt.EqAt.same (A := A) (s := s) (.ref a) X.prog X.w X.xe _ ⟨rfl, H, I, Ext.rfl'⟩
end
end L2.Jk

set_option Elab.async false
set_option linter.all false
set_option maxRecDepth 100000
set_option maxHeartbeats 4000000
/-! list < list, of whole numbers. -/
namespace L2.Jk
open PySem PySem.W PySem.Spec PySem.Calls PyProof.Rows L2
def rLtL (K : Frag) : R2 := fun x y H Q => ∃ a b ns ms, x = .ref a ∧ y = .ref b ∧ SqL K H a (ns.map V.int) ∧ SqL K H b (ms.map V.int) ∧ Q (.bl (listLt ns ms)) H
theorem dp_ints {K : Frag} {H : Hp} : ∀ ns : List Int, DpAll K H (ns.map V.int) (ns.map PyData.int)
  | [] => .nil
  | n :: ns => .cons (.int n) (dp_ints ns)
theorem op_ltL {X : Cx} (hu : X.A.units + 64 < cLine) : OpR X (compareOp .Lt) (rLtL X.K) := by
  intro pins s σ H x y v u Q I rx ry h
  obtain ⟨a, b, ns, ms, rfl, rfl, ha, hb, q⟩ := h
  obtain ⟨as, r1⟩ := Dp.reads I (.list (ns.map PyData.int)) _ v (.lst ha (dp_ints ns)) rx
  obtain ⟨bs, r2⟩ := Dp.reads I (.list (ms.map PyData.int)) _ u (.lst hb (dp_ints ms)) ry
  exact PySem.W.lt_datum (x := ns) (y := ms) ⟨as, r1⟩ ⟨bs, r2⟩ (by
    have : Datum.depth (List Int) ≤ 64 := by decide
    omega) ⟨.bl (listLt ns ms), H, I, rfl, q⟩
/-! tuples: a slice, a sum, told by their items -/
def rSlTS : V → Option Int → Option Int → Hp → VK → Prop := fun x lo hi H Q => ∃ a xs, x = .ref a ∧ H a = some (.tup xs) ∧ ∀ p H', (∀ b o, H b = some o → H' b = some o) → H' p = some (.tup (cutV xs lo hi)) → Q (.ref p) H'
theorem sl_tupTS {X : Cx} : SlR X rSlTS := by
  intro pins s σ H x v vl vu lo hi sl Q I rx hs pl pu h
  obtain ⟨a, xs, rfl, hx, q⟩ := h
  refine sl_tupA pins s σ H _ v vl vu lo hi sl Q I rx hs pl pu ⟨a, xs, rfl, SqT.of hx, fun hw => q a H (fun _ _ e => e) ?_, fun hw p hp => q p _ (fun b o e => ?_) upd_same⟩
  · have e : cutV xs lo hi = xs := by
      unfold cutV
      rw [hw.1, hw.2, List.drop_zero, Nat.sub_zero, List.take_length]
    rw [e]
    exact hx
  · rw [upd_ne (ne_of_none e hp)]
    exact e
def rCatTS : R2 := fun x y H Q => ∃ a b xs ys, x = .ref a ∧ y = .ref b ∧ H a = some (.tup xs) ∧ H b = some (.tup ys) ∧ xs.length + ys.length ≤ sizeLine ∧ ∀ p H', (∀ b o, H b = some o → H' b = some o) → H' p = some (.tup (xs ++ ys)) → Q (.ref p) H'
theorem op_catTS {X : Cx} : OpR X (binaryOp .Add) rCatTS := by
  intro pins s σ H x y v u Q I rx ry h
  obtain ⟨a, b, xs, ys, rfl, rfl, ha, hb, hz, q⟩ := h
  refine op_catA pins s σ H _ _ v u Q I rx ry ⟨a, b, xs, ys, rfl, rfl, SqT.of ha, SqT.of hb, hz, fun e => q b H (fun _ _ e => e) ?_, fun _ e => q a H (fun _ _ e => e) ?_, fun _ _ p hp => q p _ (fun c o e => ?_) upd_same⟩
  · rw [e, List.nil_append]
    exact hb
  · rw [e, List.append_nil]
    exact ha
  · rw [upd_ne (ne_of_none e hp)]
    exact e
theorem call_ieK {X : Cx} {K : Frag} (h : X.K = K) : CallR X (.builtin "isinstance") (rIe K) := by
  subst h
  exact call_ie
theorem mt_indexK {X : Cx} {K : Frag} (h : X.K = K) : MtR X "list.index" (rIndex K) := by
  subst h
  exact mt_index
end L2.Jk

set_option Elab.async false
set_option linter.all false
set_option maxRecDepth 100000
set_option maxHeartbeats 4000000
/-! The spots of a word's field. -/
namespace L2.Jk
open PySem PySem.W PySem.Spec PySem.Calls PyProof.Rows
/-- what is never reached -/
theorem pss_dead {X : Cx} {b : List Stmt} : PSs X b (fun _ _ _ => False) := ⟨fun _ _ _ _ _ _ h => h.elim⟩
end L2.Jk
namespace L2.K22
open PySem PySem.W PySem.Spec PySem.Calls PyProof.Rows L2.Jk
def spIn (K : Frag) : Sp := fun vs H Q _ => ∃ (y : Addr) (t z : Str) (l : Int) (m : V), vs = [.ref y, .str t] ∧ FieldAt K H y (.word (.str z) (.int l) m) ∧ t.length ≤ 4000 ∧ (m = .non ∨ ∃ j, m = .int j) ∧ ∀ a H', Same H H' → WSAt K H' a t z l (if decide (m = .non) = true then (t.length : Nat) else intV m) → Q (.ref a) H'
structure S2 (P : Program) (w : World) (K : Frag) (mg : Str → Option Value) (base : Heap) : Prop extends S1 P w K mg base where
  kWS : ClsAt P w K mg base CX0 2 "WordSpots" (WS K) ["self", "field", "text"] (spWi K)
section
variable {P : Program} {w : World} {K : Frag} {mg : Str → Option Value} {base : Heap} {f : Addr} {fd : FuncData}

abbrev s_spots_in : Stmt := top 40
theorem sc_spots_in : FnScope ["field", "text"] ["field", "text"] (defScope s_spots_in) := ⟨rfl, rfl, rfl, by decide +kernel, rfl, by decide +kernel, by decide +kernel⟩

theorem ok_spots_in (F : FunD K "spots_in" "spots_in" (defArgs s_spots_in) (defBody s_spots_in) (defScope s_spots_in) [] [] f fd) (G : S2 P w K mg base) : FnOk P w K mg base CX0 4 f fd ["field", "text"] (spIn K) := by
  refine F.ok (CX := CX0) sc_spots_in (fun vs H Q E h => ?_) (fun cdv A outer s H vs Q E hr h => ?_)
  · obtain ⟨_, _, _, _, _, rfl, _⟩ := h
    rfl
  · refine ⟨_, PSs.nox (pss_cons (ps_if (pt_val (pe_callB (call_ieK (K := K) rfl) (by rfl) G.isinstance (by decide +kernel) (pa_cons (pv 0) (pa_cons (pe_gref (by rfl) G.cWord.mgC) pa_nil))))
      (pss_one (ps_ret (pe_newS (E := fun _ => E0) G.kWS hr pass0A (by rfl) (pa_cons (pv 0) (pa_cons (pv 1) pa_nil)))))
      pss_nil)
    pss_dead), ?_⟩
    obtain ⟨y, t, z, l, m, rfl, hy, ht, hm, q⟩ := h
    obtain ⟨dy, ey⟩ := id hy
    refine ⟨_, rfl, _, _, _, _, _, rfl, .own _, G.ty (i := 0) (by decide) ey, G.kit 0 0 (by decide) (by decide), _, rfl, iteT ?_⟩
    refine ⟨_, rfl, _, rfl, fun a dx ha hx ne => ?_⟩
    have S : Same H (upd (upd H dx (.own a)) a (.ins (WS K) dx [])) := same_new ha hx
    have ny : y ≠ a := ne_of_none ey ha
    refine ⟨a, dx, y, t, .str z, .int l, m, rfl, upd_same, ny, ⟨dy, S _ _ ey⟩, by rw [sizeLine_eq]; omega, rfl, ?_⟩
    refine q a _ (same_put S ha) ⟨dx, ?_⟩
    rw [upd_same]
    rcases hm with rfl | ⟨j, rfl⟩
    · rfl
    · rfl

end
end L2.K22

set_option Elab.async false
set_option linter.all false
set_option maxRecDepth 100000
set_option maxHeartbeats 4000000
/-! The first place of a rising list that is not below a number. -/
namespace L2.K22
open PySem PySem.W PySem.Spec PySem.Calls PyProof.Rows L2.Jk
def lowB (ps : List Nat) (x : Int) : Nat := (ps.takeWhile fun p : Nat => decide ((p : Int) < x)).length
theorem lowB_of : ∀ (ps : List Nat) (x : Int) (lo : Nat), lo ≤ ps.length → (∀ (j : Nat) y, ps[j]? = some y → ((y : Int) < x ↔ j < lo)) → lowB ps x = lo
  | [], x, lo, h, _ => by
    have : lo = 0 := Nat.le_zero.mp h
    subst this
    rfl
  | p :: ps, x, 0, _, k => by
    have z : ¬ ((p : Int) < x) := fun q => absurd ((k 0 p rfl).mp q) (Nat.not_lt_zero _)
    unfold lowB
    rw [List.takeWhile_cons_of_neg (by simp only [decide_eq_true_iff]; exact z)]
    rfl
  | p :: ps, x, lo + 1, h, k => by
    have z : (p : Int) < x := (k 0 p rfl).mpr (Nat.succ_pos _)
    have ih := lowB_of ps x lo (Nat.le_of_succ_le_succ h) fun j y hy => by
      have := k (j + 1) y hy
      omega
    unfold lowB at ih ⊢
    rw [List.takeWhile_cons_of_pos (by simp only [decide_eq_true_iff]; exact z), List.length_cons, ih]
theorem asc_lt {ps : List Nat} (h : ps.Pairwise (· < ·)) {i j : Nat} {a b : Nat} (hij : i < j) (ha : ps[i]? = some a) (hb : ps[j]? = some b) : a < b := by
  obtain ⟨i1, rfl⟩ := List.getElem?_eq_some_iff.mp ha
  obtain ⟨j1, rfl⟩ := List.getElem?_eq_some_iff.mp hb
  exact List.pairwise_iff_getElem.mp h i j i1 j1 hij
def spFf : Sp := fun vs H Q _ => ∃ (pl : Addr) (ps : List Nat) (x : Int), vs = [.ref pl, .int x] ∧ H pl = some (.lst (ps.map fun p => V.int (p : Nat))) ∧ ps.Pairwise (· < ·) ∧ Q (.int (lowB ps x : Nat)) H
section
variable {P : Program} {w : World} {K : Frag} {mg : Str → Option Value} {base : Heap} {f : Addr} {fd : FuncData}

abbrev s_first_from : Stmt := top 38
theorem sc_first_from : FnScope ["ascending", "thing", "low", "high", "middle"] ["ascending", "thing"] (defScope s_first_from) := ⟨rfl, rfl, rfl, by decide +kernel, rfl, by decide +kernel, by decide +kernel⟩

theorem ok_first_from (F : FunD K "first_from" "first_from" (defArgs s_first_from) (defBody s_first_from) (defScope s_first_from) [] [] f fd) (G : Q0 P w K mg base) : FnOk P w K mg base CX0 1 f fd ["ascending", "thing"] spFf := by
  refine F.ok (CX := CX0) sc_first_from (fun vs H Q E h => ?_) (fun cdv A outer s H vs Q E hr h => ?_)
  · obtain ⟨_, _, _, rfl, _⟩ := h
    rfl
  · refine ⟨_, PSs.nox (pss_cons (ps_set (i := 2) sc_first_from.nd rfl (Or.inl rfl) pe_int)
    (pss_cons (ps_set (i := 3) sc_first_from.nd rfl (Or.inl rfl) (pe_callB call_len_seq (by rfl) G.len (by decide +kernel) (pa_cons (pv 0) pa_nil)))
    (pss_cons (ps_while PassesOwn.never (pt_cmpR op_lt (pv 2) (pv 3) (nomark _))
      (pss_cons (ps_set (i := 4) sc_first_from.nd rfl (Or.inl rfl) (pe_op op_fdivN (pe_op op_add (pv 2) (pv 3)) pe_int))
      (pss_one (ps_if (pt_cmpR op_lt (pe_ix ix_list (pv 0) (pv 4) (fun _ _ => rfl)) (pv 1) (nomark _))
        (pss_one (ps_set (i := 2) sc_first_from.nd rfl (Or.inl rfl) (pe_op op_add (pv 4) pe_int)))
        (pss_one (ps_set (i := 3) sc_first_from.nd rfl (Or.inl rfl) (pv 4)))))))
    (pss_one (ps_ret (pv 2)))))), ?_⟩
    obtain ⟨p, ts, t, rfl, hp, ha, q⟩ := h
    refine ⟨_, rfl, p, _, rfl, .inl (SqL.of hp), ?_⟩
    refine while_by (fun σ J => ∃ (lo hi : Nat) (v4 : Option V), σ = [some (.ref p), some (.int t), some (.int (lo : Nat)), some (.int (hi : Nat)), v4] ∧ J = H ∧ lo ≤ hi ∧ hi ≤ ts.length ∧ (∀ (j : Nat) x, ts[j]? = some x → j < lo → (x : Int) < t) ∧ ∀ (j : Nat) x, ts[j]? = some x → hi ≤ j → ¬ (x : Int) < t)
      (fun σ _ => match σ with | [_, _, some (.int lo), some (.int hi), _] => (hi - lo).toNat | _ => 0) ?_ ?_ ?_
    · refine ⟨0, ts.length, _, by rw [List.length_map]; rfl, rfl, Nat.zero_le _, Nat.le_refl _, fun j x _ h => absurd h (Nat.not_lt_zero _), fun j x hx h => ?_⟩
      have := (List.getElem?_eq_some_iff.mp hx).1
      omega
    · rintro σ J ⟨lo, hi, v4, rfl, rfl, h1, h2, h3, h4⟩
      refine ⟨_, rfl, _, rfl, _, _, rfl, rfl, _, rfl, ?_⟩
      refine ite2 (fun c => ?_) (fun c => ?_)
      · have hlt : lo < hi := by have := of_decide_eq_true c; omega
        refine ⟨_, rfl, _, rfl, _, _, rfl, rfl, _, _, rfl, rfl, ⟨by decide, by decide⟩, ?_⟩
        have em : ((fun i j : Int => V.int (i.fdiv j)) ((lo : Int) + (hi : Int)) 2) = V.int (((lo + hi) / 2 : Nat) : Int) := by
          show V.int (Int.fdiv _ _) = _
          rw [Int.fdiv_eq_ediv_of_nonneg _ (by decide)]
          congr 1
        rw [em]
        have m1 : lo ≤ (lo + hi) / 2 := by omega
        have m2 : (lo + hi) / 2 < hi := by omega
        generalize (lo + hi) / 2 = mid at m1 m2
        obtain ⟨x, hx⟩ : ∃ x, ts[mid]? = some x := ⟨_, List.getElem?_eq_getElem (by omega)⟩
        have hxv : (ts.map fun p => V.int (p : Nat))[mid]? = some (V.int (x : Nat)) := by rw [List.getElem?_map, hx]; rfl
        refine ⟨_, rfl, _, rfl, p, _, _, _, rfl, rfl, SqL.of hp, atI_nat (j := mid) hxv, _, rfl, _, _, rfl, rfl, _, rfl, ?_⟩
        refine ite2 (fun c2 => ?_) (fun c2 => ?_)
        · refine ⟨_, rfl, _, _, rfl, rfl, ⟨mid + 1, hi, _, by rfl, rfl, by omega, h2, fun j y hy hj => ?_, h4⟩, ?_⟩
          · rcases Nat.lt_or_ge j mid with k | k
            · have := asc_lt ha k hy hx; have := of_decide_eq_true c2; omega
            · obtain rfl : j = mid := by omega
              rw [hx] at hy
              cases hy
              exact of_decide_eq_true c2
          · show ((hi : Int) - ((mid : Int) + 1)).toNat < ((hi : Int) - (lo : Int)).toNat
            omega
        · refine ⟨_, rfl, ⟨lo, mid, _, rfl, rfl, by omega, by omega, h3, fun j y hy hj => ?_⟩, ?_⟩
          · rcases Nat.lt_or_ge mid j with k | k
            · have := asc_lt ha k hx hy
              have c3 : ¬ (x : Int) < t := fun q => c2 (decide_eq_true q)
              omega
            · obtain rfl : j = mid := by omega
              rw [hx] at hy
              cases hy
              exact fun q => c2 (decide_eq_true q)
          · show ((mid : Int) - (lo : Int)).toNat < ((hi : Int) - (lo : Int)).toNat
            omega
      · have heq : lo = hi := by
          rcases Nat.lt_or_ge lo hi with k | k
          · exact absurd (decide_eq_true (by omega)) c
          · omega
        subst heq
        refine ⟨_, rfl, ?_⟩
        rw [lowB_of ts t lo h2 fun j x hx => ⟨fun h => ?_, fun h => h3 j x hx h⟩] at q
        · exact q
        · rcases Nat.lt_or_ge j lo with k | k
          · exact k
          · exact absurd h (h4 j x hx k)
    · intro σ J Q1 Q2 m h
      obtain ⟨v1, e1, v2, e2, i, j, e3, e4, k, e5, h⟩ := h
      exact ⟨v1, e1, v2, e2, i, j, e3, e4, k, e5, m _ _ h⟩

end
end L2.K22

set_option Elab.async false
set_option linter.all false
set_option maxRecDepth 100000
set_option maxHeartbeats 4000000
/-! zip of three sequences, lists or tuples. -/
namespace L2.Jk.Z3
open PySem
open PySem.Sem (wp)
/-- a list (true) or a tuple -/
def Sq : Bool → Heap → Addr → Array Value → Prop
  | true, h, a, xs => h.IsList a xs
  | false, h, a, xs => h.IsTuple a xs
def It : Bool → Heap → Addr → Addr → Nat → Prop
  | true, h, a, l, k => h.IsListIter a l k
  | false, h, a, l, k => h.IsTupleIter a l k
def itN : Bool → Str
  | true => "list_iterator"
  | false => "tuple_iterator"
theorem Sq.ext {b : Bool} {h h' : Heap} {a c : Addr} {xs : Array Value} (x : Sq b h a xs) (e : Heap.ExtBut c h h') (n : a ≠ c) : Sq b h' a xs := by
  cases b
  · exact Heap.IsTuple.extBut x e n
  · exact Heap.IsList.extBut x e n
theorem Sq.at {b : Bool} {h h' : Heap} {a : Addr} {xs : Array Value} (x : Sq b h a xs) (k : ∀ o, h.get? a = some o → h'.get? a = some o) : Sq b h' a xs := by
  cases b <;> (obtain ⟨o, ho, r⟩ := x; exact ⟨o, k o ho, r⟩)
theorem It.at {b : Bool} {h h' : Heap} {a l : Addr} {i : Nat} (x : It b h a l i) (k : ∀ o, h.get? a = some o → h'.get? a = some o) : It b h' a l i := by
  cases b <;> (obtain ⟨o, ho, r⟩ := x; exact ⟨o, k o ho, r⟩)
theorem It.ext {b : Bool} {h h' : Heap} {a c l : Addr} {i : Nat} (x : It b h a l i) (e : Heap.ExtBut c h h') (n : a ≠ c) : It b h' a l i := x.at fun o q => e a o n q
theorem It.obj {b : Bool} {h : Heap} {a l : Addr} {i : Nat} (x : It b h a l i) : ∃ o, h.get? a = some o ∧ ∀ v, o.data ≠ .cell v := by
  cases b <;> (obtain ⟨o, ho, _, d⟩ := x; exact ⟨o, ho, fun v q => by rw [d] at q; cases q⟩)
theorem It.lt {b : Bool} {h : Heap} {a l : Addr} {i : Nat} (x : It b h a l i) : a < h.objs.size := by
  obtain ⟨o, e, _⟩ := x.obj
  exact Heap.lt_size e
theorem Sq.lt {b : Bool} {h : Heap} {a : Addr} {xs : Array Value} (x : Sq b h a xs) : a < h.objs.size := by
  cases b <;> (obtain ⟨o, e, _⟩ := x; exact Heap.lt_size e)
abbrev IsTrip (h : Heap) (T : Addr) (a b c : Value) : Prop := h.get? T = some { cls := .type "tuple", data := .seq #[a, b, c] }
structure Ap (z TI TO i1 i2 i3 l1 l2 l3 : Addr) : Prop where
  ti : TI ≠ z ∧ TI ≠ TO ∧ TI ≠ i1 ∧ TI ≠ i2 ∧ TI ≠ i3
  to : TO ≠ z ∧ TO ≠ i1 ∧ TO ≠ i2 ∧ TO ≠ i3
  iz : i1 ≠ z ∧ i2 ≠ z ∧ i3 ≠ z
  ii : i1 ≠ i2 ∧ i1 ≠ i3 ∧ i2 ≠ i3
  a1 : l1 ≠ z ∧ l1 ≠ TO ∧ l1 ≠ i1 ∧ l1 ≠ i2 ∧ l1 ≠ i3
  a2 : l2 ≠ z ∧ l2 ≠ TO ∧ l2 ≠ i1 ∧ l2 ≠ i2 ∧ l2 ≠ i3
  a3 : l3 ≠ z ∧ l3 ≠ TO ∧ l3 ≠ i1 ∧ l3 ≠ i2 ∧ l3 ≠ i3
section
variable {prog : Program} {w : World} {A : Around} {E : Value → Shared → Prop} {s : Shared}
theorem next_item {b : Bool} {it l : Addr} {i : Nat} {xs : Array Value} {x : Value} {Q : Value → Shared → Prop} (hit : It b s.heap it l i) (hl : Sq b s.heap l xs) (hx : xs[i]? = some x)
    (hQ : ∀ h', It b h' it l (i + 1) → Heap.SameBut it s.heap h' → Q x { s with heap := h' }) : wpAny (model prog w) A (Builtin.SmallTypes.nextOf (.ref it)) Q E s := by
  cases b
  · exact RZ.nextOf_tuple_item hit hl hx hQ
  · exact wpAny_nextOf_list_item hit hl hx hQ
theorem next_end {b : Bool} {it l : Addr} {i : Nat} {xs : Array Value} {Q : Value → Shared → Prop} (hh : A.handled = none) (hit : It b s.heap it l i) (hl : Sq b s.heap l xs) (hx : xs[i]? = none)
    (hE : ∀ h' e, Heap.ExtBut it s.heap h' → (∃ o, h'.get? e = some o ∧ o.cls = .type "StopIteration") → E (.ref e) { s with heap := h' }) : wpAny (model prog w) A (Builtin.SmallTypes.nextOf (.ref it)) Q E s := by
  cases b
  · exact RZ.nextOf_tuple_end hh hit hl hx hE
  · exact wpAny_nextOf_list_end hh hit hl hx hE
theorem updateSeq_trip {T : Addr} {a b c x : Value} {k : Nat} {Q : Unit → Shared → Prop} (hT : IsTrip s.heap T a b c)
    (h : ∀ h', h'.get? T = some { cls := .type "tuple", data := .seq ((#[a, b, c] : Array Value).setIfInBounds k x) } → Heap.SameBut T s.heap h' → Q () { s with heap := h' }) :
    wpAny (model prog w) A (updateSeq T (·.setIfInBounds k x)) Q E s := by
  refine wpAny_updateSeq hT rfl (h _ ?_ (Heap.SameBut.update ..))
  rw [Heap.get?_update_self _ hT rfl]
  simp [Obj.mapSeq]
variable {z TI TO i1 i2 i3 l1 l2 l3 : Addr} {k : Nat} {b1 b2 b3 : Bool} {xs ys zs : Array Value} {a b c : Value}
/-- what stands still -/
def Kp (z TO i1 i2 i3 : Addr) (h h' : Heap) : Prop := ∀ c o, c ≠ z → c ≠ TO → c ≠ i1 → c ≠ i2 → c ≠ i3 → h.get? c = some o → h'.get? c = some o
theorem zip_item {x y u : Value} {Q : Value → Shared → Prop} (D : Ap z TI TO i1 i2 i3 l1 l2 l3)
    (hz : IsZip s.heap z TI TO .none) (hTI : IsTrip s.heap TI (.ref i1) (.ref i2) (.ref i3)) (hTO : IsTrip s.heap TO a b c)
    (h1 : It b1 s.heap i1 l1 k) (h2 : It b2 s.heap i2 l2 k) (h3 : It b3 s.heap i3 l3 k) (q1 : Sq b1 s.heap l1 xs) (q2 : Sq b2 s.heap l2 ys) (q3 : Sq b3 s.heap l3 zs)
    (hx : xs[k]? = some x) (hy : ys[k]? = some y) (hu : zs[k]? = some u)
    (hQ : ∀ h', IsZip h' z TI TO (rawInt s.heap.objs.size) → IsTrip h' TO x y u → It b1 h' i1 l1 (k + 1) → It b2 h' i2 l2 (k + 1) → It b3 h' i3 l3 (k + 1) → IsTrip h' s.heap.objs.size x y u → h'.objs.size = s.heap.objs.size + 1 →
      Kp z TO i1 i2 i3 s.heap h' → Q (.ref s.heap.objs.size) { s with heap := h' }) :
    wpAny (model prog w) A (Builtin.«zip.__next__» ⟨[.ref z], []⟩) (fun fin s' => ∃ v, fin = .done (.ret v) ∧ Q v s') E s := by
  obtain ⟨⟨ti1, ti2, ti3, ti4, ti5⟩, ⟨to1, to2, to3, to4⟩, ⟨iz1, iz2, iz3⟩, ⟨ii1, ii2, ii3⟩, ⟨x1, x2, x3, x4, x5⟩, ⟨y1, y2, y3, y4, y5⟩, ⟨w1, w2, w3, w4, w5⟩⟩ := D
  show wpAny _ _ (field (.ref z) 2 >>= _) _ _ _
  refine wpAny_bind (wpAny_field hz rfl (x := .bool false) rfl ?_)
  show wpAny _ _ (field (.ref z) 3 >>= _) _ _ _
  refine wpAny_bind (wpAny_field hz rfl (x := .ref TI) rfl ?_)
  refine wpAny_bind (wpAny_seqItems hTI rfl ?_)
  show wpAny _ _ (Builtin.SmallTypes.ownedTupleIsFree (.ref z) >>= _) _ _ _
  refine wpAny_bind ?_
  unfold Builtin.SmallTypes.ownedTupleIsFree
  refine wpAny_bind (wpAny_field hz rfl (x := .none) rfl (wpAny_pure ?_))
  simp only [if_true]
  refine wpAny_bind (wpAny_rule ?_)
  refine wpAny_bind (wpAny_field hz rfl (x := .ref TO) rfl ?_)
  refine wpAny_bind (wpAny_setField_rec hz (by simp) fun h₁ hz₁ hs₁ => ?_)
  replace hz₁ : IsZip h₁ z TI TO .ellipsis := hz₁
  refine wpAny_bind ?_
  simp only [List.zipIdx_cons, List.zipIdx_nil, List.forIn_cons, List.forIn_nil]
  have e1 := hs₁.extBut
  have hTO₁ : IsTrip h₁ TO a b c := e1 _ _ to1 hTO

  refine wpAny_bind (wpAny_bind (wpAny_onRaise ?_))
  show wpAny _ _ (Builtin.SmallTypes.nextOf (.ref i1) >>= _) _ _ _
  refine wpAny_bind (next_item (h1.ext e1 iz1) (q1.ext e1 x1) hx fun h₂ n1 hs₂ => wpAny_pure ?_)
  have e2 := hs₂.extBut
  have hTO₂ : IsTrip h₂ TO a b c := e2 _ _ to2 hTO₁
  refine wpAny_bind (wpAny_seqItems hTO₂ rfl ?_)
  refine wpAny_bind (updateSeq_trip hTO₂ fun h₃ hTO₃ hs₃ => ?_)
  have e3 := hs₃.extBut
  replace hTO₃ : IsTrip h₃ TO x b c := hTO₃
  refine wpAny_bind (wpAny_letGo (wpAny_pure ?_))

  refine wpAny_bind (wpAny_bind (wpAny_onRaise ?_))
  show wpAny _ _ (Builtin.SmallTypes.nextOf (.ref i2) >>= _) _ _ _
  refine wpAny_bind (next_item (((h2.ext e1 iz2).ext e2 ii1.symm).ext e3 to3.symm) (((q2.ext e1 y1).ext e2 y3).ext e3 y2) hy fun h₄ n2 hs₄ => wpAny_pure ?_)
  have e4 := hs₄.extBut
  have hTO₄ : IsTrip h₄ TO x b c := e4 _ _ to3 hTO₃
  refine wpAny_bind (wpAny_seqItems hTO₄ rfl ?_)
  refine wpAny_bind (updateSeq_trip hTO₄ fun h₅ hTO₅ hs₅ => ?_)
  have e5 := hs₅.extBut
  replace hTO₅ : IsTrip h₅ TO x y c := hTO₅
  refine wpAny_bind (wpAny_letGo (wpAny_pure ?_))

  refine wpAny_bind (wpAny_bind (wpAny_onRaise ?_))
  show wpAny _ _ (Builtin.SmallTypes.nextOf (.ref i3) >>= _) _ _ _
  refine wpAny_bind (next_item (((((h3.ext e1 iz3).ext e2 ii2.symm).ext e3 to4.symm).ext e4 ii3.symm).ext e5 to4.symm) (((((q3.ext e1 w1).ext e2 w3).ext e3 w2).ext e4 w4).ext e5 w2) hu fun h₆ n3 hs₆ => wpAny_pure ?_)
  have e6 := hs₆.extBut
  have hTO₆ : IsTrip h₆ TO x y c := e6 _ _ to4 hTO₅
  refine wpAny_bind (wpAny_seqItems hTO₆ rfl ?_)
  refine wpAny_bind (updateSeq_trip hTO₆ fun h₇ hTO₇ hs₇ => ?_)
  have e7 := hs₇.extBut
  replace hTO₇ : IsTrip h₇ TO x y u := hTO₇
  refine wpAny_bind (wpAny_letGo (wpAny_pure (wpAny_pure ?_)))

  refine wpAny_bind (wpAny_seqItems hTO₇ rfl ?_)
  refine wpAny_bind (wpAny_newTuple ?_)
  have hsz : h₇.objs.size = s.heap.objs.size := by rw [hs₇.1, hs₆.1, hs₅.1, hs₄.1, hs₃.1, hs₂.1, hs₁.1]
  have hz₇ : IsZip h₇ z TI TO .ellipsis := e7 _ _ to1.symm (e6 _ _ iz3.symm (e5 _ _ to1.symm (e4 _ _ iz2.symm (e3 _ _ to1.symm (e2 _ _ iz1.symm hz₁)))))
  have hk₇ : Kp z TO i1 i2 i3 s.heap h₇ := fun c o c1 c2 c3 c4 c5 e =>
    e7 _ _ c2 (e6 _ _ c5 (e5 _ _ c2 (e4 _ _ c4 (e3 _ _ c2 (e2 _ _ c3 (e1 _ _ c1 e))))))
  have m1 : It b1 h₇ i1 l1 (k + 1) := ((((n1.ext e3 to2.symm).ext e4 ii1).ext e5 to2.symm).ext e6 ii2).ext e7 to2.symm
  have m2 : It b2 h₇ i2 l2 (k + 1) := ((n2.ext e5 to3.symm).ext e6 ii3).ext e7 to3.symm
  have m3 : It b3 h₇ i3 l3 (k + 1) := n3.ext e7 to4.symm
  have hzlt : z < h₇.objs.size := Heap.lt_size hz₇
  show wpAny _ _ (Builtin.SmallTypes.ownedTupleHandOut (.ref z) (.ref h₇.objs.size) >>= _) _ _ _
  refine wpAny_bind ?_
  unfold Builtin.SmallTypes.ownedTupleHandOut
  have hz₈ : IsZip (h₇.push { cls := .type "tuple", data := .seq #[x, y, u] }) z TI TO .ellipsis := Heap.get?_push_of_some _ hz₇
  refine wpAny_bind (wpAny_setField_rec hz₈ (by simp) fun h₉ hz₉ hs₉ => ?_)
  replace hz₉ : IsZip h₉ z TI TO (rawInt h₇.objs.size) := hz₉
  refine wpAny_setField_rec hz₉ (by simp) fun ha hza hsa => ?_
  replace hza : IsZip ha z TI TO (rawInt h₇.objs.size) := hza
  have up : ∀ c o, c ≠ z → h₇.get? c = some o → ha.get? c = some o := fun c o c1 e => hsa.extBut _ _ c1 (hs₉.extBut _ _ c1 (Heap.get?_push_of_some _ e))
  have hTa : IsTrip ha h₇.objs.size x y u := hsa.extBut _ _ (Nat.ne_of_gt hzlt) (hs₉.extBut _ _ (Nat.ne_of_gt hzlt) (Heap.get?_push_size _ rfl))
  have hza8 : ha.objs.size = h₇.objs.size + 1 := by rw [hsa.1, hs₉.1, Heap.size_push]
  rw [hsz] at hza hTa hza8
  refine wpAny_pure ⟨_, rfl, ?_⟩
  show Q (.ref h₇.objs.size) _
  rw [hsz]
  exact hQ ha hza (up _ _ to1 hTO₇) (m1.at fun o e => up _ o iz1 e) (m2.at fun o e => up _ o iz2 e) (m3.at fun o e => up _ o iz3 e) hTa hza8 fun c o c1 c2 c3 c4 c5 e => up c o c1 (hk₇ c o c1 c2 c3 c4 c5 e)

/-- where one of the three is at its end -/
theorem zip_end {Q : Fin → Shared → Prop} (hh : A.handled = none) (D : Ap z TI TO i1 i2 i3 l1 l2 l3)
    (hz : IsZip s.heap z TI TO .none) (hTI : IsTrip s.heap TI (.ref i1) (.ref i2) (.ref i3)) (hTO : IsTrip s.heap TO a b c)
    (h1 : It b1 s.heap i1 l1 k) (h2 : It b2 s.heap i2 l2 k) (h3 : It b3 s.heap i3 l3 k) (q1 : Sq b1 s.heap l1 xs) (q2 : Sq b2 s.heap l2 ys) (q3 : Sq b3 s.heap l3 zs)
    (hend : xs[k]? = none ∨ ys[k]? = none ∨ zs[k]? = none)
    (hE : ∀ h' e, Kp z TO i1 i2 i3 s.heap h' → (∃ o, h'.get? e = some o ∧ o.cls = .type "StopIteration") → E (.ref e) { s with heap := h' }) :
    wpAny (model prog w) A (Builtin.«zip.__next__» ⟨[.ref z], []⟩) Q E s := by
  obtain ⟨⟨ti1, ti2, ti3, ti4, ti5⟩, ⟨to1, to2, to3, to4⟩, ⟨iz1, iz2, iz3⟩, ⟨ii1, ii2, ii3⟩, ⟨x1, x2, x3, x4, x5⟩, ⟨y1, y2, y3, y4, y5⟩, ⟨w1, w2, w3, w4, w5⟩⟩ := D
  show wpAny _ _ (field (.ref z) 2 >>= _) _ _ _
  refine wpAny_bind (wpAny_field hz rfl (x := .bool false) rfl ?_)
  show wpAny _ _ (field (.ref z) 3 >>= _) _ _ _
  refine wpAny_bind (wpAny_field hz rfl (x := .ref TI) rfl ?_)
  refine wpAny_bind (wpAny_seqItems hTI rfl ?_)
  show wpAny _ _ (Builtin.SmallTypes.ownedTupleIsFree (.ref z) >>= _) _ _ _
  refine wpAny_bind ?_
  unfold Builtin.SmallTypes.ownedTupleIsFree
  refine wpAny_bind (wpAny_field hz rfl (x := .none) rfl (wpAny_pure ?_))
  simp only [if_true]
  refine wpAny_bind (wpAny_rule ?_)
  refine wpAny_bind (wpAny_field hz rfl (x := .ref TO) rfl ?_)
  refine wpAny_bind (wpAny_setField_rec hz (by simp) fun h₁ hz₁ hs₁ => ?_)
  replace hz₁ : IsZip h₁ z TI TO .ellipsis := hz₁
  refine wpAny_bind ?_
  simp only [List.zipIdx_cons, List.zipIdx_nil, List.forIn_cons, List.forIn_nil]
  have e1 := hs₁.extBut
  have hTO₁ : IsTrip h₁ TO a b c := e1 _ _ to1 hTO
  refine wpAny_bind (wpAny_bind (wpAny_onRaise ?_))
  show wpAny _ _ (Builtin.SmallTypes.nextOf (.ref i1) >>= _) _ _ _
  cases hx : xs[k]? with
  | none =>
    refine wpAny_bind (next_end hh (h1.ext e1 iz1) (q1.ext e1 x1) hx fun h₂ e e2 he => ?_)
    obtain ⟨oe, hoe, hce⟩ := he
    have hz₂ : IsZip h₂ z TI TO .ellipsis := e2 _ _ iz1.symm hz₁
    have hez : e ≠ z := fun x => by subst x; rw [hz₂] at hoe; cases hoe; simp at hce
    refine wpAny_setField_rec hz₂ (by simp) fun h₃ _ hs₃ => hE h₃ e (fun c o c1 _ c3 _ _ x => hs₃.extBut _ _ c1 (e2 _ _ c3 (e1 _ _ c1 x))) ⟨oe, hs₃.extBut _ _ hez hoe, hce⟩
  | some x =>
    refine wpAny_bind (next_item (h1.ext e1 iz1) (q1.ext e1 x1) hx fun h₂ n1 hs₂ => wpAny_pure ?_)
    have e2 := hs₂.extBut
    have hTO₂ : IsTrip h₂ TO a b c := e2 _ _ to2 hTO₁
    refine wpAny_bind (wpAny_seqItems hTO₂ rfl ?_)
    refine wpAny_bind (updateSeq_trip hTO₂ fun h₃ hTO₃ hs₃ => ?_)
    have e3 := hs₃.extBut
    replace hTO₃ : IsTrip h₃ TO x b c := hTO₃
    refine wpAny_bind (wpAny_letGo (wpAny_pure ?_))
    refine wpAny_bind (wpAny_bind (wpAny_onRaise ?_))
    show wpAny _ _ (Builtin.SmallTypes.nextOf (.ref i2) >>= _) _ _ _
    have hz₃ : IsZip h₃ z TI TO .ellipsis := e3 _ _ to1.symm (e2 _ _ iz1.symm hz₁)
    have g2 := ((h2.ext e1 iz2).ext e2 ii1.symm).ext e3 to3.symm
    have r2 := ((q2.ext e1 y1).ext e2 y3).ext e3 y2
    cases hy : ys[k]? with
    | none =>
      refine wpAny_bind (next_end hh g2 r2 hy fun h₄ e e4 he => ?_)
      obtain ⟨oe, hoe, hce⟩ := he
      have hz₄ : IsZip h₄ z TI TO .ellipsis := e4 _ _ iz2.symm hz₃
      have hez : e ≠ z := fun x => by subst x; rw [hz₄] at hoe; cases hoe; simp at hce
      refine wpAny_setField_rec hz₄ (by simp) fun h₅ _ hs₅ => hE h₅ e (fun c o c1 c2 c3 c4 _ x => hs₅.extBut _ _ c1 (e4 _ _ c4 (e3 _ _ c2 (e2 _ _ c3 (e1 _ _ c1 x))))) ⟨oe, hs₅.extBut _ _ hez hoe, hce⟩
    | some y =>
      have hu : zs[k]? = none := by
        rcases hend with h | h | h
        · rw [hx] at h; cases h
        · rw [hy] at h; cases h
        · exact h
      refine wpAny_bind (next_item g2 r2 hy fun h₄ n2 hs₄ => wpAny_pure ?_)
      have e4 := hs₄.extBut
      have hTO₄ : IsTrip h₄ TO x b c := e4 _ _ to3 hTO₃
      refine wpAny_bind (wpAny_seqItems hTO₄ rfl ?_)
      refine wpAny_bind (updateSeq_trip hTO₄ fun h₅ hTO₅ hs₅ => ?_)
      have e5 := hs₅.extBut
      replace hTO₅ : IsTrip h₅ TO x y c := hTO₅
      refine wpAny_bind (wpAny_letGo (wpAny_pure ?_))
      refine wpAny_bind (wpAny_bind (wpAny_onRaise ?_))
      show wpAny _ _ (Builtin.SmallTypes.nextOf (.ref i3) >>= _) _ _ _
      refine wpAny_bind (next_end hh (((((h3.ext e1 iz3).ext e2 ii2.symm).ext e3 to4.symm).ext e4 ii3.symm).ext e5 to4.symm) (((((q3.ext e1 w1).ext e2 w3).ext e3 w2).ext e4 w4).ext e5 w2) hu fun h₆ e e6 he => ?_)
      obtain ⟨oe, hoe, hce⟩ := he
      have hz₆ : IsZip h₆ z TI TO .ellipsis := e6 _ _ iz3.symm (e5 _ _ to1.symm (e4 _ _ iz2.symm hz₃))
      have hez : e ≠ z := fun x => by subst x; rw [hz₆] at hoe; cases hoe; simp at hce
      refine wpAny_setField_rec hz₆ (by simp) fun h₇ _ hs₇ => hE h₇ e (fun c o c1 c2 c3 c4 c5 x => hs₇.extBut _ _ c1 (e6 _ _ c5 (e5 _ _ c2 (e4 _ _ c4 (e3 _ _ c2 (e2 _ _ c3 (e1 _ _ c1 x))))))) ⟨oe, hs₇.extBut _ _ hez hoe, hce⟩

theorem pyNext_item {x y u : Value} {Q : Option Value → Shared → Prop} (D : Ap z TI TO i1 i2 i3 l1 l2 l3)
    (hz : IsZip s.heap z TI TO .none) (hTI : IsTrip s.heap TI (.ref i1) (.ref i2) (.ref i3)) (hTO : IsTrip s.heap TO a b c)
    (h1 : It b1 s.heap i1 l1 k) (h2 : It b2 s.heap i2 l2 k) (h3 : It b3 s.heap i3 l3 k) (q1 : Sq b1 s.heap l1 xs) (q2 : Sq b2 s.heap l2 ys) (q3 : Sq b3 s.heap l3 zs)
    (hx : xs[k]? = some x) (hy : ys[k]? = some y) (hu : zs[k]? = some u)
    (hQ : ∀ h', IsZip h' z TI TO (rawInt s.heap.objs.size) → IsTrip h' TO x y u → It b1 h' i1 l1 (k + 1) → It b2 h' i2 l2 (k + 1) → It b3 h' i3 l3 (k + 1) → IsTrip h' s.heap.objs.size x y u → h'.objs.size = s.heap.objs.size + 1 →
      Kp z TO i1 i2 i3 s.heap h' → Q (some (.ref s.heap.objs.size)) { s with heap := h' }) :
    wpAny (model prog w) A (pyNext (.ref z)) Q E s := by
  have hT : s.TypeIs (.ref z) "zip" := ⟨_, hz, rfl⟩
  unfold pyNext
  exact wpAny_bind (wpAny_attempt (wpAny_callSpecial?_slot (name := Str.ofString "__next__") hT F.slot_zip_next
    (wpAny_call_entry F.slot_zip_next hT F.entry_zip_next
      (zip_item D hz hTI hTO h1 h2 h3 q1 q2 q3 hx hy hu fun h' a1 a2 a3 a4 a5 a6 a7 a8 => wpAny_pure (hQ h' a1 a2 a3 a4 a5 a6 a7 a8)) (F.args_zip_next_1 _))))
theorem pyNext_end {Q : Option Value → Shared → Prop} (hh : A.handled = none) (D : Ap z TI TO i1 i2 i3 l1 l2 l3)
    (hz : IsZip s.heap z TI TO .none) (hTI : IsTrip s.heap TI (.ref i1) (.ref i2) (.ref i3)) (hTO : IsTrip s.heap TO a b c)
    (h1 : It b1 s.heap i1 l1 k) (h2 : It b2 s.heap i2 l2 k) (h3 : It b3 s.heap i3 l3 k) (q1 : Sq b1 s.heap l1 xs) (q2 : Sq b2 s.heap l2 ys) (q3 : Sq b3 s.heap l3 zs)
    (hend : xs[k]? = none ∨ ys[k]? = none ∨ zs[k]? = none)
    (hQ : ∀ h', Kp z TO i1 i2 i3 s.heap h' → Q none { s with heap := h' }) : wpAny (model prog w) A (pyNext (.ref z)) Q E s := by
  have hT : s.TypeIs (.ref z) "zip" := ⟨_, hz, rfl⟩
  unfold pyNext
  refine wpAny_bind (wpAny_attempt (wpAny_callSpecial?_slot (name := Str.ofString "__next__") hT F.slot_zip_next
    (wpAny_call_entry F.slot_zip_next hT F.entry_zip_next (zip_end hh D hz hTI hTO h1 h2 h3 q1 q2 q3 hend fun h' e hk he => ?_) (F.args_zip_next_1 _))))
  obtain ⟨o, ho, hc⟩ := he
  refine wpAny_bind (wpAny_isInstance (T := "StopIteration") (b := true) ⟨o, ho, hc⟩ isSubtype_stop ?_)
  exact wpAny_pure (hQ _ hk)
end
end L2.Jk.Z3

set_option Elab.async false
set_option linter.all false
set_option maxRecDepth 100000
set_option maxHeartbeats 4000000
/-! zip(a, b, c): made, walked. -/
namespace L2.Jk.Z3
open PySem PySem.W PySem.Spec PySem.Calls PyProof.Rows L2 L2.Jk
theorem typeCall_zip_3 (a b c : Value) : checkTypeCall "zip" ⟨[a, b, c], []⟩ = pure () := by kernel_rfl
theorem newCall_zip_3 (a b c : Value) : checkBuiltinCall "zip.__new__" ⟨[.type "zip", a, b, c], []⟩ = pure () := by kernel_rfl
theorem args_object_init_4 (a b c d : Value) : argsOk "object.__init__" ⟨[a, b, c, d], []⟩ := by
  unfold argsOk; rw [signature?_of (id := "object.__init__") (n := ['_', '_', 't', 'i', 'n', 'i', '_', '_']) (o := ['t', 'c', 'e', 'j', 'b', 'o']) (by kernel_rfl) PySem.F.owner_object]; kernel_rfl
def itO (b : Bool) (l : Addr) : Obj := match b with
  | true => { cls := .type "list_iterator", data := .fields #[.ref l, .int 0 0] }
  | false => { cls := .type "tuple_iterator", data := .fields #[.ref l, .int 0 0] }
theorem it_new {b : Bool} {h : Heap} {a l : Addr} (e : h.get? a = some (itO b l)) : It b h a l 0 := by
  cases b <;> exact ⟨_, e, rfl, rfl⟩
section
variable {prog : Program} {w : World} {A : Around} {E : Value → Shared → Prop} {s : Shared}
theorem pyIter_sq {b : Bool} {l : Addr} {xs : Array Value} {Q : Value → Shared → Prop} (hl : Sq b s.heap l xs) (hQ : Q (.ref s.heap.objs.size) { s with heap := s.heap.push (itO b l) }) : wpAny (model prog w) A (pyIter (.ref l)) Q E s := by
  cases b
  · exact wpAny_pyIter_tuple hl hQ
  · exact wpAny_pyIter_list hl hQ
abbrev g1 (h : Heap) (b1 : Bool) (l1 : Addr) : Heap := h.push (itO b1 l1)
abbrev g2 (h : Heap) (b1 b2 : Bool) (l1 l2 : Addr) : Heap := (g1 h b1 l1).push (itO b2 l2)
abbrev g3 (h : Heap) (b1 b2 b3 : Bool) (l1 l2 l3 : Addr) : Heap := (g2 h b1 b2 l1 l2).push (itO b3 l3)
abbrev g4 (h : Heap) (b1 b2 b3 : Bool) (l1 l2 l3 : Addr) : Heap := (g3 h b1 b2 b3 l1 l2 l3).push { cls := .type "tuple", data := .seq #[.ref h.objs.size, .ref (g1 h b1 l1).objs.size, .ref (g2 h b1 b2 l1 l2).objs.size] }
abbrev g5 (h : Heap) (b1 b2 b3 : Bool) (l1 l2 l3 : Addr) : Heap := (g4 h b1 b2 b3 l1 l2 l3).push { cls := .type "tuple", data := .seq #[.none, .none, .none] }
abbrev g6 (h : Heap) (b1 b2 b3 : Bool) (l1 l2 l3 : Addr) : Heap := (g5 h b1 b2 b3 l1 l2 l3).push { cls := .type "zip", data := .fields #[.none, .bool false, .bool false, .ref (g3 h b1 b2 b3 l1 l2 l3).objs.size, .ref (g4 h b1 b2 b3 l1 l2 l3).objs.size] }
theorem Sq.push {b : Bool} {h : Heap} {a : Addr} {xs : Array Value} (x : Sq b h a xs) (o : Obj) : Sq b (h.push o) a xs := x.at fun _ e => Heap.get?_push_of_some _ e
theorem meets_zip3_new (b1 b2 b3 : Bool) (l1 l2 l3 : Addr) (xs ys zs : Array Value) :
    Meets (Builtin.«zip.__new__» ⟨[.type "zip", .ref l1, .ref l2, .ref l3], []⟩) (fun _ R s => Sq b1 s.heap l1 xs ∧ Sq b2 s.heap l2 ys ∧ Sq b3 s.heap l3 zs ∧
      R (.ok (.ret (.ref (g5 s.heap b1 b2 b3 l1 l2 l3).objs.size))) { s with heap := g6 s.heap b1 b2 b3 l1 l2 l3 }) :=
  .of_wp fun prog w A R s h => by
    obtain ⟨hp, g, d, tk, os⟩ := s; obtain ⟨hl1, hl2, hl3, h⟩ := h
    have hsub := sub_zip
    have hL1 : Sq b1 (Shared.heap ⟨hp, g, d, tk, os⟩) l1 xs := hl1
    have hL2 : Sq b2 (Shared.heap ⟨hp.push (itO b1 l1), g, d, tk, os⟩) l2 ys := Sq.push hl2 _
    have hL3 : Sq b3 (Shared.heap ⟨(hp.push (itO b1 l1)).push (itO b2 l2), g, d, tk, os⟩) l3 zs := Sq.push (Sq.push hl3 _) _
    wp_walk using pyIter_sq hL1, pyIter_sq hL2, pyIter_sq hL3
    exact ⟨_, rfl, h⟩
theorem call_zip3 {b1 b2 b3 : Bool} {l1 l2 l3 : Addr} {xs ys zs : Array Value} {Q : Value → Shared → Prop} (hl1 : Sq b1 s.heap l1 xs) (hl2 : Sq b2 s.heap l2 ys) (hl3 : Sq b3 s.heap l3 zs)
    (h : ∀ h', IsZip h' (s.heap.objs.size + 5) (s.heap.objs.size + 3) (s.heap.objs.size + 4) .none → IsTrip h' (s.heap.objs.size + 3) (.ref s.heap.objs.size) (.ref (s.heap.objs.size + 1)) (.ref (s.heap.objs.size + 2)) →
      IsTrip h' (s.heap.objs.size + 4) .none .none .none → It b1 h' s.heap.objs.size l1 0 → It b2 h' (s.heap.objs.size + 1) l2 0 → It b3 h' (s.heap.objs.size + 2) l3 0 → h'.objs.size = s.heap.objs.size + 6 →
      (∀ c o, s.heap.get? c = some o → h'.get? c = some o) → Q (.ref (s.heap.objs.size + 5)) { s with heap := h' }) :
    wpAny (model prog w) A (call (.type "zip") [.ref l1, .ref l2, .ref l3]) Q E s := by
  refine callType_new PySem.F.called_zip (by decide) (typeCall_zip_3 _ _ _) (newCall_zip_3 _ _ _) (fun obj => args_object_init_4 obj _ _ _) PySem.F.entry_zip_new
    (meets_zip3_new b1 b2 b3 l1 l2 l3 xs ys zs) ⟨hl1, hl2, hl3, ?_⟩
  have z1 : (g1 s.heap b1 l1).objs.size = s.heap.objs.size + 1 := Heap.size_push ..
  have z2 : (g2 s.heap b1 b2 l1 l2).objs.size = s.heap.objs.size + 2 := by rw [Heap.size_push, z1]
  have z3 : (g3 s.heap b1 b2 b3 l1 l2 l3).objs.size = s.heap.objs.size + 3 := by rw [Heap.size_push, z2]
  have z4 : (g4 s.heap b1 b2 b3 l1 l2 l3).objs.size = s.heap.objs.size + 4 := by rw [Heap.size_push, z3]
  have z5 : (g5 s.heap b1 b2 b3 l1 l2 l3).objs.size = s.heap.objs.size + 5 := by rw [Heap.size_push, z4]
  have z6 : (g6 s.heap b1 b2 b3 l1 l2 l3).objs.size = s.heap.objs.size + 6 := by rw [Heap.size_push, z5]
  have p {h : Heap} {a : Addr} {o : Obj} (q : Obj) : h.get? a = some o → (h.push q).get? a = some o := Heap.get?_push_of_some _
  have e6 : (g6 s.heap b1 b2 b3 l1 l2 l3).get? (g5 s.heap b1 b2 b3 l1 l2 l3).objs.size = some _ := Heap.get?_push_size _ rfl
  have e5 : (g6 s.heap b1 b2 b3 l1 l2 l3).get? (g4 s.heap b1 b2 b3 l1 l2 l3).objs.size = some _ := p _ (Heap.get?_push_size _ rfl)
  have e4 : (g6 s.heap b1 b2 b3 l1 l2 l3).get? (g3 s.heap b1 b2 b3 l1 l2 l3).objs.size = some _ := p _ (p _ (Heap.get?_push_size _ rfl))
  have nf : ∀ b l, (itO b l).isFreed = false := fun b l => by cases b <;> rfl
  have e3 : (g6 s.heap b1 b2 b3 l1 l2 l3).get? (g2 s.heap b1 b2 l1 l2).objs.size = some (itO b3 l3) := p _ (p _ (p _ (Heap.get?_push_size _ (nf _ _))))
  have e2 : (g6 s.heap b1 b2 b3 l1 l2 l3).get? (g1 s.heap b1 l1).objs.size = some (itO b2 l2) := p _ (p _ (p _ (p _ (Heap.get?_push_size _ (nf _ _)))))
  have e1 : (g6 s.heap b1 b2 b3 l1 l2 l3).get? s.heap.objs.size = some (itO b1 l1) := p _ (p _ (p _ (p _ (p _ (Heap.get?_push_size _ (nf _ _))))))
  show _ ∧ _
  rw [z3, z4, z5] at e6
  rw [z1, z2, z3] at e4
  rw [z4] at e5
  rw [z2] at e3
  rw [z1] at e2
  rw [z5]
  exact ⟨⟨_, e6, rfl⟩, h _ e6 e4 e5 (it_new e1) (it_new e2) (it_new e3) z6 fun c o x => p _ (p _ (p _ (p _ (p _ (p _ x)))))⟩
end
theorem ap_new (I l1 l2 l3 : Nat) (h1 : l1 < I) (h2 : l2 < I) (h3 : l3 < I) : Ap (I + 5) (I + 3) (I + 4) I (I + 1) (I + 2) l1 l2 l3 := by
  have ne : ∀ {a b : Nat}, (a < b ∨ b < a) → a ≠ b := fun h e => by omega
  exact ⟨⟨ne (by omega), ne (by omega), ne (by omega), ne (by omega), ne (by omega)⟩, ⟨ne (by omega), ne (by omega), ne (by omega), ne (by omega)⟩, ⟨ne (by omega), ne (by omega), ne (by omega)⟩, ⟨ne (by omega), ne (by omega), ne (by omega)⟩,
    ⟨ne (by omega), ne (by omega), ne (by omega), ne (by omega), ne (by omega)⟩, ⟨ne (by omega), ne (by omega), ne (by omega), ne (by omega), ne (by omega)⟩, ⟨ne (by omega), ne (by omega), ne (by omega), ne (by omega), ne (by omega)⟩⟩

/-! ### over the hand layer's heap -/
def SqB : Bool → Frag → Hp → Addr → List V → Prop
  | true, K, H, a, xs => SqL K H a xs
  | false, K, H, a, xs => SqT K H a xs
theorem seqT_same {K : Frag} {H H' : Hp} {a : Addr} {xs : List V} (S : Same H H') (h : SqT K H a xs) : SqT K H' a xs := by
  rcases h with (h | ⟨o, h⟩) | h
  · exact .inl (.inl (S _ _ h))
  · exact .inl (.inr ⟨o, S _ _ h⟩)
  · exact .inr h
theorem SqB.same {b : Bool} {K : Frag} {H H' : Hp} {a : Addr} {xs : List V} (S : Same H H') (h : SqB b K H a xs) : SqB b K H' a xs := by
  cases b
  · exact seqT_same S h
  · exact Same.seq S h
section
variable {X : Cx} {pins : List (Addr × Obj)} {σ : St} {H : Hp} {s : Shared}
theorem inv_seq {b : Bool} {a : Addr} {xs : List V} (I : Inv X pins σ H s) (h : SqB b X.K H a xs) : ∃ its : List Value, Vals xs its ∧ Sq b s.heap a its.toArray := by
  cases b
  · obtain ⟨its, rv, p, _⟩ := I.tuple h
    exact ⟨its, rv, p⟩
  · obtain ⟨its, rv, p, _⟩ := I.list h
    exact ⟨its, rv, p.isList⟩
theorem inv_inj {b : Bool} {a : Addr} {xs ys : List V} (I : Inv X pins σ H s) (h : SqB b X.K H a xs) (h2 : SqB b X.K H a ys) : xs = ys := by
  cases b
  · exact I.tuple_inj h h2
  · exact I.list_inj h h2
end
def Itz3 (K : Frag) (b1 b2 b3 : Bool) (a1 a2 a3 : Addr) : L2.It :=
  ⟨fun i H => ∃ (xs ys zs : List V) (x y u : V), SqB b1 K H a1 xs ∧ SqB b2 K H a2 ys ∧ SqB b3 K H a3 zs ∧ xs[i]? = some x ∧ ys[i]? = some y ∧ zs[i]? = some u,
    fun i H v H' => ∃ T x y u, v = .ref T ∧ H T = none ∧ H' = upd H T (.tup [x, y, u]) ∧ (∀ xs, SqB b1 K H a1 xs → xs[i]? = some x) ∧ (∀ ys, SqB b2 K H a2 ys → ys[i]? = some y) ∧ ∀ zs, SqB b3 K H a3 zs → zs[i]? = some u,
    fun i H => ∃ xs ys zs : List V, SqB b1 K H a1 xs ∧ SqB b2 K H a2 ys ∧ SqB b3 K H a3 zs ∧ (xs.length ≤ i ∨ ys.length ≤ i ∨ zs.length ≤ i)⟩
theorem turn_zip3 {P : Program} {w : World} {K : Frag} {elts : List Expr} {kk : Nat} {tpos : Pos} {b1 b2 b3 : Bool} {a1 a2 a3 z TI TO i1 i2 i3 : Addr} (D : Ap z TI TO i1 i2 i3 a1 a2 a3) :
    Turn P w K (.Tuple elts kk tpos) (Itz3 K b1 b2 b3 a1 a2 a3) [z, TI, TO, i1, i2, i3] z (fun i h => IsZip h z TI TO .none ∧ IsTrip h TI (.ref i1) (.ref i2) (.ref i3) ∧ (∃ x y u, IsTrip h TO x y u) ∧ It b1 h i1 a1 i ∧ It b2 h i2 a2 i ∧ It b3 h i3 a3 i) where
  mem := by simp
  obj := fun i h st c hc => by
    obtain ⟨hz, hTI, ⟨x, y, u, hTO⟩, h1, h2, h3⟩ := st
    have e' : c = z ∨ c = TI ∨ c = TO ∨ c = i1 ∨ c = i2 ∨ c = i3 := by simpa using hc
    rcases e' with q | q | q | q | q | q
    · rw [q]; exact ⟨_, hz, fun v q => nomatch q⟩
    · rw [q]; exact ⟨_, hTI, fun v q => nomatch q⟩
    · rw [q]; exact ⟨_, hTO, fun v q => nomatch q⟩
    · rw [q]; exact h1.obj
    · rw [q]; exact h2.obj
    · rw [q]; exact h3.obj
  keep := fun i h h' st k => by
    obtain ⟨hz, hTI, ⟨x, y, u, hTO⟩, h1, h2, h3⟩ := st
    exact ⟨k z (by simp) _ hz, k TI (by simp) _ hTI, ⟨x, y, u, k TO (by simp) _ hTO⟩, h1.at fun o q => k i1 (by simp) o q, h2.at fun o q => k i2 (by simp) o q, h3.at fun o q => k i3 (by simp) o q⟩
  item := by
    intro X hP hw hK hc i pins s σ H E I hf st hg
    subst hP hw hK
    obtain ⟨hz, hTI, ⟨x0, y0, u0, hTO⟩, h1, h2, h3⟩ := st
    obtain ⟨xs, ys, zs, x, y, u, hqx, hqy, hqz, hx, hy, hu⟩ := hg
    obtain ⟨its, rv, p⟩ := inv_seq I hqx
    obtain ⟨its2, rv2, p2⟩ := inv_seq I hqy
    obtain ⟨its3, rv3, p3⟩ := inv_seq I hqz
    obtain ⟨v1, hv1, r1⟩ := rv.get hx
    obtain ⟨v2, hv2, r2⟩ := rv2.get hy
    obtain ⟨v3, hv3, r3⟩ := rv3.get hu
    have hzl : z < s.heap.objs.size := Heap.lt_size hz
    refine pyNext_item D hz hTI hTO h1 h2 h3 p p2 p3 (x := v1) (y := v2) (u := v3) (by simpa using hv1) (by simpa using hv2) (by simpa using hv3) fun h' z' TO' h1' h2' h3' hT hsz hk => ?_
    refine ⟨_, rfl, wpAny_letOwnedTupleGo_zip (s := { s with heap := h' }) z' fun h'' z'' sb => ?_⟩
    have hT2 : h''.get? s.heap.objs.size = some { cls := .type "tuple", data := .seq #[v1, v2, v3] } := (sb.2 _ (Nat.ne_of_gt hzl)).trans hT
    have new : ObjOk X.prog X.w (upd H s.heap.objs.size (.tup [x, y, u])) h'' s.heap.objs.size (.tup [x, y, u]) :=
      ⟨by show 3 ≤ sizeLine; decide, [v1, v2, v3], .cons r1 (.cons r2 (.cons r3 .nil)), ⟨_, hT2, rfl, _, rfl⟩⟩
    have I1 : Inv X pins σ (upd H s.heap.objs.size (.tup [x, y, u])) { s with heap := h'' } :=
      I.turnedNew (t' := s.toks) (ch := [z, TI, TO, i1, i2, i3]) (fun c o hb q => (sb.2 c (fun q' => hb (by simp [q']))).trans (hk c o (fun q' => hb (by simp [q'])) (fun q' => hb (by simp [q'])) (fun q' => hb (by simp [q'])) (fun q' => hb (by simp [q'])) (fun q' => hb (by simp [q'])) q)) hf (Nat.le_refl _) new
    obtain ⟨⟨ti1, ti2, ti3, ti4, ti5⟩, ⟨to1, to2, to3, to4⟩, ⟨iz1, iz2, iz3⟩, _⟩ := D
    refine ⟨.ref s.heap.objs.size, _, I1, rfl, ⟨_, x, y, u, rfl, I.hok.fresh (Nat.le_refl _), rfl, fun l hl => by rw [inv_inj I hl hqx]; exact hx, fun l hl => by rw [inv_inj I hl hqy]; exact hy, fun l hl => by rw [inv_inj I hl hqz]; exact hu⟩, ⟨z'', ?_, ⟨v1, v2, v3, ?_⟩, ?_, ?_, ?_⟩, fun c hcm => ?_⟩
    · exact (sb.2 _ ti1).trans (hk _ _ ti1 ti2 ti3 ti4 ti5 hTI)
    · exact (sb.2 _ to1).trans TO'
    · exact h1'.at fun o q => (sb.2 _ iz1).trans q
    · exact h2'.at fun o q => (sb.2 _ iz2).trans q
    · exact h3'.at fun o q => (sb.2 _ iz3).trans q
    · have hlt : c < s.heap.objs.size := by
        have e' : c = z ∨ c = TI ∨ c = TO ∨ c = i1 ∨ c = i2 ∨ c = i3 := by simpa using hcm
        rcases e' with q | q | q | q | q | q
        · rw [q]; exact hzl
        · rw [q]; exact Heap.lt_size hTI
        · rw [q]; exact Heap.lt_size hTO
        · rw [q]; exact h1.lt
        · rw [q]; exact h2.lt
        · rw [q]; exact h3.lt
      rw [upd_ne (Nat.ne_of_lt hlt)]
      exact (hf c hcm).1
  done := by
    intro X hP hw hK hc i pins s σ H E I hf st hg
    subst hP hw hK
    obtain ⟨hz, hTI, ⟨x0, y0, u0, hTO⟩, h1, h2, h3⟩ := st
    obtain ⟨xs, ys, zs, hqx, hqy, hqz, hend⟩ := hg
    obtain ⟨its, rv, p⟩ := inv_seq I hqx
    obtain ⟨its2, rv2, p2⟩ := inv_seq I hqy
    obtain ⟨its3, rv3, p3⟩ := inv_seq I hqz
    have l1 := rv.length
    have l2 := rv2.length
    have l3 := rv3.length
    have he : its.toArray[i]? = none ∨ its2.toArray[i]? = none ∨ its3.toArray[i]? = none := by
      rcases hend with q | q | q
      · exact .inl (by simp; omega)
      · exact .inr (.inl (by simp; omega))
      · exact .inr (.inr (by simp; omega))
    exact pyNext_end (I.ok.hd hc) D hz hTI hTO h1 h2 h3 p p2 p3 he fun h' hk => ⟨rfl, I.turnedL (t' := s.toks) (ch := [z, TI, TO, i1, i2, i3]) (fun c o hb q =>
      hk c o (fun q' => hb (by simp [q'])) (fun q' => hb (by simp [q'])) (fun q' => hb (by simp [q'])) (fun q' => hb (by simp [q'])) (fun q' => hb (by simp [q'])) q) hf⟩
  self := fun A i s Q E st h => wpAny_pyIter_zip st.1 h
def iZip3 (K : Frag) (ta : TA) : TI := fun σ H R => ta σ H fun vs H1 => ∃ a1 a2 a3 b1 b2 b3 xs ys zs, vs = [.ref a1, .ref a2, .ref a3] ∧ SqB b1 K H1 a1 xs ∧ SqB b2 K H1 a2 ys ∧ SqB b3 K H1 a3 zs ∧ R (Itz3 K b1 b2 b3 a1 a2 a3) H1
theorem pi_zip3 {X : Cx} {e e2 e3 : Expr} {ta : TA} {p pos tpos : Pos} {elts : List Expr} {kk : Nat} (hg : Gl X "zip") (hm : X.mg "zip" = none) (ha : PA X [e, e2, e3] ta)
    (hs : starEach [e, e2, e3] X.env = (false, eval e X.env) :: starEach [e2, e3] X.env := by rfl) (hpl : (backTo pos (starEach [e2, e3] X.env)).any (·.1) = false := by rfl) :
    PI X (.Tuple elts kk tpos) (.Call (.Name "zip" p) [e, e2, e3] [] pos) (iZip3 X.K ta) := by
  refine ⟨fun pins s σ H R I h => ?_⟩
  refine Call_ (ld_blt I hg hm PyProof.Rows.boot_zip (PyProof.Rows.callWith_type1 (thn (ha.run pos pins s σ H _ I h) fun us s1 ⟨vs, H1, I1, r1, q1⟩ => ?_) hs hpl))
  obtain ⟨a1, a2, a3, b1, b2, b3, xs, ys, zs, ex, hqx, hqy, hqz, q⟩ := q1
  subst ex
  cases r1 with
  | cons r rr =>
    cases rr with
    | cons r' rr =>
      cases rr with
      | cons r'' rr =>
        cases rr
        cases r
        cases r'
        cases r''
        have fresh6 : ∀ c, c ∈ [s1.heap.objs.size + 5, s1.heap.objs.size + 3, s1.heap.objs.size + 4, s1.heap.objs.size, s1.heap.objs.size + 1, s1.heap.objs.size + 2] → FpOk X pins H1 c := fun c hcm => by
          have e' : c = s1.heap.objs.size + 5 ∨ c = s1.heap.objs.size + 3 ∨ c = s1.heap.objs.size + 4 ∨ c = s1.heap.objs.size ∨ c = s1.heap.objs.size + 1 ∨ c = s1.heap.objs.size + 2 := by simpa using hcm
          have hle : s1.heap.objs.size ≤ c := by
            rcases e' with z | z | z | z | z | z
            · rw [z]; exact Nat.le_add_right _ _
            · rw [z]; exact Nat.le_add_right _ _
            · rw [z]; exact Nat.le_add_right _ _
            · rw [z]; exact Nat.le_refl _
            · rw [z]; exact Nat.le_add_right _ _
            · rw [z]; exact Nat.le_add_right _ _
          exact I1.fpOk hle (I1.hok.fresh hle)
        obtain ⟨its, rv, p1⟩ := inv_seq I1 hqx
        obtain ⟨its2, rv2, p2⟩ := inv_seq I1 hqy
        obtain ⟨its3, rv3, p3⟩ := inv_seq I1 hqz
        refine call_zip3 p1 p2 p3 fun h' hz hTI hTO h1 h2 h3 hsz hk => wpAny_pyIter_zip hz ?_
        have I2 : Inv X pins σ H1 { s1 with heap := h' } := I1.kept (t' := s1.toks) hk
        exact ⟨s1.heap.objs.size + 5, [s1.heap.objs.size + 5, s1.heap.objs.size + 3, s1.heap.objs.size + 4, s1.heap.objs.size, s1.heap.objs.size + 1, s1.heap.objs.size + 2], _, _, H1, rfl, I2,
          turn_zip3 (ap_new s1.heap.objs.size a1 a2 a3 p1.lt p2.lt p3.lt), ⟨hz, hTI, ⟨_, _, _, hTO⟩, h1, h2, h3⟩, fresh6, q⟩
/-- a comprehension over it -/
theorem lc_zip3 {K : Frag} {b1 b2 b3 : Bool} {a1 a2 a3 : Addr} {xs ys zs : List V} {g : TG} {tt : TT} {te : TE} {vs : List Nat} {σ : St} {H1 : Hp} {D : Addr} {Qd : Hp → Prop} (hl : xs.length = ys.length) (hl2 : xs.length = zs.length) (Pv : Nat → Hp → Prop)
    (h0 : Pv 0 (upd H1 D (.lst []))) (hq : ∀ i H, Pv i H → SqB b1 K H a1 xs ∧ SqB b2 K H a2 ys ∧ SqB b3 K H a3 zs)
    (hs : ∀ (i : Nat) (x y u : V) (T : Addr) (H : Hp), xs[i]? = some x → ys[i]? = some y → zs[i]? = some u → Pv i H → H T = none → g (.ref T) (wipe σ vs) (upd H T (.tup [x, y, u])) fun σ2 H2 => wipe σ2 vs = wipe σ vs ∧ tt σ2 H2 fun b H3 =>
      if b = true then te σ2 H3 fun y H4 => ∃ acc, H4 D = some (.lst acc) ∧ acc.length < sizeLine ∧ Pv (i + 1) (upd H4 D (.lst (acc ++ [y]))) else Pv (i + 1) H3) (hd : ∀ H, Pv xs.length H → Qd H) :
    ∃ W : Nat → Nat → Hp → Prop, (∃ m, W 0 m (upd H1 D (.lst []))) ∧ ∀ i m H, W i m H →
      ((Itz3 K b1 b2 b3 a1 a2 a3).stop i H ∧ Qd H) ∨ ((Itz3 K b1 b2 b3 a1 a2 a3).go i H ∧ ∃ Nx : Hp → Prop, (∀ H', Nx H' → ∃ m', m' < m ∧ W (i + 1) m' H') ∧ ∀ y H', (Itz3 K b1 b2 b3 a1 a2 a3).yld i H y H' → g y (wipe σ vs) H' fun σ2 H2 => wipe σ2 vs = wipe σ vs ∧ tt σ2 H2 fun b H3 =>
        if b = true then te σ2 H3 fun y H4 => ∃ acc, H4 D = some (.lst acc) ∧ acc.length < sizeLine ∧ Nx (upd H4 D (.lst (acc ++ [y]))) else Nx H3) := by
  refine ⟨fun i m H => m = xs.length - i ∧ i ≤ xs.length ∧ Pv i H, ⟨xs.length, by simp, Nat.zero_le _, h0⟩, ?_⟩
  rintro i m H ⟨rfl, hi, p⟩
  obtain ⟨s1, s2, s3⟩ := hq i H p
  by_cases hlt : i < xs.length
  · have g1 := List.getElem?_eq_getElem hlt
    have g2 := List.getElem?_eq_getElem (show i < ys.length by omega)
    have g3 := List.getElem?_eq_getElem (show i < zs.length by omega)
    refine .inr ⟨⟨xs, ys, zs, _, _, _, s1, s2, s3, g1, g2, g3⟩, Pv (i + 1), fun H' p' => ⟨xs.length - (i + 1), by omega, rfl, hlt, p'⟩, fun y H' z => ?_⟩
    obtain ⟨T, x, y, u, ev, hT, eH, k1, k2, k3⟩ := z
    subst ev eH
    exact hs i x y u T H (k1 _ s1) (k2 _ s2) (k3 _ s3) p hT
  · have e : i = xs.length := by omega
    subst e
    exact .inl ⟨⟨xs, ys, zs, s1, s2, s3, .inl (Nat.le_refl _)⟩, hd H p⟩
end L2.Jk.Z3

set_option Elab.async false
set_option linter.all false
set_option maxRecDepth 100000
set_option maxHeartbeats 4000000
/-! The joints behind the fields. -/
namespace L2.K22
open PySem PySem.W PySem.Spec PySem.Calls PyProof.Rows L2.Jk
def spJB (K : Frag) : Sp := fun vs H Q _ => ∃ (L : Addr) (ds : List FD) (js : List Str), vs = [.ref L] ∧ LayAt K H L ds js ∧ ∀ p H', Same H H' → SqT K H' p ((js ++ [("" : Str)]).map V.str) → Q (.ref p) H'
section
variable {P : Program} {w : World} {K : Frag} {mg : Str → Option Value} {base : Heap} {f : Addr} {fd : FuncData}

abbrev s_joints_behind : Stmt := top 36
theorem sc_joints_behind : FnScope ["layout"] ["layout"] (defScope s_joints_behind) := ⟨rfl, rfl, rfl, by decide +kernel, rfl, by decide +kernel, by decide +kernel⟩

theorem ok_joints_behind (F : FunD K "joints_behind" "joints_behind" (defArgs s_joints_behind) (defBody s_joints_behind) (defScope s_joints_behind) [] [] f fd) (G : Q0 P w K mg base) : FnOk P w K mg base CX0 1 f fd ["layout"] (spJB K) := by
  refine F.ok (CX := CX0) sc_joints_behind (fun vs H Q E h => ?_) (fun cdv A outer s H vs Q E hr h => ?_)
  · obtain ⟨_, _, _, rfl, _⟩ := h
    rfl
  · refine ⟨_, PSs.nox (pss_one (ps_ret (pe_op op_catA (pe_fld (pv 0) rfl) (pe_tupS (pa_cons pe_str pa_nil))))), ?_⟩
    obtain ⟨L, ds, js, rfl, ⟨⟨dx, t1, t2, ys, hL, h1, hF, h2⟩, ok⟩, q⟩ := h
    have hl := ok.len
    have hf := ok.few
    refine ⟨_, rfl, L, _, dx, _, _, rfl, hL, G.cLayout.cl, G.cLayout.no _ (by decide +kernel), lLayout_joints, by show 1 ≤ 1000; decide, fun p H1 hp S1 e1 => ?_⟩
    refine ⟨t2, p, js.map V.str, [.str ""], rfl, rfl, seqT_same S1 h2, SqT.of e1, by rw [List.length_map, sizeLine_eq]; show js.length + 1 ≤ 16777216; omega, fun e => ?_, fun _ e => (by cases e), fun _ _ p2 hp2 => ?_⟩
    · refine q _ _ S1 ?_
      rw [List.map_append, e]
      exact SqT.of e1
    · refine q _ _ (S1.trans (same_upd hp2)) ?_
      rw [List.map_append]
      exact SqT.of upd_same

end
end L2.K22

set_option Elab.async false
set_option linter.all false
set_option maxRecDepth 100000
set_option maxHeartbeats 4000000
/-! itertools.accumulate over a list of ints. -/
namespace L2.Jk.Acc
open PySem
open PySem.Sem (wp)
abbrev AT : String := "itertools.accumulate"
theorem mro_acc : mroOf (.type AT) = pure [.type AT, .type "object"] := by rw [mroOf_type]; kernel_rfl
theorem look_new : typeLookup (.type AT) "__new__" = pure (some (.builtin "itertools.accumulate.__new__")) := by rw [typeLookup_type, builtinLookup_eq_fast]; kernel_rfl
theorem sub_acc : isSubtype (.type AT) (.type AT) = pure true := by rw [isSubtype_type]; kernel_rfl
theorem slot_init : Slot AT "__init__" "object.__init__" :=
  .of (owner := "object") (n := "__init__") (by rw [typeLookup_type, builtinLookup_eq_fast]; kernel_rfl) (by decide +kernel) (by decide +kernel) (by decide +kernel) (by first | exact .inl (by decide +kernel) | exact .inr (by decide +kernel)) (by rw [isSubtype_type]; kernel_rfl)
theorem slot_next : Slot AT "__next__" "itertools.accumulate.__next__" :=
  .of (owner := AT) (n := "__next__") (by rw [typeLookup_type, builtinLookup_eq_fast]; kernel_rfl) (by decide +kernel) (by decide +kernel) (by decide +kernel) (by first | exact .inl (by decide +kernel) | exact .inr (by decide +kernel)) sub_acc
theorem slot_iter : Slot AT "__iter__" "itertools.accumulate.__iter__" :=
  .of (owner := AT) (n := "__iter__") (by rw [typeLookup_type, builtinLookup_eq_fast]; kernel_rfl) (by decide +kernel) (by decide +kernel) (by decide +kernel) (by first | exact .inl (by decide +kernel) | exact .inr (by decide +kernel)) sub_acc
theorem called : TypeCalled AT "itertools.accumulate.__new__" "object.__init__" :=
  ⟨by decide +kernel, by decide +kernel, ⟨_, _, mro_acc⟩, madeBy_type mro_acc look_new (by decide +kernel), by decide +kernel, sub_acc, slot_init⟩
theorem typeCall (a : Value) : checkTypeCall AT ⟨[a], []⟩ = pure () := by kernel_rfl
theorem newCall (a : Value) : checkBuiltinCall "itertools.accumulate.__new__" ⟨[.type AT, a], []⟩ = pure () := by kernel_rfl
theorem entry_new : entryFor table "itertools.accumulate.__new__" = some Builtin.«itertools.accumulate.__new__» := entryFor_of_tree (by kernel_rfl)
theorem entry_next : entryFor table "itertools.accumulate.__next__" = some Builtin.«itertools.accumulate.__next__» := entryFor_of_tree (by kernel_rfl)
theorem owner_acc : Manifest.owners.lookup (String.ofList ['e','t','a','l','u','m','u','c','c','a','.','s','l','o','o','t','r','e','t','i'].reverse) = some Manifest.sig_itertools_accumulate := by kernel_rfl
/-- at z: an accumulate over the iterator at i, with a total (or the mark of none yet) -/
abbrev IsAcc (h : Heap) (z i : Addr) (t : Value) : Prop := h.get? z = some { cls := .type AT, data := .fields #[.ref i, .none, t, .none] }
theorem meets_new (l : Addr) (items : Array Value) :
    Meets (Builtin.«itertools.accumulate.__new__» ⟨[.type AT, .ref l], []⟩) (fun _ R s => s.heap.IsList l items ∧
      R (.ok (.ret (.ref (s.heap.push { cls := .type "list_iterator", data := .fields #[.ref l, .int 0 0] }).objs.size)))
        { s with heap := (s.heap.push { cls := .type "list_iterator", data := .fields #[.ref l, .int 0 0] }).push { cls := .type AT, data := .fields #[.ref s.heap.objs.size, .none, rawInt 0, .none] } }) :=
  .of_wp fun prog w A R s h => by
    obtain ⟨hp, g, d, tk, os⟩ := s; obtain ⟨hl, h⟩ := h
    have hsub : isSubtype (.type AT) (.type ("itertools." ++ "accumulate")) = pure true := by
      have e : ("itertools." ++ "accumulate" : String) = AT := by decide +kernel
      rw [e]; exact sub_acc
    have hL : Heap.IsList (Shared.heap ⟨hp, g, d, tk, os⟩) l items := hl
    wp_walk using wpAny_pyIter_list hL
    exact ⟨_, rfl, h⟩
theorem args_next (a : Value) : argsOk "itertools.accumulate.__next__" ⟨[a], []⟩ := by
  unfold argsOk
  rw [signature?_of (id := "itertools.accumulate.__next__") (n := ['_', '_', 't', 'x', 'e', 'n', '_', '_']) (o := ['e','t','a','l','u','m','u','c','c','a','.','s','l','o','o','t','r','e','t','i']) (by kernel_rfl) owner_acc]
  kernel_rfl
section
variable {prog : Program} {w : World} {A : Around} {E : Value → Shared → Prop} {s : Shared}
theorem raw_item {i l : Addr} {k : Nat} {items : Array Value} {x : Value} {Q : Value → Shared → Prop} (ho : s.heap.get? i = some (GNX.itObj l k)) (hl : s.heap.IsList l items) (hx : items[k]? = some x)
    (hQ : ∀ h', h'.get? i = some (GNX.itObj l (k + 1)) → Heap.SameBut i s.heap h' → Q x { s with heap := h' }) : wpAny (model prog w) A (Builtin.Itertools.itRawNext (.ref i)) Q E s := by
  unfold Builtin.Itertools.itRawNext
  exact wpAny_bind (wpAny_callSpecial?_slot (name := Str.ofString "__next__") ⟨_, ho, rfl⟩ slot_listiter_next (wpAny_call_entry slot_listiter_next ⟨_, ho, rfl⟩ entry_listiter_next (GNX.next_item ho hl hx fun h' a b => wpAny_pure (hQ h' a b)) (args_listiter_next _)))
theorem raw_end {i l : Addr} {k : Nat} {items : Array Value} {Q : Value → Shared → Prop} (hh : A.handled = none) (ho : s.heap.get? i = some (GNX.itObj l k)) (hl : s.heap.IsList l items) (hx : items[k]? = none)
    (hE : ∀ h' e, (∀ b o, b ≠ i → s.heap.get? b = some o → h'.get? b = some o) → (∃ o, h'.get? e = some o ∧ o.cls = .type "StopIteration") → E (.ref e) { s with heap := h' }) : wpAny (model prog w) A (Builtin.Itertools.itRawNext (.ref i)) Q E s := by
  unfold Builtin.Itertools.itRawNext
  exact wpAny_bind (wpAny_callSpecial?_slot (name := Str.ofString "__next__") ⟨_, ho, rfl⟩ slot_listiter_next (wpAny_call_entry slot_listiter_next ⟨_, ho, rfl⟩ entry_listiter_next (GNX.next_end hh ho hl hx fun h1 h' e vs a b c d f g => hE h' e (fun z o n q => c _ _ (b.2 z n ▸ q)) ⟨_, f, rfl⟩) (args_listiter_next _)))
theorem acc_item {z i l : Addr} {k : Nat} {items : Array Value} {n r : Int} {u : Tok} {t : Value} {Q : Value → Shared → Prop} (hzi : z ≠ i) (hlz : l ≠ z) (hz : IsAcc s.heap z i t) (ho : s.heap.get? i = some (GNX.itObj l k)) (hl : s.heap.IsList l items) (hx : items[k]? = some (.int n u))
    (hc : ((t == rawInt 0) = true ∧ r = n) ∨ ∃ m v, t = .int m v ∧ (t == rawInt 0) = false ∧ r = m + n)
    (hQ : ∀ h' tk u', s.toks ≤ tk → IsAcc h' z i (.int r u') → h'.get? i = some (GNX.itObj l (k + 1)) → (∀ b o, b ≠ z → b ≠ i → s.heap.get? b = some o → h'.get? b = some o) → Q (.int r u') { s with heap := h', toks := tk }) :
    wpAny (model prog w) A (Builtin.«itertools.accumulate.__next__» ⟨[.ref z], []⟩) (fun fin s' => ∃ v, fin = .done (.ret v) ∧ Q v s') E s := by
  show wpAny _ _ (field (.ref z) 3 >>= _) _ _ s
  refine wpAny_bind (wpAny_field hz rfl (x := .none) rfl ?_)
  show wpAny _ _ (field (.ref z) 0 >>= _) _ _ s
  refine wpAny_bind (wpAny_field hz rfl (x := .ref i) rfl ?_)
  refine wpAny_bind (raw_item ho hl hx fun h1 o1 b1 => ?_)
  have z1 : IsAcc h1 z i t := (b1.2 z hzi).trans hz
  refine wpAny_bind (wpAny_field z1 rfl (x := t) rfl ?_)
  rcases hc with ⟨c, rfl⟩ | ⟨m, v, rfl, c, rfl⟩
  · show wpAny _ _ (if (t == rawInt 0) = true then _ else _) _ _ _
    rw [if_pos c]
    refine wpAny_bind (wpAny_rule (wpAny_bind (wpAny_setField_rec z1 (by simp) fun h2 z2 b2 => wpAny_pure ⟨_, rfl, ?_⟩)))
    exact hQ h2 s.toks u (Nat.le_refl _) (by simpa using z2) ((b2.2 i (Ne.symm hzi)).trans o1) fun b o n1 n2 e => (b2.2 b n1).trans ((b1.2 b n2).trans e)
  · show wpAny _ _ (if (Value.int m v == rawInt 0) = true then _ else _) _ _ _
    rw [if_neg (by rw [c]; exact Bool.false_ne_true)]
    refine wpAny_bind (wpAny_field z1 rfl (x := .none) rfl ?_)
    refine wpAny_bind (wpAny_holding ?_)
    rw [if_pos (show ((Value.none == Value.none) = true) from rfl)]
    refine wpAny_add_int ?_
    refine wpAny_bind (wpAny_setField_rec (s := { s with heap := h1, toks := s.toks + 1 }) z1 (by simp) fun h2 z2 b2 => ?_)
    refine wpAny_bind (wpAny_letGo (wpAny_pure ⟨_, rfl, ?_⟩))
    exact hQ h2 (s.toks + 1) s.toks (Nat.le_succ _) (by simpa using z2) ((b2.2 i (Ne.symm hzi)).trans o1) fun b o n1 n2 e => (b2.2 b n1).trans ((b1.2 b n2).trans e)
theorem acc_end {z i l : Addr} {k : Nat} {items : Array Value} {t : Value} {Q : Fin → Shared → Prop} (hh : A.handled = none) (hz : IsAcc s.heap z i t) (ho : s.heap.get? i = some (GNX.itObj l k)) (hl : s.heap.IsList l items) (hx : items[k]? = none)
    (hE : ∀ h' e, (∀ b o, b ≠ i → s.heap.get? b = some o → h'.get? b = some o) → (∃ o, h'.get? e = some o ∧ o.cls = .type "StopIteration") → E (.ref e) { s with heap := h' }) :
    wpAny (model prog w) A (Builtin.«itertools.accumulate.__next__» ⟨[.ref z], []⟩) Q E s := by
  show wpAny _ _ (field (.ref z) 3 >>= _) _ _ s
  refine wpAny_bind (wpAny_field hz rfl (x := .none) rfl ?_)
  show wpAny _ _ (field (.ref z) 0 >>= _) _ _ s
  refine wpAny_bind (wpAny_field hz rfl (x := .ref i) rfl ?_)
  exact wpAny_bind (raw_end hh ho hl hx hE)
theorem pyNext_item {z i l : Addr} {k : Nat} {items : Array Value} {n r : Int} {u : Tok} {t : Value} {Q : Option Value → Shared → Prop} (hzi : z ≠ i) (hlz : l ≠ z) (hz : IsAcc s.heap z i t) (ho : s.heap.get? i = some (GNX.itObj l k)) (hl : s.heap.IsList l items) (hx : items[k]? = some (.int n u))
    (hc : ((t == rawInt 0) = true ∧ r = n) ∨ ∃ m v, t = .int m v ∧ (t == rawInt 0) = false ∧ r = m + n)
    (hQ : ∀ h' tk u', s.toks ≤ tk → IsAcc h' z i (.int r u') → h'.get? i = some (GNX.itObj l (k + 1)) → (∀ b o, b ≠ z → b ≠ i → s.heap.get? b = some o → h'.get? b = some o) → Q (some (.int r u')) { s with heap := h', toks := tk }) :
    wpAny (model prog w) A (pyNext (.ref z)) Q E s := by
  have hT : s.TypeIs (.ref z) AT := ⟨_, hz, rfl⟩
  unfold pyNext
  exact wpAny_bind (wpAny_attempt (wpAny_callSpecial?_slot (name := Str.ofString "__next__") hT slot_next (wpAny_call_entry slot_next hT entry_next (acc_item hzi hlz hz ho hl hx hc fun h' tk u' a1 a2 a3 a4 => wpAny_pure (hQ h' tk u' a1 a2 a3 a4)) (args_next _))))
theorem pyNext_end {z i l : Addr} {k : Nat} {items : Array Value} {t : Value} {Q : Option Value → Shared → Prop} (hh : A.handled = none) (hz : IsAcc s.heap z i t) (ho : s.heap.get? i = some (GNX.itObj l k)) (hl : s.heap.IsList l items) (hx : items[k]? = none)
    (hQ : ∀ h', (∀ b o, b ≠ i → s.heap.get? b = some o → h'.get? b = some o) → Q none { s with heap := h' }) : wpAny (model prog w) A (pyNext (.ref z)) Q E s := by
  have hT : s.TypeIs (.ref z) AT := ⟨_, hz, rfl⟩
  unfold pyNext
  refine wpAny_bind (wpAny_attempt (wpAny_callSpecial?_slot (name := Str.ofString "__next__") hT slot_next (wpAny_call_entry slot_next hT entry_next (acc_end hh hz ho hl hx fun h' e hk he => ?_) (args_next _))))
  obtain ⟨o, ho, hc⟩ := he
  exact wpAny_bind (wpAny_isInstance (T := "StopIteration") (b := true) ⟨o, ho, hc⟩ isSubtype_stop (wpAny_pure (hQ _ hk)))
theorem call_acc {l : Addr} {items : Array Value} {Q : Value → Shared → Prop} (hL : s.heap.IsList l items)
    (h : ∀ h', IsAcc h' (s.heap.objs.size + 1) s.heap.objs.size (rawInt 0) → h'.get? s.heap.objs.size = some (GNX.itObj l 0) → h'.objs.size = s.heap.objs.size + 2 →
      (∀ b o, s.heap.get? b = some o → h'.get? b = some o) → Q (.ref (s.heap.objs.size + 1)) { s with heap := h' }) :
    wpAny (model prog w) A (call (.type AT) [.ref l]) Q E s := by
  refine callType_new called (by decide) (typeCall _) (newCall _) (fun obj => F.args_object_init_2 obj _) entry_new (meets_new l items) ⟨hL, ?_⟩
  have hz : (s.heap.push { cls := .type "list_iterator", data := .fields #[.ref l, .int 0 0] }).objs.size = s.heap.objs.size + 1 := Heap.size_push ..
  have g2 := Heap.get?_push_size (s.heap.push { cls := .type "list_iterator", data := .fields #[.ref l, .int 0 0] }) (o := { cls := .type AT, data := .fields #[.ref s.heap.objs.size, .none, rawInt 0, .none] }) rfl
  show _ ∧ _
  rw [hz] at g2 ⊢
  exact ⟨⟨_, g2, rfl⟩, h _ g2 (Heap.get?_push_of_some _ (Heap.get?_push_size _ rfl)) (by rw [Heap.size_push, hz]) fun b o e => Heap.get?_push_of_some _ (Heap.get?_push_of_some _ e)⟩
end
end L2.Jk.Acc

set_option Elab.async false
set_option linter.all false
set_option maxRecDepth 100000
set_option maxHeartbeats 4000000
/-! list(it), it an iterator of any built-in type that tells no length; list(accumulate(xs)). -/
namespace L2.Jk.Acc
open PySem
open PySem.Sem (wp)
structure Plain (T : String) : Prop where
  ln : typeLookup (.type T) "__len__" = pure none
  hn : typeLookup (.type T) "__length_hint__" = pure none
  nl : (Value.type T == Value.type "list") = false
  nt : (Value.type T == Value.type "tuple") = false
theorem plain_acc : Plain AT := ⟨by rw [typeLookup_type, builtinLookup_eq_fast]; kernel_rfl, by rw [typeLookup_type, builtinLookup_eq_fast]; kernel_rfl, by decide, by decide⟩
section
variable {prog : Program} {w : World} {A : Around} {s : Shared} {R : Result → Shared → Prop} {T : String}
variable {I : Addr} {fp wr : List Addr} {G : Array GenState → Array GenState → Prop} {n : Nat} {P : Nat → Value → Prop} {St : Nat → Shared → Prop}
abbrev End (R : Result → Shared → Prop) (prog : Program) (w : World) (A : Around) : Fin → Shared → Prop := fun fin s' => match fin with
  | .done f => R (.ok f) s'
  | .again c' => c'.quiet = true ∧ codeAny (model prog w) A c' R s'
/-- the list at S has taken all that the iterator gives -/
abbrev Took (R : Result → Shared → Prop) (res : Value) (S : Addr) (wr : List Addr) (G : Array GenState → Array GenState → Prop) (n : Nat) (P : Nat → Value → Prop) (s : Shared) : Prop :=
  ∀ s' acc' c', Moved (S :: wr) G s s' → s'.heap.get? S = some { cls := .type "list", dict := none, data := .seq acc' c', slots := #[] } → ItemsOf P acc' n → R (.ok (.ret res)) s'
theorem extend_walk (PT : Plain T) (W : WalksS prog w A.in1 I fp wr G n P St) (hT : ∀ i s, St i s → s.TypeIs (.ref I) T) {S : Addr} {res : Value} {c₀ : Nat} (st : St 0 s) (nS : S ∉ fp) (hI : I ∈ fp) (hS : s.heap.get? S = some { cls := .type "list", data := .seq #[] c₀ })
    (hR : Took R res S wr G n P s) (hn : n ≤ sizeLine) : wpAny (model prog w) A.in1 (Builtin.List.listExtendWith (.ref S) (.ref I) res) (End R prog w A) (fun e s' => R (.error e) s') s := by
  have ne : S ≠ I := fun e => nS (e ▸ hI)
  unfold Builtin.List.listExtendWith
  refine wpAny_bind (wpAny_typeOf (hT 0 _ st) ?_)
  simp only [show Builtin.List.listSameRef (.ref S) (.ref I) = false by simp [Builtin.List.listSameRef, ne], PT.nl, PT.nt, Bool.or_false, Bool.false_eq_true, if_false]
  refine wpAny_bind (W.self 0 _ _ _ st (wpAny_bind (wpAny_holding ?_)))
  unfold Builtin.List.listLengthHint
  refine wpAny_bind (wpAny_specialOf (hT 0 _ st) PT.ln ?_)
  show wpAny _ A.in1 (specialOf (Value.ref I) (Str.ofString "__length_hint__") >>= _) _ _ _
  refine wpAny_bind (wpAny_specialOf (hT 0 _ st) PT.hn (wpAny_pure ?_))
  show wpAny _ A.in1 (rule "list.extend.makes-room" >>= fun _ => Builtin.List.listTouch (.ref S) >>= fun _ => again (.builtin "list.extend.loop" ⟨[.ref S, .ref I, res], []⟩)) _ _ _
  refine wpAny_bind (wpAny_rule (wpAny_bind ?_))
  show wpAny _ A.in1 (updateSeq S (·.push .none) >>= fun _ => updateSeq S (·.pop)) _ _ _
  have u1 := Heap.get?_update_self (Obj.mapSeq (·.push Value.none)) hS rfl
  have u2 := Heap.get?_update_self (Obj.mapSeq (·.pop)) u1 rfl
  have oth : ∀ b o, b ≠ S → s.heap.get? b = some o → ((s.heap.update S (Obj.mapSeq (·.push Value.none))).update S (Obj.mapSeq (·.pop))).get? b = some o :=
    fun b o hb e => (Heap.get?_update_other _ _ (Ne.symm hb)).trans ((Heap.get?_update_other _ _ (Ne.symm hb)).trans e)
  refine wpAny_bind (wpAny_updateSeq hS rfl (wpAny_updateSeq (hz := by seq_fits) u1 rfl ?_))
  have st2 := W.frame 0 s _ s.toks st (Nat.le_refl _) fun b hb o e => oth b o (fun h => nS (h ▸ hb)) e
  refine wpAny_pure ⟨plainId_quiet F.plain_extend_loop _, codeAny_extend_loopS W hn _ nS _ n 0 _ _ _ rfl (Nat.zero_le _) st2 u2 (ItemsOf.nil P) fun s' acc' c' hm hS' ha => ?_⟩
  have m0 : Moved (S :: wr) G s _ := (Moved.refl W.grefl).then_heap (Nat.le_refl _) fun b o hb e => oth b o (fun h => hb (h ▸ List.mem_cons_self)) e
  exact hR s' acc' c' (Moved.trans W.gtrans m0 hm) hS' ha
theorem init_walk (PT : Plain T) (W : WalksS prog w A.in1 I fp wr G n P St) (hT : ∀ i s, St i s → s.TypeIs (.ref I) T) {S : Addr} (st : St 0 s) (nS : S ∉ fp) (hI : I ∈ fp) (hS : s.heap.get? S = some { cls := .type "list", data := .seq #[] })
    (hR : Took R .none S wr G n P s) (hn : n ≤ sizeLine) : wpAny (model prog w) A.in1 (Builtin.«list.__init__» ⟨[.ref S, .ref I], []⟩) (End R prog w A) (fun e s' => R (.error e) s') s := by
  show wpAny _ A.in1 (do let old ← Builtin.List.listItems (.ref S); Builtin.List.listUpdate (.ref S) (fun _ => #[]); letGo old.toList.reverse; Builtin.List.listExtendWith (.ref S) (.ref I) .none) _ _ s
  refine wpAny_bind ?_
  unfold Builtin.List.listItems
  refine wpAny_bind (wpAny_seqItems hS rfl (wpAny_pure ?_))
  show wpAny _ A.in1 (updateSeq S (fun _ => #[]) >>= fun _ => letGo (#[] : Array Value).toList.reverse >>= fun _ => Builtin.List.listExtendWith (.ref S) (.ref I) .none) _ _ s
  have u1 := Heap.get?_update_self (Obj.mapSeq (fun _ => (#[] : Array Value))) hS rfl
  have oth : ∀ b o, b ≠ S → s.heap.get? b = some o → (s.heap.update S (Obj.mapSeq (fun _ => (#[] : Array Value)))).get? b = some o := fun b o hb e => (Heap.get?_update_other _ _ (Ne.symm hb)).trans e
  refine wpAny_bind (wpAny_updateSeq hS rfl (wpAny_bind (wpAny_letGo ?_)))
  refine extend_walk PT W hT (W.frame 0 s _ s.toks st (Nat.le_refl _) fun b hb o e => oth b o (fun h => nS (h ▸ hb)) e) nS hI u1 (fun s' acc' c' hm hS' ha => ?_) hn
  exact hR s' acc' c' (Moved.trans W.gtrans ((Moved.refl W.grefl).then_heap (Nat.le_refl _) fun b o hb e => oth b o (fun h => hb (h ▸ List.mem_cons_self)) e) hm) hS' ha
end
section
variable {prog : Program} {w : World} {A : Around} {E : Value → Shared → Prop} {s : Shared} {T : String}
variable {I : Addr} {fp wr : List Addr} {G : Array GenState → Array GenState → Prop} {n : Nat} {P : Nat → Value → Prop} {St : Nat → Shared → Prop}
theorem call_list_walk {Q : Value → Shared → Prop} (PT : Plain T) (W : WalksS prog w A.in1.in1 I fp wr G n P St) (hT : ∀ i s, St i s → s.TypeIs (.ref I) T) (st : St 0 s) (hfp : ∀ b ∈ fp, b < s.heap.objs.size) (hI : I ∈ fp)
    (hQ : ∀ s' acc' c', Moved (s.heap.objs.size :: wr) G { s with heap := s.heap.push { cls := .type "list", data := .seq #[] } } s' →
      s'.heap.get? s.heap.objs.size = some { cls := .type "list", dict := none, data := .seq acc' c', slots := #[] } → ItemsOf P acc' n → Q (.ref s.heap.objs.size) s') (hn : n ≤ sizeLine) :
    wpAny (model prog w) A (call (.type "list") [.ref I]) Q E s := by
  have nS : s.heap.objs.size ∉ fp := fun hm => Nat.lt_irrefl _ (hfp _ hm)
  have gS : (s.heap.push { cls := .type "list", data := .seq #[] }).get? s.heap.objs.size = some { cls := .type "list", data := .seq #[] } := Heap.get?_push_size _ rfl
  refine callType_codes (Q₁ := fun obj s₁ => obj = .ref s.heap.objs.size ∧ s₁ = { s with heap := s.heap.push { cls := .type "list", data := .seq #[] } }) F.called_list (F.typeCall_list_1 _) F.entry_list_init
    (code_list_new _ ⟨rfl, rfl⟩) fun obj s₁ h₁ => ?_
  obtain ⟨rfl, rfl⟩ := h₁
  refine ⟨⟨_, gS, rfl⟩, F.args_list_init_2 _ _, init_walk PT W hT (W.frame 0 s _ s.toks st (Nat.le_refl _) fun b _ o e => Heap.get?_push_of_some _ e) nS hI gS (fun s' acc' c' hm hS' ha => ⟨rfl, hQ s' acc' c' hm hS' ha⟩) hn⟩
end
end L2.Jk.Acc

set_option Elab.async false
set_option linter.all false
set_option maxRecDepth 100000
set_option maxHeartbeats 4000000
/-! list(accumulate(xs)), xs a list of ints. -/
namespace L2.Jk
open PySem PySem.W PySem.Spec PySem.Calls PyProof.Rows L2.Jk.Acc
def accV (ns : List Int) : List V := (List.range ns.length).map fun k => V.int (ns.take (k + 1)).sum
def sumK (ns : List Int) (k : Nat) : Int := (ns.take k).sum
theorem sumK_succ {ns : List Int} {k : Nat} {n : Int} (h : ns[k]? = some n) : sumK ns (k + 1) = sumK ns k + n := by
  unfold sumK
  rw [List.take_add_one, h]
  simp
/-- the state of an accumulate that has given k sums -/
def AccSt (z i l : Addr) (items : Array Value) (ns : List Int) (k : Nat) (s : Shared) : Prop :=
  (∃ t, IsAcc s.heap z i t ∧ ((k = 0 ∧ t = rawInt 0) ∨ ∃ v, t = .int (sumK ns k) v)) ∧ s.heap.get? i = some (GNX.itObj l k) ∧ s.heap.IsList l items
theorem entry_iter : entryFor table "itertools.accumulate.__iter__" = some Builtin.«dict_keyiterator.__iter__» :=
  entryFor_alias (id' := "dict_keyiterator.__iter__") (by kernel_rfl) (by first | rfl | decide +kernel | (unfold String.splitOn; simp +decide [String.splitOnAux])) (by decide +kernel) (by kernel_rfl)
theorem args_iter (a : Value) : argsOk "itertools.accumulate.__iter__" ⟨[a], []⟩ := by
  unfold argsOk
  rw [signature?_of (id := "itertools.accumulate.__iter__") (n := ['_', '_', 'r', 'e', 't', 'i', '_', '_']) (o := ['e','t','a','l','u','m','u','c','c','a','.','s','l','o','o','t','r','e','t','i']) (by kernel_rfl) owner_acc]
  kernel_rfl
theorem raw_zero {a : Int} {u : Tok} (h : (Value.int a u == rawInt 0) = true) : a = 0 := by
  have z := eq_of_beq h
  injection z
theorem walks_acc {prog : Program} {w : World} {A : Around} {z i l : Addr} {items : Array Value} {ns : List Int} (hh : A.handled = none) (hzi : z ≠ i) (hlz : l ≠ z) (hli : l ≠ i)
    (hv : Vals (ns.map V.int) items.toList) : WalksS prog w A z [z, i, l] [z, i] (fun a b => a = b) ns.length (fun k v => ∃ u, v = .int (sumK ns (k + 1)) u) (AccSt z i l items ns) where
  sub := fun b hb => by
    simp only [List.mem_cons, List.not_mem_nil, or_false] at hb ⊢
    rcases hb with h | h
    · exact .inl h
    · exact .inr (.inl h)
  grefl := fun _ => rfl
  gtrans := fun _ _ _ a b => a.trans b
  frame := fun k s h' tk ⟨⟨t, ha, ht⟩, ho, hl⟩ _ up => ⟨⟨t, up z (by simp) _ ha, ht⟩, up i (by simp) _ ho, by
    obtain ⟨ol, hol, r⟩ := hl
    exact ⟨ol, up l (by simp) _ hol, r⟩⟩
  item := fun k s Q E hk ⟨⟨t, ha, ht⟩, ho, hl⟩ hQ => by
    obtain ⟨n, hn⟩ : ∃ n, ns[k]? = some n := ⟨_, List.getElem?_eq_getElem hk⟩
    obtain ⟨x, hx, rx⟩ := hv.get (i := k) (x := V.int n) (by rw [List.getElem?_map, hn]; rfl)
    obtain ⟨u, rfl⟩ := rx
    have hx' : items[k]? = some (.int n u) := by rw [← Array.getElem?_toList]; exact hx
    have es := sumK_succ hn
    have fin : ((t == rawInt 0) = true ∧ sumK ns (k + 1) = n) ∨ ∃ m v, t = .int m v ∧ (t == rawInt 0) = false ∧ sumK ns (k + 1) = m + n := by
      rcases ht with ⟨rfl, rfl⟩ | ⟨v, rfl⟩
      · refine .inl ⟨rfl, ?_⟩
        rw [es]
        show (0 : Int) + n = n
        omega
      · by_cases c : (Value.int (sumK ns k) v == rawInt 0) = true
        · exact .inl ⟨c, by rw [es, raw_zero c]; omega⟩
        · exact .inr ⟨_, v, rfl, Bool.eq_false_iff.mpr c, es⟩
    refine pyNext_item hzi hlz ha ho hl hx' fin fun h' tk u' htk a1 a2 a3 => hQ _ _ ⟨u', rfl⟩ ⟨⟨_, a1, .inr ⟨u', rfl⟩⟩, a2, ?_⟩ ⟨fun b o hb e => a3 b o (fun q => hb (by simp [q])) (fun q => hb (by simp [q])) e, rfl, rfl, rfl, htk⟩
    obtain ⟨ol, hol, r⟩ := hl
    exact ⟨ol, a3 l ol hlz hli hol, r⟩
  done := fun s Q E ⟨⟨t, ha, ht⟩, ho, hl⟩ hQ => by
    have hx : items[ns.length]? = none := by
      have e := hv.length
      simp only [List.length_map, Array.length_toList] at e
      exact Array.getElem?_eq_none (Nat.le_of_eq e.symm)
    exact pyNext_end hh ha ho hl hx fun h' up => hQ _ ⟨fun b o hb e => up b o (fun q => hb (by simp [q])) e, rfl, rfl, rfl, Nat.le_refl _⟩
  self := fun k s Q E ⟨⟨t, ha, ht⟩, _, _⟩ h => by
    have hT : s.TypeIs (.ref z) AT := ⟨_, ha, rfl⟩
    refine wpAny_pyIter_slot hT slot_iter (wpAny_call_entry slot_iter hT entry_iter ?_ (args_iter _))
    show wpAny _ _ (ret (.ref z)) _ _ s
    exact wpAny_pure ⟨_, rfl, AT, _, hT, slot_next.lookup, h⟩
def tAccL (K : Frag) (te : TE) : TE := fun σ H Q => te σ H fun v H1 => ∃ (a : Addr) (ns : List Int), v = .ref a ∧ SqL K H1 a (ns.map V.int) ∧ ns.length ≤ sizeLine ∧ ∀ p H', H1 p = none → Same H1 H' → H' p = some (.lst (accV ns)) → Q (.ref p) H'
section
variable {X : Cx}
theorem pe_listAcc {e : Expr} {te : TE} {p p2 q pos : Pos} (hc : X.calm = true) (hg : Gl X "list") (hm : X.mg "list" = none) (hg2 : Gl X "accumulate") (hm2 : X.mg "accumulate" = some (.type AT)) (he : PE X e te)
    (na : starEach [e] X.env = (false, eval e X.env) :: starEach [] X.env := by rfl) : PE X (.Call (.Name "list" p) [.Call (.Name "accumulate" p2) [e] [] q] [] pos) (tAccL X.K te) := by
  constructor
  intro pins s σ H Q I h
  refine Call_ (ld_blt I hg hm boot_list (PyProof.Rows.callWith_type1 (PyProof.Rows.args_cons ?_ rfl) rfl rfl))
  refine Call_ (ld_glob I hg2 hm2 (PyProof.Rows.callWith_type1 (PyProof.Rows.args_cons (thn (he.run pins s σ H _ I h) fun v s1 ⟨x, H1, I1, r1, a, ns, ex, hs, hz, q1⟩ => PyProof.Rows.args_nil ?_) na) na rfl))
  subst ex
  cases r1
  obtain ⟨its, r, pl, _⟩ := I1.list hs
  have hd := I1.ok.hd hc
  refine call_acc pl.isList fun h' a1 a2 a3 a4 => PyProof.Rows.args_nil ?_
  have al : a < s1.heap.objs.size := by
    obtain ⟨_, e, _⟩ := pl.isList
    exact Heap.lt_size e
  refine call_list_walk (s := { s1 with heap := h' }) plain_acc (walks_acc (i := s1.heap.objs.size) (l := a) (items := its.toArray) (ns := ns) hd (Nat.succ_ne_self _) (Nat.ne_of_lt (Nat.lt_succ_of_lt al)) (Nat.ne_of_lt al) (by simpa using r)) (fun k s2 st => by
    obtain ⟨⟨t, ha, _⟩, _⟩ := st
    exact ⟨_, ha, rfl⟩) ⟨⟨_, a1, .inl ⟨rfl, rfl⟩⟩, a2, by
      obtain ⟨ol, hol, rr⟩ := pl.isList
      exact ⟨ol, a4 _ _ hol, rr⟩⟩ (fun b hb => ?_) (by simp) (fun s' acc' c' hm' hS ha => ?_) hz
  · simp only [List.mem_cons, List.not_mem_nil, or_false] at hb
    show b < h'.objs.size
    rw [a3]
    rcases hb with rfl | rfl | rfl
    · exact Nat.lt_succ_self _
    · exact Nat.lt_succ_of_lt (Nat.lt_succ_self _)
    · exact Nat.lt_succ_of_lt (Nat.lt_succ_of_lt al)
  · obtain ⟨al2, ai⟩ := ha
    have vs : Vals (accV ns) acc'.toList := paired_of (show (accV ns).length = acc'.toList.length by
      have e : acc'.toList.length = acc'.size := Array.length_toList
      rw [e, al2]
      simp [accV]) fun i x v hx hv => by
        have hi : i < ns.length := by
          have := (List.getElem?_eq_some_iff.mp hx).1
          simpa [accV] using this
        obtain ⟨u, e⟩ := ai i v (by rw [← Array.getElem?_toList]; exact hv)
        subst e
        have e2 : x = V.int (sumK ns (i + 1)) := by
          unfold accV at hx
          rw [List.getElem?_map, List.getElem?_range hi] at hx
          exact (Option.some.inj hx).symm
        subst e2
        exact ⟨u, rfl⟩
    have le : s1.heap.objs.size ≤ h'.objs.size := by rw [a3]; exact Nat.le_add_right _ _
    have nf : H1 h'.objs.size = none := I1.hok.fresh le
    have up : ∀ b o, s1.heap.get? b = some o → s'.heap.get? b = some o := fun b o e => by
      have lt : b < s1.heap.objs.size := Heap.lt_size e
      refine hm'.heap b o (fun hb => ?_) (Heap.get?_push_of_some _ (a4 b o e))
      simp only [List.mem_cons, List.not_mem_nil, or_false] at hb
      rcases hb with h1 | h1 | h1
      · have h1 : b = h'.objs.size := h1
        rw [h1] at lt
        exact Nat.lt_irrefl _ (Nat.lt_of_lt_of_le lt le)
      · rw [h1] at lt
        exact Nat.lt_irrefl _ (Nat.lt_of_succ_lt lt)
      · rw [h1] at lt
        exact Nat.lt_irrefl _ lt
    have es : s' = { s1 with heap := s'.heap, toks := s'.toks } := by
      obtain ⟨hp, g, d, tk, os⟩ := s'
      have e1 : s1.gens = g := hm'.gens
      have e2 := hm'.drawn
      have e3 := hm'.os
      subst e1
      congr 1
    rw [es]
    refine ⟨.ref h'.objs.size, _, I1.laid (t' := s'.toks) (h' := s'.heap) (o := .lst (accV ns)) up le ⟨?_, acc'.toList, c', vs, by simpa using hS⟩, rfl, q1 _ _ nf (same_upd nf) upd_same⟩
    simp only [accV, List.length_map, List.length_range]
    exact hz
end
end L2.Jk

set_option Elab.async false
set_option linter.all false
set_option maxRecDepth 100000
set_option maxHeartbeats 4000000
/-! xs[i] op= e: a list's item, i at least 0. -/
namespace L2.Jk
open PySem PySem.W PySem.Spec PySem.Calls PyProof.Rows
def gGetL (K : Frag) : V → V → Hp → VK → Prop := fun x y H Q => ∃ (p : Addr) (xs : List V) (i : Nat) (v : V), x = .ref p ∧ y = .int (i : Nat) ∧ SqL K H p xs ∧ xs[i]? = some v ∧ Q v H
theorem get_list {X : Cx} : PGet X (gGetL X.K) := by
  rintro pins s σ H x y v u Q I rx ry ⟨p, xs, i, z, rfl, rfl, hq, he, q⟩
  cases rx
  obtain ⟨t, rfl⟩ := ry
  obtain ⟨its, r, pl, hz⟩ := I.list hq
  obtain ⟨w, ew, rw'⟩ := r.get he
  have hi := (List.getElem?_eq_some_iff.mp he).1
  have hl := r.length
  have hn := line63
  exact wpAny_getItem_list (k := (i : Nat)) (x := w) pl.isList (by omega) (by omega) (by simpa using ew) ⟨z, H, I, rw', q⟩
end L2.Jk

set_option Elab.async false
set_option linter.all false
set_option maxRecDepth 100000
set_option maxHeartbeats 4000000
/-! The places at which some span ends. -/
namespace L2.K22
open PySem PySem.W PySem.Spec PySem.Calls PyProof.Rows L2.Jk
theorem pg_tupK {X : Cx} {K : Frag} {es : List Expr} {k : Nat} {t : TGs} {n : Nat} {pos : Pos} (hK : X.K = K) (hc : X.calm = true) (h : PGs X es t)
    (hn : (assignEach es X.env).length = n := by rfl) (hst : (assignEach es X.env).findIdx? (·.1) = none := by rfl) : PG X (.Tuple es k pos) (gTup K n t) := by
  subst hK
  exact pg_tup hc h hn hst
theorem none_of {H H' : Hp} {p : Addr} (S : Same H H') (h : H' p = none) : H p = none := by
  cases e : H p with
  | none => rfl
  | some o => rw [S _ _ e] at h; cases h
abbrev RD (K : Frag) : Addr := He.ga K "Reading"
def addAt (st : List Int) (k : Nat) (d : Int) : List Int := st.set k (st.getD k 0 + d)
def stepsOf (n : Nat) (xs : List (Int × Int × Int)) : List Int := xs.foldl (fun st x => addAt (addAt st x.2.1.toNat 1) (x.2.2 + 1).toNat (-1)) (List.replicate n 0)
theorem rep_int (n : Nat) : (List.replicate n [V.int 0]).flatten = (List.replicate n (0 : Int)).map V.int := by
  induction n with
  | zero => rfl
  | succ n ih => rw [List.replicate_succ, List.flatten_cons, ih]; rfl
theorem steps_snoc (n : Nat) (xs : List (Int × Int × Int)) (x : Int × Int × Int) : stepsOf n (xs ++ [x]) = addAt (addAt (stepsOf n xs) x.2.1.toNat 1) (x.2.2 + 1).toNat (-1) := by
  unfold stepsOf
  rw [List.foldl_append]
  rfl
theorem steps_len (n : Nat) (xs : List (Int × Int × Int)) : (stepsOf n xs).length = n := by
  unfold stepsOf
  have : ∀ (xs : List (Int × Int × Int)) (st : List Int), (xs.foldl (fun st x => addAt (addAt st x.2.1.toNat 1) (x.2.2 + 1).toNat (-1)) st).length = st.length := fun xs => by
    induction xs with
    | nil => intro st; rfl
    | cons x xs ih =>
      intro st
      rw [List.foldl_cons, ih]
      unfold addAt
      rw [List.length_set, List.length_set]
  rw [this, List.length_replicate]
theorem set_add {st : List Int} {k : Nat} {d z : Int} (h : st[k]? = some z) : (st.map V.int).set k (V.int (z + d)) = (addAt st k d).map V.int := by
  unfold addAt
  rw [List.map_set, List.getD_eq_getElem?_getD, h]
  rfl
def plcs (st : List Int) : List Nat := (List.range st.length).filter fun k => decide ((st.take (k + 1)).sum > 0)
def spPi (K : Frag) : Sp := fun vs H Q _ => ∃ (R sp dx : Addr) (fs : List (Str × V)) (t : Str) (ws : List V) (xs : List (Int × Int × Int)), vs = [.ref R, .ref sp] ∧ H R = some (.ins (RD K) dx fs) ∧ fs.lookup ("text" : Str) = some (.str t) ∧ t.length ≤ 4000 ∧ H sp = some (.lst ws) ∧ Tris H ws xs ∧ xs.length ≤ 5000 ∧
  (∀ x ∈ xs, 0 ≤ x.2.1 ∧ x.2.1 ≤ t.length ∧ 0 ≤ x.2.2 ∧ x.2.2 ≤ t.length) ∧ ∀ L H', Same H H' → H' L = some (.lst ((plcs (stepsOf (t.length + 2) xs)).map fun p => V.int (p : Nat))) → Q (.ref L) H'
structure S3 (P : Program) (w : World) (K : Frag) (mg : Str → Option Value) (base : Heap) : Prop extends S2 P w K mg base where
  acc : mg "accumulate" = some (.type "itertools.accumulate")
  enumerate : mg "enumerate" = none
  cRD : C0 K mg "Reading" ["layout", "text", "spans", "ways", "ends", "kept"]
theorem ixN_nat {len i : Nat} (h : i < len) : ixN len (i : Int) = some i := by
  unfold ixN
  split
  · split
    · simp
    · omega
  · omega

section
variable {P : Program} {w : World} {K : Frag} {mg : Str → Option Value} {base : Heap} {f : Addr} {fd : FuncData}

abbrev s_Reading_places : Stmt := inClass (top 53) 2
theorem sc_Reading_places : FnScope ["self", "spans", "steps", "_", "first", "last", "place", "many"] ["self", "spans"] (defScope s_Reading_places) := ⟨rfl, rfl, rfl, by decide +kernel, rfl, by decide +kernel, by decide +kernel⟩

theorem ok_Reading_places (F : FunD K "places_in" "Reading.places_in" (defArgs s_Reading_places) (defBody s_Reading_places) (defScope s_Reading_places) [] [] f fd) (G : S3 P w K mg base) : FnOk P w K mg base CX0 1 f fd ["self", "spans"] (spPi K) := by
  refine F.ok (CX := CX0) sc_Reading_places (fun vs H Q E h => ?_) (fun cdv A outer s H vs Q E hr h => ?_)
  · obtain ⟨_, _, _, _, _, _, _, rfl, _⟩ := h
    rfl
  · refine ⟨_, PSs.nox (C8.pss_cut (ps_set (i := 2) sc_Reading_places.nd rfl (Or.inl rfl) (pe_op op_rep (pe_lstS (pa_cons pe_int pa_nil)) (pe_op op_add (pe_callB call_len_str (by rfl) G.len (by decide +kernel) (pa_cons (pe_fld (pv 0) rfl) pa_nil)) pe_int)))
    (C8.pss_cut (ps_for PassesOwn.never rfl (pi_list (pv 1)) (pg_tup rfl (pgs_cons (pg_name (i := 3) sc_Reading_places.nd rfl (Or.inl rfl)) (pgs_cons (pg_name (i := 4) sc_Reading_places.nd rfl (Or.inl rfl)) (pgs_cons (pg_name (i := 5) sc_Reading_places.nd rfl (Or.inl rfl)) pgs_nil))))
      (pss_cons (ps_augS (pv 2) (pv 4) get_list pe_int ip_add set_list)
      (pss_one (ps_augS (pv 2) (pe_op op_add (pv 5) pe_int) get_list pe_int ip_sub set_list))))
    (pss_one (ps_ret (pe_lc (own := [("place", 6), ("many", 7)]) (g := (gTup K 2 (gCons (gName 6) (gCons (gName 7) gNil)))) (tt := _) rfl sc_Reading_places.nd (pi_enum (by rfl) G.enumerate (pa_cons (pe_listAcc rfl (by rfl) G.list (by rfl) G.acc (pv 2)) pa_nil)) (blkOk_by (N := ["self", "spans", "steps", "_", "first", "last", "place", "many"]) (sc := defScope s_Reading_places) (by decide +kernel)) (fun _ _ _ _ _ => pg_tupK (n := 2) (K := K) rfl rfl (pgs_cons (pg_name (i := 6) sc_Reading_places.nd rfl (Or.inl rfl)) (pgs_cons (pg_name (i := 7) sc_Reading_places.nd rfl (Or.inl rfl)) pgs_nil))) (fun _ _ _ _ _ => pts_one (pt_cmpR op_gt (pv 7) pe_int (nomark _))) (fun _ _ _ _ _ => (pv 6))))))), ?_⟩
    obtain ⟨R, sp, dx, fs, t, ws, xs, rfl, hR, hf, ht, hs, hT, hn, hx, q⟩ := h
    have C := G.cRD
    have hwl := hT.1
    refine ⟨fun σ J => ∃ (st : Addr) (v3 v4 v5 v6 v7 : Option V), H st = none ∧ σ = [some (.ref R), some (.ref sp), some (.ref st), v3, v4, v5, v6, v7] ∧ Same H J ∧ J st = some (.lst ((List.replicate (t.length + 2) (0 : Int)).map V.int)), ?_, ?_⟩
    · refine ⟨by show 1 ≤ 1000; decide, fun p1 J1 hp1 S1 e1 => ?_⟩
      refine ⟨_, rfl, R, _, dx, _, _, rfl, S1 _ _ hR, C.cl, C.no _ (by decide +kernel), hf, t, rfl, by rw [sizeLine_eq]; omega, _, _, rfl, rfl, ?_⟩
      refine ⟨p1, _, _, rfl, rfl, e1, by omega, by omega, by rw [sizeLine_eq]; show 1 * ((t.length : Int) + 2).toNat ≤ 16777216; omega, fun p2 hp2 => ?_⟩
      refine ⟨p2, _, _, _, _, _, none_of S1 hp2, rfl, S1.trans (same_upd hp2), ?_⟩
      rw [upd_same, rep_int]
      congr 3
    rintro σ J ⟨st, v3, v4, v5, v6, v7, hst, rfl, S, eS⟩
    refine ⟨fun σ J => ∃ (v3 v4 v5 v6 v7 : Option V), σ = [some (.ref R), some (.ref sp), some (.ref st), v3, v4, v5, v6, v7] ∧ Same H J ∧ J st = some (.lst ((stepsOf (t.length + 2) xs).map V.int)), ?_, ?_⟩
    · refine ⟨_, rfl, sp, rfl, ⟨_, SqL.of (S _ _ hs)⟩, for_list (K := K) (a := sp) (xs := ws) (fun i σ J1 => ∃ (v3 v4 v5 v6 v7 : Option V), σ = [some (.ref R), some (.ref sp), some (.ref st), v3, v4, v5, v6, v7] ∧ Same H J1 ∧ J1 st = some (.lst ((stepsOf (t.length + 2) (xs.take i)).map V.int))) ⟨_, _, _, _, _, rfl, S, eS⟩ (fun i σ J1 _ ⟨_, _, _, _, _, _, SJ, _⟩ => SqL.of (SJ _ _ hs)) ?_ ?_⟩
      · rintro i v σ J1 hv ⟨v3, v4, v5, v6, v7, rfl, SJ, eJ⟩
        have hi := (List.getElem?_eq_some_iff.mp hv).1
        obtain ⟨⟨x1, f, g⟩, hxi⟩ : ∃ x, xs[i]? = some x := ⟨_, List.getElem?_eq_getElem (by omega)⟩
        obtain ⟨b, rfl, eb⟩ := hT.2 i v _ hv hxi
        obtain ⟨h1, h2, h3, h4⟩ := hx _ (List.mem_of_getElem? hxi)
        dsimp only at h1 h2 h3 h4
        obtain ⟨kf, rfl⟩ := Int.eq_ofNat_of_zero_le h1
        obtain ⟨kg, rfl⟩ := Int.eq_ofNat_of_zero_le h3
        have sl := steps_len (t.length + 2) (xs.take i)
        have tk : xs.take (i + 1) = xs.take i ++ [(x1, ((kf : Nat) : Int), ((kg : Nat) : Int))] := by rw [List.take_add_one, hxi]; rfl
        have es := steps_snoc (t.length + 2) (xs.take i) (x1, ((kf : Nat) : Int), ((kg : Nat) : Int))
        rw [← tk] at es
        generalize stepsOf (t.length + 2) (xs.take i) = so at *
        obtain ⟨z1, hz1⟩ : ∃ z, so[kf]? = some z := ⟨_, List.getElem?_eq_getElem (by omega)⟩
        refine ⟨b, _, rfl, SqT.of (SJ _ _ eb), rfl, _, _, rfl, _, _, rfl, _, _, rfl, rfl, ?_⟩
        refine ⟨_, rfl, _, rfl, st, _, kf, _, rfl, rfl, SqL.of eJ, by rw [List.getElem?_map, hz1]; rfl, _, _, rfl, rfl, ?_⟩
        refine ⟨st, _, ((kf : Nat) : Int), kf, rfl, rfl, eJ, ixN_nat (by rw [List.length_map]; omega), ?_⟩
        rw [set_add hz1]
        have sl2 : (addAt so kf 1).length = t.length + 2 := by unfold addAt; rw [List.length_set]; exact sl
        have S5 : Same H (upd J1 st (.lst ((addAt so kf 1).map V.int))) := same_put SJ hst
        have e5 : upd J1 st (.lst ((addAt so kf 1).map V.int)) st = some (.lst ((addAt so kf 1).map V.int)) := upd_same
        generalize upd J1 st (.lst ((addAt so kf 1).map V.int)) = J5 at S5 e5 ⊢
        obtain ⟨z2, hz2⟩ : ∃ z, (addAt so kf 1)[kg + 1]? = some z := ⟨_, List.getElem?_eq_getElem (by omega)⟩
        refine ⟨_, rfl, _, rfl, _, _, rfl, rfl, st, _, kg + 1, _, rfl, rfl, SqL.of e5, by rw [List.getElem?_map, hz2]; rfl, _, _, rfl, rfl, ?_⟩
        refine ⟨st, _, ((kg + 1 : Nat) : Int), kg + 1, rfl, rfl, e5, ixN_nat (by rw [List.length_map]; omega), ?_⟩
        rw [show V.int (z2 - 1) = V.int (z2 + -1) from rfl, set_add hz2]
        refine ⟨_, _, _, _, _, rfl, same_put S5 hst, ?_⟩
        rw [upd_same, es]
        rfl
      · rintro σ J1 ⟨v3, v4, v5, v6, v7, rfl, SJ, eJ⟩
        rw [hwl, List.take_length] at eJ
        exact ⟨_, _, _, _, _, rfl, SJ, eJ⟩
    rintro σ J1 ⟨v3, v4, v5, v6, v7, rfl, SJ, eJ⟩
    have sl := steps_len (t.length + 2) xs
    generalize stepsOf (t.length + 2) xs = so at *
    refine ⟨_, rfl, st, so, rfl, SqL.of eJ, by rw [sizeLine_eq]; omega, fun p J2 hp S2 e2 => ?_⟩
    refine ⟨p, _, rfl, SqL.of e2, fun D hD => ?_⟩
    have al : (accV so).length = so.length := by simp [accV]
    refine lc_it (walk_enum (xs := accV so)) (fun n L => L D = some (.lst ((((List.range n).filter fun k => decide ((so.take (k + 1)).sum > 0))).map fun p => V.int (p : Nat))) ∧ Same J2 L) ⟨upd_same, same_upd hD⟩ (fun n L _ ⟨_, SL⟩ => SqL.of (SL _ _ e2)) ?_ ?_
    · rintro n x L L2 hn2 ⟨eD, SL⟩ ⟨T, p', x', rfl, hTn, rfl, ep, ex⟩
      rw [al] at hn2
      obtain rfl : p' = .int (n : Nat) := (Option.some.inj ep).symm
      obtain rfl : x' = .int (so.take (n + 1)).sum := by
        unfold accV at ex
        dsimp only at ex
        rw [List.getElem?_map, List.getElem?_range hn2] at ex
        exact (Option.some.inj ex).symm
      have U2 : Same L (upd L T (.tup [V.int (n : Nat), V.int (so.take (n + 1)).sum])) := same_upd hTn
      have u2 : upd L T (.tup [V.int (n : Nat), V.int (so.take (n + 1)).sum]) T = some (.tup [V.int (n : Nat), V.int (so.take (n + 1)).sum]) := upd_same
      generalize upd L T (.tup [V.int (n : Nat), V.int (so.take (n + 1)).sum]) = L' at U2 u2 ⊢
      refine ⟨T, _, rfl, SqT.of u2, rfl, _, _, rfl, _, _, rfl, rfl, rfl, ?_⟩
      refine ⟨_, rfl, _, _, rfl, rfl, _, rfl, ?_⟩
      have lf : ((List.range n).filter fun k => decide ((so.take (k + 1)).sum > 0)).length ≤ 5000 := by
        have := List.length_filter_le (fun k => decide ((so.take (k + 1)).sum > 0)) (List.range n)
        rw [List.length_range] at this
        omega
      refine ite2 (fun hc => ?_) (fun hc => ?_)
      · refine ⟨_, rfl, _, U2 _ _ eD, by rw [List.length_map, sizeLine_eq]; omega, ?_, same_put (SL.trans U2) hD⟩
        rw [upd_same, List.range_succ, List.filter_append, List.map_append]
        simp [hc]
      · refine ⟨?_, SL.trans U2⟩
        rw [U2 _ _ eD, List.range_succ, List.filter_append, List.map_append]
        simp [hc]
    · rintro L ⟨eD, SL⟩
      rw [al] at eD
      exact q D L (((SJ.trans S2).trans SL)) eD

end
end L2.K22

set_option Elab.async false
set_option linter.all false
set_option maxRecDepth 100000
set_option maxHeartbeats 4000000
/-! zip of two sequences, each a list or a tuple. -/
namespace L2.Jk.Z2
open PySem
open PySem.Sem (wp)
open L2.Jk.Z3 (Sq)
abbrev IsTw (h : Heap) (T : Addr) (a b : Value) : Prop := h.get? T = some { cls := .type "tuple", data := .seq #[a, b] }
structure Ap (z TI TO i1 i2 l1 l2 : Addr) : Prop where
  ti : TI ≠ z ∧ TI ≠ TO ∧ TI ≠ i1 ∧ TI ≠ i2
  to : TO ≠ z ∧ TO ≠ i1 ∧ TO ≠ i2
  iz : i1 ≠ z ∧ i2 ≠ z
  ii : i1 ≠ i2
  a1 : l1 ≠ z ∧ l1 ≠ TO ∧ l1 ≠ i1 ∧ l1 ≠ i2
  a2 : l2 ≠ z ∧ l2 ≠ TO ∧ l2 ≠ i1 ∧ l2 ≠ i2
section
variable {prog : Program} {w : World} {A : Around} {E : Value → Shared → Prop} {s : Shared}
theorem updateSeq_tw {T : Addr} {a b x : Value} {k : Nat} {Q : Unit → Shared → Prop} (hT : IsTw s.heap T a b)
    (h : ∀ h', h'.get? T = some { cls := .type "tuple", data := .seq ((#[a, b] : Array Value).setIfInBounds k x) } → Heap.SameBut T s.heap h' → Q () { s with heap := h' }) :
    wpAny (model prog w) A (updateSeq T (·.setIfInBounds k x)) Q E s := by
  refine wpAny_updateSeq hT rfl (h _ ?_ (Heap.SameBut.update ..))
  rw [Heap.get?_update_self _ hT rfl]
  simp [Obj.mapSeq]
variable {z TI TO i1 i2 l1 l2 : Addr} {k : Nat} {b1 b2 : Bool} {xs ys : Array Value} {a b : Value}
def Kp (z TO i1 i2 : Addr) (h h' : Heap) : Prop := ∀ c o, c ≠ z → c ≠ TO → c ≠ i1 → c ≠ i2 → h.get? c = some o → h'.get? c = some o
theorem zip_item {x y : Value} {Q : Value → Shared → Prop} (D : Ap z TI TO i1 i2 l1 l2)
    (hz : IsZip s.heap z TI TO .none) (hTI : IsTw s.heap TI (.ref i1) (.ref i2)) (hTO : IsTw s.heap TO a b)
    (h1 : Z3.It b1 s.heap i1 l1 k) (h2 : Z3.It b2 s.heap i2 l2 k) (q1 : Sq b1 s.heap l1 xs) (q2 : Sq b2 s.heap l2 ys)
    (hx : xs[k]? = some x) (hy : ys[k]? = some y)
    (hQ : ∀ h', IsZip h' z TI TO (rawInt s.heap.objs.size) → IsTw h' TO x y → Z3.It b1 h' i1 l1 (k + 1) → Z3.It b2 h' i2 l2 (k + 1) → IsTw h' s.heap.objs.size x y → h'.objs.size = s.heap.objs.size + 1 →
      Kp z TO i1 i2 s.heap h' → Q (.ref s.heap.objs.size) { s with heap := h' }) :
    wpAny (model prog w) A (Builtin.«zip.__next__» ⟨[.ref z], []⟩) (fun fin s' => ∃ v, fin = .done (.ret v) ∧ Q v s') E s := by
  obtain ⟨⟨ti1, ti2, ti3, ti4⟩, ⟨to1, to2, to3⟩, ⟨iz1, iz2⟩, ii1, ⟨x1, x2, x3, x4⟩, ⟨y1, y2, y3, y4⟩⟩ := D
  show wpAny _ _ (field (.ref z) 2 >>= _) _ _ _
  refine wpAny_bind (wpAny_field hz rfl (x := .bool false) rfl ?_)
  show wpAny _ _ (field (.ref z) 3 >>= _) _ _ _
  refine wpAny_bind (wpAny_field hz rfl (x := .ref TI) rfl ?_)
  refine wpAny_bind (wpAny_seqItems hTI rfl ?_)
  show wpAny _ _ (Builtin.SmallTypes.ownedTupleIsFree (.ref z) >>= _) _ _ _
  refine wpAny_bind ?_
  unfold Builtin.SmallTypes.ownedTupleIsFree
  refine wpAny_bind (wpAny_field hz rfl (x := .none) rfl (wpAny_pure ?_))
  simp only [if_true]
  refine wpAny_bind (wpAny_rule ?_)
  refine wpAny_bind (wpAny_field hz rfl (x := .ref TO) rfl ?_)
  refine wpAny_bind (wpAny_setField_rec hz (by simp) fun h₁ hz₁ hs₁ => ?_)
  replace hz₁ : IsZip h₁ z TI TO .ellipsis := hz₁
  refine wpAny_bind ?_
  simp only [List.zipIdx_cons, List.zipIdx_nil, List.forIn_cons, List.forIn_nil]
  have e1 := hs₁.extBut
  have hTO₁ : IsTw h₁ TO a b := e1 _ _ to1 hTO
  refine wpAny_bind (wpAny_bind (wpAny_onRaise ?_))
  show wpAny _ _ (Builtin.SmallTypes.nextOf (.ref i1) >>= _) _ _ _
  refine wpAny_bind (Z3.next_item (h1.ext e1 iz1) (q1.ext e1 x1) hx fun h₂ n1 hs₂ => wpAny_pure ?_)
  have e2 := hs₂.extBut
  have hTO₂ : IsTw h₂ TO a b := e2 _ _ to2 hTO₁
  refine wpAny_bind (wpAny_seqItems hTO₂ rfl ?_)
  refine wpAny_bind (updateSeq_tw hTO₂ fun h₃ hTO₃ hs₃ => ?_)
  have e3 := hs₃.extBut
  replace hTO₃ : IsTw h₃ TO x b := hTO₃
  refine wpAny_bind (wpAny_letGo (wpAny_pure ?_))
  refine wpAny_bind (wpAny_bind (wpAny_onRaise ?_))
  show wpAny _ _ (Builtin.SmallTypes.nextOf (.ref i2) >>= _) _ _ _
  refine wpAny_bind (Z3.next_item (((h2.ext e1 iz2).ext e2 ii1.symm).ext e3 to3.symm) (((q2.ext e1 y1).ext e2 y3).ext e3 y2) hy fun h₄ n2 hs₄ => wpAny_pure ?_)
  have e4 := hs₄.extBut
  have hTO₄ : IsTw h₄ TO x b := e4 _ _ to3 hTO₃
  refine wpAny_bind (wpAny_seqItems hTO₄ rfl ?_)
  refine wpAny_bind (updateSeq_tw hTO₄ fun h₇ hTO₇ hs₇ => ?_)
  have e7 := hs₇.extBut
  replace hTO₇ : IsTw h₇ TO x y := hTO₇
  refine wpAny_bind (wpAny_letGo (wpAny_pure (wpAny_pure ?_)))
  refine wpAny_bind (wpAny_seqItems hTO₇ rfl ?_)
  refine wpAny_bind (wpAny_newTuple ?_)
  have hsz : h₇.objs.size = s.heap.objs.size := by rw [hs₇.1, hs₄.1, hs₃.1, hs₂.1, hs₁.1]
  have hz₇ : IsZip h₇ z TI TO .ellipsis := e7 _ _ to1.symm (e4 _ _ iz2.symm (e3 _ _ to1.symm (e2 _ _ iz1.symm hz₁)))
  have hk₇ : Kp z TO i1 i2 s.heap h₇ := fun c o c1 c2 c3 c4 e =>
    e7 _ _ c2 (e4 _ _ c4 (e3 _ _ c2 (e2 _ _ c3 (e1 _ _ c1 e))))
  have m1 : Z3.It b1 h₇ i1 l1 (k + 1) := ((n1.ext e3 to2.symm).ext e4 ii1).ext e7 to2.symm
  have m2 : Z3.It b2 h₇ i2 l2 (k + 1) := n2.ext e7 to3.symm
  have hzlt : z < h₇.objs.size := Heap.lt_size hz₇
  show wpAny _ _ (Builtin.SmallTypes.ownedTupleHandOut (.ref z) (.ref h₇.objs.size) >>= _) _ _ _
  refine wpAny_bind ?_
  unfold Builtin.SmallTypes.ownedTupleHandOut
  have hz₈ : IsZip (h₇.push { cls := .type "tuple", data := .seq #[x, y] }) z TI TO .ellipsis := Heap.get?_push_of_some _ hz₇
  refine wpAny_bind (wpAny_setField_rec hz₈ (by simp) fun h₉ hz₉ hs₉ => ?_)
  replace hz₉ : IsZip h₉ z TI TO (rawInt h₇.objs.size) := hz₉
  refine wpAny_setField_rec hz₉ (by simp) fun ha hza hsa => ?_
  replace hza : IsZip ha z TI TO (rawInt h₇.objs.size) := hza
  have up : ∀ c o, c ≠ z → h₇.get? c = some o → ha.get? c = some o := fun c o c1 e => hsa.extBut _ _ c1 (hs₉.extBut _ _ c1 (Heap.get?_push_of_some _ e))
  have hTa : IsTw ha h₇.objs.size x y := hsa.extBut _ _ (Nat.ne_of_gt hzlt) (hs₉.extBut _ _ (Nat.ne_of_gt hzlt) (Heap.get?_push_size _ rfl))
  have hza8 : ha.objs.size = h₇.objs.size + 1 := by rw [hsa.1, hs₉.1, Heap.size_push]
  rw [hsz] at hza hTa hza8
  refine wpAny_pure ⟨_, rfl, ?_⟩
  show Q (.ref h₇.objs.size) _
  rw [hsz]
  exact hQ ha hza (up _ _ to1 hTO₇) (m1.at fun o e => up _ o iz1 e) (m2.at fun o e => up _ o iz2 e) hTa hza8 fun c o c1 c2 c3 c4 e => up c o c1 (hk₇ c o c1 c2 c3 c4 e)
theorem zip_end {Q : Fin → Shared → Prop} (hh : A.handled = none) (D : Ap z TI TO i1 i2 l1 l2)
    (hz : IsZip s.heap z TI TO .none) (hTI : IsTw s.heap TI (.ref i1) (.ref i2)) (hTO : IsTw s.heap TO a b)
    (h1 : Z3.It b1 s.heap i1 l1 k) (h2 : Z3.It b2 s.heap i2 l2 k) (q1 : Sq b1 s.heap l1 xs) (q2 : Sq b2 s.heap l2 ys)
    (hend : xs[k]? = none ∨ ys[k]? = none)
    (hE : ∀ h' e, Kp z TO i1 i2 s.heap h' → (∃ o, h'.get? e = some o ∧ o.cls = .type "StopIteration") → E (.ref e) { s with heap := h' }) :
    wpAny (model prog w) A (Builtin.«zip.__next__» ⟨[.ref z], []⟩) Q E s := by
  obtain ⟨⟨ti1, ti2, ti3, ti4⟩, ⟨to1, to2, to3⟩, ⟨iz1, iz2⟩, ii1, ⟨x1, x2, x3, x4⟩, ⟨y1, y2, y3, y4⟩⟩ := D
  show wpAny _ _ (field (.ref z) 2 >>= _) _ _ _
  refine wpAny_bind (wpAny_field hz rfl (x := .bool false) rfl ?_)
  show wpAny _ _ (field (.ref z) 3 >>= _) _ _ _
  refine wpAny_bind (wpAny_field hz rfl (x := .ref TI) rfl ?_)
  refine wpAny_bind (wpAny_seqItems hTI rfl ?_)
  show wpAny _ _ (Builtin.SmallTypes.ownedTupleIsFree (.ref z) >>= _) _ _ _
  refine wpAny_bind ?_
  unfold Builtin.SmallTypes.ownedTupleIsFree
  refine wpAny_bind (wpAny_field hz rfl (x := .none) rfl (wpAny_pure ?_))
  simp only [if_true]
  refine wpAny_bind (wpAny_rule ?_)
  refine wpAny_bind (wpAny_field hz rfl (x := .ref TO) rfl ?_)
  refine wpAny_bind (wpAny_setField_rec hz (by simp) fun h₁ hz₁ hs₁ => ?_)
  replace hz₁ : IsZip h₁ z TI TO .ellipsis := hz₁
  refine wpAny_bind ?_
  simp only [List.zipIdx_cons, List.zipIdx_nil, List.forIn_cons, List.forIn_nil]
  have e1 := hs₁.extBut
  have hTO₁ : IsTw h₁ TO a b := e1 _ _ to1 hTO
  refine wpAny_bind (wpAny_bind (wpAny_onRaise ?_))
  show wpAny _ _ (Builtin.SmallTypes.nextOf (.ref i1) >>= _) _ _ _
  cases hx : xs[k]? with
  | none =>
    refine wpAny_bind (Z3.next_end hh (h1.ext e1 iz1) (q1.ext e1 x1) hx fun h₂ e e2 he => ?_)
    obtain ⟨oe, hoe, hce⟩ := he
    have hz₂ : IsZip h₂ z TI TO .ellipsis := e2 _ _ iz1.symm hz₁
    have hez : e ≠ z := fun x => by subst x; rw [hz₂] at hoe; cases hoe; simp at hce
    refine wpAny_setField_rec hz₂ (by simp) fun h₃ _ hs₃ => hE h₃ e (fun c o c1 _ c3 _ x => hs₃.extBut _ _ c1 (e2 _ _ c3 (e1 _ _ c1 x))) ⟨oe, hs₃.extBut _ _ hez hoe, hce⟩
  | some x =>
    have hy : ys[k]? = none := by
      rcases hend with h | h
      · rw [hx] at h; cases h
      · exact h
    refine wpAny_bind (Z3.next_item (h1.ext e1 iz1) (q1.ext e1 x1) hx fun h₂ n1 hs₂ => wpAny_pure ?_)
    have e2 := hs₂.extBut
    have hTO₂ : IsTw h₂ TO a b := e2 _ _ to2 hTO₁
    refine wpAny_bind (wpAny_seqItems hTO₂ rfl ?_)
    refine wpAny_bind (updateSeq_tw hTO₂ fun h₃ hTO₃ hs₃ => ?_)
    have e3 := hs₃.extBut
    replace hTO₃ : IsTw h₃ TO x b := hTO₃
    refine wpAny_bind (wpAny_letGo (wpAny_pure ?_))
    refine wpAny_bind (wpAny_bind (wpAny_onRaise ?_))
    show wpAny _ _ (Builtin.SmallTypes.nextOf (.ref i2) >>= _) _ _ _
    have hz₃ : IsZip h₃ z TI TO .ellipsis := e3 _ _ to1.symm (e2 _ _ iz1.symm hz₁)
    refine wpAny_bind (Z3.next_end hh (((h2.ext e1 iz2).ext e2 ii1.symm).ext e3 to3.symm) (((q2.ext e1 y1).ext e2 y3).ext e3 y2) hy fun h₄ e e4 he => ?_)
    obtain ⟨oe, hoe, hce⟩ := he
    have hz₄ : IsZip h₄ z TI TO .ellipsis := e4 _ _ iz2.symm hz₃
    have hez : e ≠ z := fun x => by subst x; rw [hz₄] at hoe; cases hoe; simp at hce
    refine wpAny_setField_rec hz₄ (by simp) fun h₅ _ hs₅ => hE h₅ e (fun c o c1 c2 c3 c4 x => hs₅.extBut _ _ c1 (e4 _ _ c4 (e3 _ _ c2 (e2 _ _ c3 (e1 _ _ c1 x))))) ⟨oe, hs₅.extBut _ _ hez hoe, hce⟩
theorem pyNext_item {x y : Value} {Q : Option Value → Shared → Prop} (D : Ap z TI TO i1 i2 l1 l2)
    (hz : IsZip s.heap z TI TO .none) (hTI : IsTw s.heap TI (.ref i1) (.ref i2)) (hTO : IsTw s.heap TO a b)
    (h1 : Z3.It b1 s.heap i1 l1 k) (h2 : Z3.It b2 s.heap i2 l2 k) (q1 : Sq b1 s.heap l1 xs) (q2 : Sq b2 s.heap l2 ys)
    (hx : xs[k]? = some x) (hy : ys[k]? = some y)
    (hQ : ∀ h', IsZip h' z TI TO (rawInt s.heap.objs.size) → IsTw h' TO x y → Z3.It b1 h' i1 l1 (k + 1) → Z3.It b2 h' i2 l2 (k + 1) → IsTw h' s.heap.objs.size x y → h'.objs.size = s.heap.objs.size + 1 →
      Kp z TO i1 i2 s.heap h' → Q (some (.ref s.heap.objs.size)) { s with heap := h' }) : wpAny (model prog w) A (pyNext (.ref z)) Q E s := by
  have hT : s.TypeIs (.ref z) "zip" := ⟨_, hz, rfl⟩
  unfold pyNext
  exact wpAny_bind (wpAny_attempt (wpAny_callSpecial?_slot (name := Str.ofString "__next__") hT F.slot_zip_next
    (wpAny_call_entry F.slot_zip_next hT F.entry_zip_next
      (zip_item D hz hTI hTO h1 h2 q1 q2 hx hy fun h' a1 a2 a3 a4 a6 a7 a8 => wpAny_pure (hQ h' a1 a2 a3 a4 a6 a7 a8)) (F.args_zip_next_1 _))))
theorem pyNext_end {Q : Option Value → Shared → Prop} (hh : A.handled = none) (D : Ap z TI TO i1 i2 l1 l2)
    (hz : IsZip s.heap z TI TO .none) (hTI : IsTw s.heap TI (.ref i1) (.ref i2)) (hTO : IsTw s.heap TO a b)
    (h1 : Z3.It b1 s.heap i1 l1 k) (h2 : Z3.It b2 s.heap i2 l2 k) (q1 : Sq b1 s.heap l1 xs) (q2 : Sq b2 s.heap l2 ys)
    (hend : xs[k]? = none ∨ ys[k]? = none)
    (hQ : ∀ h', Kp z TO i1 i2 s.heap h' → Q none { s with heap := h' }) : wpAny (model prog w) A (pyNext (.ref z)) Q E s := by
  have hT : s.TypeIs (.ref z) "zip" := ⟨_, hz, rfl⟩
  unfold pyNext
  refine wpAny_bind (wpAny_attempt (wpAny_callSpecial?_slot (name := Str.ofString "__next__") hT F.slot_zip_next
    (wpAny_call_entry F.slot_zip_next hT F.entry_zip_next (zip_end hh D hz hTI hTO h1 h2 q1 q2 hend fun h' e hk he => ?_) (F.args_zip_next_1 _))))
  obtain ⟨o, ho, hc⟩ := he
  refine wpAny_bind (wpAny_isInstance (T := "StopIteration") (b := true) ⟨o, ho, hc⟩ isSubtype_stop ?_)
  exact wpAny_pure (hQ _ hk)
end
end L2.Jk.Z2
namespace L2.Jk.Z2
open PySem PySem.W PySem.Spec PySem.Calls PyProof.Rows L2 L2.Jk
open L2.Jk.Z3 (Sq SqB itO it_new pyIter_sq inv_seq inv_inj seqT_same)
theorem typeCall_zip_2 (a b : Value) : checkTypeCall "zip" ⟨[a, b], []⟩ = pure () := by kernel_rfl
theorem newCall_zip_2 (a b : Value) : checkBuiltinCall "zip.__new__" ⟨[.type "zip", a, b], []⟩ = pure () := by kernel_rfl
theorem args_object_init_3' (a b c : Value) : argsOk "object.__init__" ⟨[a, b, c], []⟩ := by
  unfold argsOk; rw [signature?_of (id := "object.__init__") (n := ['_', '_', 't', 'i', 'n', 'i', '_', '_']) (o := ['t', 'c', 'e', 'j', 'b', 'o']) (by kernel_rfl) PySem.F.owner_object]; kernel_rfl
section
variable {prog : Program} {w : World} {A : Around} {E : Value → Shared → Prop} {s : Shared}
abbrev g1 (h : Heap) (b1 : Bool) (l1 : Addr) : Heap := h.push (itO b1 l1)
abbrev g2 (h : Heap) (b1 b2 : Bool) (l1 l2 : Addr) : Heap := (g1 h b1 l1).push (itO b2 l2)
abbrev g3 (h : Heap) (b1 b2 : Bool) (l1 l2 : Addr) : Heap := (g2 h b1 b2 l1 l2).push { cls := .type "tuple", data := .seq #[.ref h.objs.size, .ref (g1 h b1 l1).objs.size] }
abbrev g4 (h : Heap) (b1 b2 : Bool) (l1 l2 : Addr) : Heap := (g3 h b1 b2 l1 l2).push { cls := .type "tuple", data := .seq #[.none, .none] }
abbrev g5 (h : Heap) (b1 b2 : Bool) (l1 l2 : Addr) : Heap := (g4 h b1 b2 l1 l2).push { cls := .type "zip", data := .fields #[.none, .bool false, .bool false, .ref (g2 h b1 b2 l1 l2).objs.size, .ref (g3 h b1 b2 l1 l2).objs.size] }
theorem meets_zip2_new (b1 b2 : Bool) (l1 l2 : Addr) (xs ys : Array Value) :
    Meets (Builtin.«zip.__new__» ⟨[.type "zip", .ref l1, .ref l2], []⟩) (fun _ R s => Sq b1 s.heap l1 xs ∧ Sq b2 s.heap l2 ys ∧
      R (.ok (.ret (.ref (g4 s.heap b1 b2 l1 l2).objs.size))) { s with heap := g5 s.heap b1 b2 l1 l2 }) :=
  .of_wp fun prog w A R s h => by
    obtain ⟨hp, g, d, tk, os⟩ := s; obtain ⟨hl1, hl2, h⟩ := h
    have hsub := sub_zip
    have hL1 : Sq b1 (Shared.heap ⟨hp, g, d, tk, os⟩) l1 xs := hl1
    have hL2 : Sq b2 (Shared.heap ⟨hp.push (itO b1 l1), g, d, tk, os⟩) l2 ys := Z3.Sq.push hl2 _
    wp_walk using pyIter_sq hL1, pyIter_sq hL2
    exact ⟨_, rfl, h⟩
theorem call_zip2 {b1 b2 : Bool} {l1 l2 : Addr} {xs ys : Array Value} {Q : Value → Shared → Prop} (hl1 : Sq b1 s.heap l1 xs) (hl2 : Sq b2 s.heap l2 ys)
    (h : ∀ h', IsZip h' (s.heap.objs.size + 4) (s.heap.objs.size + 2) (s.heap.objs.size + 3) .none → IsTw h' (s.heap.objs.size + 2) (.ref s.heap.objs.size) (.ref (s.heap.objs.size + 1)) →
      IsTw h' (s.heap.objs.size + 3) .none .none → Z3.It b1 h' s.heap.objs.size l1 0 → Z3.It b2 h' (s.heap.objs.size + 1) l2 0 → h'.objs.size = s.heap.objs.size + 5 →
      (∀ c o, s.heap.get? c = some o → h'.get? c = some o) → Q (.ref (s.heap.objs.size + 4)) { s with heap := h' }) :
    wpAny (model prog w) A (call (.type "zip") [.ref l1, .ref l2]) Q E s := by
  refine callType_new PySem.F.called_zip (by decide) (typeCall_zip_2 _ _) (newCall_zip_2 _ _) (fun obj => args_object_init_3' obj _ _) PySem.F.entry_zip_new
    (meets_zip2_new b1 b2 l1 l2 xs ys) ⟨hl1, hl2, ?_⟩
  have z1 : (g1 s.heap b1 l1).objs.size = s.heap.objs.size + 1 := Heap.size_push ..
  have z2 : (g2 s.heap b1 b2 l1 l2).objs.size = s.heap.objs.size + 2 := by rw [Heap.size_push, z1]
  have z3 : (g3 s.heap b1 b2 l1 l2).objs.size = s.heap.objs.size + 3 := by rw [Heap.size_push, z2]
  have z4 : (g4 s.heap b1 b2 l1 l2).objs.size = s.heap.objs.size + 4 := by rw [Heap.size_push, z3]
  have z5 : (g5 s.heap b1 b2 l1 l2).objs.size = s.heap.objs.size + 5 := by rw [Heap.size_push, z4]
  have p {h : Heap} {a : Addr} {o : Obj} (q : Obj) : h.get? a = some o → (h.push q).get? a = some o := Heap.get?_push_of_some _
  have nf : ∀ b l, (itO b l).isFreed = false := fun b l => by cases b <;> rfl
  have e5 : (g5 s.heap b1 b2 l1 l2).get? (g4 s.heap b1 b2 l1 l2).objs.size = some _ := Heap.get?_push_size _ rfl
  have e4 : (g5 s.heap b1 b2 l1 l2).get? (g3 s.heap b1 b2 l1 l2).objs.size = some _ := p _ (Heap.get?_push_size _ rfl)
  have e3 : (g5 s.heap b1 b2 l1 l2).get? (g2 s.heap b1 b2 l1 l2).objs.size = some _ := p _ (p _ (Heap.get?_push_size _ rfl))
  have e2 : (g5 s.heap b1 b2 l1 l2).get? (g1 s.heap b1 l1).objs.size = some (itO b2 l2) := p _ (p _ (p _ (Heap.get?_push_size _ (nf _ _))))
  have e1 : (g5 s.heap b1 b2 l1 l2).get? s.heap.objs.size = some (itO b1 l1) := p _ (p _ (p _ (p _ (Heap.get?_push_size _ (nf _ _)))))
  show _ ∧ _
  rw [z2, z3, z4] at e5
  rw [z1, z2] at e3
  rw [z3] at e4
  rw [z1] at e2
  rw [z4]
  exact ⟨⟨_, e5, rfl⟩, h _ e5 e3 e4 (it_new e1) (it_new e2) z5 fun c o x => p _ (p _ (p _ (p _ (p _ x))))⟩
end
theorem ap_new (I l1 l2 : Nat) (h1 : l1 < I) (h2 : l2 < I) : Ap (I + 4) (I + 2) (I + 3) I (I + 1) l1 l2 := by
  have ne : ∀ {a b : Nat}, (a < b ∨ b < a) → a ≠ b := fun h e => by omega
  exact ⟨⟨ne (by omega), ne (by omega), ne (by omega), ne (by omega)⟩, ⟨ne (by omega), ne (by omega), ne (by omega)⟩, ⟨ne (by omega), ne (by omega)⟩, ne (by omega),
    ⟨ne (by omega), ne (by omega), ne (by omega), ne (by omega)⟩, ⟨ne (by omega), ne (by omega), ne (by omega), ne (by omega)⟩⟩
section
variable {X : Cx} {pins : List (Addr × Obj)} {σ : St} {H : Hp} {s : Shared}
end
def Itz2 (K : Frag) (b1 b2 : Bool) (a1 a2 : Addr) : L2.It :=
  ⟨fun i H => ∃ (xs ys : List V) (x y : V), SqB b1 K H a1 xs ∧ SqB b2 K H a2 ys ∧ xs[i]? = some x ∧ ys[i]? = some y,
    fun i H v H' => ∃ T x y, v = .ref T ∧ H T = none ∧ H' = upd H T (.tup [x, y]) ∧ (∀ xs, SqB b1 K H a1 xs → xs[i]? = some x) ∧ ∀ ys, SqB b2 K H a2 ys → ys[i]? = some y,
    fun i H => ∃ xs ys : List V, SqB b1 K H a1 xs ∧ SqB b2 K H a2 ys ∧ (xs.length ≤ i ∨ ys.length ≤ i)⟩
theorem turn_zip2 {P : Program} {w : World} {K : Frag} {elts : List Expr} {kk : Nat} {tpos : Pos} {b1 b2 : Bool} {a1 a2 z TI TO i1 i2 : Addr} (D : Ap z TI TO i1 i2 a1 a2) :
    Turn P w K (.Tuple elts kk tpos) (Itz2 K b1 b2 a1 a2) [z, TI, TO, i1, i2] z (fun i h => IsZip h z TI TO .none ∧ IsTw h TI (.ref i1) (.ref i2) ∧ (∃ x y, IsTw h TO x y) ∧ Z3.It b1 h i1 a1 i ∧ Z3.It b2 h i2 a2 i) where
  mem := by simp
  obj := fun i h st c hc => by
    obtain ⟨hz, hTI, ⟨x, y, hTO⟩, h1, h2⟩ := st
    have e' : c = z ∨ c = TI ∨ c = TO ∨ c = i1 ∨ c = i2 := by simpa using hc
    rcases e' with q | q | q | q | q
    · rw [q]; exact ⟨_, hz, fun v q => nomatch q⟩
    · rw [q]; exact ⟨_, hTI, fun v q => nomatch q⟩
    · rw [q]; exact ⟨_, hTO, fun v q => nomatch q⟩
    · rw [q]; exact h1.obj
    · rw [q]; exact h2.obj
  keep := fun i h h' st k => by
    obtain ⟨hz, hTI, ⟨x, y, hTO⟩, h1, h2⟩ := st
    exact ⟨k z (by simp) _ hz, k TI (by simp) _ hTI, ⟨x, y, k TO (by simp) _ hTO⟩, h1.at fun o q => k i1 (by simp) o q, h2.at fun o q => k i2 (by simp) o q⟩
  item := by
    intro X hP hw hK hc i pins s σ H E I hf st hg
    subst hP hw hK
    obtain ⟨hz, hTI, ⟨x0, y0, hTO⟩, h1, h2⟩ := st
    obtain ⟨xs, ys, x, y, hqx, hqy, hx, hy⟩ := hg
    obtain ⟨its, rv, p⟩ := inv_seq I hqx
    obtain ⟨its2, rv2, p2⟩ := inv_seq I hqy
    obtain ⟨v1, hv1, r1⟩ := rv.get hx
    obtain ⟨v2, hv2, r2⟩ := rv2.get hy
    have hzl : z < s.heap.objs.size := Heap.lt_size hz
    refine pyNext_item D hz hTI hTO h1 h2 p p2 (x := v1) (y := v2) (by simpa using hv1) (by simpa using hv2) fun h' z' TO' h1' h2' hT hsz hk => ?_
    refine ⟨_, rfl, wpAny_letOwnedTupleGo_zip (s := { s with heap := h' }) z' fun h'' z'' sb => ?_⟩
    have hT2 : h''.get? s.heap.objs.size = some { cls := .type "tuple", data := .seq #[v1, v2] } := (sb.2 _ (Nat.ne_of_gt hzl)).trans hT
    have new : ObjOk X.prog X.w (upd H s.heap.objs.size (.tup [x, y])) h'' s.heap.objs.size (.tup [x, y]) :=
      ⟨by show 2 ≤ sizeLine; decide, [v1, v2], .cons r1 (.cons r2 .nil), ⟨_, hT2, rfl, _, rfl⟩⟩
    have I1 : Inv X pins σ (upd H s.heap.objs.size (.tup [x, y])) { s with heap := h'' } :=
      I.turnedNew (t' := s.toks) (ch := [z, TI, TO, i1, i2]) (fun c o hb q => (sb.2 c (fun q' => hb (by simp [q']))).trans (hk c o (fun q' => hb (by simp [q'])) (fun q' => hb (by simp [q'])) (fun q' => hb (by simp [q'])) (fun q' => hb (by simp [q'])) q)) hf (Nat.le_refl _) new
    obtain ⟨⟨ti1, ti2, ti3, ti4⟩, ⟨to1, to2, to3⟩, ⟨iz1, iz2⟩, _⟩ := D
    refine ⟨.ref s.heap.objs.size, _, I1, rfl, ⟨_, x, y, rfl, I.hok.fresh (Nat.le_refl _), rfl, fun l hl => by rw [inv_inj I hl hqx]; exact hx, fun l hl => by rw [inv_inj I hl hqy]; exact hy⟩, ⟨z'', ?_, ⟨v1, v2, ?_⟩, ?_, ?_⟩, fun c hcm => ?_⟩
    · exact (sb.2 _ ti1).trans (hk _ _ ti1 ti2 ti3 ti4 hTI)
    · exact (sb.2 _ to1).trans TO'
    · exact h1'.at fun o q => (sb.2 _ iz1).trans q
    · exact h2'.at fun o q => (sb.2 _ iz2).trans q
    · have hlt : c < s.heap.objs.size := by
        have e' : c = z ∨ c = TI ∨ c = TO ∨ c = i1 ∨ c = i2 := by simpa using hcm
        rcases e' with q | q | q | q | q
        · rw [q]; exact hzl
        · rw [q]; exact Heap.lt_size hTI
        · rw [q]; exact Heap.lt_size hTO
        · rw [q]; exact h1.lt
        · rw [q]; exact h2.lt
      rw [upd_ne (Nat.ne_of_lt hlt)]
      exact (hf c hcm).1
  done := by
    intro X hP hw hK hc i pins s σ H E I hf st hg
    subst hP hw hK
    obtain ⟨hz, hTI, ⟨x0, y0, hTO⟩, h1, h2⟩ := st
    obtain ⟨xs, ys, hqx, hqy, hend⟩ := hg
    obtain ⟨its, rv, p⟩ := inv_seq I hqx
    obtain ⟨its2, rv2, p2⟩ := inv_seq I hqy
    have l1 := rv.length
    have l2 := rv2.length
    have he : its.toArray[i]? = none ∨ its2.toArray[i]? = none := by
      rcases hend with q | q
      · exact .inl (by simp; omega)
      · exact .inr (by simp; omega)
    exact pyNext_end (I.ok.hd hc) D hz hTI hTO h1 h2 p p2 he fun h' hk => ⟨rfl, I.turnedL (t' := s.toks) (ch := [z, TI, TO, i1, i2]) (fun c o hb q =>
      hk c o (fun q' => hb (by simp [q'])) (fun q' => hb (by simp [q'])) (fun q' => hb (by simp [q'])) (fun q' => hb (by simp [q'])) q) hf⟩
  self := fun A i s Q E st h => wpAny_pyIter_zip st.1 h
def iZip2 (K : Frag) (ta : TA) : TI := fun σ H R => ta σ H fun vs H1 => ∃ a1 a2 b1 b2 xs ys, vs = [.ref a1, .ref a2] ∧ SqB b1 K H1 a1 xs ∧ SqB b2 K H1 a2 ys ∧ R (Itz2 K b1 b2 a1 a2) H1
theorem pi_zip2 {X : Cx} {e e2 : Expr} {ta : TA} {p pos tpos : Pos} {elts : List Expr} {kk : Nat} (hg : Gl X "zip") (hm : X.mg "zip" = none) (ha : PA X [e, e2] ta)
    (hs : starEach [e, e2] X.env = (false, eval e X.env) :: starEach [e2] X.env := by rfl) (hpl : (backTo pos (starEach [e2] X.env)).any (·.1) = false := by rfl) :
    PI X (.Tuple elts kk tpos) (.Call (.Name "zip" p) [e, e2] [] pos) (iZip2 X.K ta) := by
  refine ⟨fun pins s σ H R I h => ?_⟩
  refine Call_ (ld_blt I hg hm PyProof.Rows.boot_zip (PyProof.Rows.callWith_type1 (thn (ha.run pos pins s σ H _ I h) fun us s1 ⟨vs, H1, I1, r1, q1⟩ => ?_) hs hpl))
  obtain ⟨a1, a2, b1, b2, xs, ys, ex, hqx, hqy, q⟩ := q1
  subst ex
  cases r1 with
  | cons r rr =>
    cases rr with
    | cons r' rr =>
      cases rr
      cases r
      cases r'
      have fresh5 : ∀ c, c ∈ [s1.heap.objs.size + 4, s1.heap.objs.size + 2, s1.heap.objs.size + 3, s1.heap.objs.size, s1.heap.objs.size + 1] → FpOk X pins H1 c := fun c hcm => by
        have e' : c = s1.heap.objs.size + 4 ∨ c = s1.heap.objs.size + 2 ∨ c = s1.heap.objs.size + 3 ∨ c = s1.heap.objs.size ∨ c = s1.heap.objs.size + 1 := by simpa using hcm
        have hle : s1.heap.objs.size ≤ c := by
          rcases e' with z | z | z | z | z
          · rw [z]; exact Nat.le_add_right _ _
          · rw [z]; exact Nat.le_add_right _ _
          · rw [z]; exact Nat.le_add_right _ _
          · rw [z]; exact Nat.le_refl _
          · rw [z]; exact Nat.le_add_right _ _
        exact I1.fpOk hle (I1.hok.fresh hle)
      obtain ⟨its, rv, p1⟩ := inv_seq I1 hqx
      obtain ⟨its2, rv2, p2⟩ := inv_seq I1 hqy
      refine call_zip2 p1 p2 fun h' hz hTI hTO h1 h2 hsz hk => wpAny_pyIter_zip hz ?_
      have I2 : Inv X pins σ H1 { s1 with heap := h' } := I1.kept (t' := s1.toks) hk
      exact ⟨s1.heap.objs.size + 4, [s1.heap.objs.size + 4, s1.heap.objs.size + 2, s1.heap.objs.size + 3, s1.heap.objs.size, s1.heap.objs.size + 1], _, _, H1, rfl, I2,
        turn_zip2 (ap_new s1.heap.objs.size a1 a2 p1.lt p2.lt), ⟨hz, hTI, ⟨_, _, hTO⟩, h1, h2⟩, fresh5, q⟩
theorem walk_zip2 {K : Frag} {b1 b2 : Bool} {a1 a2 : Addr} {xs ys : List V} (hl : xs.length = ys.length) : Walk (Itz2 K b1 b2 a1 a2) xs.length (fun H => SqB b1 K H a1 xs ∧ SqB b2 K H a2 ys) (YPair (fun i => xs[i]?) (fun i => ys[i]?)) := by
  refine ⟨fun i _ hi q => ?_, fun _ q => ⟨xs, ys, q.1, q.2, .inl (Nat.le_refl _)⟩, fun i H v H' _ q y => ?_⟩
  · exact ⟨xs, ys, _, _, q.1, q.2, List.getElem?_eq_getElem hi, List.getElem?_eq_getElem (by omega)⟩
  · obtain ⟨T, x, z, h1, h2, h3, h4, h5⟩ := y
    exact ⟨T, x, z, h1, h2, h3, h4 xs q.1, h5 ys q.2⟩
def YTrip (xs ys zs : Nat → Option V) : Nat → Hp → V → Hp → Prop := fun i H v H' => ∃ T x y u, v = .ref T ∧ H T = none ∧ H' = upd H T (.tup [x, y, u]) ∧ xs i = some x ∧ ys i = some y ∧ zs i = some u
theorem walk_zip3 {K : Frag} {b1 b2 b3 : Bool} {a1 a2 a3 : Addr} {xs ys zs : List V} (hl : xs.length = ys.length) (hl2 : xs.length = zs.length) :
    Walk (Z3.Itz3 K b1 b2 b3 a1 a2 a3) xs.length (fun H => SqB b1 K H a1 xs ∧ SqB b2 K H a2 ys ∧ SqB b3 K H a3 zs) (YTrip (fun i => xs[i]?) (fun i => ys[i]?) (fun i => zs[i]?)) := by
  refine ⟨fun i _ hi q => ?_, fun _ q => ⟨xs, ys, zs, q.1, q.2.1, q.2.2, .inl (Nat.le_refl _)⟩, fun i H v H' _ q y => ?_⟩
  · exact ⟨xs, ys, zs, _, _, _, q.1, q.2.1, q.2.2, List.getElem?_eq_getElem hi, List.getElem?_eq_getElem (by omega), List.getElem?_eq_getElem (by omega)⟩
  · obtain ⟨T, x, z, u, h1, h2, h3, h4, h5, h6⟩ := y
    exact ⟨T, x, z, u, h1, h2, h3, h4 xs q.1, h5 ys q.2.1, h6 zs q.2.2⟩
end L2.Jk.Z2

set_option Elab.async false
set_option linter.all false
set_option maxRecDepth 100000
set_option maxHeartbeats 4000000
/-! Rules for use within a comprehension: the heap's known part, the program and the world by their names. -/
namespace L2.Jk
open PySem PySem.W PySem.Spec PySem.Calls PyProof.Rows
section
variable {X : Cx} {o e : Expr} {es : List Expr} {to : TE} {t : TA} {name : Str} {apos cpos : Pos} {T id : String} {r : V → List V → Hp → VK → Prop}
/-- as pe_bm, the heap's known part by its own name -/
theorem pe_bmK {K : Frag} (hK : X.K = K) (pa : PlainAttrs T) (slot : Slot T name id) (hty : typeOf (.builtin id) = pure (.type "method_descriptor")) (hm : MtR X id r) (ho : PE X o to) (ha : PA X (e :: es) t)
    (hbase : attributeBase o name X.env (eval o X.env) = eval o X.env := by rfl)
    (hfew : ((backTo cpos (starEach (e :: es) X.env)).all (fun x => !x.1) && (backToKw cpos (keywordEach [] X.env)).all (fun x => x.1.isSome)
      && decide ((e :: es).length + ([] : List Keyword).length + (if ([] : List Keyword).isEmpty then 0 else 1) < 30)) = true := by rfl)
    (hline : (apos.endLine == cpos.line) = true := by rfl) (hs : starEach (e :: es) X.env = (false, eval e X.env) :: starEach es X.env := by rfl) (hplain : (backTo cpos (starEach es X.env)).any (·.1) = false := by rfl) :
    PE X (.Call (.Attribute o name apos) (e :: es) [] cpos) (tBM K T r to t) := by
  subst hK
  exact pe_bm pa slot hty hm ho ha hbase hfew hline hs hplain
def rLenK (K : Frag) : List V → Hp → VK → Prop := fun xs H Q => ∃ p ys, xs = [.ref p] ∧ (SqL K H p ys ∨ SqT K H p ys) ∧ Q (.int ys.length) H
theorem call_lenK {K : Frag} (hK : X.K = K) : CallR X (.builtin "len") (rLenK K) := by
  subst hK
  exact call_len_seq
end

theorem pe_fldK {X : Cx} {K : Frag} {e : Expr} {ta : TE} {f : Str} {pos : Pos} (h : X.K = K) (he : PE X e ta) (hb : attributeBase e f X.env (eval e X.env) = eval e X.env := by rfl) : PE X (.Attribute e f pos) (tFld K ta f) := by
  subst h
  exact pe_fld he hb
theorem ix_tupK {X : Cx} {K : Frag} (h : X.K = K) : IxR X (rIxT K) := by
  subst h
  exact ix_tup
section
variable {P : Program} {w : World} {K : Frag} {mg : Str → Option Value} {base : Heap} {X : Cx} {CX : CXT} {k : Nat} {C : Addr} {ps : List Str} {sp : Sp} {E : St → XK} {o e : Expr} {es : List Expr} {m : Str} {ta : TE} {t : TA} {apos pos : Pos}
theorem pe_metSK {pl : Sem Bool} (G : MetAt P w K mg base CX k C m ps sp) (eP : X.prog = P) (ew : X.w = w) (eK : X.K = K) (em : X.mg = mg) (eb : X.base = base) (hr : Room k X.A) (he : PE X o ta) (hx : ∀ σ, PassesAt CX X σ (E σ)) (ha : PA X (e :: es) t)
    (hst : starEach (e :: es) X.env = (false, eval e X.env) :: starEach es X.env := by rfl) (hpl : (backTo pos (starEach es X.env)).any (·.1) = false := by rfl)
    (ht : eval (.Call (.Attribute o m apos) (e :: es) [] pos) X.env = (do
      let ov ← eval o X.env
      standAt apos.atName
      let (f, first) ← holding [ov] (getMethod ov m pl)
      callWith pos f first (backTo pos (starEach (e :: es) X.env)) (backToKw pos (keywordEach [] X.env))) := by rfl) :
    PE X (.Call (.Attribute o m apos) (e :: es) [] pos) (tMetS C m sp E ta t) := by
  subst eP ew eK em eb
  exact pe_metS G hr he hx ha hst hpl ht
end
end L2.Jk

set_option Elab.async false
set_option linter.all false
set_option maxRecDepth 100000
set_option maxHeartbeats 4000000
/-! All places at which the fields may stand. -/
namespace L2.K22
open PySem PySem.W PySem.Spec PySem.Calls PyProof.Rows L2.Jk
/-! mirrors of the reading's parts -/
def spanF (t j : Str) (ps : List Nat) : List (Int × Int × Int) :=
  let s := wsp t "ab" 0 (t.length : Nat) (-1) ps
  if j = "" then s else (s.filter fun x => Txt.startswith3 t j x.2.2).map fun x => (x.1, x.2.2 + 1, x.2.2 + 1)
def spansF (t : Str) : List Str → List Nat → List (List (Int × Int × Int))
  | [], _ => []
  | j :: js, ps => spanF t j ps :: spansF t js (plcs (stepsOf (t.length + 2) (spanF t j ps)))
def okX (n : Nat) (xs : List (Int × Int × Int)) : Bool := decide (xs.length ≤ 5000) && xs.all fun x => decide (0 ≤ x.1 ∧ x.1 ≤ n ∧ 0 ≤ x.2.1 ∧ x.2.1 ≤ n ∧ 0 ≤ x.2.2 ∧ x.2.2 ≤ n)
def okSp (t : Str) : List Str → List Nat → Bool
  | [], _ => true
  | j :: js, ps => decide (ps.length ≤ 5000) && (okX t.length (spanF t j ps) && okSp t js (plcs (stepsOf (t.length + 2) (spanF t j ps))))
theorem okX_of {n : Nat} {xs : List (Int × Int × Int)} (h : okX n xs = true) : xs.length ≤ 5000 ∧ ∀ x ∈ xs, 0 ≤ x.1 ∧ x.1 ≤ n ∧ 0 ≤ x.2.1 ∧ x.2.1 ≤ n ∧ 0 ≤ x.2.2 ∧ x.2.2 ≤ n := by
  obtain ⟨a, b⟩ := Bool.and_eq_true_iff.mp h
  exact ⟨of_decide_eq_true a, fun x hx => of_decide_eq_true (List.all_eq_true.mp b x hx)⟩
/-- the prefix sums, from 0 on -/
def sumsOf (ws : List Int) : List Int := (List.range (ws.length + 1)).map fun k => (((0 : Int) :: ws).take (k + 1)).sum
def wayStep (ws : List Int) (xs : List (Int × Int × Int)) : List Int := xs.foldl (fun st x => addAt st x.1.toNat ((sumsOf ws).getD (x.2.2 + 1).toNat 0 - (sumsOf ws).getD x.2.1.toNat 0)) (List.replicate ws.length 0)
def waysF (n : Nat) : List (List (Int × Int × Int)) → List (List Int)
  | [] => [List.replicate n 0 ++ [1]]
  | xs :: xss => wayStep ((waysF n xss).headD []) xs :: waysF n xss
/-- lists of such triples, one after another -/
def SpL (H : Hp) (ls : List V) (xss : List (List (Int × Int × Int))) : Prop := ls.length = xss.length ∧ ∀ (i : Nat) (v : V) (xs : List (Int × Int × Int)), ls[i]? = some v → xss[i]? = some xs → ∃ b vs, v = .ref b ∧ H b = some (.lst vs) ∧ Tris H vs xs
theorem SpL.same {H H' : Hp} {ls : List V} {xss : List (List (Int × Int × Int))} (S : Same H H') (h : SpL H ls xss) : SpL H' ls xss := ⟨h.1, fun i v xs a b => by
  obtain ⟨c, vs, e, k, T⟩ := h.2 i v xs a b
  exact ⟨c, vs, e, S _ _ k, T.same S⟩⟩
theorem SpL.snoc {H : Hp} {ls : List V} {xss : List (List (Int × Int × Int))} {v : V} {xs : List (Int × Int × Int)} (h : SpL H ls xss) (k : ∃ b vs, v = .ref b ∧ H b = some (.lst vs) ∧ Tris H vs xs) : SpL H (ls ++ [v]) (xss ++ [xs]) := by
  refine ⟨by rw [List.length_append, List.length_append, h.1]; rfl, fun i u x a b => ?_⟩
  by_cases hi : i < ls.length
  · rw [List.getElem?_append_left hi] at a
    rw [List.getElem?_append_left (by rw [← h.1]; exact hi)] at b
    exact h.2 i u x a b
  · rw [List.getElem?_append_right (by omega)] at a
    rw [List.getElem?_append_right (by rw [← h.1]; omega)] at b
    have hz : i - ls.length = 0 := by
      have := (List.getElem?_eq_some_iff.mp a).1
      simp only [List.length_cons, List.length_nil] at this
      omega
    rw [hz] at a
    rw [← h.1, hz] at b
    obtain rfl := Option.some.inj a
    obtain rfl := Option.some.inj b
    exact k
abbrev wAB : FD := .pl (.word (.str "ab") (.int 0) .non)
def MTH : List Str := ["all_spans", "places_in", "counts_of_ways", "all_ways", "rows_from", "values_at", "hopeful_ends"]
def NoM (fs : List (Str × V)) : Prop := ∀ m ∈ MTH, fs.lookup m = none
theorem SpL.put {J : Hp} {fl : Addr} {xs : List V} {o : HO} {ls : List V} {xss : List (List (Int × Int × Int))} (e : J fl = some (.lst xs)) (n : V.ref fl ∉ ls) (h : SpL J ls xss) : SpL (upd J fl o) ls xss := ⟨h.1, fun i v xs a b => by
  obtain ⟨c, vs, ev, k, T⟩ := h.2 i v xs a b
  refine ⟨c, vs, ev, ?_, T.put e⟩
  rw [upd_ne (fun z => n (by rw [← z, ← ev]; exact List.mem_of_getElem? a))]
  exact k⟩
theorem wsp_len (t z : Str) (l m : Int) : ∀ (ps : List Nat) (e : Int), (wsp t z l m e ps).length ≤ ps.length
  | [], _ => Nat.le_refl _
  | p :: ps, e => by
    have ih := wsp_len t z l m ps (if (p : Int) > e then runTo t z p else e)
    have h1 : ∀ (c : Prop) [Decidable c] (x : Int × Int × Int), (if c then [x] else []).length ≤ 1 := fun c _ x => by
      split
      · exact Nat.le_refl _
      · exact Nat.zero_le _
    unfold wsp
    dsimp only
    rw [List.length_append, List.length_cons]
    exact Nat.le_trans (Nat.add_le_add (h1 _ _) ih) (Nat.le_of_eq (Nat.add_comm _ _))
theorem drop_of {α : Type} {l : List α} {i : Nat} {x : α} (h : l[i]? = some x) : l.drop i = x :: l.drop (i + 1) := by
  obtain ⟨hi, e⟩ := List.getElem?_eq_some_iff.mp h
  rw [List.drop_eq_getElem_cons hi, e]
theorem seqT_put {K : Frag} {J : Hp} {fl a : Addr} {xs ys : List V} {o : HO} (e : J fl = some (.lst xs)) (h : SqT K J a ys) : SqT K (upd J fl o) a ys := by
  rcases h with (h | ⟨u, h⟩) | h
  · exact .inl (.inl (by rw [upd_ne (ne_of h e (fun z => by cases z))]; exact h))
  · exact .inl (.inr ⟨u, by rw [upd_ne (ne_of h e (fun z => by cases z))]; exact h⟩)
  · exact .inr h
def spAs (K : Frag) : Sp := fun vs H Q _ => ∃ (R dx L : Addr) (fs : List (Str × V)) (t : Str) (ds : List FD) (js : List Str), vs = [.ref R] ∧ H R = some (.ins (RD K) dx fs) ∧ NoM fs ∧ fs.lookup ("layout" : Str) = some (.ref L) ∧ fs.lookup ("text" : Str) = some (.str t) ∧
  LayAt K H L ds js ∧ (∀ d ∈ ds, d = wAB) ∧ t.length ≤ 4000 ∧ okSp t (js ++ ([""] : List Str)) [0] = true ∧ ∀ a ls H', Same H H' → H' a = some (.lst ls) → SpL H' ls (spansF t (js ++ ([""] : List Str)) [0]) → Q (.ref a) H'
structure S4 (P : Program) (w : World) (K : Frag) (mg : Str → Option Value) (base : Heap) : Prop extends S3 P w K mg base where
  zip : mg "zip" = none
  joints_behind : FnAt P w K mg base CX0 1 "joints_behind" ["layout"] (spJB K)
  spots_in : FnAt P w K mg base CX0 4 "spots_in" ["field", "text"] (spIn K)
  mSf : MetAt P w K mg base CX0 2 (WS K) "spans_from" ["self", "places"] (spSf K)
  mPi : MetAt P w K mg base CX0 1 (RD K) "places_in" ["self", "spans"] (spPi K)

section
variable {P : Program} {w : World} {K : Frag} {mg : Str → Option Value} {base : Heap} {f : Addr} {fd : FuncData}

abbrev s_Reading_all_spans : Stmt := inClass (top 53) 1
theorem sc_Reading_all_spans : FnScope ["self", "places", "found", "field", "joint", "spans", "place", "_", "last"] ["self"] (defScope s_Reading_all_spans) := ⟨rfl, rfl, rfl, by decide +kernel, rfl, by decide +kernel, by decide +kernel⟩

theorem ok_Reading_all_spans (F : FunD K "all_spans" "Reading.all_spans" (defArgs s_Reading_all_spans) (defBody s_Reading_all_spans) (defScope s_Reading_all_spans) [] [] f fd) (G : S4 P w K mg base) : FnOk P w K mg base CX0 5 f fd ["self"] (spAs K) := by
  refine F.ok (CX := CX0) sc_Reading_all_spans (fun vs H Q E h => ?_) (fun cdv A outer s H vs Q E hr h => ?_)
  · obtain ⟨_, _, _, _, _, _, _, rfl, _⟩ := h
    rfl
  · refine ⟨_, PSs.nox (C8.pss_cut (ps_set (i := 1) sc_Reading_all_spans.nd rfl (Or.inl rfl) (pe_lstS (pa_cons pe_int pa_nil)))
    (C8.pss_cut (ps_set (i := 2) sc_Reading_all_spans.nd rfl (Or.inl rfl) (pe_lstS pa_nil))
    (C8.pss_cut (ps_for PassesOwn.never rfl (Z2.pi_zip2 (by rfl) G.zip (pa_cons (pe_fld (pe_fld (pv 0) rfl) rfl) (pa_cons (pe_fn G.joints_behind (hr.mono (by decide)) pass0 (by rfl) (pa_cons (pe_fld (pv 0) rfl) pa_nil)) pa_nil))) (pg_tup rfl (pgs_cons (pg_name (i := 3) sc_Reading_all_spans.nd rfl (Or.inl rfl)) (pgs_cons (pg_name (i := 4) sc_Reading_all_spans.nd rfl (Or.inr rfl)) pgs_nil)))
      (C8.pss_cut (ps_set (i := 5) sc_Reading_all_spans.nd rfl (Or.inl rfl) (pe_metS G.mSf (hr.mono (by decide)) (pe_fn G.spots_in (hr.mono (by decide)) pass0 (by rfl) (pa_cons (pv 3) (pa_cons (pe_fld (pv 0) rfl) pa_nil))) (E := fun _ => E0) pass0A (pa_cons (pv 1) pa_nil)))
      (C8.pss_cut (ps_if (pt_cmpR op_ne (pv 4) pe_str (nomark _))
        (pss_one (ps_setLc (i := 5) (own := [("place", 6), ("_", 7), ("last", 8)]) (g := (gTup K 3 (gCons (gName 6) (gCons (gName 7) (gCons (gName 8) gNil))))) (tt := _) (by rfl) sc_Reading_all_spans.nd rfl rfl (sw_true rfl rfl rfl (by decide +kernel)) (pi_list (pv 5)) (blkOk_by (N := ["self", "places", "found", "field", "joint", "spans", "place", "_", "last"]) (sc := defScope s_Reading_all_spans) (by decide +kernel)) (fun _ _ _ _ _ => pg_tupK (n := 3) (K := K) rfl rfl (pgs_cons (pg_name (i := 6) sc_Reading_all_spans.nd rfl (Or.inl rfl)) (pgs_cons (pg_name (i := 7) sc_Reading_all_spans.nd rfl (Or.inl rfl)) (pgs_cons (pg_name (i := 8) sc_Reading_all_spans.nd rfl (Or.inl rfl)) pgs_nil)))) (fun _ _ _ _ _ => pts_one (pt_val (pe_bmK (K := K) rfl PySem.F.plainAttrs_str PySem.F.slot_str_startswith PySem.F.type_str_startswith mt_startswith3 (pe_fldK (K := K) rfl (pv 0) rfl) (pa_cons (pv 4) (pa_cons (pv 8) pa_nil))))) (fun _ _ _ _ _ => (pe_tupS (pa_cons (pv 6) (pa_cons (pe_op op_add (pv 8) pe_int) (pa_cons (pe_op op_add (pv 8) pe_int) pa_nil)))))))
        pss_nil)
      (C8.pss_cut (ps_expr (pe_bm PySem.F.plainAttrs_list PySem.F.slot_list_append PySem.F.type_list_append mt_append (pv 2) (pa_cons (pv 5) pa_nil)))
      (pss_one (ps_set (i := 1) sc_Reading_all_spans.nd rfl (Or.inl rfl) (pe_metS G.mPi (hr.mono (by decide)) (pv 0) (E := fun _ => E0) pass0A (pa_cons (pv 5) pa_nil))))))))
    (pss_one (ps_ret (pv 2)))))), ?_⟩
    obtain ⟨R, dx, L, fs, t, ds, js, rfl, hR, hM, fL, fT, hLay, hd, ht, hok, q⟩ := h
    have C := G.cRD
    have CL := G.cLayout
    obtain ⟨⟨dy, t1, t2, ys, hL, h1, hF, h2⟩, ok⟩ := id hLay
    have hlen := ok.len
    have hfew := ok.few
    have hyl := hF.1
    refine ⟨fun σ J => ∃ (pl : Addr) (v2 v3 v4 v5 v6 v7 v8 : Option V), σ = [some (.ref R), some (.ref pl), v2, v3, v4, v5, v6, v7, v8] ∧ Same H J ∧ J pl = some (.lst [.int 0]), ?_, ?_⟩
    · exact ⟨by show 1 ≤ 1000; decide, fun p J hp S e => ⟨p, _, _, _, _, _, _, _, rfl, S, e⟩⟩
    rintro σ J1 ⟨pl, v2, v3, v4, v5, v6, v7, v8, rfl, S1, e1⟩
    refine ⟨fun σ J => ∃ (pl fl : Addr) (v3 v4 v5 v6 v7 v8 : Option V), σ = [some (.ref R), some (.ref pl), some (.ref fl), v3, v4, v5, v6, v7, v8] ∧ Same H J ∧ J pl = some (.lst [.int 0]) ∧ H fl = none ∧ J fl = some (.lst []), ?_, ?_⟩
    · exact ⟨by show 0 ≤ 1000; decide, fun p J hp S e => ⟨pl, p, _, _, _, _, _, _, rfl, S1.trans S, S _ _ e1, none_of S1 hp, e⟩⟩
    rintro σ J2 ⟨pl, fl, v3, v4, v5, v6, v7, v8, rfl, S2, e2, hfl, ef⟩
    refine ⟨fun σ J => ∃ (pl : Addr) (v3 v4 v5 v6 v7 v8 : Option V) (vs : List V), σ = [some (.ref R), some (.ref pl), some (.ref fl), v3, v4, v5, v6, v7, v8] ∧ Same H J ∧ J fl = some (.lst vs) ∧ SpL J vs (spansF t (js ++ ([""] : List Str)) [0]), ?_, ?_⟩
    · refine ⟨_, rfl, R, _, dx, _, _, rfl, S2 _ _ hR, C.cl, C.no _ (by decide +kernel), fL, L, _, dy, _, _, rfl, S2 _ _ hL, CL.cl, CL.no _ (by decide +kernel), lLayout_fields, ?_⟩
      refine ⟨_, rfl, R, _, dx, _, _, rfl, S2 _ _ hR, C.cl, C.no _ (by decide +kernel), fL, L, ds, js, rfl, hLay.same S2, fun jt J3 S3 e3 => ?_⟩
      have S23 := S2.trans S3
      refine ⟨t1, jt, false, false, ys, _, rfl, seqT_same S23 h1, e3, ?_⟩
      have eql : ys.length = ((js ++ [("" : Str)]).map V.str).length := by rw [List.length_map, List.length_append, hyl]; exact hlen.symm
      refine for_it (Z2.walk_zip2 eql) (fun i σ J => ∃ (pl : Addr) (v3 v4 v5 v6 v7 v8 : Option V) (vs : List V) (ps : List Nat) (xss : List (List (Int × Int × Int))), σ = [some (.ref R), some (.ref pl), some (.ref fl), v3, v4, v5, v6, v7, v8] ∧ Same H J ∧ SqT K J jt ((js ++ ([""] : List Str)).map V.str) ∧
        J pl = some (.lst (ps.map fun p => V.int (p : Nat))) ∧ J fl = some (.lst vs) ∧ SpL J vs xss ∧ V.ref fl ∉ vs ∧ xss ++ spansF t ((js ++ ([""] : List Str)).drop i) ps = spansF t (js ++ ([""] : List Str)) [0] ∧ okSp t ((js ++ ([""] : List Str)).drop i) ps = true ∧ vs.length ≤ i) ?_ ?_ ?_ ?_
      · exact ⟨pl, _, _, _, _, _, _, [], [0], [], rfl, S23, e3, S3 _ _ e2, S3 _ _ ef, ⟨rfl, fun i v x a => by cases a⟩, by simp, rfl, hok, Nat.le_refl _⟩
      · rintro i σ J hi ⟨pl, v3, v4, v5, v6, v7, v8, vs, ps, xss, rfl, SJ, eJ, _⟩
        exact ⟨seqT_same SJ h1, eJ⟩
      · rintro i x σ J J' hi ⟨pl, v3, v4, v5, v6, v7, v8, vs, ps, xss, rfl, SJ, eJ, ePl, eFl, hS, nF, eX, hO, hvl⟩ ⟨T0, x, u, rfl, hT, rfl, ex, eu⟩
        replace eu : ((js ++ ([""] : List Str)).map V.str)[i]? = some u := eu
        replace ex : ys[i]? = some x := ex
        rw [List.getElem?_map] at eu
        obtain ⟨j, hj, rfl⟩ := Option.map_eq_some_iff.mp eu
        obtain ⟨y, d, rfl, hdi, hFy⟩ := hF.get ex
        obtain rfl := hd d (List.mem_of_getElem? hdi)
        rw [drop_of hj] at hO eX
        obtain ⟨hO1, hO2⟩ := Bool.and_eq_true_iff.mp hO
        obtain ⟨hO2, hO3⟩ := Bool.and_eq_true_iff.mp hO2
        have hO1 := of_decide_eq_true hO1
        have U2 : Same J (upd J T0 (.tup [.ref y, .str j])) := same_upd hT
        have u2 : upd J T0 (.tup [.ref y, .str j]) T0 = some (.tup [.ref y, .str j]) := upd_same
        generalize upd J T0 (.tup [.ref y, .str j]) = J5 at U2 u2 ⊢
        have S5 := SJ.trans U2
        refine ⟨T0, _, rfl, SqT.of u2, rfl, _, _, rfl, _, _, rfl, rfl, ?_⟩
        refine ⟨fun σ J => ∃ (b : Addr) (v6 v7 v8 : Option V) (ws : List V), σ = [some (.ref R), some (.ref pl), some (.ref fl), some (.ref y), some (.str j), some (.ref b), v6, v7, v8] ∧ Same J5 J ∧ J5 b = none ∧ J b = some (.lst ws) ∧ Tris J ws (wsp t "ab" 0 (t.length : Nat) (-1) ps), ?_, ?_⟩
        · refine ⟨_, rfl, _, rfl, R, _, dx, _, _, rfl, S5 _ _ hR, C.cl, C.no _ (by decide +kernel), fT, y, t, "ab", 0, .non, rfl, (hFy.same S5).1, ht, .inl rfl, fun a J6 S6 hW => ?_⟩
          obtain ⟨dxa, ha⟩ := id hW
          refine ⟨a, dxa, _, rfl, ha, lWS_m _ (by decide +kernel), _, rfl, a, pl, ps, t, "ab", 0, (t.length : Nat), rfl, hW, S6 _ _ (U2 _ _ ePl), hO1, ht, fun b ws J7 hb S7 eb hTr => ?_⟩
          exact ⟨b, _, _, _, ws, rfl, S6.trans S7, none_of S6 hb, eb, hTr⟩
        rintro σ J6 ⟨b, v6, v7, v8, ws, rfl, S6, hb, eb, hTr⟩
        have eFl6 := S6 _ _ (U2 _ _ eFl)
        have S56 := S5.trans S6
        have wl := wsp_len t "ab" 0 (t.length : Nat) ps (-1)
        refine ⟨fun σ J => ∃ (b : Addr) (v6 v7 v8 : Option V) (ws : List V), σ = [some (.ref R), some (.ref pl), some (.ref fl), some (.ref y), some (.str j), some (.ref b), v6, v7, v8] ∧ Same J5 J ∧ J5 b = none ∧ J b = some (.lst ws) ∧ Tris J ws (spanF t j ps), ?_, ?_⟩
        · refine ⟨_, rfl, rfl, _, rfl, ?_⟩
          refine ite2 (fun c => ?_) (fun c => ?_)
          · have hj : j ≠ "" := fun z => by
              rw [z] at c
              exact absurd c (by decide +kernel)
            refine ⟨_, rfl, b, rfl, ⟨_, SqL.of eb⟩, fun D hD => ?_⟩
            refine lc_list (K := K) (a := b) (xs := ws) (fun n J => ∃ us : List V, J D = some (.lst us) ∧ Same J6 J ∧ us.length ≤ n ∧ Tris J us ((((wsp t "ab" 0 (t.length : Nat) (-1) ps).take n).filter fun x => Txt.startswith3 t j x.2.2).map fun x => (x.1, x.2.2 + 1, x.2.2 + 1))) ⟨[], upd_same, same_upd hD, Nat.le_refl _, ⟨rfl, fun i v x a => by cases a⟩⟩ (fun n J hn ⟨_, _, S, _⟩ => SqL.of (S _ _ eb)) ?_ ?_
            · rintro n v J hv ⟨us, eD, S8, hul, hTu⟩
              have hn := (List.getElem?_eq_some_iff.mp hv).1
              obtain ⟨x, hx⟩ : ∃ x, (wsp t "ab" 0 (t.length : Nat) (-1) ps)[n]? = some x := ⟨_, List.getElem?_eq_getElem (by rw [← hTr.1]; exact hn)⟩
              obtain ⟨bt, rfl, ebt⟩ := hTr.2 n v x hv hx
              have tk : (wsp t "ab" 0 (t.length : Nat) (-1) ps).take (n + 1) = (wsp t "ab" 0 (t.length : Nat) (-1) ps).take n ++ [x] := by rw [List.take_add_one, hx]; rfl
              refine ⟨bt, _, rfl, SqT.of (S8 _ _ ebt), rfl, _, _, rfl, _, _, rfl, _, _, rfl, rfl, rfl, ?_⟩
              have S68 := S56.trans S8
              refine ⟨_, rfl, R, _, dx, _, _, rfl, S68 _ _ hR, C.cl, C.no _ (by decide +kernel), fT, rfl, _, rfl, _, rfl, t, j, x.2.2, rfl, rfl, _, rfl, ?_⟩
              refine ite2 (fun c => ?_) (fun c => ?_)
              · refine ⟨_, rfl, _, rfl, _, _, rfl, rfl, _, rfl, _, _, rfl, rfl, by show 3 ≤ 1000; decide, fun T3 J8 hT3 S9 e9 => ?_⟩
                refine ⟨us, S9 _ _ eD, by have := hTr.1; rw [sizeLine_eq]; omega, us ++ [.ref T3], upd_same, same_put (S8.trans S9) hD, by rw [List.length_append]; exact Nat.succ_le_succ hul, ?_⟩
                rw [tk, List.filter_append, List.map_append]
                refine Tris.snoc2 ((hTu.same S9).put (S9 _ _ eD)) (y := (x.1, x.2.2 + 1, x.2.2 + 1)) ?_ (TriV.put (S9 _ _ eD) ⟨T3, rfl, e9⟩)
                rw [List.filter_cons, if_pos c]
                rfl
              · refine ⟨us, eD, S8, Nat.le_succ_of_le hul, ?_⟩
                rw [tk, List.filter_append, List.map_append, List.filter_cons, if_neg c]
                exact (List.append_nil _).symm ▸ hTu
            · rintro J ⟨us, eD, S8, hul, hTu⟩
              rw [hTr.1, List.take_length] at hTu
              refine ⟨D, _, _, _, us, rfl, S6.trans S8, none_of S6 hD, eD, ?_⟩
              unfold spanF
              rw [if_neg hj]
              exact hTu
          · have hj : j = "" := Classical.byContradiction fun z => c (by
              rw [decide_eq_false (fun q => z (by injection q))]
              rfl)
            refine ⟨b, _, _, _, ws, rfl, S6, hb, eb, ?_⟩
            unfold spanF
            rw [if_pos hj]
            exact hTr
        rintro σ J7 ⟨b, v6, v7, v8, ws, rfl, S7, hb, eb, hTr⟩
        have eFl7 := S7 _ _ (U2 _ _ eFl)
        have S57 := S5.trans S7
        have nb : V.ref fl ≠ V.ref b := fun z => by
          injection z with z
          rw [← z, U2 _ _ eFl] at hb
          cases hb
        obtain ⟨xl, xb⟩ := okX_of hO2
        refine ⟨fun σ J => σ = [some (.ref R), some (.ref pl), some (.ref fl), some (.ref y), some (.str j), some (.ref b), v6, v7, v8] ∧ J = upd J7 fl (.lst (vs ++ [.ref b])), ?_, ?_⟩
        · refine ⟨_, rfl, .inl ⟨rfl, _, SqL.of eFl7⟩, _, rfl, fl, _, _, rfl, rfl, eFl7, by rw [sizeLine_eq]; omega, rfl, rfl⟩
        rintro σ J8 ⟨rfl, rfl⟩
        have S8 : Same H (upd J7 fl (.lst (vs ++ [.ref b]))) := same_put S57 hfl
        have eb8 : upd J7 fl (.lst (vs ++ [.ref b])) b = some (.lst ws) := by
          rw [upd_ne (fun z => nb (by rw [z]))]
          exact eb
        have hS8 : SpL (upd J7 fl (.lst (vs ++ [.ref b]))) (vs ++ [.ref b]) (xss ++ [spanF t j ps]) := ((hS.same (U2.trans S7)).put eFl7 nF).snoc ⟨b, ws, rfl, eb8, hTr.put eFl7⟩
        have eJ8 : SqT K (upd J7 fl (.lst (vs ++ [.ref b]))) jt ((js ++ ([""] : List Str)).map V.str) := seqT_put eFl7 (seqT_same (U2.trans S7) eJ)
        have eFl8 : upd J7 fl (.lst (vs ++ [.ref b])) fl = some (.lst (vs ++ [.ref b])) := upd_same
        have hTr8 : Tris (upd J7 fl (.lst (vs ++ [.ref b]))) ws (spanF t j ps) := hTr.put eFl7
        generalize upd J7 fl (.lst (vs ++ [.ref b])) = J8 at *
        refine ⟨_, rfl, R, dx, fs, rfl, S8 _ _ hR, hM _ (by decide), _, rfl, R, b, dx, fs, t, ws, spanF t j ps, rfl, S8 _ _ hR, fT, ht, eb8, hTr8, xl, fun x hx => (xb x hx).2.2, fun a J9 S9 e9 => ?_⟩
        exact ⟨a, _, _, _, _, _, _, vs ++ [.ref b], plcs (stepsOf (t.length + 2) (spanF t j ps)), xss ++ [spanF t j ps], rfl, S8.trans S9, seqT_same S9 eJ8, e9, S9 _ _ eFl8, hS8.same S9, by
          rw [List.mem_append]
          rintro (z | z)
          · exact nF z
          · exact nb (List.mem_singleton.mp z), by rw [List.append_assoc]; exact eX, hO3, by rw [List.length_append]; exact Nat.succ_le_succ hvl⟩
      · rintro σ J ⟨pl, v3, v4, v5, v6, v7, v8, vs, ps, xss, rfl, SJ, eJ, ePl, eFl, hS, nF, eX, hO, hvl⟩
        rw [eql, List.length_map, List.drop_length] at eX
        rw [show spansF t [] ps = [] from rfl, List.append_nil] at eX
        rw [eX] at hS
        exact ⟨pl, _, _, _, _, _, _, vs, rfl, SJ, eFl, hS⟩
    rintro σ J4 ⟨pl, v3, v4, v5, v6, v7, v8, vs, rfl, S4, ef, hS⟩
    exact ⟨_, rfl, q fl vs J4 S4 ef hS⟩

end
end L2.K22


set_option Elab.async false
set_option linter.all false
set_option maxRecDepth 100000
set_option maxHeartbeats 4000000
/-! In how many ways the rest can be read. -/
namespace L2.K22
open PySem PySem.W PySem.Spec PySem.Calls PyProof.Rows L2.Jk
/-- lists of ints, one after another -/
def WsL (H : Hp) (ls : List V) (wss : List (List Int)) : Prop := ls.length = wss.length ∧ ∀ (i : Nat) (v : V) (ws : List Int), ls[i]? = some v → wss[i]? = some ws → ∃ b, v = .ref b ∧ H b = some (.lst (ws.map V.int))
theorem WsL.same {H H' : Hp} {ls : List V} {xss : List (List Int)} (S : Same H H') (h : WsL H ls xss) : WsL H' ls xss := ⟨h.1, fun i v xs a b => by
  obtain ⟨c, e, k⟩ := h.2 i v xs a b
  exact ⟨c, e, S _ _ k⟩⟩
theorem WsL.snoc {H : Hp} {ls : List V} {xss : List (List Int)} {v : V} {xs : List Int} (h : WsL H ls xss) (k : ∃ b, v = .ref b ∧ H b = some (.lst (xs.map V.int))) : WsL H (ls ++ [v]) (xss ++ [xs]) := by
  refine ⟨by rw [List.length_append, List.length_append, h.1]; rfl, fun i u x a b => ?_⟩
  by_cases hi : i < ls.length
  · rw [List.getElem?_append_left hi] at a
    rw [List.getElem?_append_left (by rw [← h.1]; exact hi)] at b
    exact h.2 i u x a b
  · rw [List.getElem?_append_right (by omega)] at a
    rw [List.getElem?_append_right (by rw [← h.1]; omega)] at b
    have hz : i - ls.length = 0 := by
      have := (List.getElem?_eq_some_iff.mp a).1
      simp only [List.length_cons, List.length_nil] at this
      omega
    rw [hz] at a
    rw [← h.1, hz] at b
    obtain rfl := Option.some.inj a
    obtain rfl := Option.some.inj b
    exact k
theorem WsL.put {J : Hp} {fl : Addr} {o : HO} {ls : List V} {xss : List (List Int)} (n : V.ref fl ∉ ls) (h : WsL J ls xss) : WsL (upd J fl o) ls xss := ⟨h.1, fun i v xs a b => by
  obtain ⟨c, ev, k⟩ := h.2 i v xs a b
  refine ⟨c, ev, ?_⟩
  rw [upd_ne (fun z => n (by rw [← z, ← ev]; exact List.mem_of_getElem? a))]
  exact k⟩
theorem WsL.rev {H : Hp} {ls : List V} {xss : List (List Int)} (h : WsL H ls xss) : WsL H ls.reverse xss.reverse := by
  refine ⟨by rw [List.length_reverse, List.length_reverse, h.1], fun i v xs a b => ?_⟩
  have hi : i < ls.length := by have := (List.getElem?_eq_some_iff.mp a).1; rw [List.length_reverse] at this; exact this
  rw [List.getElem?_reverse hi] at a
  rw [List.getElem?_reverse (by rw [← h.1]; exact hi), ← h.1] at b
  exact h.2 _ v xs a b
theorem wayStep_len (ws : List Int) (xs : List (Int × Int × Int)) : (wayStep ws xs).length = ws.length := by
  unfold wayStep
  have : ∀ (xs : List (Int × Int × Int)) (st : List Int), (xs.foldl (fun st x => addAt st x.1.toNat ((sumsOf ws).getD (x.2.2 + 1).toNat 0 - (sumsOf ws).getD x.2.1.toNat 0)) st).length = st.length := fun xs => by
    induction xs with
    | nil => intro st; rfl
    | cons x xs ih =>
      intro st
      rw [List.foldl_cons, ih]
      unfold addAt
      rw [List.length_set]
  rw [this, List.length_replicate]
theorem wayStep_snoc (ws : List Int) (xs : List (Int × Int × Int)) (x : Int × Int × Int) : wayStep ws (xs ++ [x]) = addAt (wayStep ws xs) x.1.toNat ((sumsOf ws).getD (x.2.2 + 1).toNat 0 - (sumsOf ws).getD x.2.1.toNat 0) := by
  unfold wayStep
  rw [List.foldl_append]
  rfl
theorem waysF_hd (n : Nat) : ∀ xss : List (List (Int × Int × Int)), ∃ W r, waysF n xss = W :: r ∧ W.length = n + 1
  | [] => ⟨_, _, rfl, by rw [List.length_append, List.length_replicate]; rfl⟩
  | xs :: xss => by
    obtain ⟨W, r, e, l⟩ := waysF_hd n xss
    refine ⟨wayStep W xs, W :: r, ?_, by rw [wayStep_len, l]⟩
    show wayStep ((waysF n xss).headD []) xs :: waysF n xss = _
    rw [e]
    rfl
theorem waysF_len (n : Nat) : ∀ xss : List (List (Int × Int × Int)), (waysF n xss).length = xss.length + 1
  | [] => rfl
  | xs :: xss => congrArg (· + 1) (waysF_len n xss)
theorem sumsOf_len (ws : List Int) : (sumsOf ws).length = ws.length + 1 := by unfold sumsOf; rw [List.length_map, List.length_range]
theorem accV_sums (ws : List Int) : accV ((0 : Int) :: ws) = (sumsOf ws).map V.int := by
  unfold accV sumsOf
  rw [List.map_map]
  rfl
def spCw (K : Frag) : Sp := fun vs H Q _ => ∃ (R dx sp : Addr) (fs : List (Str × V)) (t : Str) (ls : List V) (xss : List (List (Int × Int × Int))), vs = [.ref R] ∧ H R = some (.ins (RD K) dx fs) ∧ fs.lookup ("spans" : Str) = some (.ref sp) ∧ fs.lookup ("text" : Str) = some (.str t) ∧ t.length ≤ 4000 ∧
  H sp = some (.lst ls) ∧ SpL H ls xss ∧ xss.length ≤ 100 ∧ (∀ xs ∈ xss, okX t.length xs = true) ∧ ∀ a ws H', Same H H' → H' a = some (.lst ws) → WsL H' ws (waysF t.length xss) → Q (.ref a) H'
def spAw (K : Frag) : Sp := fun vs H Q _ => ∃ (R dx wa b : Addr) (fs : List (Str × V)) (ls : List V) (z : Int) (ws : List Int), vs = [.ref R] ∧ H R = some (.ins (RD K) dx fs) ∧ fs.lookup ("ways" : Str) = some (.ref wa) ∧ H wa = some (.lst (.ref b :: ls)) ∧ H b = some (.lst ((z :: ws).map V.int)) ∧ Q (.int z) H

section
variable {P : Program} {w : World} {K : Frag} {mg : Str → Option Value} {base : Heap} {f : Addr} {fd : FuncData}

abbrev s_Reading_counts : Stmt := inClass (top 53) 3
theorem sc_Reading_counts : FnScope ["self", "ways", "found", "spans", "sums", "place", "first", "last"] ["self"] (defScope s_Reading_counts) := ⟨rfl, rfl, rfl, by decide +kernel, rfl, by decide +kernel, by decide +kernel⟩

theorem ok_Reading_counts (F : FunD K "counts_of_ways" "Reading.counts_of_ways" (defArgs s_Reading_counts) (defBody s_Reading_counts) (defScope s_Reading_counts) [] [] f fd) (G : S4 P w K mg base) : FnOk P w K mg base CX0 1 f fd ["self"] (spCw K) := by
  refine F.ok (CX := CX0) sc_Reading_counts (fun vs H Q E h => ?_) (fun cdv A outer s H vs Q E hr h => ?_)
  · obtain ⟨_, _, _, _, _, _, _, rfl, _⟩ := h
    rfl
  · refine ⟨_, PSs.nox (C8.pss_cut (ps_set (i := 1) sc_Reading_counts.nd rfl (Or.inl rfl) (pe_op op_catS (pe_op op_rep (pe_lstS (pa_cons pe_int pa_nil)) (pe_callB call_len_str (by rfl) G.len (by decide +kernel) (pa_cons (pe_fld (pv 0) rfl) pa_nil))) (pe_lstS (pa_cons pe_int pa_nil))))
    (C8.pss_cut (ps_set (i := 2) sc_Reading_counts.nd rfl (Or.inl rfl) (pe_lstS (pa_cons (pv 1) pa_nil)))
    (C8.pss_cut (ps_for PassesOwn.never rfl (pi_reversed (by rfl) G.reversed (pa_cons (pe_fld (pv 0) rfl) pa_nil)) (pg_name (i := 3) sc_Reading_counts.nd rfl (Or.inl rfl))
      (C8.pss_cut (ps_set (i := 4) sc_Reading_counts.nd rfl (Or.inl rfl) (pe_listAcc rfl (by rfl) G.list (by rfl) G.acc (pe_op op_catS (pe_lstS (pa_cons pe_int pa_nil)) (pv 1))))
      (C8.pss_cut (ps_set (i := 1) sc_Reading_counts.nd rfl (Or.inl rfl) (pe_op op_rep (pe_lstS (pa_cons pe_int pa_nil)) (pe_callB call_len_seq (by rfl) G.len (by decide +kernel) (pa_cons (pv 1) pa_nil))))
      (C8.pss_cut (ps_for PassesOwn.never rfl (pi_list (pv 3)) (pg_tup rfl (pgs_cons (pg_name (i := 5) sc_Reading_counts.nd rfl (Or.inl rfl)) (pgs_cons (pg_name (i := 6) sc_Reading_counts.nd rfl (Or.inl rfl)) (pgs_cons (pg_name (i := 7) sc_Reading_counts.nd rfl (Or.inl rfl)) pgs_nil))))
        (pss_one (ps_augS (pv 1) (pv 5) get_list (pe_op op_sub (pe_ix ix_list (pv 4) (pe_op op_add (pv 7) pe_int) (fun _ _ => rfl)) (pe_ix ix_list (pv 4) (pv 6) (fun _ _ => rfl))) ip_add set_list)))
      (pss_one (ps_expr (pe_bm PySem.F.plainAttrs_list PySem.F.slot_list_append PySem.F.type_list_append mt_append (pv 2) (pa_cons (pv 1) pa_nil))))))))
    (C8.pss_cut (ps_expr (pe_bm0 PySem.F.plainAttrs_list PySem.F.slot_list_reverse PySem.F.type_list_reverse mt_reverse (pv 2)))
    (pss_one (ps_ret (pv 2))))))), ?_⟩
    obtain ⟨R, dx, sp, fs, t, ls, xss, rfl, hR, fS, fT, ht, hsp, hL, hn, hok, q⟩ := h
    have C := G.cRD
    have hll := hL.1
    refine ⟨fun σ J => ∃ (wa : Addr) (v2 v3 v4 v5 v6 v7 : Option V), σ = [some (.ref R), some (.ref wa), v2, v3, v4, v5, v6, v7] ∧ Same H J ∧ J wa = some (.lst ((List.replicate t.length (0 : Int) ++ [1]).map V.int)), ?_, ?_⟩
    · refine ⟨by show 1 ≤ 1000; decide, fun p1 J1 hp1 S1 e1 => ?_⟩
      refine ⟨_, rfl, R, _, dx, _, _, rfl, S1 _ _ hR, C.cl, C.no _ (by decide +kernel), fT, t, rfl, by rw [sizeLine_eq]; omega, ?_⟩
      refine ⟨p1, _, _, rfl, rfl, e1, by omega, by omega, by rw [sizeLine_eq]; show 1 * ((t.length : Int)).toNat ≤ 16777216; omega, fun p2 hp2 => ?_⟩
      refine ⟨by show 1 ≤ 1000; decide, fun p3 J3 hp3 S3 e3 => ?_⟩
      refine ⟨p2, p3, _, _, rfl, rfl, SqL.of (S3 _ _ upd_same), SqL.of e3, by rw [rep_int, List.length_map, List.length_replicate, sizeLine_eq]; show ((t.length : Nat) : Int).toNat + 1 ≤ 16777216; omega, fun p4 J4 hp4 S4 e4 => ?_⟩
      exact ⟨p4, _, _, _, _, _, _, rfl, ((S1.trans (same_upd hp2)).trans S3).trans S4, by rw [e4, rep_int, List.map_append]; rfl⟩
    rintro σ J1 ⟨wa, v2, v3, v4, v5, v6, v7, rfl, S1, e1⟩
    refine ⟨fun σ J => ∃ (fl : Addr) (v3 v4 v5 v6 v7 : Option V), σ = [some (.ref R), some (.ref wa), some (.ref fl), v3, v4, v5, v6, v7] ∧ Same H J ∧ H fl = none ∧ V.ref wa ≠ V.ref fl ∧ J fl = some (.lst [.ref wa]) ∧ J wa = some (.lst ((List.replicate t.length (0 : Int) ++ [1]).map V.int)), ?_, ?_⟩
    · exact ⟨_, rfl, by show 1 ≤ 1000; decide, fun p2 J2 hp2 S2 e2 => ⟨p2, _, _, _, _, _, rfl, S1.trans S2, none_of S1 hp2, fun z => (by injection z with z; rw [← z, e1] at hp2; cases hp2), e2, S2 _ _ e1⟩⟩
    rintro σ J2 ⟨fl, v3, v4, v5, v6, v7, rfl, S2, hfl, nwf, ef, ew⟩
    refine ⟨fun σ J => ∃ (v1 v3 v4 v5 v6 v7 : Option V) (ws : List V), σ = [some (.ref R), v1, some (.ref fl), v3, v4, v5, v6, v7] ∧ Same H J ∧ J fl = some (.lst ws) ∧ V.ref fl ∉ ws ∧ WsL J ws (waysF t.length xss).reverse, ?_, ?_⟩
    · refine ⟨_, rfl, R, _, dx, _, _, rfl, S2 _ _ hR, C.cl, C.no _ (by decide +kernel), fS, sp, ls, rfl, SqL.of (S2 _ _ hsp), ?_⟩
      refine for_it (walk_rev (xs := ls)) (fun i σ J => ∃ (wa : Addr) (v3 v4 v5 v6 v7 : Option V) (ws : List V), σ = [some (.ref R), some (.ref wa), some (.ref fl), v3, v4, v5, v6, v7] ∧ Same H J ∧ J fl = some (.lst ws) ∧ V.ref fl ∉ ws ∧ WsL J ws (waysF t.length (xss.drop (xss.length - i))).reverse ∧ J wa = some (.lst (((waysF t.length (xss.drop (xss.length - i))).headD []).map V.int)) ∧ ws.length = i + 1) ?_ ?_ ?_ ?_
      · refine ⟨wa, _, _, _, _, _, [.ref wa], rfl, S2, ef, fun z => nwf (List.mem_singleton.mp z).symm, ?_, ?_, rfl⟩
        · rw [Nat.sub_zero, List.drop_length]
          exact WsL.snoc (ls := []) (xss := []) ⟨rfl, fun i v x a => by cases a⟩ ⟨wa, rfl, ew⟩
        · rw [Nat.sub_zero, List.drop_length]
          exact ew
      · rintro i σ J hi ⟨wa, v3, v4, v5, v6, v7, ws, rfl, SJ, _⟩
        exact SqL.of (SJ _ _ hsp)
      · rintro i x σ J J' hi ⟨wa, v3, v4, v5, v6, v7, ws, rfl, SJ, eFl, nF, hW, eW, hwl⟩ ⟨rfl, hx⟩
        obtain ⟨k, hk⟩ : ∃ k, xss.length = k + 1 + i := ⟨xss.length - 1 - i, by omega⟩
        have e0 : ls.length - 1 - i = k := by omega
        have e1' : xss.length - (i + 1) = k := by omega
        have e2' : xss.length - i = k + 1 := by omega
        rw [e0] at hx
        rw [e2'] at hW eW
        obtain ⟨xs, hxs⟩ : ∃ xs, xss[k]? = some xs := ⟨_, List.getElem?_eq_getElem (by omega)⟩
        obtain ⟨b, us, rfl, eb, hT⟩ := (hL.same SJ).2 k x xs hx hxs
        have hdr := drop_of hxs
        obtain ⟨xl, xb⟩ := okX_of (hok xs (List.mem_of_getElem? hxs))
        obtain ⟨W, r, eWr, Wl⟩ := waysF_hd t.length (xss.drop (k + 1))
        have eN : waysF t.length (xss.drop k) = wayStep W xs :: (W :: r) := by
          rw [hdr]
          show wayStep ((waysF t.length (xss.drop (k + 1))).headD []) xs :: waysF t.length (xss.drop (k + 1)) = _
          rw [eWr]
          rfl
        rw [eWr] at hW eW
        replace eW : J' wa = some (.lst (W.map V.int)) := eW
        refine ⟨fun σ J => ∃ sm, σ = [some (.ref R), some (.ref wa), some (.ref fl), some (.ref b), some (.ref sm), v5, v6, v7] ∧ Same J' J ∧ J sm = some (.lst ((sumsOf W).map V.int)), ?_, ?_⟩
        · refine ⟨by show 1 ≤ 1000; decide, fun p1 J3 hp1 S3 e3 => ?_⟩
          refine ⟨_, rfl, p1, wa, [.int 0], _, rfl, rfl, SqL.of e3, SqL.of (S3 _ _ eW), by rw [List.length_map, Wl, sizeLine_eq]; show 1 + (t.length + 1) ≤ 16777216; omega, fun p4 J4 hp4 S4 e4 => ?_⟩
          refine ⟨p4, 0 :: W, rfl, SqL.of e4, by rw [List.length_cons, Wl, sizeLine_eq]; omega, fun p5 J5 hp5 S5 e5 => ?_⟩
          exact ⟨p5, rfl, (S3.trans S4).trans S5, by rw [e5, accV_sums]⟩
        rintro σ J3 ⟨sm, rfl, S3, eS⟩
        have eW3 := S3 _ _ eW
        refine ⟨fun σ J => ∃ wn, σ = [some (.ref R), some (.ref wn), some (.ref fl), some (.ref b), some (.ref sm), v5, v6, v7] ∧ Same J3 J ∧ J3 wn = none ∧ J wn = some (.lst ((List.replicate W.length (0 : Int)).map V.int)), ?_, ?_⟩
        · refine ⟨by show 1 ≤ 1000; decide, fun p1 J4 hp1 S4 e4 => ?_⟩
          refine ⟨_, rfl, wa, _, rfl, .inl (SqL.of (S4 _ _ eW3)), ?_⟩
          refine ⟨p1, _, _, rfl, rfl, e4, by rw [List.length_map]; omega, by rw [List.length_map]; omega, by rw [List.length_map, sizeLine_eq]; show 1 * ((W.length : Int)).toNat ≤ 16777216; omega, fun p2 hp2 => ?_⟩
          exact ⟨p2, rfl, S4.trans (same_upd hp2), none_of S4 hp2, by rw [upd_same, rep_int, List.length_map]; rfl⟩
        rintro σ J4 ⟨wn, rfl, S4, hwn, eN4⟩
        have S34 := S3.trans S4
        have eb4 := S34 _ _ eb
        have hT4 := hT.same S34
        have eS4 := S4 _ _ eS
        refine ⟨fun σ J => ∃ (v5 v6 v7 : Option V), σ = [some (.ref R), some (.ref wn), some (.ref fl), some (.ref b), some (.ref sm), v5, v6, v7] ∧ Same J3 J ∧ J wn = some (.lst ((wayStep W xs).map V.int)), ?_, ?_⟩
        · refine ⟨_, rfl, b, rfl, ⟨_, SqL.of eb4⟩, for_list (K := K) (a := b) (xs := us) (fun i σ J => ∃ (v5 v6 v7 : Option V), σ = [some (.ref R), some (.ref wn), some (.ref fl), some (.ref b), some (.ref sm), v5, v6, v7] ∧ Same J3 J ∧ J wn = some (.lst ((wayStep W (xs.take i)).map V.int))) ⟨_, _, _, rfl, S4, eN4⟩ (fun i σ J1 _ ⟨_, _, _, _, SJ, _⟩ => SqL.of (SJ _ _ (S3 _ _ eb))) ?_ ?_⟩
          · rintro i2 v σ J5 hv ⟨v5, v6, v7, rfl, S5, e5⟩
            have hi2 := (List.getElem?_eq_some_iff.mp hv).1
            obtain ⟨⟨x1, f, g⟩, hxi⟩ : ∃ x, xs[i2]? = some x := ⟨_, List.getElem?_eq_getElem (by rw [← hT.1]; exact hi2)⟩
            obtain ⟨bt, rfl, ebt⟩ := hT.2 i2 v _ hv hxi
            obtain ⟨h1, h2, h3, h4, h5, h6⟩ := xb _ (List.mem_of_getElem? hxi)
            dsimp only at h1 h2 h3 h4 h5 h6
            obtain ⟨kx, rfl⟩ := Int.eq_ofNat_of_zero_le h1
            obtain ⟨kf, rfl⟩ := Int.eq_ofNat_of_zero_le h3
            obtain ⟨kg, rfl⟩ := Int.eq_ofNat_of_zero_le h5
            have wl := wayStep_len W (xs.take i2)
            have sl := sumsOf_len W
            have tk : xs.take (i2 + 1) = xs.take i2 ++ [(((kx : Nat) : Int), ((kf : Nat) : Int), ((kg : Nat) : Int))] := by rw [List.take_add_one, hxi]; rfl
            have es := wayStep_snoc W (xs.take i2) (((kx : Nat) : Int), ((kf : Nat) : Int), ((kg : Nat) : Int))
            rw [← tk] at es
            generalize wayStep W (xs.take i2) = so at *
            obtain ⟨z1, hz1⟩ : ∃ z, so[kx]? = some z := ⟨_, List.getElem?_eq_getElem (by omega)⟩
            obtain ⟨z2, hz2⟩ : ∃ z, (sumsOf W)[kg + 1]? = some z := ⟨_, List.getElem?_eq_getElem (by omega)⟩
            obtain ⟨z3, hz3⟩ : ∃ z, (sumsOf W)[kf]? = some z := ⟨_, List.getElem?_eq_getElem (by omega)⟩
            have eS5 := S5 _ _ eS
            refine ⟨bt, _, rfl, SqT.of (S5 _ _ (S3 _ _ ebt)), rfl, _, _, rfl, _, _, rfl, _, _, rfl, rfl, ?_⟩
            refine ⟨_, rfl, _, rfl, wn, _, kx, _, rfl, rfl, SqL.of e5, by rw [List.getElem?_map, hz1]; rfl, ?_⟩
            refine ⟨_, rfl, _, rfl, _, _, rfl, rfl, sm, _, _, _, rfl, rfl, SqL.of eS5, atI_nat (j := kg + 1) (by rw [List.getElem?_map, hz2]; rfl), ?_⟩
            refine ⟨_, rfl, _, rfl, sm, _, _, _, rfl, rfl, SqL.of eS5, atI_nat (j := kf) (by rw [List.getElem?_map, hz3]; rfl), _, _, rfl, rfl, _, _, rfl, rfl, ?_⟩
            refine ⟨wn, _, ((kx : Nat) : Int), kx, rfl, rfl, e5, ixN_nat (by rw [List.length_map]; omega), ?_⟩
            rw [set_add hz1]
            refine ⟨_, _, _, rfl, same_put S5 hwn, ?_⟩
            rw [upd_same, es, List.getD_eq_getElem?_getD, List.getD_eq_getElem?_getD]
            show some (HO.lst ((addAt so kx (z2 - z3)).map V.int)) = some (HO.lst ((addAt so kx (((sumsOf W)[kg + 1]?).getD 0 - ((sumsOf W)[kf]?).getD 0)).map V.int))
            rw [hz2, hz3]
            rfl
          · rintro σ J5 ⟨v5, v6, v7, rfl, S5, e5⟩
            rw [hT.1, List.take_length] at e5
            exact ⟨_, _, _, rfl, S5, e5⟩
        rintro σ J5 ⟨v5, v6, v7, rfl, S5, e5⟩
        have S35 := S3.trans S5
        have eFl5 := S35 _ _ eFl
        have nwn : V.ref wn ≠ V.ref fl := fun z => by
          injection z with z
          rw [z, S3 _ _ eFl] at hwn
          cases hwn
        refine ⟨_, rfl, .inl ⟨rfl, _, SqL.of eFl5⟩, _, rfl, fl, _, _, rfl, rfl, eFl5, by rw [sizeLine_eq]; omega, ?_⟩
        have nF2 : V.ref fl ∉ ws ++ [.ref wn] := by
          rw [List.mem_append]
          rintro (z | z)
          · exact nF z
          · exact nwn (List.mem_singleton.mp z).symm
        refine ⟨wn, _, _, _, _, _, ws ++ [.ref wn], rfl, same_put (SJ.trans S35) hfl, upd_same, nF2, ?_, ?_, by rw [List.length_append, hwl]; rfl⟩
        · rw [e1', eN, List.reverse_cons]
          refine WsL.snoc ((hW.same S35).put nF) ⟨wn, rfl, ?_⟩
          rw [upd_ne (fun z => nwn (by rw [z]))]
          exact e5
        · rw [e1', eN, upd_ne (fun z => nwn (by rw [z]))]
          exact e5
      · rintro σ J ⟨wa, v3, v4, v5, v6, v7, ws, rfl, SJ, eFl, nF, hW, eW, hwl⟩
        rw [hll, Nat.sub_self, List.drop_zero] at hW
        exact ⟨_, _, _, _, _, _, ws, rfl, SJ, eFl, nF, hW⟩
    rintro σ J3 ⟨v1, v3, v4, v5, v6, v7, ws, rfl, S3, eFl, nF, hW⟩
    refine ⟨fun σ J => σ = [some (.ref R), v1, some (.ref fl), v3, v4, v5, v6, v7] ∧ J = upd J3 fl (.lst ws.reverse), ?_, ?_⟩
    · exact ⟨_, rfl, .inl ⟨rfl, _, SqL.of eFl⟩, fl, ws, rfl, rfl, eFl, rfl, rfl⟩
    rintro σ J4 ⟨rfl, rfl⟩
    refine ⟨_, rfl, q fl ws.reverse _ (same_put S3 hfl) upd_same ?_⟩
    have z := (hW.put (o := .lst ws.reverse) nF).rev
    rw [List.reverse_reverse] at z
    exact z

abbrev s_Reading_all_ways : Stmt := inClass (top 53) 4
theorem sc_Reading_all_ways : FnScope ["self"] ["self"] (defScope s_Reading_all_ways) := ⟨rfl, rfl, rfl, by decide +kernel, rfl, by decide +kernel, by decide +kernel⟩

theorem ok_Reading_all_ways (F : FunD K "all_ways" "Reading.all_ways" (defArgs s_Reading_all_ways) (defBody s_Reading_all_ways) (defScope s_Reading_all_ways) [] [] f fd) (G : S4 P w K mg base) : FnOk P w K mg base CX0 1 f fd ["self"] (spAw K) := by
  refine F.ok (CX := CX0) sc_Reading_all_ways (fun vs H Q E h => ?_) (fun cdv A outer s H vs Q E hr h => ?_)
  · obtain ⟨_, _, _, _, _, _, _, _, rfl, _⟩ := h
    rfl
  · refine ⟨_, PSs.nox (pss_one (ps_ret (pe_ix ix_list (pe_ix ix_list (pe_fld (pv 0) rfl) pe_int (fun _ _ => rfl)) pe_int (fun _ _ => rfl)))), ?_⟩
    obtain ⟨R, dx, wa, b, fs, ls, z, ws, rfl, hR, fW, hw, hb, q⟩ := h
    have C := G.cRD
    exact ⟨_, rfl, R, _, dx, _, _, rfl, hR, C.cl, C.no _ (by decide +kernel), fW, wa, _, _, _, rfl, rfl, SqL.of hw, atI_nat (j := 0) rfl, b, _, _, _, rfl, rfl, SqL.of hb, atI_nat (j := 0) rfl, q⟩

end
end L2.K22

set_option Elab.async false
set_option linter.all false
set_option maxRecDepth 100000
set_option maxHeartbeats 4000000
/-! The places behind each place from which the rest can be read. -/
namespace L2.K22
open PySem PySem.W PySem.Spec PySem.Calls PyProof.Rows L2.Jk
theorem lowB_le (ps : List Nat) (x : Int) : lowB ps x ≤ ps.length := by
  unfold lowB
  exact (List.takeWhile_sublist _).length_le
def posW (W : List Int) : List Nat := (List.range W.length).filter fun k => decide (W.getD k 0 > 0)
def hopF (W : List Int) (xs : List (Int × Int × Int)) : List (Nat × List Nat) := xs.map fun x => (x.1.toNat, ((posW W).drop (lowB (posW W) x.2.1)).take (lowB (posW W) (x.2.2 + 1) - lowB (posW W) x.2.1))
theorem posW_asc (W : List Int) : (posW W).Pairwise (· < ·) := List.Pairwise.filter _ List.pairwise_lt_range
theorem posW_len (W : List Int) : (posW W).length ≤ W.length := by
  have := List.length_filter_le (fun k => decide (W.getD k 0 > 0)) (List.range W.length)
  rw [List.length_range] at this
  exact this
/-- a dict: places, and lists of places -/
def EdL (H : Hp) : List (Key × V) → List (Nat × List Nat) → Prop
  | [], [] => True
  | kv :: kvs, e :: es => (kv.1 = .inl (e.1 : Nat) ∧ ∃ b, kv.2 = .ref b ∧ H b = some (.lst (e.2.map fun p => V.int (p : Nat)))) ∧ EdL H kvs es
  | _, _ => False
theorem EdL.imp {H H' : Hp} (k : ∀ b xs, H b = some (.lst xs) → H' b = some (.lst xs)) : ∀ {kvs : List (Key × V)} {es : List (Nat × List Nat)}, EdL H kvs es → EdL H' kvs es
  | [], [], _ => True.intro
  | _ :: _, _ :: _, ⟨⟨a, b, c, d⟩, r⟩ => ⟨⟨a, b, c, k _ _ d⟩, r.imp k⟩
  | [], _ :: _, h => h.elim
  | _ :: _, [], h => h.elim
theorem EdL.same {H H' : Hp} (S : Same H H') {kvs : List (Key × V)} {es : List (Nat × List Nat)} (h : EdL H kvs es) : EdL H' kvs es := h.imp fun _ _ e => S _ _ e
theorem EdL.snoc {H : Hp} {kv : Key × V} {e : Nat × List Nat} (k : kv.1 = .inl (e.1 : Nat) ∧ ∃ b, kv.2 = .ref b ∧ H b = some (.lst (e.2.map fun p => V.int (p : Nat)))) : ∀ {kvs : List (Key × V)} {es : List (Nat × List Nat)}, EdL H kvs es → EdL H (kvs ++ [kv]) (es ++ [e])
  | [], [], _ => ⟨k, True.intro⟩
  | _ :: _, _ :: _, ⟨a, r⟩ => ⟨a, r.snoc k⟩
  | [], _ :: _, h => h.elim
  | _ :: _, [], h => h.elim
theorem EdL.len {H : Hp} : ∀ {kvs : List (Key × V)} {es : List (Nat × List Nat)}, EdL H kvs es → kvs.length = es.length
  | [], [], _ => rfl
  | _ :: _, _ :: _, ⟨_, r⟩ => congrArg (· + 1) r.len
  | [], _ :: _, h => h.elim
  | _ :: _, [], h => h.elim
def endsOf (es : List (Nat × List Nat)) (p : Nat) : Option (List Nat) := (es.find? fun e => decide (e.1 = p)).map (·.2)
theorem EdL.get {H : Hp} (p : Nat) : ∀ {kvs : List (Key × V)} {es : List (Nat × List Nat)}, EdL H kvs es → (endsOf es p = none ∧ valV kvs (Sum.inl (p : Nat)) = none) ∨ ∃ (es' : List Nat) (b : Addr), endsOf es p = some es' ∧ valV kvs (Sum.inl (p : Nat)) = some (.ref b) ∧ H b = some (.lst (es'.map fun p => V.int (p : Nat)))
  | [], [], _ => .inl ⟨rfl, rfl⟩
  | kv :: kvs, e :: es, ⟨⟨a, b, c, d⟩, r⟩ => by
    by_cases q : e.1 = p
    · refine .inr ⟨e.2, b, ?_, ?_, d⟩
      · unfold endsOf
        rw [List.find?_cons, decide_eq_true q]
        rfl
      · rw [valV_pos (by rw [a, q]), c]
    · have ih := r.get p
      have e1 : endsOf (e :: es) p = endsOf es p := by
        unfold endsOf
        rw [List.find?_cons, decide_eq_false q]
      have e2 : valV (kv :: kvs) (Sum.inl (p : Nat)) = valV kvs (Sum.inl (p : Nat)) := valV_neg (by
        rw [a]
        intro z
        injection z with z
        exact q (by exact_mod_cast z))
      rw [e1, e2]
      exact ih
  | [], _ :: _, h => h.elim
  | _ :: _, [], h => h.elim
theorem endsOf_none {es : List (Nat × List Nat)} {p : Nat} (h : p ∉ es.map (·.1)) : endsOf es p = none := by
  unfold endsOf
  rw [List.find?_eq_none.mpr fun e he => ?_]
  · rfl
  · intro z
    exact h (List.mem_map.mpr ⟨e, he, of_decide_eq_true z⟩)
/-- what is new in a heap -/
def nw (H H' : Hp) : Hp := fun c => match H c with
  | none => H' c
  | some _ => none
theorem nw_some {H H' : Hp} {c : Addr} {o : HO} : nw H H' c = some o ↔ H c = none ∧ H' c = some o := by
  unfold nw
  cases e : H c with
  | none => exact ⟨fun h => ⟨rfl, h⟩, fun h => h.2⟩
  | some u => exact ⟨fun h => (by cases h), fun h => (by cases h.1)⟩
theorem EdL.put2 {H J J' : Hp} {D p : Addr} {kv0 : List (Key × V)} {o o2 : HO} (S : Same J J') (eD : J' D = some (.dK kv0)) (hp : J p = none) {kvs : List (Key × V)} {es : List (Nat × List Nat)} (h : EdL (nw H J) kvs es) : EdL (nw H (upd (upd J' D o) p o2)) kvs es :=
  h.imp fun b xs e => by
    obtain ⟨e0, e⟩ := nw_some.mp e
    refine nw_some.mpr ⟨e0, ?_⟩
    rw [upd_ne (ne_of_none e hp), upd_ne (ne_of (S _ _ e) eD (fun z => by cases z))]
    exact S _ _ e
theorem cut_low (ps : List Nat) (a b : Nat) (ha : a ≤ ps.length) (hb : b ≤ ps.length) : cutV (ps.map fun p => V.int (p : Nat)) (some (a : Nat)) (some (b : Nat)) = ((ps.drop a).take (b - a)).map fun p => V.int (p : Nat) := by
  unfold cutV
  rw [HT.sIx_nat, HT.sIx_nat, List.length_map, Nat.min_eq_left ha, Nat.min_eq_left hb, List.map_take, List.map_drop]
theorem putK_new {kvs : List (Key × V)} {k : Key} {v : V} (h : valV kvs k = none) : putK kvs k v = kvs ++ [(k, v)] := by
  unfold putK
  rw [valV_any, h]
  rfl
def spHe (K : Frag) : Sp := fun vs H Q _ => ∃ (R dx sp wa : Addr) (fs : List (Str × V)) (ls us : List V) (xss : List (List (Int × Int × Int))) (wss : List (List Int)) (i : Nat) (xs : List (Int × Int × Int)) (W : List Int) (n : Nat), vs = [.ref R, .int (i : Nat)] ∧ H R = some (.ins (RD K) dx fs) ∧ fs.lookup ("spans" : Str) = some (.ref sp) ∧ fs.lookup ("ways" : Str) = some (.ref wa) ∧
  H sp = some (.lst ls) ∧ SpL H ls xss ∧ H wa = some (.lst us) ∧ WsL H us wss ∧ xss[i]? = some xs ∧ wss[i + 1]? = some W ∧ n ≤ 4000 ∧ W.length ≤ 4001 ∧ okX n xs = true ∧ (xs.map fun x => x.1.toNat).Nodup ∧
  ∀ D kvs H', H D = none → Same H H' → H' D = some (.dK kvs) → EdL (nw H H') kvs (hopF W xs) → Q (.ref D) H'
structure S5 (P : Program) (w : World) (K : Frag) (mg : Str → Option Value) (base : Heap) : Prop extends S4 P w K mg base where
  first_from : FnAt P w K mg base CX0 1 "first_from" ["ascending", "thing"] spFf

section
variable {P : Program} {w : World} {K : Frag} {mg : Str → Option Value} {base : Heap} {f : Addr} {fd : FuncData}

abbrev s_Reading_hopeful : Stmt := inClass (top 53) 7
theorem sc_Reading_hopeful : FnScope ["self", "index", "places", "place", "many", "found", "first", "last", "ends"] ["self", "index"] (defScope s_Reading_hopeful) := ⟨rfl, rfl, rfl, by decide +kernel, rfl, by decide +kernel, by decide +kernel⟩

theorem ok_Reading_hopeful (F : FunD K "hopeful_ends" "Reading.hopeful_ends" (defArgs s_Reading_hopeful) (defBody s_Reading_hopeful) (defScope s_Reading_hopeful) [] [] f fd) (G : S5 P w K mg base) : FnOk P w K mg base CX0 2 f fd ["self", "index"] (spHe K) := by
  refine F.ok (CX := CX0) sc_Reading_hopeful (fun vs H Q E h => ?_) (fun cdv A outer s H vs Q E hr h => ?_)
  · obtain ⟨_, _, _, _, _, _, _, _, _, _, _, _, _, rfl, _⟩ := h
    rfl
  · refine ⟨_, PSs.nox (C8.pss_cut (ps_setLc (i := 2) (own := [("place", 3), ("many", 4)]) (g := (gTup K 2 (gCons (gName 3) (gCons (gName 4) gNil)))) (tt := _) (by rfl) sc_Reading_hopeful.nd rfl rfl (sw_true rfl rfl rfl (by decide +kernel)) (pi_enum (by rfl) G.enumerate (pa_cons (pe_ix ix_list (pe_fld (pv 0) rfl) (pe_op op_add (pv 1) pe_int) (fun _ _ => rfl)) pa_nil)) (blkOk_by (N := ["self", "index", "places", "place", "many", "found", "first", "last", "ends"]) (sc := defScope s_Reading_hopeful) (by decide +kernel)) (fun _ _ _ _ _ => pg_tupK (n := 2) (K := K) rfl rfl (pgs_cons (pg_name (i := 3) sc_Reading_hopeful.nd rfl (Or.inl rfl)) (pgs_cons (pg_name (i := 4) sc_Reading_hopeful.nd rfl (Or.inl rfl)) pgs_nil))) (fun _ _ _ _ _ => pts_one (pt_cmpR op_gt (pv 4) pe_int (nomark _))) (fun _ _ _ _ _ => (pv 3)))
    (C8.pss_cut (ps_set (i := 5) sc_Reading_hopeful.nd rfl (Or.inl rfl) pe_dnewK)
    (C8.pss_cut (ps_for PassesOwn.never rfl (pi_list (pe_ix ix_list (pe_fld (pv 0) rfl) (pv 1) (fun _ _ => rfl))) (pg_tup rfl (pgs_cons (pg_name (i := 3) sc_Reading_hopeful.nd rfl (Or.inl rfl)) (pgs_cons (pg_name (i := 6) sc_Reading_hopeful.nd rfl (Or.inl rfl)) (pgs_cons (pg_name (i := 7) sc_Reading_hopeful.nd rfl (Or.inl rfl)) pgs_nil))))
      (C8.pss_cut (ps_set (i := 8) sc_Reading_hopeful.nd rfl (Or.inl rfl) (pe_slice sl_listS (pv 2) (po_some (pe_fn G.first_from (hr.mono (by decide)) pass0 (by rfl) (pa_cons (pv 2) (pa_cons (pv 6) pa_nil)))) (po_some (pe_fn G.first_from (hr.mono (by decide)) pass0 (by rfl) (pa_cons (pv 2) (pa_cons (pe_op op_add (pv 7) pe_int) pa_nil))))))
      (pss_one (ps_expr (pe_bm PySem.F.plainAttrs_list PySem.F.slot_list_extend PySem.F.type_list_extend mt_extend (pe_dsetd (pv 5) (pv 3) (pe_lstS pa_nil) ⟨rfl, rfl, rfl, rfl⟩) (pa_cons (pv 8) pa_nil))))))
    (pss_one (ps_ret (pv 5)))))), ?_⟩
    obtain ⟨R, dx, sp, wa, fs, ls, us, xss, wss, i, xs, W, nn, rfl, hR, fS, fW, hsp, hL, hwa, hW, hxs, hWi, hnn, hWl, hok, hnd, q⟩ := h
    have C := G.cRD
    obtain ⟨xl, xb⟩ := okX_of hok
    obtain ⟨v, hv⟩ : ∃ v, ls[i]? = some v := ⟨_, List.getElem?_eq_getElem (by rw [hL.1]; exact (List.getElem?_eq_some_iff.mp hxs).1)⟩
    obtain ⟨u, hu⟩ : ∃ u, us[i + 1]? = some u := ⟨_, List.getElem?_eq_getElem (by rw [hW.1]; exact (List.getElem?_eq_some_iff.mp hWi).1)⟩
    obtain ⟨b, ts, rfl, eb, hT⟩ := hL.2 i v xs hv hxs
    obtain ⟨c, rfl, ec⟩ := hW.2 _ u W hu hWi
    refine ⟨fun σ J => ∃ (pl : Addr) (v3 v4 v5 v6 v7 v8 : Option V), σ = [some (.ref R), some (.int (i : Nat)), some (.ref pl), v3, v4, v5, v6, v7, v8] ∧ Same H J ∧ J pl = some (.lst ((posW W).map fun p => V.int (p : Nat))), ?_, ?_⟩
    · refine ⟨_, rfl, R, _, dx, _, _, rfl, hR, C.cl, C.no _ (by decide +kernel), fW, _, rfl, _, _, rfl, rfl, wa, _, _, _, rfl, rfl, SqL.of hwa, atI_nat (j := i + 1) hu, c, _, rfl, SqL.of ec, fun D hD => ?_⟩
      refine lc_it (walk_enum (xs := W.map V.int)) (fun n L => L D = some (.lst ((((List.range n).filter fun k => decide (W.getD k 0 > 0))).map fun p => V.int (p : Nat))) ∧ Same H L) ⟨upd_same, same_upd hD⟩ (fun n L _ ⟨_, SL⟩ => SqL.of (SL _ _ ec)) ?_ ?_
      · rintro n x L L2 hn2 ⟨eD, SL⟩ ⟨T, p', x', rfl, hTn, rfl, ep, ex⟩
        rw [List.length_map] at hn2
        obtain rfl : p' = .int (n : Nat) := (Option.some.inj ep).symm
        replace ex : (W.map V.int)[n]? = some x' := ex
        obtain rfl : x' = .int (W.getD n 0) := by
          rw [List.getElem?_map, List.getElem?_eq_getElem hn2] at ex
          rw [List.getD_eq_getElem?_getD, List.getElem?_eq_getElem hn2]
          exact (Option.some.inj ex).symm
        have U2 : Same L (upd L T (.tup [V.int (n : Nat), V.int (W.getD n 0)])) := same_upd hTn
        have u2 : upd L T (.tup [V.int (n : Nat), V.int (W.getD n 0)]) T = some (.tup [V.int (n : Nat), V.int (W.getD n 0)]) := upd_same
        generalize upd L T (.tup [V.int (n : Nat), V.int (W.getD n 0)]) = L' at U2 u2 ⊢
        refine ⟨T, _, rfl, SqT.of u2, rfl, _, _, rfl, _, _, rfl, rfl, rfl, ?_⟩
        refine ⟨_, rfl, _, _, rfl, rfl, _, rfl, ?_⟩
        have lf : ((List.range n).filter fun k => decide (W.getD k 0 > 0)).length ≤ 5000 := by
          have := List.length_filter_le (fun k => decide (W.getD k 0 > 0)) (List.range n)
          rw [List.length_range] at this
          omega
        refine ite2 (fun hc => ?_) (fun hc => ?_)
        · refine ⟨_, rfl, _, U2 _ _ eD, by rw [List.length_map, sizeLine_eq]; omega, ?_, same_put (SL.trans U2) hD⟩
          rw [upd_same, List.range_succ, List.filter_append, List.map_append, List.filter_cons, if_pos hc]
          rfl
        · refine ⟨?_, SL.trans U2⟩
          rw [U2 _ _ eD, List.range_succ, List.filter_append, List.map_append, List.filter_cons, if_neg hc]
          exact (congrArg (fun l => some (HO.lst l)) (List.append_nil _)).symm
      · rintro L ⟨eD, SL⟩
        rw [List.length_map] at eD
        exact ⟨D, _, _, _, _, _, _, rfl, SL, eD⟩
    rintro σ J1 ⟨pl, v3, v4, v5, v6, v7, v8, rfl, S1, e1⟩
    refine ⟨fun σ J => ∃ (D : Addr) (v3 v4 v6 v7 v8 : Option V), σ = [some (.ref R), some (.int (i : Nat)), some (.ref pl), v3, v4, some (.ref D), v6, v7, v8] ∧ Same J1 J ∧ J1 D = none ∧ J D = some (.dK []), ?_, ?_⟩
    · exact fun D hD => ⟨D, _, _, _, _, _, rfl, same_upd hD, hD, upd_same⟩
    rintro σ J2 ⟨D, v3, v4, v6, v7, v8, rfl, S2, hD, eD⟩
    have S12 := S1.trans S2
    have hD0 := none_of S1 hD
    have pl5 : (posW W).length ≤ 5000 := by have := posW_len W; omega
    refine ⟨fun σ J => ∃ (v3 v4 v6 v7 v8 : Option V) (kvs : List (Key × V)), σ = [some (.ref R), some (.int (i : Nat)), some (.ref pl), v3, v4, some (.ref D), v6, v7, v8] ∧ Same J1 J ∧ J D = some (.dK kvs) ∧ EdL (nw H J) kvs (hopF W xs), ?_, ?_⟩
    · refine ⟨_, rfl, R, _, dx, _, _, rfl, S12 _ _ hR, C.cl, C.no _ (by decide +kernel), fS, _, rfl, sp, _, _, _, rfl, rfl, SqL.of (S12 _ _ hsp), atI_nat (j := i) hv, b, rfl, ⟨_, SqL.of (S12 _ _ eb)⟩, ?_⟩
      refine for_list (K := K) (a := b) (xs := ts) (fun n σ J => ∃ (v3 v4 v6 v7 v8 : Option V) (kvs : List (Key × V)), σ = [some (.ref R), some (.int (i : Nat)), some (.ref pl), v3, v4, some (.ref D), v6, v7, v8] ∧ Same J1 J ∧ J D = some (.dK kvs) ∧ EdL (nw H J) kvs (hopF W (xs.take n))) ⟨_, _, _, _, _, [], rfl, S2, eD, True.intro⟩ (fun n σ J _ ⟨_, _, _, _, _, _, _, SJ, _⟩ => SqL.of (SJ _ _ (S1 _ _ eb))) ?_ ?_
      · rintro n v σ J hv ⟨v3, v4, v6, v7, v8, kvs, rfl, SJ, eD, hE⟩
        have hn := (List.getElem?_eq_some_iff.mp hv).1
        obtain ⟨⟨x1, f, g⟩, hxi⟩ : ∃ x, xs[n]? = some x := ⟨_, List.getElem?_eq_getElem (by rw [← hT.1]; exact hn)⟩
        obtain ⟨bt, rfl, ebt⟩ := hT.2 n v _ hv hxi
        obtain ⟨h1, h2, h3, h4, h5, h6⟩ := xb _ (List.mem_of_getElem? hxi)
        dsimp only at h1 h2 h3 h4 h5 h6
        obtain ⟨kx, rfl⟩ := Int.eq_ofNat_of_zero_le h1
        have tk : xs.take (n + 1) = xs.take n ++ [(((kx : Nat) : Int), f, g)] := by rw [List.take_add_one, hxi]; rfl
        have hk : kx ∉ (hopF W (xs.take n)).map (·.1) := fun z => by
          unfold hopF at z
          rw [List.map_map] at z
          have hnd2 := hnd
          rw [← List.take_append_drop (n + 1) xs, tk, List.map_append, List.map_append] at hnd2
          have hnd3 := (List.nodup_append.mp hnd2).1
          exact (List.nodup_append.mp hnd3).2.2 kx z kx (List.mem_singleton.mpr rfl) rfl
        have eH : hopF W (xs.take (n + 1)) = hopF W (xs.take n) ++ [(kx, ((posW W).drop (lowB (posW W) f)).take (lowB (posW W) (g + 1) - lowB (posW W) f))] := by
          unfold hopF
          rw [tk, List.map_append]
          rfl
        have SJ1 := S1.trans SJ
        refine ⟨bt, _, rfl, SqT.of (SJ1 _ _ ebt), rfl, _, _, rfl, _, _, rfl, _, _, rfl, rfl, ?_⟩
        have epl := SJ _ _ e1
        refine ⟨fun σ J' => ∃ en, σ = [some (.ref R), some (.int (i : Nat)), some (.ref pl), some (.int (kx : Nat)), v4, some (.ref D), some (.int f), some (.int g), some (.ref en)] ∧ Same J J' ∧ J' en = some (.lst ((((posW W).drop (lowB (posW W) f)).take (lowB (posW W) (g + 1) - lowB (posW W) f)).map fun p => V.int (p : Nat))), ?_, ?_⟩
        · refine ⟨_, rfl, _, rfl, _, rfl, pl, posW W, f, rfl, epl, posW_asc W, _, rfl, _, rfl, _, rfl, _, _, rfl, rfl, pl, posW W, g + 1, rfl, epl, posW_asc W, _, rfl, pl, _, rfl, SqL.of epl, fun p J' hp S' e' => ?_⟩
          rw [cut_low _ _ _ (lowB_le _ _) (lowB_le _ _)] at e'
          exact ⟨p, rfl, S', e'⟩
        rintro σ J4 ⟨en, rfl, S4, eEn⟩
        have hk2 : endsOf (hopF W (xs.take n)) kx = none := endsOf_none hk
        have hv0 : valV kvs (Sum.inl ((kx : Nat) : Int)) = none := by
          rcases hE.get kx with ⟨_, z⟩ | ⟨_, _, z, _⟩
          · exact z
          · rw [hk2] at z
            cases z
        have hEl := hE.len
        have hxn : (hopF W (xs.take n)).length ≤ 5000 := by
          unfold hopF
          rw [List.length_map, List.length_take]
          omega
        have eD4 := S4 _ _ eD
        refine ⟨_, rfl, D, rfl, .inl ⟨_, .inl eD4⟩, _, rfl, by show 0 ≤ 1000; decide, fun p J5 hp S5 e5 => ?_⟩
        have eD5 := S5 _ _ eD4
        have hpD : p ≠ D := fun z => by rw [z, eD4] at hp; cases hp
        refine ⟨kvs, Sum.inl ((kx : Nat) : Int), eD5, rfl, by rw [sizeLine_eq]; omega, fun v hv => absurd (hv0.symm.trans hv) (by simp), fun _ => ?_⟩
        rw [putK_new hv0]
        have e6 : upd J5 D (.dK (kvs ++ [(Sum.inl ((kx : Nat) : Int), .ref p)])) p = some (.lst []) := by rw [upd_ne hpD]; exact e5
        have eEn6 : upd J5 D (.dK (kvs ++ [(Sum.inl ((kx : Nat) : Int), .ref p)])) en = some (.lst ((((posW W).drop (lowB (posW W) f)).take (lowB (posW W) (g + 1) - lowB (posW W) f)).map fun p => V.int (p : Nat))) := by
          rw [upd_ne (ne_of (S5 _ _ eEn) eD5 (fun z => by cases z))]
          exact S5 _ _ eEn
        refine ⟨.inl ⟨rfl, _, SqL.of e6⟩, _, rfl, p, en, [], _, rfl, rfl, e6, eEn6, ?_, ?_⟩
        · have a : ((posW W).drop (lowB (posW W) f)).length ≤ (posW W).length := by rw [List.length_drop]; omega
          rw [List.length_map, List.length_take, sizeLine_eq]
          show 0 + _ ≤ _
          omega
        have hpJ : J p = none := none_of S4 hp
        have hpJ1 : J1 p = none := none_of SJ hpJ
        refine ⟨_, _, _, _, _, kvs ++ [(Sum.inl ((kx : Nat) : Int), .ref p)], rfl, same_put (same_put ((SJ.trans S4).trans S5) hD) hpJ1, by rw [upd_ne hpD.symm, upd_same], ?_⟩
        rw [eH]
        refine EdL.snoc ?_ (hE.put2 (S4.trans S5) eD5 hpJ)
        exact ⟨rfl, p, rfl, nw_some.mpr ⟨none_of S1 hpJ1, by rw [upd_same]; rfl⟩⟩
      · rintro σ J ⟨v3, v4, v6, v7, v8, kvs, rfl, SJ, eD, hE⟩
        rw [hT.1, List.take_length] at hE
        exact ⟨_, _, _, _, _, kvs, rfl, SJ, eD, hE⟩
    rintro σ J3 ⟨v3, v4, v6, v7, v8, kvs, rfl, S3, eD, hE⟩
    exact ⟨_, rfl, q D kvs J3 hD0 (S1.trans S3) eD hE⟩

end
end L2.K22

set_option Elab.async false
set_option linter.all false
set_option maxRecDepth 100000
set_option maxHeartbeats 4000000
/-! The values of a field at a place. -/
namespace L2.K22
open PySem PySem.W PySem.Spec PySem.Calls PyProof.Rows L2.Jk
/-! ### slices of one text, the one longer than the other -/
theorem take_not_lt : ∀ (l : List Nat) (a b : Nat), a ≤ b → ¬ l.take b < l.take a
  | [], a, b, _ => by rw [List.take_nil, List.take_nil]; exact List.lt_irrefl _
  | x :: l, 0, b, _ => by rw [List.take_zero]; exact List.not_lt_nil _
  | x :: l, a + 1, 0, h => absurd h (by omega)
  | x :: l, a + 1, b + 1, h => by
    rw [List.take_succ_cons, List.take_succ_cons, List.cons_lt_cons_iff]
    rintro (z | ⟨_, z⟩)
    · exact Nat.lt_irrefl _ z
    · exact take_not_lt l a b (Nat.le_of_succ_le_succ h) z
def cutE (t : Str) (p e w : Nat) : Str := cutS t (some (p : Nat)) (some ((e : Int) - (w : Nat)))
theorem cutE_not_lt (t : Str) {p e e' w : Nat} (hw : w ≤ e) (h : e ≤ e') : ¬ (cutE t p e' w).cps.toList < (cutE t p e w).cps.toList := by
  unfold cutE cutS
  rw [show ((e : Int) - (w : Nat)) = ((e - w : Nat) : Int) by omega, show ((e' : Int) - (w : Nat)) = ((e' - w : Nat) : Int) by omega, HT.sIx_nat, HT.sIx_nat, HT.sIx_nat]
  show ¬ List.take _ _ < List.take _ _
  exact take_not_lt _ _ _ (by omega)
/-! ### a reading's data -/
structure RX where
  fs : List (Str × V)
  dx : Addr
  L : Addr
  E : Addr
  Kp : Addr
  sp : Addr
  wa : Addr
  t : Str
  ds : List FD
  js : List Str
  xss : List (List (Int × Int × Int))
  wss : List (List Int)
def RX.jn (x : RX) (i : Nat) : Str := (x.js ++ ([""] : List Str)).getD i ""
def RX.hp (x : RX) (i : Nat) : List (Nat × List Nat) := hopF (x.wss.getD (i + 1) []) (x.xss.getD i [])
def RX.es (x : RX) (i p : Nat) : List Nat := (endsOf (x.hp i) p).getD []
structure RxOk (x : RX) : Prop where
  no : NoM x.fs
  fL : x.fs.lookup ("layout" : Str) = some (.ref x.L)
  fT : x.fs.lookup ("text" : Str) = some (.str x.t)
  fS : x.fs.lookup ("spans" : Str) = some (.ref x.sp)
  fW : x.fs.lookup ("ways" : Str) = some (.ref x.wa)
  fE : x.fs.lookup ("ends" : Str) = some (.ref x.E)
  fK : x.fs.lookup ("kept" : Str) = some (.ref x.Kp)
  ds : ∀ d ∈ x.ds, d = wAB
  tl : x.t.length ≤ 4000
  xl : x.xss.length = x.ds.length
  wl : x.wss.length = x.ds.length + 1
  wv : ∀ W ∈ x.wss, W.length ≤ 4001
  xv : ∀ xs ∈ x.xss, okX x.t.length xs = true ∧ (xs.map fun x => x.1.toNat).Nodup
  ev : ∀ i, i < x.ds.length → ∀ en ∈ x.hp i, ∀ e ∈ en.2, (x.jn i).length ≤ e
def Fx (K : Frag) (H : Hp) (x : RX) : Prop := LayAt K H x.L x.ds x.js ∧ (∃ ls, H x.sp = some (.lst ls) ∧ SpL H ls x.xss) ∧ ∃ us, H x.wa = some (.lst us) ∧ WsL H us x.wss
theorem Fx.same {K : Frag} {H H' : Hp} {x : RX} (S : Same H H') : Fx K H x → Fx K H' x
  | ⟨a, ⟨ls, b, c⟩, us, d, e⟩ => ⟨a.same S, ⟨ls, S _ _ b, c.same S⟩, us, S _ _ d, e.same S⟩
def But2 (a b : Addr) (H H' : Hp) : Prop := ∀ c o, c ≠ a → c ≠ b → H c = some o → H' c = some o
theorem But2.trans {a b : Addr} {H H1 H2 : Hp} (x : But2 a b H H1) (y : But2 a b H1 H2) : But2 a b H H2 := fun c o n m h => y c o n m (x c o n m h)
theorem But2.of {a b : Addr} {H H' : Hp} (x : But a H H') : But2 a b H H' := fun c o n _ h => x c o n h
theorem But2.of2 {a b : Addr} {H H' : Hp} (x : But b H H') : But2 a b H H' := fun c o _ n h => x c o n h
theorem But2.refl (a b : Addr) (H : Hp) : But2 a b H H := fun _ _ _ _ h => h
theorem But2.fresh {a b : Addr} {H H' : Hp} (x : But2 a b H H') (ha : H a = none) (hb : H b = none) : Same H H' := fun c o h => x c o (fun z => by rw [z, ha] at h; cases h) (fun z => by rw [z, hb] at h; cases h) h
structure RdS (K : Frag) (H : Hp) (R : Addr) (x : RX) : Prop where
  ob : H R = some (.ins (RD K) x.dx x.fs)
  nE : R ≠ x.E
  nK : R ≠ x.Kp
  fx : ∃ H1, Fx K H1 x ∧ H1 x.E = none ∧ H1 x.Kp = none ∧ Same H1 H
theorem RdS.same {K : Frag} {H H' : Hp} {R : Addr} {x : RX} (S : Same H H') : RdS K H R x → RdS K H' R x
  | ⟨a, b, c, H1, d, e, f, g⟩ => ⟨S _ _ a, b, c, H1, d, e, f, g.trans S⟩
theorem RdS.but {K : Frag} {H H' : Hp} {R : Addr} {x : RX} (S : But2 x.E x.Kp H H') : RdS K H R x → RdS K H' R x
  | ⟨a, b, c, H1, d, e, f, g⟩ => ⟨S _ _ b c a, b, c, H1, d, e, f, fun y o h => S y o (fun z => by rw [z, e] at h; cases h) (fun z => by rw [z, f] at h; cases h) (g _ _ h)⟩
theorem RdS.fix {K : Frag} {H : Hp} {R : Addr} {x : RX} (h : RdS K H R x) : Fx K H x := by
  obtain ⟨H1, a, _, _, S⟩ := h.fx
  exact a.same S
/-- a heap without some objects -/
def hid (Z : Addr → Bool) (H : Hp) : Hp := fun c => if Z c = true then none else H c
theorem hid_some {Z : Addr → Bool} {H : Hp} {c : Addr} {o : HO} : hid Z H c = some o ↔ Z c = false ∧ H c = some o := by
  unfold hid
  cases Z c with
  | true => exact ⟨fun h => (by cases h), fun h => (by cases h.1)⟩
  | false => exact ⟨fun h => ⟨rfl, h⟩, fun h => h.2⟩
theorem hid_same {Z : Addr → Bool} {H H' : Hp} (S : Same H H') : Same (hid Z H) (hid Z H') := fun c o h => by
  obtain ⟨a, b⟩ := hid_some.mp h
  exact hid_some.mpr ⟨a, S _ _ b⟩
theorem hid_but {Z : Addr → Bool} {a : Addr} {H H' : Hp} (S : But a H H') : But a (hid Z H) (hid Z H') := fun c o n h => by
  obtain ⟨a, b⟩ := hid_some.mp h
  exact hid_some.mpr ⟨a, S _ _ n b⟩
def Alloc (Z : Addr → Bool) (H : Hp) : Prop := ∀ z, Z z = true → H z ≠ none
theorem Alloc.mono {Z : Addr → Bool} {H H' : Hp} (h : Alloc Z H) (k : ∀ c, H c ≠ none → H' c ≠ none) : Alloc Z H' := fun z hz => k z (h z hz)
theorem Alloc.fr {Z : Addr → Bool} {H : Hp} {c : Addr} (h : Alloc Z H) (hc : H c = none) : Z c = false := by
  cases e : Z c with
  | false => rfl
  | true => exact absurd hc (h c e)
theorem some_same {H H' : Hp} (S : Same H H') : ∀ c, H c ≠ none → H' c ≠ none := fun c h => by
  cases e : H c with
  | none => exact absurd e h
  | some o => rw [S _ _ e]; exact fun z => by cases z
/-- the ends that are known -/
def EnsAt (H : Hp) (x : RX) : Prop := ∃ kvs : List (Key × V), H x.E = some (.dK kvs) ∧ (kvs.map (·.1)).Nodup ∧ ∀ kv ∈ kvs, ∃ (i : Nat) (D : Addr) (dk : List (Key × V)), kv.1 = Sum.inl ((i : Nat) : Int) ∧ kv.2 = .ref D ∧ i < x.ds.length ∧ D ≠ x.E ∧ H D = some (.dK dk) ∧ EdL H dk (x.hp i)
theorem EnsAt.imp {H H' : Hp} {x : RX} (k : ∀ c o, (∀ kvs, o ≠ .dT kvs) → H c = some o → H' c = some o) : EnsAt H x → EnsAt H' x
  | ⟨kvs, a, b, c⟩ => ⟨kvs, k _ _ (fun _ z => by cases z) a, b, fun kv hkv => by
    obtain ⟨i, D, dk, h1, h2, h3, h4, h5, h6⟩ := c kv hkv
    exact ⟨i, D, dk, h1, h2, h3, h4, k _ _ (fun _ z => by cases z) h5, h6.imp fun b xs e => k _ _ (fun _ z => by cases z) e⟩⟩
theorem EnsAt.same {H H' : Hp} {x : RX} (S : Same H H') (h : EnsAt H x) : EnsAt H' x := h.imp fun c o _ e => S _ _ e
theorem nodup_len {α : Type} [DecidableEq α] : ∀ (l m : List α), l.Nodup → (∀ x ∈ l, x ∈ m) → l.length ≤ m.length
  | [], m, _, _ => Nat.zero_le _
  | x :: l, m, h, k => by
    have hx := k x List.mem_cons_self
    obtain ⟨h1, h2⟩ := List.nodup_cons.mp h
    have ih := nodup_len l (m.erase x) h2 fun y hy => (List.mem_erase_of_ne (fun z => h1 (by rw [← z]; exact hy))).mpr (k y (List.mem_cons_of_mem _ hy))
    rw [List.length_erase_of_mem hx] at ih
    have := List.length_pos_of_mem hx
    rw [List.length_cons]
    omega
theorem val_mem {κ : Type} [DecidableEq κ] {kvs : List (κ × V)} {k : κ} {v : V} (h : valV kvs k = some v) : ∃ kv ∈ kvs, kv.1 = k ∧ kv.2 = v := by
  unfold valV at h
  obtain ⟨kv, a, b⟩ := Option.map_eq_some_iff.mp h
  have c := List.find?_some (p := fun kv : κ × V => decide (kv.1 = k)) a
  exact ⟨kv, List.mem_of_find?_eq_some a, of_decide_eq_true c, b⟩
theorem val_none {κ : Type} [DecidableEq κ] {kvs : List (κ × V)} {k : κ} (h : valV kvs k = none) : k ∉ kvs.map (·.1) := fun z => by
  obtain ⟨kv, a, b⟩ := List.mem_map.mp z
  have c := valV_any k kvs
  rw [h] at c
  have d := List.any_eq_false.mp c kv a
  exact d (decide_eq_true b)
/-- values, each with the place behind it -/
def VlL (H : Hp) : List V → List (Str × Nat) → Prop
  | [], [] => True
  | v :: vs, e :: es => (∃ T, v = .ref T ∧ H T = some (.tup [.str e.1, .int (e.2 : Nat)])) ∧ VlL H vs es
  | _, _ => False
theorem VlL.imp {H H' : Hp} (k : ∀ b xs, H b = some (.tup xs) → H' b = some (.tup xs)) : ∀ {vs : List V} {es : List (Str × Nat)}, VlL H vs es → VlL H' vs es
  | [], [], _ => True.intro
  | _ :: _, _ :: _, ⟨⟨T, a, b⟩, r⟩ => ⟨⟨T, a, k _ _ b⟩, r.imp k⟩
  | [], _ :: _, h => h.elim
  | _ :: _, [], h => h.elim
theorem VlL.snoc {H : Hp} {v : V} {e : Str × Nat} (k : ∃ T, v = .ref T ∧ H T = some (.tup [.str e.1, .int (e.2 : Nat)])) : ∀ {vs : List V} {es : List (Str × Nat)}, VlL H vs es → VlL H (vs ++ [v]) (es ++ [e])
  | [], [], _ => ⟨k, True.intro⟩
  | _ :: _, _ :: _, ⟨a, r⟩ => ⟨a, r.snoc k⟩
  | [], _ :: _, h => h.elim
  | _ :: _, [], h => h.elim
theorem VlL.len {H : Hp} : ∀ {vs : List V} {es : List (Str × Nat)}, VlL H vs es → vs.length = es.length
  | [], [], _ => rfl
  | _ :: _, _ :: _, ⟨_, r⟩ => congrArg (· + 1) r.len
  | [], _ :: _, h => h.elim
  | _ :: _, [], h => h.elim
theorem VlL.get {H : Hp} : ∀ {vs : List V} {es : List (Str × Nat)}, VlL H vs es → ∀ (i : Nat) (v : V) (e : Str × Nat), vs[i]? = some v → es[i]? = some e → ∃ T, v = .ref T ∧ H T = some (.tup [.str e.1, .int (e.2 : Nat)])
  | _ :: _, _ :: _, ⟨a, _⟩, 0, v, e, h1, h2 => by
    obtain rfl := Option.some.inj h1
    obtain rfl := Option.some.inj h2
    exact a
  | _ :: _, _ :: _, ⟨_, r⟩, i + 1, v, e, h1, h2 => r.get i v e h1 h2
  | [], [], _, i, v, e, h1, _ => by cases h1
  | [], _ :: _, h, _, _, _, _, _ => h.elim
  | _ :: _, [], h, _, _, _, _, _ => h.elim
def valF (x : RX) (i p : Nat) : List (Str × Nat) := (x.es i p).map fun e => (cutE x.t p e (x.jn i).length, e)
theorem es_asc (x : RX) (i p : Nat) : (x.es i p).Pairwise (· < ·) := by
  unfold RX.es endsOf
  cases e : (x.hp i).find? fun e => decide (e.1 = p) with
  | none => exact List.Pairwise.nil
  | some en =>
    have h := List.mem_of_find?_eq_some e
    unfold RX.hp hopF at h
    obtain ⟨y, _, rfl⟩ := List.mem_map.mp h
    exact ((posW_asc _).sublist (List.drop_sublist _ _)).sublist (List.take_sublist _ _)
theorem es_wide {x : RX} (ok : RxOk x) {i p : Nat} (hi : i < x.ds.length) : ∀ e ∈ x.es i p, (x.jn i).length ≤ e := fun e he => by
  unfold RX.es endsOf at he
  cases q : (x.hp i).find? fun e => decide (e.1 = p) with
  | none => rw [q] at he; cases he
  | some en =>
    rw [q] at he
    exact ok.ev i hi en (List.mem_of_find?_eq_some q) e he
theorem es_le {x : RX} (ok : RxOk x) {i p : Nat} (hi : i < x.ds.length) : ∀ e ∈ x.es i p, e ≤ 4000 := fun e he => by
  unfold RX.es endsOf at he
  cases q : (x.hp i).find? fun e => decide (e.1 = p) with
  | none => rw [q] at he; cases he
  | some en =>
    rw [q] at he
    have h := List.mem_of_find?_eq_some q
    unfold RX.hp hopF at h
    obtain ⟨y, _, rfl⟩ := List.mem_map.mp h
    have h2 := (List.drop_sublist _ _).subset ((List.take_sublist _ _).subset he)
    have h3 := List.mem_range.mp (List.mem_filter.mp h2).1
    have h4 : x.wss.getD (i + 1) [] ∈ x.wss := by
      rw [List.getD_eq_getElem?_getD, List.getElem?_eq_getElem (by rw [ok.wl]; omega)]
      exact List.getElem_mem _
    have := ok.wv _ h4
    omega
theorem es_len {x : RX} (ok : RxOk x) {i p : Nat} (hi : i < x.ds.length) : (x.es i p).length ≤ 4001 := by
  have h := nodup_len (x.es i p) (List.range 4001) ((es_asc x i p).imp fun h => Nat.ne_of_lt h) fun e he => List.mem_range.mpr (by have := es_le ok hi e he; omega)
  rw [List.length_range] at h
  exact h
theorem lWord_mm {s l m : V} (x : Str) (h : x ≠ "signs" ∧ x ≠ "least" ∧ x ≠ "most") : (fWord s l m).lookup x = none := by
  unfold fWord
  rw [lookup_putF, if_neg h.2.2, lookup_putF, if_neg h.2.1, lookup_putF, if_neg h.1]
  rfl
def spVf : Sp := fun vs H Q _ => ∃ (a : Addr) (t : Str), vs = [.ref a, .str t] ∧ Q (.str t) H
def spPb : Sp := fun vs H Q _ => ∃ (a : Addr) (t u : Str), vs = [.ref a, .str t, .str u] ∧ Q (.bl (decide (t.cps.toList < u.cps.toList))) H
def spVa (K : Frag) : Sp := fun vs H Q _ => ∃ (R : Addr) (x : RX) (i p : Nat) (Z : Addr → Bool), vs = [.ref R, .int (i : Nat), .int (p : Nat)] ∧ RxOk x ∧ RdS K H R x ∧ Alloc Z H ∧ EnsAt (hid Z H) x ∧ i < x.ds.length ∧
  ∀ L vs H', H L = none → But x.E H H' → EnsAt (hid Z H') x → H' L = some (.lst vs) → VlL H' vs (valF x i p) → Q (.ref L) H'
structure S6 (P : Program) (w : World) (K : Frag) (mg : Str → Option Value) (base : Heap) : Prop extends S5 P w K mg base where
  mHe : MetAt P w K mg base CX0 2 (RD K) "hopeful_ends" ["self", "index"] (spHe K)
  mVf : MetAt P w K mg base CX0 1 (ca K 0) "value_for" ["self", "text"] spVf
  mPb : MetAt P w K mg base CX0 1 (ca K 0) "puts_before" ["self", "one", "other"] spPb

section
variable {P : Program} {w : World} {K : Frag} {mg : Str → Option Value} {base : Heap} {f : Addr} {fd : FuncData}

abbrev s_Word_value_for : Stmt := inClass (top 25) 5
theorem sc_Word_value_for : FnScope ["self", "text"] ["self", "text"] (defScope s_Word_value_for) := ⟨rfl, rfl, rfl, by decide +kernel, rfl, by decide +kernel, by decide +kernel⟩

theorem ok_Word_value_for (F : FunD K "value_for" "Word.value_for" (defArgs s_Word_value_for) (defBody s_Word_value_for) (defScope s_Word_value_for) [] [] f fd) (G : S4 P w K mg base) : FnOk P w K mg base CX0 1 f fd ["self", "text"] spVf := by
  refine F.ok (CX := CX0) sc_Word_value_for (fun vs H Q E h => ?_) (fun cdv A outer s H vs Q E hr h => ?_)
  · obtain ⟨_, _, rfl, _⟩ := h
    rfl
  · refine ⟨_, PSs.nox (pss_one (ps_ret (pv 1))), ?_⟩
    obtain ⟨a, t, rfl, q⟩ := h
    exact ⟨_, rfl, q⟩

abbrev s_Word_puts_before : Stmt := inClass (top 25) 6
theorem sc_Word_puts_before : FnScope ["self", "one", "other"] ["self", "one", "other"] (defScope s_Word_puts_before) := ⟨rfl, rfl, rfl, by decide +kernel, rfl, by decide +kernel, by decide +kernel⟩

theorem ok_Word_puts_before (F : FunD K "puts_before" "Word.puts_before" (defArgs s_Word_puts_before) (defBody s_Word_puts_before) (defScope s_Word_puts_before) [] [] f fd) (G : S4 P w K mg base) : FnOk P w K mg base CX0 1 f fd ["self", "one", "other"] spPb := by
  refine F.ok (CX := CX0) sc_Word_puts_before (fun vs H Q E h => ?_) (fun cdv A outer s H vs Q E hr h => ?_)
  · obtain ⟨_, _, _, rfl, _⟩ := h
    rfl
  · refine ⟨_, PSs.nox (pss_one (ps_ret (pe_cmpR op_lt_str (pv 1) (pv 2) (nomark _)))), ?_⟩
    obtain ⟨a, t, u, rfl, q⟩ := h
    exact ⟨_, rfl, _, rfl, _, _, rfl, rfl, q⟩

abbrev s_Reading_values_at : Stmt := inClass (top 53) 6
theorem sc_Reading_values_at : FnScope ["self", "index", "place", "field", "wide", "found", "end", "value", "at"] ["self", "index", "place"] (defScope s_Reading_values_at) := ⟨rfl, rfl, rfl, by decide +kernel, rfl, by decide +kernel, by decide +kernel⟩

theorem ok_Reading_values_at (F : FunD K "values_at" "Reading.values_at" (defArgs s_Reading_values_at) (defBody s_Reading_values_at) (defScope s_Reading_values_at) [] [] f fd) (G : S6 P w K mg base) : FnOk P w K mg base CX0 3 f fd ["self", "index", "place"] (spVa K) := by
  refine F.ok (CX := CX0) sc_Reading_values_at (fun vs H Q E h => ?_) (fun cdv A outer s H vs Q E hr h => ?_)
  · obtain ⟨_, _, _, _, _, rfl, _⟩ := h
    rfl
  · refine ⟨_, PSs.nox (C8.pss_cut (ps_if (pt_cmp (pc_dnotin (hu_of hr) (pv 1) (pe_fld (pv 0) rfl)))
      (pss_one (ps_dput (hu_of hr) (pe_fld (pv 0) rfl) (pv 1) (pe_metS G.mHe (hr.mono (by decide)) (pv 0) (E := fun _ => E0) pass0A (pa_cons (pv 1) pa_nil)) rfl))
      pss_nil)
    (C8.pss_cut (ps_set (i := 3) sc_Reading_values_at.nd rfl (Or.inl rfl) (pe_ix ix_tup (pe_fld (pe_fld (pv 0) rfl) rfl) (pv 1) (fun _ _ => rfl)))
    (C8.pss_cut (ps_set (i := 4) sc_Reading_values_at.nd rfl (Or.inl rfl) (pe_callB call_len_str (by rfl) G.len (by decide +kernel) (pa_cons (pe_ix ix_tup (pe_fn G.joints_behind (hr.mono (by decide)) pass0 (by rfl) (pa_cons (pe_fld (pv 0) rfl) pa_nil)) (pv 1) (fun _ _ => rfl)) pa_nil)))
    (C8.pss_cut (ps_set (i := 5) sc_Reading_values_at.nd rfl (Or.inl rfl) (pe_lstS pa_nil))
    (C8.pss_cut (ps_for PassesOwn.never rfl (pi_list (pe_dget2 (hu_of hr) (pe_dget (hu_of hr) (pe_fld (pv 0) rfl) (pv 1) (fun _ _ => rfl)) (pv 2) (pe_lstS pa_nil) ⟨rfl, rfl, rfl, rfl⟩)) (pg_name (i := 6) sc_Reading_values_at.nd rfl (Or.inl rfl))
      (C8.pss_cut (ps_set (i := 7) sc_Reading_values_at.nd rfl (Or.inl rfl) (pe_metS G.mVf (hr.mono (by decide)) (pv 3) (E := fun _ => E0) pass0A (pa_cons (pe_slice sl_str (pe_fld (pv 0) rfl) (po_some (pv 2)) (po_some (pe_op op_sub (pv 6) (pv 4)))) pa_nil)))
      (C8.pss_cut (ps_set (i := 8) sc_Reading_values_at.nd rfl (Or.inl rfl) (pe_callB call_len_seq (by rfl) G.len (by decide +kernel) (pa_cons (pv 5) pa_nil)))
      (C8.pss_cut (ps_while PassesOwn.never (PW.pt (pw_and (pt_cmpR op_gt (pv 8) pe_int (nomark _)) (pw_and1 (pt_val (pe_metS G.mPb (hr.mono (by decide)) (pv 3) (E := fun _ => E0) pass0A (pa_cons (pv 7) (pa_cons (pe_ix ix_tup (pe_ix ix_list (pv 5) (pe_op op_sub (pv 8) pe_int) (fun _ _ => rfl)) pe_int (fun _ _ => rfl)) pa_nil)))))))
        (pss_one (ps_aug (i := 8) sc_Reading_values_at.nd rfl (Or.inl rfl) pe_int ip_sub)))
      (pss_one (ps_expr (pe_bm PySem.F.plainAttrs_list PySem.F.slot_list_insert PySem.F.type_list_insert mt_insert (pv 5) (pa_cons (pv 8) (pa_cons (pe_tupS (pa_cons (pv 7) (pa_cons (pv 6) pa_nil))) pa_nil)))))))))
    (pss_one (ps_ret (pv 5)))))))), ?_⟩
    obtain ⟨R, x, i, p, Z, rfl, ok, hR, hZ, hE, hi, q⟩ := h
    have C := G.cRD
    obtain ⟨kvs0, hEo, hNd, hEm⟩ := id hE
    obtain ⟨hZE, hE0⟩ := hid_some.mp hEo
    have hxl := ok.xl
    have hwl := ok.wl
    -- the ends of the field
    refine ⟨fun σ J => ∃ (v3 v4 v5 v6 v7 v8 : Option V), σ = [some (.ref R), some (.int (i : Nat)), some (.int (p : Nat)), v3, v4, v5, v6, v7, v8] ∧ But x.E H J ∧ RdS K J R x ∧ EnsAt (hid Z J) x ∧ ∃ (kvs : List (Key × V)) (D : Addr) (dk : List (Key × V)), J x.E = some (.dK kvs) ∧ valV kvs (Sum.inl ((i : Nat) : Int)) = some (.ref D) ∧ J D = some (.dK dk) ∧ EdL J dk (x.hp i), ?_, ?_⟩
    · refine ⟨_, rfl, _, rfl, R, _, x.dx, _, _, rfl, hR.ob, C.cl, C.no _ (by decide +kernel), ok.fE, x.E, _, rfl, DGet.k (k := Sum.inl ((i : Nat) : Int)) hE0, _, rfl, ?_⟩
      obtain ⟨hLay, ⟨ls, hsp, hSp⟩, us, hwa, hWs⟩ := hR.fix
      have few := hLay.ok.few
      cases hk : valV kvs0 (Sum.inl ((i : Nat) : Int)) with
      | some v =>
        refine iteF ⟨_, _, _, _, _, _, rfl, But.refl _ _, hR, hE, ?_⟩
        obtain ⟨kv, hm, e1, e2⟩ := val_mem hk
        obtain ⟨i', D, dk, h1, h2, h3, h4, h5, h6⟩ := hEm kv hm
        obtain rfl : i' = i := by
          rw [e1] at h1
          injection h1 with h1
          exact_mod_cast h1.symm
        exact ⟨kvs0, D, dk, hE0, by rw [hk, ← e2, h2], (hid_some.mp h5).2, h6.imp fun b xs e => (hid_some.mp e).2⟩
      | none =>
        have gx : x.xss[i]? = some (x.xss.getD i []) := by rw [List.getD_eq_getElem?_getD, List.getElem?_eq_getElem (by omega)]; rfl
        have gw : x.wss[i + 1]? = some (x.wss.getD (i + 1) []) := by rw [List.getD_eq_getElem?_getD, List.getElem?_eq_getElem (by omega)]; rfl
        obtain ⟨x1, x2⟩ := ok.xv _ (List.mem_of_getElem? gx)
        refine iteT ⟨_, rfl, R, x.dx, x.fs, rfl, hR.ob, ok.no _ (by decide), _, rfl, R, x.dx, x.sp, x.wa, x.fs, ls, us, x.xss, x.wss, i, _, _, x.t.length, rfl, hR.ob, ok.fS, ok.fW, hsp, hSp, hwa, hWs, gx, gw, ok.tl, ok.wv _ (List.mem_of_getElem? gw), x1, x2, fun D dk H' hD S eD hdl => ?_⟩
        have hl0 : kvs0.length ≤ 30 := by
          have := nodup_len (kvs0.map (·.1)) ((List.range x.ds.length).map fun i => (Sum.inl ((i : Nat) : Int) : Key)) hNd fun k hk => by
            obtain ⟨kv, hm, rfl⟩ := List.mem_map.mp hk
            obtain ⟨i', D', dk', h1, _, h3, _⟩ := hEm kv hm
            exact List.mem_map.mpr ⟨i', List.mem_range.mpr h3, h1.symm⟩
          rw [List.length_map, List.length_map, List.length_range] at this
          omega
        have hDE : D ≠ x.E := fun z => by rw [z, hE0] at hD; cases hD
        have hRE := hR.nE
        have eE' := S _ _ hE0
        refine ⟨_, rfl, R, _, x.dx, _, _, rfl, S _ _ hR.ob, C.cl, C.no _ (by decide +kernel), ok.fE, _, rfl, x.E, _, rfl, DPut.k (k := Sum.inl ((i : Nat) : Int)) eE' (by rw [sizeLine_eq]; omega), ?_⟩
        rw [putK_new hk]
        have B : But x.E H (upd H' x.E (.dK (kvs0 ++ [(Sum.inl ((i : Nat) : Int), .ref D)]))) := fun c o n e => by
          rw [upd_ne n]
          exact S _ _ e
        have ed : EdL (hid Z (upd H' x.E (.dK (kvs0 ++ [(Sum.inl ((i : Nat) : Int), .ref D)])))) dk (x.hp i) := hdl.imp fun b xs e => by
          obtain ⟨e1, e2⟩ := nw_some.mp e
          refine hid_some.mpr ⟨hZ.fr e1, ?_⟩
          rw [upd_ne (fun z => by rw [z, hE0] at e1; cases e1)]
          exact e2
        have eD2 : upd H' x.E (.dK (kvs0 ++ [(Sum.inl ((i : Nat) : Int), .ref D)])) D = some (.dK dk) := by rw [upd_ne hDE]; exact eD
        refine ⟨_, _, _, _, _, _, rfl, B, hR.but (But2.of B), ⟨kvs0 ++ [(Sum.inl ((i : Nat) : Int), .ref D)], hid_some.mpr ⟨hZE, upd_same⟩, ?_, ?_⟩, _, D, dk, upd_same, ?_, eD2, ed.imp fun b xs e => (hid_some.mp e).2⟩
        · rw [List.map_append]
          refine List.nodup_append.mpr ⟨hNd, List.nodup_cons.mpr ⟨by simp, List.nodup_nil⟩, fun a ha b hb z => ?_⟩
          rw [List.mem_singleton.mp hb] at z
          replace z : a = (Sum.inl ((i : Nat) : Int) : Key) := z
          exact val_none hk (by rw [← z]; exact ha)
        · intro kv hkv
          rcases List.mem_append.mp hkv with h | h
          · obtain ⟨i', D', dk', h1, h2, h3, h4, h5, h6⟩ := hEm kv h
            exact ⟨i', D', dk', h1, h2, h3, h4, hid_but B _ _ h4 h5, h6.imp fun b xs e => hid_but B _ _ (fun z => by rw [z, hEo] at e; cases e) e⟩
          · rw [List.mem_singleton.mp h]
            exact ⟨i, D, dk, rfl, rfl, hi, hDE, hid_some.mpr ⟨hZ.fr hD, eD2⟩, ed⟩
        · rw [valV_snoc _ _ _ _ hk, if_pos rfl]
    rintro σ J1 ⟨v3, v4, v5, v6, v7, v8, rfl, B1, R1, E1, kvs, D, dk, hJE, hkD, hJD, hdl⟩
    obtain ⟨hLay, _, _⟩ := R1.fix
    obtain ⟨⟨dy, t1, t2, ys, hL, h1, hF, h2⟩, lok⟩ := id hLay
    have CL := G.cLayout
    have hlen := lok.len
    have few := lok.few
    have hyl := hF.1
    obtain ⟨yv, hy⟩ : ∃ v, ys[i]? = some v := ⟨_, List.getElem?_eq_getElem (by omega)⟩
    obtain ⟨y, d, rfl, hdi, hFy⟩ := hF.get hy
    obtain rfl := ok.ds d (List.mem_of_getElem? hdi)
    obtain ⟨dw, hyo⟩ := hFy.1
    refine ⟨fun σ J => σ = [some (.ref R), some (.int (i : Nat)), some (.int (p : Nat)), some (.ref y), v4, v5, v6, v7, v8] ∧ J1 = J, ?_, ?_⟩
    · exact ⟨_, rfl, R, _, x.dx, _, _, rfl, R1.ob, C.cl, C.no _ (by decide +kernel), ok.fL, x.L, _, dy, _, _, rfl, hL, CL.cl, CL.no _ (by decide +kernel), lLayout_fields, _, rfl, t1, _, _, _, rfl, rfl, h1, atI_nat (j := i) hy, rfl, rfl⟩
    rintro σ _ ⟨rfl, rfl⟩
    have hj : ((x.js ++ ([""] : List Str)).map V.str)[i]? = some (.str (x.jn i)) := by
      rw [List.getElem?_map]
      unfold RX.jn
      rw [List.getD_eq_getElem?_getD, List.getElem?_eq_getElem (by rw [List.length_append]; show i < x.js.length + 1; omega)]
      rfl
    have hjl : (x.jn i).length ≤ 1 := by
      have hm : x.jn i ∈ x.js ++ ([""] : List Str) := by
        unfold RX.jn
        rw [List.getD_eq_getElem?_getD, List.getElem?_eq_getElem (by rw [List.length_append]; show i < x.js.length + 1; omega)]
        exact List.getElem_mem _
      have : ∀ j ∈ JN ++ ([""] : List Str), j.length ≤ 1 := by decide +kernel
      refine this _ ?_
      rcases List.mem_append.mp hm with z | z
      · exact List.mem_append_left _ (lok.jn _ z)
      · exact List.mem_append_right _ z
    refine ⟨fun σ J => σ = [some (.ref R), some (.int (i : Nat)), some (.int (p : Nat)), some (.ref y), some (.int ((x.jn i).length : Nat)), v5, v6, v7, v8] ∧ Same J1 J, ?_, ?_⟩
    · exact ⟨_, rfl, R, _, x.dx, _, _, rfl, R1.ob, C.cl, C.no _ (by decide +kernel), ok.fL, x.L, x.ds, x.js, rfl, hLay, fun jt J3 S3 e3 => ⟨_, rfl, jt, _, _, _, rfl, rfl, e3, atI_nat (j := i) hj, _, rfl, by rw [sizeLine_eq]; omega, rfl, S3⟩⟩
    rintro σ J2 ⟨rfl, S2⟩
    refine ⟨fun σ J => ∃ fl, σ = [some (.ref R), some (.int (i : Nat)), some (.int (p : Nat)), some (.ref y), some (.int ((x.jn i).length : Nat)), some (.ref fl), v6, v7, v8] ∧ Same J2 J ∧ J2 fl = none ∧ J fl = some (.lst []), ?_, ?_⟩
    · exact ⟨by show 0 ≤ 1000; decide, fun fl J hfl S e => ⟨fl, rfl, S, hfl, e⟩⟩
    rintro σ J3 ⟨fl, rfl, S3, hfl, eFl⟩
    have S13 := S2.trans S3
    refine ⟨fun σ J => ∃ (v6 v7 v8 : Option V) (vs : List V), σ = [some (.ref R), some (.int (i : Nat)), some (.int (p : Nat)), some (.ref y), some (.int ((x.jn i).length : Nat)), some (.ref fl), v6, v7, v8] ∧ Same J2 J ∧ J fl = some (.lst vs) ∧ VlL J vs (valF x i p), ?_, ?_⟩
    · refine ⟨_, rfl, R, _, x.dx, _, _, rfl, S13 _ _ R1.ob, C.cl, C.no _ (by decide +kernel), ok.fE, _, rfl, x.E, _, rfl, hkD ▸ DGet.k (k := Sum.inl ((i : Nat) : Int)) (S13 _ _ hJE), D, rfl, .inl ⟨_, .inl (S13 _ _ hJD)⟩, _, rfl, by show 0 ≤ 1000; decide, fun p0 J4 hp0 S4 e4 => ?_⟩
      have S24 := S3.trans S4
      have eFl4 := S4 _ _ eFl
      have hD4 := S4 _ _ (S13 _ _ hJD)
      have hg : ∃ a, (valV dk (Sum.inl ((p : Nat) : Int))).getD (.ref p0) = .ref a ∧ J4 a = some (.lst ((x.es i p).map fun q => V.int (q : Nat))) ∧ a ≠ fl := by
        unfold RX.es
        rcases hdl.get p with ⟨z1, z2⟩ | ⟨es', b, z1, z2, z3⟩
        · rw [z1, z2]
          exact ⟨p0, rfl, e4, fun z => by rw [z, eFl] at hp0; cases hp0⟩
        · rw [z1, z2]
          exact ⟨b, rfl, S4 _ _ (S13 _ _ z3), fun z => by rw [← z, S2 _ _ z3] at hfl; cases hfl⟩
      obtain ⟨a, ea, hJa, naf⟩ := hg
      refine ⟨_, DGet.k (k := Sum.inl ((p : Nat) : Int)) hD4, ?_⟩
      rw [ea]
      have hvl : (valF x i p).length = (x.es i p).length := by unfold valF; rw [List.length_map]
      refine ⟨a, rfl, ⟨_, SqL.of hJa⟩, for_list (K := K) (a := a) (xs := (x.es i p).map fun q => V.int (q : Nat)) (fun n σ J => ∃ (v6 v7 v8 : Option V) (vs : List V), σ = [some (.ref R), some (.int (i : Nat)), some (.int (p : Nat)), some (.ref y), some (.int ((x.jn i).length : Nat)), some (.ref fl), v6, v7, v8] ∧ Same J2 J ∧ J a = some (.lst ((x.es i p).map fun q => V.int (q : Nat))) ∧ J fl = some (.lst vs) ∧ VlL J vs ((valF x i p).take n)) ?_ ?_ ?_ ?_⟩
      · exact ⟨_, _, _, [], rfl, S24, hJa, eFl4, True.intro⟩
      · rintro n σ J hn ⟨v6, v7, v8, vs, rfl, SJ, eA, eF, hV⟩
        exact SqL.of eA
      · rintro n v σ J hv ⟨v6, v7, v8, vs, rfl, SJ, eA, eF, hV⟩
        rw [List.getElem?_map] at hv
        obtain ⟨e, he, rfl⟩ := Option.map_eq_some_iff.mp hv
        have hn := (List.getElem?_eq_some_iff.mp he).1
        have hew := es_wide ok hi e (List.mem_of_getElem? he)
        have hel := es_len (p := p) ok hi
        have hcl := cutS_length x.t (some (p : Nat)) (some ((e : Int) - ((x.jn i).length : Nat)))
        have htl := ok.tl
        have S1J := S2.trans SJ
        have hyJ := S1J _ _ hyo
        have hvn : (valF x i p)[n]? = some (cutE x.t p e (x.jn i).length, e) := by
          unfold valF
          rw [List.getElem?_map, he]
          rfl
        have tk : (valF x i p).take (n + 1) = (valF x i p).take n ++ [(cutE x.t p e (x.jn i).length, e)] := by rw [List.take_add_one, hvn]; rfl
        have hvsl := hV.len
        rw [List.length_take, Nat.min_eq_left (by omega)] at hvsl
        refine ⟨fun σ J' => σ = [some (.ref R), some (.int (i : Nat)), some (.int (p : Nat)), some (.ref y), some (.int ((x.jn i).length : Nat)), some (.ref fl), some (.int (e : Nat)), some (.str (cutE x.t p e (x.jn i).length)), v8] ∧ J = J', ?_, ?_⟩
        · refine ⟨_, rfl, y, dw, _, rfl, hyJ, lWord_mm _ (by decide +kernel), ?_⟩
          refine ⟨_, rfl, R, _, x.dx, _, _, rfl, S1J _ _ R1.ob, C.cl, C.no _ (by decide +kernel), ok.fT, _, rfl, _, rfl, _, rfl, _, rfl, _, _, rfl, rfl, _, rfl, x.t, rfl, by rw [sizeLine_eq]; omega, y, _, rfl, rfl, rfl⟩
        rintro σ J' ⟨rfl, rfl⟩
        refine ⟨fun σ J' => σ = [some (.ref R), some (.int (i : Nat)), some (.int (p : Nat)), some (.ref y), some (.int ((x.jn i).length : Nat)), some (.ref fl), some (.int (e : Nat)), some (.str (cutE x.t p e (x.jn i).length)), some (.int (n : Nat))] ∧ J = J', ?_, ?_⟩
        · exact ⟨_, rfl, fl, _, rfl, .inl (SqL.of eF), by rw [hvsl]; rfl, rfl⟩
        rintro σ J' ⟨rfl, rfl⟩
        refine ⟨fun σ J' => σ = [some (.ref R), some (.int (i : Nat)), some (.int (p : Nat)), some (.ref y), some (.int ((x.jn i).length : Nat)), some (.ref fl), some (.int (e : Nat)), some (.str (cutE x.t p e (x.jn i).length)), some (.int (n : Nat))] ∧ J = J', ?_, ?_⟩
        · refine ⟨fun _ σ J' => σ = [some (.ref R), some (.int (i : Nat)), some (.int (p : Nat)), some (.ref y), some (.int ((x.jn i).length : Nat)), some (.ref fl), some (.int (e : Nat)), some (.str (cutE x.t p e (x.jn i).length)), some (.int (n : Nat))] ∧ J = J', ⟨0, rfl, rfl⟩, ?_⟩
          rintro m σ J' ⟨rfl, rfl⟩
          refine ⟨_, rfl, _, _, rfl, rfl, _, rfl, ?_⟩
          refine ite2 (fun c => ?_) (fun c => ?_)
          · have hn0 : 0 < n := by have := of_decide_eq_true c; omega
            obtain ⟨e', he'⟩ : ∃ e', (x.es i p)[n - 1]? = some e' := ⟨_, List.getElem?_eq_getElem (by omega)⟩
            obtain ⟨v', hv'⟩ : ∃ v', vs[n - 1]? = some v' := ⟨_, List.getElem?_eq_getElem (by omega)⟩
            have hvv : ((valF x i p).take n)[n - 1]? = some (cutE x.t p e' (x.jn i).length, e') := by
              rw [List.getElem?_take_of_lt (by omega)]
              unfold valF
              rw [List.getElem?_map, he']
              rfl
            obtain ⟨T', rfl, hT'⟩ := hV.get _ _ _ hv' hvv
            have hle : e' ≤ e := by
              obtain ⟨l1, r1⟩ := List.getElem?_eq_some_iff.mp he'
              obtain ⟨l2, r2⟩ := List.getElem?_eq_some_iff.mp he
              have := List.pairwise_iff_getElem.mp (es_asc x i p) (n - 1) n l1 l2 (by omega)
              rw [r1, r2] at this
              omega
            have hnl := cutE_not_lt x.t (p := p) (es_wide ok hi e' (List.mem_of_getElem? he')) hle
            refine ⟨_, rfl, y, dw, _, rfl, hyJ, lWord_mm _ (by decide +kernel), _, rfl, _, rfl, _, rfl, _, _, rfl, rfl, fl, _, _, _, rfl, rfl, SqL.of eF, (by rw [show ((n : Nat) : Int) - 1 = ((n - 1 : Nat) : Int) by omega]; exact atI_nat (j := n - 1) hv'), ?_⟩
            refine ⟨T', _, _, _, rfl, rfl, SqT.of hT', atI_nat (j := 0) rfl, y, _, _, rfl, _, rfl, ?_⟩
            rw [decide_eq_false hnl]
            exact ⟨rfl, rfl⟩
          · exact ⟨rfl, rfl⟩
        rintro σ J' ⟨rfl, rfl⟩
        refine ⟨_, rfl, .inl ⟨rfl, _, SqL.of eF⟩, _, rfl, _, rfl, _, rfl, by show 2 ≤ 1000; decide, fun T J5 hT S5 eT => ?_⟩
        refine ⟨fl, _, _, _, rfl, rfl, S5 _ _ eF, by rw [sizeLine_eq]; omega, by omega, by omega, ?_⟩
        rw [Int.toNat_natCast, show vs.take n = vs by rw [← hvsl, List.take_length], show vs.drop n = [] by rw [← hvsl, List.drop_length], List.append_nil]
        refine ⟨_, _, _, _, rfl, same_put (SJ.trans S5) hfl, ?_, upd_same, ?_⟩
        · rw [upd_ne naf]
          exact S5 _ _ eA
        · rw [tk]
          refine VlL.snoc ⟨T, rfl, ?_⟩ (hV.imp fun b xs z => ?_)
          · rw [upd_ne (ne_of eT (S5 _ _ eF) (fun z => by cases z))]
            exact eT
          · rw [upd_ne (ne_of (S5 _ _ z) (S5 _ _ eF) (fun z => by cases z))]
            exact S5 _ _ z
      · rintro σ J ⟨v6, v7, v8, vs, rfl, SJ, eA, eF, hV⟩
        rw [List.length_map, ← hvl, List.take_length] at hV
        exact ⟨_, _, _, vs, rfl, SJ, eF, hV⟩
    rintro σ J4 ⟨v6, v7, v8, vs, rfl, S4, eFl4, hV⟩
    have S14 := S2.trans S4
    exact ⟨_, rfl, q fl vs J4 (by
      cases e : H fl with
      | none => rfl
      | some o =>
        exfalso
        by_cases z : fl = x.E
        · rw [z, S2 _ _ hJE] at hfl
          cases hfl
        · rw [S2 _ _ (B1 _ _ z e)] at hfl
          cases hfl) (B1.trans (But.of_same S14)) (E1.same (hid_same S14)) eFl4 hV⟩

end
end L2.K22

set_option Elab.async false
set_option linter.all false
set_option maxRecDepth 100000
set_option maxHeartbeats 4000000
/-! a comprehension with two for's: the outer walk, the inner walk. -/
namespace L2.Jk
open PySem PySem.W PySem.Spec PySem.Calls PyProof.Rows L2
theorem lc2_out {J : It} {n : Nat} {G : Hp → Prop} {Y : Nat → Hp → V → Hp → Prop} (w : Walk J n G Y) {g : TG} {tt : TT} {body : (Hp → Prop) → St → Hp → Prop} {vs : List Nat} {σ : St} {H1 : Hp} {D : Addr} {Qd : Hp → Prop} (Pv : Nat → Hp → Prop) (h0 : Pv 0 (upd H1 D (.lst []))) (hG : ∀ i H, i ≤ n → Pv i H → G H)
    (hs : ∀ i x H H', i < n → Pv i H → Y i H x H' → g x (wipe σ vs) H' fun σ2 H2 => wipe σ2 vs = wipe σ vs ∧ tt σ2 H2 fun b H3 => if b = true then body (Pv (i + 1)) σ2 H3 else Pv (i + 1) H3) (hd : ∀ H, Pv n H → Qd H) :
    ∃ W : Nat → Nat → Hp → Prop, (∃ m, W 0 m (upd H1 D (.lst []))) ∧ ∀ i m H, W i m H →
      (J.stop i H ∧ Qd H) ∨ (J.go i H ∧ ∃ Nx : Hp → Prop, (∀ H', Nx H' → ∃ m', m' < m ∧ W (i + 1) m' H') ∧ ∀ x H', J.yld i H x H' → g x (wipe σ vs) H' fun σ2 H2 => wipe σ2 vs = wipe σ vs ∧ tt σ2 H2 fun b H3 =>
        if b = true then body Nx σ2 H3 else Nx H3) := by
  refine ⟨fun i m H => m = n - i ∧ i ≤ n ∧ Pv i H, ⟨n, by simp, Nat.zero_le _, h0⟩, ?_⟩
  rintro i m H ⟨rfl, hi, p⟩
  have q := hG i H hi p
  by_cases hlt : i < n
  · exact .inr ⟨w.goes i H hlt q, Pv (i + 1), fun H' p' => ⟨n - (i + 1), by omega, rfl, hlt, p'⟩, fun x H' y => hs i x H H' hlt p (w.yields i H x H' hlt q y)⟩
  · have e : i = n := by omega
    subst e
    exact .inl ⟨w.stops H q, hd H p⟩
theorem lc2_in {J : It} {n : Nat} {G : Hp → Prop} {Y : Nat → Hp → V → Hp → Prop} (w : Walk J n G Y) {g : TG} {tt : TT} {te : TE} {vs : List Nat} {σ : St} {H1 : Hp} {D : Addr} {Nx : Hp → Prop} (Pv : Nat → Hp → Prop) (h0 : Pv 0 H1) (hG : ∀ i H, i ≤ n → Pv i H → G H)
    (hs : ∀ i x H H', i < n → Pv i H → Y i H x H' → g x (wipe σ vs) H' fun σ2 H2 => wipe σ2 vs = wipe σ vs ∧ tt σ2 H2 fun b H3 =>
      if b = true then te σ2 H3 fun y H4 => ∃ acc, H4 D = some (.lst acc) ∧ acc.length < sizeLine ∧ Pv (i + 1) (upd H4 D (.lst (acc ++ [y]))) else Pv (i + 1) H3) (hd : ∀ H, Pv n H → Nx H) :
    ∃ W : Nat → Nat → Hp → Prop, (∃ m, W 0 m H1) ∧ ∀ i m H, W i m H →
      (J.stop i H ∧ Nx H) ∨ (J.go i H ∧ ∃ Nx1 : Hp → Prop, (∀ H', Nx1 H' → ∃ m', m' < m ∧ W (i + 1) m' H') ∧ ∀ x H', J.yld i H x H' → g x (wipe σ vs) H' fun σ2 H2 => wipe σ2 vs = wipe σ vs ∧ tt σ2 H2 fun b H3 =>
        if b = true then te σ2 H3 fun y H4 => ∃ acc, H4 D = some (.lst acc) ∧ acc.length < sizeLine ∧ Nx1 (upd H4 D (.lst (acc ++ [y]))) else Nx1 H3) := by
  refine ⟨fun i m H => m = n - i ∧ i ≤ n ∧ Pv i H, ⟨n, by simp, Nat.zero_le _, h0⟩, ?_⟩
  rintro i m H ⟨rfl, hi, p⟩
  have q := hG i H hi p
  by_cases hlt : i < n
  · exact .inr ⟨w.goes i H hlt q, Pv (i + 1), fun H' p' => ⟨n - (i + 1), by omega, rfl, hlt, p'⟩, fun x H' y => hs i x H H' hlt p (w.yields i H x H' hlt q y)⟩
  · have e : i = n := by omega
    subst e
    exact .inl ⟨w.stops H q, hd H p⟩
end L2.Jk

set_option Elab.async false
set_option linter.all false
set_option maxRecDepth 100000
set_option maxHeartbeats 4000000
/-! The rows from a field on. -/
namespace L2.K22
open PySem PySem.W PySem.Spec PySem.Calls PyProof.Rows L2.Jk
theorem pi_listK {X : Cx} {K : Frag} {tg l : Expr} {tl : TE} (h : X.K = K) (hl : PE X l tl) : PI X tg l (iList K tl) := by
  subst h
  exact pi_list hl
theorem op_catAK {X : Cx} {K : Frag} (h : X.K = K) : OpR X (binaryOp .Add) (rCatA K) := by
  subst h
  exact op_catA
/-- rows, one after another -/
def RwL (H : Hp) : List V → List (List Str) → Prop
  | [], [] => True
  | v :: vs, r :: rs => (∃ T, v = .ref T ∧ H T = some (.tup (r.map V.str))) ∧ RwL H vs rs
  | _, _ => False
theorem RwL.imp {H H' : Hp} (k : ∀ b xs, H b = some (.tup xs) → H' b = some (.tup xs)) : ∀ {vs : List V} {es : List (List Str)}, RwL H vs es → RwL H' vs es
  | [], [], _ => True.intro
  | _ :: _, _ :: _, ⟨⟨T, a, b⟩, r⟩ => ⟨⟨T, a, k _ _ b⟩, r.imp k⟩
  | [], _ :: _, h => h.elim
  | _ :: _, [], h => h.elim
theorem RwL.snoc {H : Hp} {v : V} {e : List Str} (k : ∃ T, v = .ref T ∧ H T = some (.tup (e.map V.str))) : ∀ {vs : List V} {es : List (List Str)}, RwL H vs es → RwL H (vs ++ [v]) (es ++ [e])
  | [], [], _ => ⟨k, True.intro⟩
  | _ :: _, _ :: _, ⟨a, r⟩ => ⟨a, r.snoc k⟩
  | [], _ :: _, h => h.elim
  | _ :: _, [], h => h.elim
theorem RwL.len {H : Hp} : ∀ {vs : List V} {es : List (List Str)}, RwL H vs es → vs.length = es.length
  | [], [], _ => rfl
  | _ :: _, _ :: _, ⟨_, r⟩ => congrArg (· + 1) r.len
  | [], _ :: _, h => h.elim
  | _ :: _, [], h => h.elim
theorem RwL.get {H : Hp} : ∀ {vs : List V} {es : List (List Str)}, RwL H vs es → ∀ (i : Nat) (v : V) (e : List Str), vs[i]? = some v → es[i]? = some e → ∃ T, v = .ref T ∧ H T = some (.tup (e.map V.str))
  | _ :: _, _ :: _, ⟨a, _⟩, 0, v, e, h1, h2 => by
    obtain rfl := Option.some.inj h1
    obtain rfl := Option.some.inj h2
    exact a
  | _ :: _, _ :: _, ⟨_, r⟩, i + 1, v, e, h1, h2 => r.get i v e h1 h2
  | [], [], _, i, v, e, h1, _ => by cases h1
  | [], _ :: _, h, _, _, _, _, _ => h.elim
  | _ :: _, [], h, _, _, _, _, _ => h.elim
def RowsAt (H : Hp) (L : Addr) (rs : List (List Str)) : Prop := ∃ vs, H L = some (.lst vs) ∧ RwL H vs rs
theorem RowsAt.imp {H H' : Hp} (k : ∀ c o, (∀ kvs, o ≠ .dT kvs) → (∀ kvs, o ≠ .dK kvs) → H c = some o → H' c = some o) {L : Addr} {rs : List (List Str)} : RowsAt H L rs → RowsAt H' L rs
  | ⟨vs, a, b⟩ => ⟨vs, k _ _ (fun _ z => by cases z) (fun _ z => by cases z) a, b.imp fun c xs e => k _ _ (fun _ z => by cases z) (fun _ z => by cases z) e⟩
def rowS (x : RX) : Nat → Nat → Nat → List (List Str)
  | 0, _, _ => [[]]
  | k + 1, i, p => (valF x i p).flatMap fun v => (rowS x k (i + 1) v.2).map fun r => v.1 :: r
theorem rowS_wide (x : RX) : ∀ (k i p : Nat), ∀ r ∈ rowS x k i p, r.length = k
  | 0, i, p, r, h => by rw [List.mem_singleton.mp h]; rfl
  | k + 1, i, p, r, h => by
    obtain ⟨v, _, h2⟩ := List.mem_flatMap.mp h
    obtain ⟨r', h3, rfl⟩ := List.mem_map.mp h2
    rw [List.length_cons, rowS_wide x k _ _ r' h3]
theorem flat_len {α β : Type} (f : α → List β) : ∀ (l : List α) (a : α), a ∈ l → (f a).length ≤ (l.flatMap f).length
  | b :: l, a, h => by
    rw [List.flatMap_cons, List.length_append]
    rcases List.mem_cons.mp h with rfl | h
    · omega
    · have := flat_len f l a h
      omega
theorem flat_take {α β : Type} (f : α → List β) (l : List α) (n : Nat) : ((l.take n).flatMap f).length ≤ (l.flatMap f).length := by
  have h : ((l.take n ++ l.drop n).flatMap f).length = (l.flatMap f).length := by rw [List.take_append_drop]
  rw [List.flatMap_append, List.length_append] at h
  omega
/-- the rows that are kept -/
def KpAt (H : Hp) (x : RX) : Prop := ∃ kvs : List (List Key × V), H x.Kp = some (.dT kvs) ∧ (kvs.map (·.1)).Nodup ∧ ∀ kv ∈ kvs, ∃ (i p k : Nat) (L : Addr), kv.1 = [Sum.inl ((i : Nat) : Int), Sum.inl ((p : Nat) : Int)] ∧ kv.2 = .ref L ∧ i + (k + 1) = x.ds.length ∧ p ≤ 4000 ∧ RowsAt H L (rowS x (k + 1) i p)
theorem KpAt.imp {H H' : Hp} {x : RX} (k : ∀ c o, (∀ kvs, o ≠ .dK kvs) → H c = some o → H' c = some o) : KpAt H x → KpAt H' x
  | ⟨kvs, a, b, c⟩ => ⟨kvs, k _ _ (fun _ z => by cases z) a, b, fun kv hkv => by
    obtain ⟨i, p, m, L, h1, h2, h3, h4, h5⟩ := c kv hkv
    exact ⟨i, p, m, L, h1, h2, h3, h4, h5.imp fun c o _ n e => k c o n e⟩⟩
theorem KpAt.same {H H' : Hp} {x : RX} (S : Same H H') (h : KpAt H x) : KpAt H' x := h.imp fun c o _ e => S _ _ e
theorem KpAt.but {H H' : Hp} {x : RX} {kv : List (Key × V)} (hE : H x.E = some (.dK kv)) (B : But x.E H H') (h : KpAt H x) : KpAt H' x := h.imp fun c o n e => B c o (fun z => by rw [z, hE] at e; exact n _ (Option.some.inj e).symm) e
theorem putK_mem {κ : Type} [DecidableEq κ] {kvs : List (κ × V)} {k : κ} {v : V} {kv : κ × V} (h : kv ∈ putK kvs k v) : kv ∈ kvs ∨ kv = (k, v) := by
  unfold putK at h
  split at h
  · obtain ⟨kv', a, b⟩ := List.mem_map.mp h
    by_cases e : kv'.1 = k
    · rw [if_pos e] at b
      right
      rw [← b, e]
    · rw [if_neg e] at b
      left
      rw [← b]
      exact a
  · rcases List.mem_append.mp h with h | h
    · exact .inl h
    · exact .inr (List.mem_singleton.mp h)
theorem putK_nodup {κ : Type} [DecidableEq κ] {kvs : List (κ × V)} {k : κ} {v : V} (h : (kvs.map (·.1)).Nodup) : ((putK kvs k v).map (·.1)).Nodup := by
  cases e : valV kvs k with
  | none =>
    have e2 : putK kvs k v = kvs ++ [(k, v)] := by
      unfold putK
      rw [valV_any, e]
      rfl
    rw [e2, List.map_append]
    refine List.nodup_append.mpr ⟨h, List.nodup_cons.mpr ⟨by simp, List.nodup_nil⟩, fun a ha b hb z => ?_⟩
    rw [List.mem_singleton.mp hb] at z
    replace z : a = k := z
    exact val_none e (by rw [← z]; exact ha)
  | some u =>
    have e2 : (putK kvs k v).map (·.1) = kvs.map (·.1) := by
      unfold putK
      rw [valV_any, e]
      show (kvs.map _).map _ = _
      rw [List.map_map]
      refine List.map_congr_left fun kv _ => ?_
      show (if kv.1 = k then (kv.1, v) else kv).1 = kv.1
      split <;> rfl
    rw [e2]
    exact h
theorem kept_len {kvs : List (List Key × V)} {n : Nat} (hn : n ≤ 30) (h : (kvs.map (·.1)).Nodup) (k : ∀ kv ∈ kvs, ∃ i p : Nat, kv.1 = [Sum.inl ((i : Nat) : Int), Sum.inl ((p : Nat) : Int)] ∧ i < n ∧ p ≤ 4000) : kvs.length ≤ 200000 := by
  have h2 := nodup_len (kvs.map (·.1)) ((List.range 200000).map fun c => ([Sum.inl (((c / 5000 : Nat)) : Int), Sum.inl (((c % 5000 : Nat)) : Int)] : List Key)) h fun y hy => by
    obtain ⟨kv, hm, rfl⟩ := List.mem_map.mp hy
    obtain ⟨i, p, e, hi, hp⟩ := k kv hm
    refine List.mem_map.mpr ⟨i * 5000 + p, List.mem_range.mpr (by omega), ?_⟩
    rw [show (i * 5000 + p) / 5000 = i by omega, show (i * 5000 + p) % 5000 = p by omega]
    exact e.symm
  rw [List.length_map, List.length_map, List.length_range] at h2
  exact h2
def Zp (Z : Addr → Bool) (D : Addr) : Addr → Bool := fun c => Z c || decide (c = D)
theorem zp_false {Z : Addr → Bool} {D c : Addr} : Zp Z D c = false ↔ Z c = false ∧ c ≠ D := by
  unfold Zp
  rw [Bool.or_eq_false_iff, decide_eq_false_iff_not]
theorem hz_up {Z : Addr → Bool} {D : Addr} {J : Hp} (hD : J D = none) : Same (hid Z J) (hid (Zp Z D) J) := fun c o h => by
  obtain ⟨a, b⟩ := hid_some.mp h
  exact hid_some.mpr ⟨zp_false.mpr ⟨a, fun z => by rw [z, hD] at b; cases b⟩, b⟩
theorem hz_down {Z : Addr → Bool} {D : Addr} {J : Hp} : Same (hid (Zp Z D) J) (hid Z J) := fun c o h => by
  obtain ⟨a, b⟩ := hid_some.mp h
  exact hid_some.mpr ⟨(zp_false.mp a).1, b⟩
theorem hz_put {Z : Addr → Bool} {D : Addr} {J : Hp} {o : HO} : Same (hid (Zp Z D) J) (hid (Zp Z D) (upd J D o)) := fun c u h => by
  obtain ⟨a, b⟩ := hid_some.mp h
  exact hid_some.mpr ⟨a, by rw [upd_ne (zp_false.mp a).2]; exact b⟩
theorem But2.keep {a b : Addr} {H H' : Hp} {ka : List (Key × V)} {kb : List (List Key × V)} (B : But2 a b H H') (ha : H a = some (.dK ka)) (hb : H b = some (.dT kb)) {c : Addr} {o : HO} (e : H c = some o) (n1 : ∀ k, o ≠ .dK k) (n2 : ∀ k, o ≠ .dT k) : H' c = some o :=
  B c o (fun z => by rw [z, ha] at e; exact n1 _ (Option.some.inj e).symm) (fun z => by rw [z, hb] at e; exact n2 _ (Option.some.inj e).symm) e
def spRf (K : Frag) (n : Nat) : Sp := fun vs H Q _ => ∃ (R : Addr) (x : RX) (i p k : Nat) (Z : Addr → Bool), vs = [.ref R, .int (i : Nat), .int (p : Nat)] ∧ k < n ∧ i + k = x.ds.length ∧ p ≤ 4000 ∧ RxOk x ∧ RdS K H R x ∧ Alloc Z H ∧ EnsAt (hid Z H) x ∧ KpAt (hid Z H) x ∧ (rowS x k i p).length ≤ 1000 ∧
  ∀ L H', But2 x.E x.Kp H H' → EnsAt (hid Z H') x → KpAt (hid Z H') x → RowsAt (hid Z H') L (rowS x k i p) → Q (.ref L) H'
structure S7 (P : Program) (w : World) (K : Frag) (mg : Str → Option Value) (base : Heap) : Prop extends S6 P w K mg base where
  mVa : MetAt P w K mg base CX0 3 (RD K) "values_at" ["self", "index", "place"] (spVa K)

section
variable {P : Program} {w : World} {K : Frag} {mg : Str → Option Value} {base : Heap} {f : Addr} {fd : FuncData}

abbrev s_Reading_rows_from : Stmt := inClass (top 53) 5
theorem sc_Reading_rows_from : FnScope ["self", "index", "place", "key", "value", "end", "row"] ["self", "index", "place"] (defScope s_Reading_rows_from) := ⟨rfl, rfl, rfl, by decide +kernel, rfl, by decide +kernel, by decide +kernel⟩

theorem ok_Reading_rows_from (F : FunD K "rows_from" "Reading.rows_from" (defArgs s_Reading_rows_from) (defBody s_Reading_rows_from) (defScope s_Reading_rows_from) [] [] f fd) {n : Nat} (AF : MetAt P w K mg base CX0 (n + 4) (RD K) "rows_from" ["self", "index", "place"] (spRf K n)) (G : S7 P w K mg base) : FnOk P w K mg base CX0 (n + 5) f fd ["self", "index", "place"] (spRf K (n + 1)) := by
  refine F.ok (CX := CX0) sc_Reading_rows_from (fun vs H Q E h => ?_) (fun cdv A outer s H vs Q E hr h => ?_)
  · obtain ⟨_, _, _, _, _, _, rfl, _⟩ := h
    rfl
  · refine ⟨_, PSs.nox (C8.pss_cut (ps_if (pt_cmpR op_eq (pv 1) (pe_callB call_len_seq (by rfl) G.len (by decide +kernel) (pa_cons (pe_fld (pe_fld (pv 0) rfl) rfl) pa_nil)) (nomark _))
      (pss_one (ps_ret (pe_lstS (pa_cons (pe_tupS pa_nil) pa_nil))))
      pss_nil)
    (C8.pss_cut (ps_set (i := 3) sc_Reading_rows_from.nd rfl (Or.inl rfl) (pe_tupS (pa_cons (pv 1) (pa_cons (pv 2) pa_nil))))
    (C8.pss_cut (ps_if (pt_cmp (pc_dnotin (hu_of hr) (pv 3) (pe_fld (pv 0) rfl)))
      (pss_one (ps_dput (hu_of hr) (pe_fld (pv 0) rfl) (pv 3) (pe_lc2 (own := [("value", 4), ("end", 5), ("row", 6)]) (vs1 := [6]) (g := (gTup K 2 (gCons (gName 4) (gCons (gName 5) gNil)))) (g1 := gName 6) (tt := tYes) (tt1 := tYes) rfl sc_Reading_rows_from.nd (pi_list (pe_metS G.mVa (hr.mono (by omega)) (pv 0) (E := fun _ => E0) pass0A (pa_cons (pv 1) (pa_cons (pv 2) pa_nil)))) (blkOk_by (N := ["self", "index", "place", "key", "value", "end", "row"]) (sc := defScope s_Reading_rows_from) (by decide +kernel)) (by decide) (fun _ _ _ _ _ => pg_tupK (n := 2) (K := K) rfl rfl (pgs_cons (pg_name (i := 4) sc_Reading_rows_from.nd rfl (Or.inl rfl)) (pgs_cons (pg_name (i := 5) sc_Reading_rows_from.nd rfl (Or.inl rfl)) pgs_nil))) (fun _ _ _ _ _ => pts_nil) (fun _ _ _ _ _ => pi_listK (K := K) rfl (pe_metSK AF rfl rfl rfl rfl rfl hr (pv 0) (E := fun _ => E0) pass0A (pa_cons (pe_op op_add (pv 1) pe_int) (pa_cons (pv 5) pa_nil)))) (fun _ _ _ _ _ => pg_name (i := 6) sc_Reading_rows_from.nd rfl (Or.inl rfl)) (fun _ _ _ _ _ => pts_nil) (fun _ _ _ _ _ => pe_op (op_catAK (K := K) rfl) (pe_tupS (pa_cons (pv 4) pa_nil)) (pv 6))) rfl))
      pss_nil)
    (pss_one (ps_ret (pe_dget (hu_of hr) (pe_fld (pv 0) rfl) (pv 3) (fun _ _ => rfl))))))), ?_⟩
    obtain ⟨R, x, i, p, k, Z, rfl, hkn, hik, hp, ok, hR, hZ, hE, hK, hrl, q⟩ := h
    have C := G.cRD
    have CL := G.cLayout
    obtain ⟨hLay, _, _⟩ := hR.fix
    obtain ⟨⟨dy, t1, t2, ys, hL, h1, hF, h2⟩, lok⟩ := id hLay
    have few := lok.few
    have hyl := hF.1
    obtain ⟨kvs0, hKo, hNd, hKm⟩ := id hK
    obtain ⟨hZK, hK0⟩ := hid_some.mp hKo
    obtain ⟨kve0, hEo, _⟩ := id hE
    obtain ⟨hZE, hE0⟩ := hid_some.mp hEo
    refine ⟨fun σ J => 0 < k ∧ J = H ∧ σ = start ["self", "index", "place", "key", "value", "end", "row"] [V.ref R, V.int ↑i, V.int ↑p], ?_, ?_⟩
    · refine ⟨_, rfl, _, rfl, R, _, x.dx, _, _, rfl, hR.ob, C.cl, C.no _ (by decide +kernel), ok.fL, x.L, _, dy, _, _, rfl, hL, CL.cl, CL.no _ (by decide +kernel), lLayout_fields, t1, _, rfl, .inr h1, rfl, _, rfl, ?_⟩
      refine ite2 (fun c => ?_) (fun c => ?_)
      · have z : k = 0 := by
          have := of_decide_eq_true c
          injection this with this
          rw [hyl] at this
          omega
        subst z
        refine ⟨by show 0 ≤ 1000; decide, fun T J1 hT S1 e1 => ⟨by show 1 ≤ 1000; decide, fun D J2 hD S2 e2 => ?_⟩⟩
        refine q D J2 (fun c o _ _ e => S2 _ _ (S1 _ _ e)) (hE.same (hid_same (S1.trans S2))) (hK.same (hid_same (S1.trans S2))) ⟨[.ref T], hid_some.mpr ⟨hZ.fr (none_of S1 hD), e2⟩, ⟨T, rfl, hid_some.mpr ⟨hZ.fr hT, S2 _ _ e1⟩⟩, True.intro⟩
      · refine ⟨?_, rfl, rfl⟩
        rcases Nat.eq_zero_or_pos k with z | z
        · exact absurd (decide_eq_true (by rw [hyl, ← hik, z]; rfl)) c
        · exact z
    rintro σ J ⟨hk0, rfl, rfl⟩
    obtain ⟨k, rfl⟩ : ∃ m, k = m + 1 := ⟨k - 1, by omega⟩
    refine ⟨fun σ J1 => ∃ (T : Addr) (v4 v5 v6 : Option V), σ = [some (.ref R), some (.int (i : Nat)), some (.int (p : Nat)), some (.ref T), v4, v5, v6] ∧ Same J J1 ∧ J1 T = some (.tup [.int (i : Nat), .int (p : Nat)]), ?_, ?_⟩
    · exact ⟨_, rfl, _, rfl, by show 2 ≤ 1000; decide, fun T J1 hT S1 e1 => ⟨T, _, _, _, rfl, S1, e1⟩⟩
    rintro σ J1 ⟨T, v4, v5, v6, rfl, S1, eT⟩
    have R1 := hR.same S1
    have hZ1 := hZ.mono (some_same S1)
    have E1 := hE.same (hid_same S1)
    have K1 := hK.same (hid_same S1)
    have hK1 := S1 _ _ hK0
    have eT' : J1 T = some (.tup (([Sum.inl ((i : Nat) : Int), Sum.inl ((p : Nat) : Int)] : List Key).map kV)) := eT
    refine ⟨fun σ J2 => ∃ (v4 v5 v6 : Option V) (kvs : List (List Key × V)) (L : Addr), σ = [some (.ref R), some (.int (i : Nat)), some (.int (p : Nat)), some (.ref T), v4, v5, v6] ∧ But2 x.E x.Kp J1 J2 ∧ EnsAt (hid Z J2) x ∧ KpAt (hid Z J2) x ∧ J2 x.Kp = some (.dT kvs) ∧ valV kvs [Sum.inl ((i : Nat) : Int), Sum.inl ((p : Nat) : Int)] = some (.ref L) ∧ RowsAt (hid Z J2) L (rowS x (k + 1) i p), ?_, ?_⟩
    · refine ⟨_, rfl, _, rfl, R, _, x.dx, _, _, rfl, R1.ob, C.cl, C.no _ (by decide +kernel), ok.fK, x.Kp, _, rfl, DGet.t (k := [Sum.inl ((i : Nat) : Int), Sum.inl ((p : Nat) : Int)]) hK1 eT', _, rfl, ?_⟩
      cases hk : valV kvs0 [Sum.inl ((i : Nat) : Int), Sum.inl ((p : Nat) : Int)] with
      | some v =>
        obtain ⟨kv, hm, e1, e2⟩ := val_mem hk
        obtain ⟨i', p', k', L, h1, h2, h3, h4, h5⟩ := hKm kv hm
        rw [e1] at h1
        injection h1 with h1 h1'
        injection h1' with h1'
        injection h1 with h1
        injection h1' with h1'
        obtain rfl : i' = i := by exact_mod_cast h1.symm
        obtain rfl : p' = p := by exact_mod_cast h1'.symm
        obtain rfl : k' = k := by omega
        refine iteF ⟨_, _, _, kvs0, L, rfl, But2.refl _ _ _, E1, K1, hK1, by rw [hk, ← e2, h2], ?_⟩
        exact h5.imp fun c o _ _ e => hid_same S1 _ _ e
      | none =>
        have hi : i < x.ds.length := by omega
        refine iteT ⟨_, rfl, R, x.dx, x.fs, rfl, R1.ob, ok.no _ (by decide), _, rfl, _, rfl, R, x, i, p, Z, rfl, ok, R1, hZ1, E1, hi, fun vl vs J2 hvl B2 E2 eV hV => ⟨vl, rfl, ⟨_, SqL.of eV⟩, fun D hD => ?_⟩⟩
        have hvl := hV.len
        have hvf : (valF x i p).length ≤ 4001 := by unfold valF; rw [List.length_map]; exact es_len ok hi
        have K2 : KpAt (hid Z J2) x := K1.but (hid_some.mpr ⟨hZE, S1 _ _ hE0⟩) (hid_but B2)
        obtain ⟨kv2, hE2, _⟩ := id E2
        obtain ⟨kt2, hK2, _⟩ := id K2
        replace hE2 := (hid_some.mp hE2).2
        replace hK2 := (hid_some.mp hK2).2
        have hZ2 : Alloc Z J2 := fun c hc => by
          have := hZ1 c hc
          cases e : J1 c with
          | none => exact absurd e this
          | some o =>
            rw [B2 c o (fun z => by rw [z, hZE] at hc; cases hc) e]
            exact fun z => by cases z
        have R2 := R1.but (But2.of (b := x.Kp) B2)
        have rEq : rowS x (k + 1) i p = (valF x i p).flatMap fun v => (rowS x k (i + 1) v.2).map fun r => v.1 :: r := rfl
        have alz : ∀ J us, But2 x.E x.Kp J2 J → J D = some (.lst us) → Alloc (Zp Z D) J := fun J us B e c hc => by
          by_cases z : c = D
          · rw [z, e]
            exact fun z => by cases z
          · have hzc : Z c = true := by
              cases q : Z c with
              | true => rfl
              | false => rw [zp_false.mpr ⟨q, z⟩] at hc; cases hc
            have := hZ2 c hzc
            cases e : J2 c with
            | none => exact absurd e this
            | some o =>
              rw [B c o (fun z => by rw [z, hZE] at hzc; cases hzc) (fun z => by rw [z, hZK] at hzc; cases hzc) e]
              exact fun z => by cases z
        refine lc2_out (walk_list (xs := vs)) (fun m J => ∃ us : List V, But2 x.E x.Kp J2 J ∧ J D = some (.lst us) ∧ EnsAt (hid (Zp Z D) J) x ∧ KpAt (hid (Zp Z D) J) x ∧ RwL (hid (Zp Z D) J) us (((valF x i p).take m).flatMap fun v => (rowS x k (i + 1) v.2).map fun r => v.1 :: r)) ?_ ?_ ?_ ?_
        · refine ⟨[], fun c o _ _ e => same_upd hD _ _ e, upd_same, (E2.same (hz_up hD)).same hz_put, (K2.same (hz_up hD)).same hz_put, True.intro⟩
        · rintro m J hm ⟨us, BJ, _⟩
          exact SqL.of (BJ.keep hE2 hK2 eV (fun _ z => by cases z) (fun _ z => by cases z))
        · rintro m v J J' hm ⟨us, BJ, eD, EJ, KJ, hRw⟩ ⟨rfl, hv⟩
          obtain ⟨e, he⟩ : ∃ e, (valF x i p)[m]? = some e := ⟨_, List.getElem?_eq_getElem (by omega)⟩
          obtain ⟨Tm, rfl, hTm⟩ := hV.get m v e hv he
          have hTmJ := BJ.keep hE2 hK2 hTm (fun _ z => by cases z) (fun _ z => by cases z)
          have tk : (valF x i p).take (m + 1) = (valF x i p).take m ++ [e] := by rw [List.take_add_one, he]; rfl
          have hmem := List.mem_of_getElem? he
          have hee : e.2 ≤ 4000 := by
            unfold valF at hmem
            obtain ⟨y, hy, rfl⟩ := List.mem_map.mp hmem
            exact es_le ok hi y hy
          have hlen : (rowS x k (i + 1) e.2).length ≤ 1000 := by
            have := flat_len (fun v : Str × Nat => (rowS x k (i + 1) v.2).map fun r => v.1 :: r) (valF x i p) e hmem
            rw [rEq] at hrl
            rw [List.length_map] at this
            omega
          have pl : (((valF x i p).take m).flatMap fun v => (rowS x k (i + 1) v.2).map fun r => v.1 :: r).length ≤ 1000 := by
            have := flat_take (fun v : Str × Nat => (rowS x k (i + 1) v.2).map fun r => v.1 :: r) (valF x i p) m
            rw [rEq] at hrl
            omega
          have RJ := R2.but BJ
          refine ⟨Tm, _, rfl, SqT.of hTmJ, rfl, _, _, rfl, _, _, rfl, rfl, rfl, ?_⟩
          refine ⟨_, rfl, R, x.dx, x.fs, rfl, RJ.ob, ok.no _ (by decide), _, rfl, _, _, rfl, rfl, _, rfl, R, x, i + 1, e.2, k, Zp Z D, rfl, by omega, by omega, hee, ok, RJ, alz _ _ BJ eD, EJ, KJ, hlen, fun L' J3 B3 E3 K3 Ro3 => ?_⟩
          obtain ⟨ws, eL', hRw3⟩ := Ro3
          obtain ⟨zL', eL3⟩ := hid_some.mp eL'
          obtain ⟨kvJ, hEJ, _⟩ := id EJ
          obtain ⟨ktJ, hKJ, _⟩ := id KJ
          replace hEJ := (hid_some.mp hEJ).2
          replace hKJ := (hid_some.mp hKJ).2
          have eD3 := B3.keep hEJ hKJ eD (fun _ z => by cases z) (fun _ z => by cases z)
          have hRw3' : RwL (hid (Zp Z D) J3) us (((valF x i p).take m).flatMap fun v => (rowS x k (i + 1) v.2).map fun r => v.1 :: r) := hRw.imp fun b xs e => by
            obtain ⟨a1, a2⟩ := hid_some.mp e
            exact hid_some.mpr ⟨a1, B3.keep hEJ hKJ a2 (fun _ z => by cases z) (fun _ z => by cases z)⟩
          have B23 := BJ.trans B3
          have hwl := hRw3.len
          refine ⟨L', rfl, ⟨_, SqL.of eL3⟩, lc2_in (walk_list (xs := ws)) (fun j J4 => ∃ us' : List V, But2 x.E x.Kp J2 J4 ∧ Same (hid (Zp Z D) J3) (hid (Zp Z D) J4) ∧ J4 D = some (.lst us') ∧ RwL (hid (Zp Z D) J4) us' ((((valF x i p).take m).flatMap fun v => (rowS x k (i + 1) v.2).map fun r => v.1 :: r) ++ ((rowS x k (i + 1) e.2).take j).map fun r => e.1 :: r)) ?_ ?_ ?_ ?_⟩
          · exact ⟨us, B23, Same.refl _, eD3, by rw [List.take_zero, List.map_nil, List.append_nil]; exact hRw3'⟩
          · rintro j J4 hj ⟨us', B4, S4, _⟩
            exact SqL.of (hid_some.mp (S4 _ _ eL')).2
          · rintro j v J4 J4' hj ⟨us', B4, S4, eD4, hR4⟩ ⟨rfl, hv4⟩
            obtain ⟨r, hr4⟩ : ∃ r, (rowS x k (i + 1) e.2)[j]? = some r := ⟨_, List.getElem?_eq_getElem (by omega)⟩
            obtain ⟨Tj, rfl, hTj⟩ := hRw3.get j v r hv4 hr4
            have hTj4 := (hid_some.mp (S4 _ _ hTj)).2
            have rl := rowS_wide x k (i + 1) e.2 r (List.mem_of_getElem? hr4)
            have tk2 : (rowS x k (i + 1) e.2).take (j + 1) = (rowS x k (i + 1) e.2).take j ++ [r] := by rw [List.take_add_one, hr4]; rfl
            have hZ4 := alz _ _ B4 eD4
            have ul := hR4.len
            rw [List.length_append, List.length_map, List.length_take] at ul
            have fin : ∀ (p2 : Addr) (J6 : Hp), Same J4' J6 → J4' p2 = none → J6 p2 = some (.tup ((e.1 :: r).map V.str)) → ∃ acc, J6 D = some (.lst acc) ∧ acc.length < sizeLine ∧ ∃ us' : List V, But2 x.E x.Kp J2 (upd J6 D (.lst (acc ++ [.ref p2]))) ∧ Same (hid (Zp Z D) J3) (hid (Zp Z D) (upd J6 D (.lst (acc ++ [.ref p2])))) ∧ upd J6 D (.lst (acc ++ [.ref p2])) D = some (.lst us') ∧ RwL (hid (Zp Z D) (upd J6 D (.lst (acc ++ [.ref p2])))) us' ((((valF x i p).take m).flatMap fun v => (rowS x k (i + 1) v.2).map fun r => v.1 :: r) ++ ((rowS x k (i + 1) e.2).take (j + 1)).map fun r => e.1 :: r) := fun p2 J6 S6 n6 e6 => by
              refine ⟨us', S6 _ _ eD4, by rw [sizeLine_eq]; omega, us' ++ [.ref p2], fun c o n m h => ?_, S4.trans ((hid_same S6).trans hz_put), upd_same, ?_⟩
              · rw [upd_ne (fun z => by rw [z, hD] at h; cases h)]
                exact S6 _ _ (B4 _ _ n m h)
              · rw [tk2, List.map_append, ← List.append_assoc]
                refine RwL.snoc ⟨p2, rfl, hz_put _ _ (hid_some.mpr ⟨hZ4.fr n6, e6⟩)⟩ (hR4.imp fun b xs q => hz_put _ _ (hid_same S6 _ _ q))
            refine ⟨rfl, _, rfl, by show 1 ≤ 1000; decide, fun p1 J5 hp1 S5 e5 => ?_⟩
            refine ⟨_, rfl, p1, Tj, [.str e.1], r.map V.str, rfl, rfl, SqT.of e5, SqT.of (S5 _ _ hTj4), by rw [List.length_map, rl, sizeLine_eq]; show 1 + k ≤ 16777216; omega, fun z => (by cases z), fun _ z => fin p1 J5 S5 hp1 (by rw [e5, List.map_cons, z]), fun _ _ p2 hp2 => ?_⟩
            exact fin p2 _ (S5.trans (same_upd hp2)) (none_of S5 hp2) (by rw [upd_same]; rfl)
          · rintro J4 ⟨us', B4, S4, eD4, hR4⟩
            rw [hwl, List.take_length] at hR4
            refine ⟨us', B4, eD4, E3.same S4, K3.same S4, ?_⟩
            rw [tk, List.flatMap_append]
            show RwL _ us' (_ ++ ((rowS x k (i + 1) e.2).map (fun r => e.1 :: r) ++ []))
            rw [List.append_nil]
            exact hR4
        · rintro J ⟨us, BJ, eD, EJ, KJ, hRw⟩
          rw [hvl, List.take_length, ← rEq] at hRw
          have RJ := R2.but BJ
          have eTJ : J T = some (.tup (([Sum.inl ((i : Nat) : Int), Sum.inl ((p : Nat) : Int)] : List Key).map kV)) := BJ.keep hE2 hK2 (B2 _ _ (fun z => by
            rw [z, S1 _ _ hE0] at eT'
            cases eT') eT') (fun _ z => by cases z) (fun _ z => by cases z)
          obtain ⟨ktJ, hKJo, hNdJ, hKmJ⟩ := id KJ
          have hKJ := (hid_some.mp hKJo).2
          have hkl : ktJ.length ≤ 200000 := kept_len few hNdJ fun kv hkv => by
            obtain ⟨i', p', k', L', a1, a2, a3, a4, a5⟩ := hKmJ kv hkv
            exact ⟨i', p', a1, by omega, a4⟩
          have zD : Z D = false := hZ2.fr hD
          have nDK : D ≠ x.Kp := fun z => by rw [z, hKJ] at eD; cases eD
          refine ⟨_, rfl, R, _, x.dx, _, _, rfl, RJ.ob, C.cl, C.no _ (by decide +kernel), ok.fK, _, rfl, x.Kp, _, rfl, DPut.t (k := [Sum.inl ((i : Nat) : Int), Sum.inl ((p : Nat) : Int)]) hKJ eTJ (by rw [sizeLine_eq]; omega), ?_⟩
          have up : ∀ c o, (∀ kvs, o ≠ HO.dT kvs) → hid (Zp Z D) J c = some o → hid Z (upd J x.Kp (.dT (putK ktJ [Sum.inl ((i : Nat) : Int), Sum.inl ((p : Nat) : Int)] (.ref D)))) c = some o := fun c o n e => by
            obtain ⟨a1, a2⟩ := hid_some.mp e
            refine hid_some.mpr ⟨(zp_false.mp a1).1, ?_⟩
            rw [upd_ne (fun z => by rw [z, hKJ] at a2; exact n _ (Option.some.inj a2).symm)]
            exact a2
          have hRoN : RowsAt (hid Z (upd J x.Kp (.dT (putK ktJ [Sum.inl ((i : Nat) : Int), Sum.inl ((p : Nat) : Int)] (.ref D))))) D (rowS x (k + 1) i p) :=
            ⟨us, hid_some.mpr ⟨zD, by rw [upd_ne nDK]; exact eD⟩, hRw.imp fun b xs e => up _ _ (fun _ z => by cases z) e⟩
          refine ⟨_, _, _, putK ktJ [Sum.inl ((i : Nat) : Int), Sum.inl ((p : Nat) : Int)] (.ref D), D, rfl, fun c o n m e => ?_, EJ.imp up, ⟨_, hid_some.mpr ⟨hZK, upd_same⟩, putK_nodup hNdJ, fun kv hkv => ?_⟩, upd_same, ?_, hRoN⟩
          · rw [upd_ne m]
            exact BJ _ _ n m (B2 _ _ n e)
          · rcases putK_mem hkv with h | rfl
            · obtain ⟨i', p', k', L', a1, a2, a3, a4, a5⟩ := hKmJ kv h
              exact ⟨i', p', k', L', a1, a2, a3, a4, a5.imp fun c o n _ e => up c o n e⟩
            · exact ⟨i, p, k, D, rfl, rfl, hik, hp, hRoN⟩
          · rw [valV_put, if_pos rfl]
    rintro σ J2 ⟨v4, v5, v6, kvs, L, rfl, B2, E2, K2, hK2, hv, hRo⟩
    have eT2 : J2 T = some (.tup (([Sum.inl ((i : Nat) : Int), Sum.inl ((p : Nat) : Int)] : List Key).map kV)) := B2 _ _ (fun z => by
      rw [z, S1 _ _ hE0] at eT'
      cases eT') (fun z => by
      rw [z, hK1] at eT'
      cases eT') eT'
    have R2 := R1.but B2
    exact ⟨_, rfl, R, _, x.dx, _, _, rfl, R2.ob, C.cl, C.no _ (by decide +kernel), ok.fK, _, rfl, x.Kp, _, rfl, hv ▸ DGet.t (k := [Sum.inl ((i : Nat) : Int), Sum.inl ((p : Nat) : Int)]) hK2 eT2, q L J2 (fun c o n m e => B2 _ _ n m (S1 _ _ e)) E2 K2 hRo⟩

end
end L2.K22

set_option Elab.async false
set_option linter.all false
set_option maxRecDepth 100000
set_option maxHeartbeats 4000000
/-! A reading is made. -/
namespace L2.K22
open PySem PySem.W PySem.Spec PySem.Calls PyProof.Rows L2.Jk
theorem ps_dead {X : Cx} {b : Stmt} : PS X b (fun _ _ _ => False) := ⟨fun _ _ _ _ _ _ h => h.elim⟩
theorem pe_gi {X : Cx} {x : Str} {z : Int} {pos : Pos} (h : ∃ t, X.mg x = some (.int z t)) (hg : Gl X x := by rfl) (hd : (x == ("__debug__" : Str)) = false := by decide) : PE X (.Name x pos) (tC (.int z)) := by
  obtain ⟨t, h⟩ := h
  exact pe_glob (v := .int z) hg h ⟨t, rfl⟩ hd
def fRd1 (L t : V) : List (Str × V) := putF "text" t (putF "layout" L [])
def fRd2 (L t sp : V) : List (Str × V) := putF "spans" sp (fRd1 L t)
def fRd3 (L t sp wa : V) : List (Str × V) := putF "ways" wa (fRd2 L t sp)
def fRd (L t sp wa E Kp : V) : List (Str × V) := putF "kept" Kp (putF "ends" E (fRd3 L t sp wa))
theorem no1 {L t : V} : NoM (fRd1 L t) := fun m hm => by
  have h : ∀ m ∈ MTH, m ≠ "text" ∧ m ≠ "layout" := by decide +kernel
  unfold fRd1
  rw [lookup_putF, if_neg (h m hm).1, lookup_putF, if_neg (h m hm).2]
  rfl
theorem no2 {L t sp : V} : NoM (fRd2 L t sp) := fun m hm => by
  have h : ∀ m ∈ MTH, m ≠ "spans" := by decide +kernel
  unfold fRd2
  rw [lookup_putF, if_neg (h m hm)]
  exact no1 m hm
theorem no4 {L t sp wa E Kp : V} : NoM (fRd L t sp wa E Kp) := fun m hm => by
  have h : ∀ m ∈ MTH, m ≠ "kept" ∧ m ≠ "ends" ∧ m ≠ "ways" := by decide +kernel
  unfold fRd fRd3
  rw [lookup_putF, if_neg (h m hm).1, lookup_putF, if_neg (h m hm).2.1, lookup_putF, if_neg (h m hm).2.2]
  exact no2 m hm
def xssOf (t : Str) (js : List Str) : List (List (Int × Int × Int)) := spansF t (js ++ ([""] : List Str)) [0]
def wssOf (t : Str) (js : List Str) : List (List Int) := waysF t.length (xssOf t js)
/-- what is looked at of the mirrors -/
structure RdOk (t : Str) (js : List Str) : Prop where
  sp : okSp t (js ++ ([""] : List Str)) [0] = true
  xv : ∀ xs ∈ xssOf t js, okX t.length xs = true ∧ (xs.map fun x => x.1.toNat).Nodup
  ev : ∀ i, i < js.length + 1 → ∀ en ∈ hopF ((wssOf t js).getD (i + 1) []) ((xssOf t js).getD i []), ∀ e ∈ en.2, ((js ++ ([""] : List Str)).getD i "").length ≤ e
theorem spansF_len (t : Str) : ∀ (js : List Str) (ps : List Nat), (spansF t js ps).length = js.length
  | [], _ => rfl
  | j :: js, ps => congrArg (· + 1) (spansF_len t js _)
theorem waysF_all (n : Nat) : ∀ (xss : List (List (Int × Int × Int))), ∀ W ∈ waysF n xss, W.length = n + 1
  | [], W, h => by
    rw [List.mem_singleton.mp h, List.length_append, List.length_replicate]
    rfl
  | xs :: xss, W, h => by
    rcases List.mem_cons.mp (show W ∈ wayStep ((waysF n xss).headD []) xs :: waysF n xss from h) with rfl | h
    · obtain ⟨W, r, e, l⟩ := waysF_hd n xss
      rw [wayStep_len, e]
      exact l
    · exact waysF_all n xss W h
theorem SpL.imp {H H' : Hp} {ls : List V} {xss : List (List (Int × Int × Int))} (k : ∀ c o, (∀ C d f, o ≠ HO.ins C d f) → H c = some o → H' c = some o) (h : SpL H ls xss) : SpL H' ls xss := ⟨h.1, fun i v xs a b => by
  obtain ⟨c, vs, e, z, T⟩ := h.2 i v xs a b
  refine ⟨c, vs, e, k _ _ (fun _ _ _ z => by cases z) z, T.1, fun j u x a b => ?_⟩
  obtain ⟨b, e, z⟩ := T.2 j u x a b
  exact ⟨b, e, k _ _ (fun _ _ _ z => by cases z) z⟩⟩
theorem WsL.imp {H H' : Hp} {ls : List V} {xss : List (List Int)} (k : ∀ c o, (∀ C d f, o ≠ HO.ins C d f) → H c = some o → H' c = some o) (h : WsL H ls xss) : WsL H' ls xss := ⟨h.1, fun i v xs a b => by
  obtain ⟨c, e, z⟩ := h.2 i v xs a b
  exact ⟨c, e, k _ _ (fun _ _ _ z => by cases z) z⟩⟩
theorem up_ins {H : Hp} {a C dx : Addr} {fs : List (Str × V)} {u : HO} (e : H a = some (.ins C dx fs)) : ∀ c o, (∀ C d f, o ≠ HO.ins C d f) → H c = some o → (upd H a u) c = some o := fun c o n h => by
  rw [upd_ne (fun z => by rw [z, e] at h; exact n _ _ _ (Option.some.inj h).symm)]
  exact h
def spRd (K : Frag) : Sp := fun vs H Q _ => ∃ (a dx L : Addr) (t : Str) (ds : List FD) (js : List Str) (H0 : Hp), vs = [.ref a, .ref L, .str t] ∧ H a = some (.ins (RD K) dx []) ∧ LayAt K H0 L ds js ∧ H0 a = none ∧ Same H0 H ∧ (∀ d ∈ ds, d = wAB) ∧ t.length ≤ 4000 ∧ RdOk t js ∧
  ∀ (x : RX) (H' : Hp), x.t = t → x.ds = ds → x.js = js → x.xss = xssOf t js → x.wss = wssOf t js → RxOk x → RdS K H' a x → x.E ≠ x.Kp → H' x.E = some (.dK []) → H' x.Kp = some (.dT []) → Same H0 H' → H0 x.E = none → H0 x.Kp = none → Q .non H'
structure S8 (P : Program) (w : World) (K : Frag) (mg : Str → Option Value) (base : Heap) : Prop extends S4 P w K mg base where
  mAs : MetAt P w K mg base CX0 5 (RD K) "all_spans" ["self"] (spAs K)
  mCw : MetAt P w K mg base CX0 1 (RD K) "counts_of_ways" ["self"] (spCw K)

section
variable {P : Program} {w : World} {K : Frag} {mg : Str → Option Value} {base : Heap} {f : Addr} {fd : FuncData}

abbrev s_Reading_init : Stmt := inClass (top 53) 0
theorem sc_Reading_init : FnScope ["self", "layout", "text"] ["self", "layout", "text"] (defScope s_Reading_init) := ⟨rfl, rfl, rfl, by decide +kernel, rfl, by decide +kernel, by decide +kernel⟩

theorem ok_Reading_init (F : FunD K "__init__" "Reading.__init__" (defArgs s_Reading_init) (defBody s_Reading_init) (defScope s_Reading_init) [] [] f fd) (G : S8 P w K mg base) : FnOk P w K mg base CX0 6 f fd ["self", "layout", "text"] (spRd K) := by
  refine F.ok (CX := CX0) sc_Reading_init (fun vs H Q E h => ?_) (fun cdv A outer s H vs Q E hr h => ?_)
  · obtain ⟨_, _, _, _, _, _, _, rfl, _⟩ := h
    rfl
  · refine ⟨_, PSs.nox (C8.pss_cut (ps_fld (pv 0) (pv 1) rfl)
    (C8.pss_cut (ps_fld (pv 0) (pv 2) rfl)
    (C8.pss_cut (ps_fld (pv 0) (pe_metS0 G.mAs (hr.mono (by decide)) (pv 0) (E := fun _ => E0) pass0A) rfl)
    (C8.pss_cut (ps_fld (pv 0) (pe_metS0 G.mCw (hr.mono (by decide)) (pv 0) (E := fun _ => E0) pass0A) rfl)
    (C8.pss_cut (ps_fld (pv 0) pe_dnewK rfl)
    (pss_one (ps_fld (pv 0) pe_dnewT rfl))))))), ?_⟩
    obtain ⟨a, dx, L, t, ds, js, H0, rfl, ha, hLay, ha0, S0, hd, ht, hok, q⟩ := h
    have C := G.cRD
    have lok := hLay.ok
    have hlen := lok.len
    have few := lok.few
    refine ⟨fun σ J => σ = [some (.ref a), some (.ref L), some (.str t)] ∧ J = upd H a (.ins (RD K) dx (putF "layout" (.ref L) [])), ?_, ?_⟩
    · exact ⟨_, rfl, _, rfl, a, _, dx, _, rfl, ha, C.cl, C.no _ (by decide +kernel), by show 0 < 1000; decide, rfl, rfl⟩
    rintro σ J ⟨rfl, rfl⟩
    refine ⟨fun σ J => σ = [some (.ref a), some (.ref L), some (.str t)] ∧ J = upd H a (.ins (RD K) dx (fRd1 (.ref L) (.str t))), ?_, ?_⟩
    · refine ⟨_, rfl, _, rfl, a, _, dx, _, rfl, upd_same, C.cl, C.no _ (by decide +kernel), by show 1 < 1000; decide, rfl, ?_⟩
      rw [upd_upd]
      rfl
    rintro σ J ⟨rfl, rfl⟩
    have S1 : Same H0 (upd H a (.ins (RD K) dx (fRd1 (.ref L) (.str t)))) := same_put S0 ha0
    have hobj : ∀ {fs : List (Str × V)}, upd H a (.ins (RD K) dx fs) a = some (.ins (RD K) dx fs) := upd_same
    have l1L : ∀ {x y : V}, (fRd1 x y).lookup ("layout" : Str) = some x := by
      intro x y
      unfold fRd1
      rw [lookup_putF, if_neg (by decide +kernel), lookup_putF, if_pos rfl]
    have l1T : ∀ {x y : V}, (fRd1 x y).lookup ("text" : Str) = some y := by
      intro x y
      unfold fRd1
      rw [lookup_putF, if_pos rfl]
    refine ⟨fun σ J => ∃ (sp : Addr) (ls : List V) (J0 : Hp), σ = [some (.ref a), some (.ref L), some (.str t)] ∧ J = upd J0 a (.ins (RD K) dx (fRd2 (.ref L) (.str t) (.ref sp))) ∧ Same (upd H a (.ins (RD K) dx (fRd1 (.ref L) (.str t)))) J0 ∧ J0 sp = some (.lst ls) ∧ SpL J0 ls (xssOf t js), ?_, ?_⟩
    · refine ⟨_, rfl, a, dx, _, rfl, hobj, no1 _ (by decide), a, dx, L, _, t, ds, js, rfl, hobj, no1, l1L, l1T, hLay.same S1, hd, ht, hok.sp, fun sp ls J0 S' e hS => ?_⟩
      exact ⟨_, rfl, a, _, dx, _, rfl, S' _ _ hobj, C.cl, C.no _ (by decide +kernel), by show 2 < 1000; decide, sp, ls, J0, rfl, rfl, S', e, hS⟩
    rintro σ J ⟨sp, ls, J0, rfl, rfl, S1', eS, hS⟩
    have ea0 := S1' _ _ hobj
    have S2 : Same H0 (upd J0 a (.ins (RD K) dx (fRd2 (.ref L) (.str t) (.ref sp)))) := same_put (S1.trans S1') ha0
    have eS2 : upd J0 a (.ins (RD K) dx (fRd2 (.ref L) (.str t) (.ref sp))) sp = some (.lst ls) := up_ins ea0 _ _ (fun _ _ _ z => by cases z) eS
    have hS2 : SpL (upd J0 a (.ins (RD K) dx (fRd2 (.ref L) (.str t) (.ref sp)))) ls (xssOf t js) := hS.imp (up_ins ea0)
    have ea2 : upd J0 a (.ins (RD K) dx (fRd2 (.ref L) (.str t) (.ref sp))) a = some (.ins (RD K) dx (fRd2 (.ref L) (.str t) (.ref sp))) := upd_same
    generalize upd J0 a (.ins (RD K) dx (fRd2 (.ref L) (.str t) (.ref sp))) = J2 at *
    have xl : (xssOf t js).length = ds.length := by
      unfold xssOf
      rw [spansF_len, List.length_append]
      exact hlen
    have l2S : ∀ {x y z : V}, (fRd2 x y z).lookup ("spans" : Str) = some z := by
      intro x y z
      unfold fRd2
      rw [lookup_putF, if_pos rfl]
    have l2T : ∀ {x y z : V}, (fRd2 x y z).lookup ("text" : Str) = some y := by
      intro x y z
      unfold fRd2
      rw [lookup_putF, if_neg (by decide +kernel), l1T]
    have l2L : ∀ {x y z : V}, (fRd2 x y z).lookup ("layout" : Str) = some x := by
      intro x y z
      unfold fRd2
      rw [lookup_putF, if_neg (by decide +kernel), l1L]
    refine ⟨fun σ J => ∃ (wa : Addr) (us : List V) (J0 : Hp), σ = [some (.ref a), some (.ref L), some (.str t)] ∧ J = upd J0 a (.ins (RD K) dx (fRd3 (.ref L) (.str t) (.ref sp) (.ref wa))) ∧ Same J2 J0 ∧ J0 wa = some (.lst us) ∧ WsL J0 us (wssOf t js), ?_, ?_⟩
    · refine ⟨_, rfl, a, dx, _, rfl, ea2, no2 _ (by decide), a, dx, sp, _, t, ls, xssOf t js, rfl, ea2, l2S, l2T, ht, eS2, hS2, by omega, fun xs hxs => (hok.xv xs hxs).1, fun wa us J0 S' e hW => ?_⟩
      exact ⟨_, rfl, a, _, dx, _, rfl, S' _ _ ea2, C.cl, C.no _ (by decide +kernel), by show 3 < 1000; decide, wa, us, J0, rfl, rfl, S', e, hW⟩
    rintro σ J ⟨wa, us, J3', rfl, rfl, S3', eW, hW⟩
    have ea3' := S3' _ _ ea2
    have S3 : Same H0 (upd J3' a (.ins (RD K) dx (fRd3 (.ref L) (.str t) (.ref sp) (.ref wa)))) := same_put (S2.trans S3') ha0
    have eS3 : upd J3' a (.ins (RD K) dx (fRd3 (.ref L) (.str t) (.ref sp) (.ref wa))) sp = some (.lst ls) := up_ins ea3' _ _ (fun _ _ _ z => by cases z) (S3' _ _ eS2)
    have hS3 : SpL (upd J3' a (.ins (RD K) dx (fRd3 (.ref L) (.str t) (.ref sp) (.ref wa)))) ls (xssOf t js) := (hS2.same S3').imp (up_ins ea3')
    have eW3 : upd J3' a (.ins (RD K) dx (fRd3 (.ref L) (.str t) (.ref sp) (.ref wa))) wa = some (.lst us) := up_ins ea3' _ _ (fun _ _ _ z => by cases z) eW
    have hW3 : WsL (upd J3' a (.ins (RD K) dx (fRd3 (.ref L) (.str t) (.ref sp) (.ref wa)))) us (wssOf t js) := hW.imp (up_ins ea3')
    have ea3 : upd J3' a (.ins (RD K) dx (fRd3 (.ref L) (.str t) (.ref sp) (.ref wa))) a = some (.ins (RD K) dx (fRd3 (.ref L) (.str t) (.ref sp) (.ref wa))) := upd_same
    generalize upd J3' a (.ins (RD K) dx (fRd3 (.ref L) (.str t) (.ref sp) (.ref wa))) = J3 at *
    refine ⟨fun σ J => ∃ (Ed : Addr), σ = [some (.ref a), some (.ref L), some (.str t)] ∧ J3 Ed = none ∧ J = upd (upd J3 Ed (.dK [])) a (.ins (RD K) dx (putF "ends" (.ref Ed) (fRd3 (.ref L) (.str t) (.ref sp) (.ref wa)))), ?_, ?_⟩
    · exact fun Ed hEd => ⟨_, rfl, a, _, dx, _, rfl, by rw [upd_ne (ne_of_none ea3 hEd)]; exact ea3, C.cl, C.no _ (by decide +kernel), by show 4 < 1000; decide, Ed, rfl, hEd, rfl⟩
    rintro σ J ⟨Ed, rfl, hEd, rfl⟩
    intro Kp hKp
    have nKa : Kp ≠ a := fun z => by rw [z, upd_same] at hKp; cases hKp
    rw [upd_ne nKa] at hKp
    have nKE : Kp ≠ Ed := fun z => by rw [z, upd_same] at hKp; cases hKp
    rw [upd_ne nKE] at hKp
    have nEa : Ed ≠ a := fun z => by rw [z, ea3] at hEd; cases hEd
    refine ⟨_, rfl, a, _, dx, _, rfl, by rw [upd_ne nKa.symm, upd_same], C.cl, C.no _ (by decide +kernel), by show 5 < 1000; decide, ?_⟩
    have e1 : upd (upd (upd (upd J3 Ed (.dK [])) a (.ins (RD K) dx (putF "ends" (.ref Ed) (fRd3 (.ref L) (.str t) (.ref sp) (.ref wa))))) Kp (.dT [])) a (.ins (RD K) dx (fRd (.ref L) (.str t) (.ref sp) (.ref wa) (.ref Ed) (.ref Kp))) a = some (.ins (RD K) dx (fRd (.ref L) (.str t) (.ref sp) (.ref wa) (.ref Ed) (.ref Kp))) := upd_same
    have e2 : upd (upd (upd (upd J3 Ed (.dK [])) a (.ins (RD K) dx (putF "ends" (.ref Ed) (fRd3 (.ref L) (.str t) (.ref sp) (.ref wa))))) Kp (.dT [])) a (.ins (RD K) dx (fRd (.ref L) (.str t) (.ref sp) (.ref wa) (.ref Ed) (.ref Kp))) Ed = some (.dK []) := by rw [upd_ne nEa, upd_ne nKE.symm, upd_ne nEa, upd_same]
    have e3 : upd (upd (upd (upd J3 Ed (.dK [])) a (.ins (RD K) dx (putF "ends" (.ref Ed) (fRd3 (.ref L) (.str t) (.ref sp) (.ref wa))))) Kp (.dT [])) a (.ins (RD K) dx (fRd (.ref L) (.str t) (.ref sp) (.ref wa) (.ref Ed) (.ref Kp))) Kp = some (.dT []) := by rw [upd_ne nKa, upd_same]
    have e4 : ∀ c o, c ≠ a → J3 c = some o → upd (upd (upd (upd J3 Ed (.dK [])) a (.ins (RD K) dx (putF "ends" (.ref Ed) (fRd3 (.ref L) (.str t) (.ref sp) (.ref wa))))) Kp (.dT [])) a (.ins (RD K) dx (fRd (.ref L) (.str t) (.ref sp) (.ref wa) (.ref Ed) (.ref Kp))) c = some o := fun c o n h => by
      rw [upd_ne n, upd_ne (fun z => by rw [z, hKp] at h; cases h), upd_ne n, upd_ne (fun z => by rw [z, hEd] at h; cases h)]
      exact h
    show Q .non (upd (upd (upd (upd J3 Ed (.dK [])) a (.ins (RD K) dx (putF "ends" (.ref Ed) (fRd3 (.ref L) (.str t) (.ref sp) (.ref wa))))) Kp (.dT [])) a (.ins (RD K) dx (fRd (.ref L) (.str t) (.ref sp) (.ref wa) (.ref Ed) (.ref Kp))))
    generalize upd (upd (upd (upd J3 Ed (.dK [])) a (.ins (RD K) dx (putF "ends" (.ref Ed) (fRd3 (.ref L) (.str t) (.ref sp) (.ref wa))))) Kp (.dT [])) a (.ins (RD K) dx (fRd (.ref L) (.str t) (.ref sp) (.ref wa) (.ref Ed) (.ref Kp))) = J4 at *
    have S4 : Same H0 J4 := fun c o h => e4 c o (fun z => by rw [z, ha0] at h; cases h) (S3 _ _ h)
    have wl : (wssOf t js).length = ds.length + 1 := by
      unfold wssOf
      rw [waysF_len, xl]
    have l4 : ∀ m : Str, m ≠ "kept" → m ≠ "ends" → (fRd (.ref L) (.str t) (.ref sp) (.ref wa) (.ref Ed) (.ref Kp)).lookup m = (fRd3 (.ref L) (.str t) (.ref sp) (.ref wa)).lookup m := fun m h1 h2 => by
      unfold fRd
      rw [lookup_putF, if_neg h1, lookup_putF, if_neg h2]
    have l3 : ∀ m : Str, m ≠ "ways" → (fRd3 (.ref L) (.str t) (.ref sp) (.ref wa)).lookup m = (fRd2 (.ref L) (.str t) (.ref sp)).lookup m := fun m h1 => by
      unfold fRd3
      rw [lookup_putF, if_neg h1]
    let x : RX := ⟨fRd (.ref L) (.str t) (.ref sp) (.ref wa) (.ref Ed) (.ref Kp), dx, L, Ed, Kp, sp, wa, t, ds, js, xssOf t js, wssOf t js⟩
    have rok : RxOk x := {
      no := no4
      fL := by show (fRd _ _ _ _ _ _).lookup _ = _; rw [l4 _ (by decide +kernel) (by decide +kernel), l3 _ (by decide +kernel), l2L]
      fT := by show (fRd _ _ _ _ _ _).lookup _ = _; rw [l4 _ (by decide +kernel) (by decide +kernel), l3 _ (by decide +kernel), l2T]
      fS := by show (fRd _ _ _ _ _ _).lookup _ = _; rw [l4 _ (by decide +kernel) (by decide +kernel), l3 _ (by decide +kernel), l2S]
      fW := by show (fRd _ _ _ _ _ _).lookup _ = _; rw [l4 _ (by decide +kernel) (by decide +kernel)]; unfold fRd3; rw [lookup_putF, if_pos rfl]
      fE := by show (fRd _ _ _ _ _ _).lookup _ = _; unfold fRd; rw [lookup_putF, if_neg (by decide +kernel), lookup_putF, if_pos rfl]
      fK := by show (fRd _ _ _ _ _ _).lookup _ = _; unfold fRd; rw [lookup_putF, if_pos rfl]
      ds := hd
      tl := ht
      xl := xl
      wl := wl
      wv := fun W hW => by have := waysF_all _ _ W hW; omega
      xv := hok.xv
      ev := fun i hi => hok.ev i (by rw [hlen]; exact hi) }
    have nin : ∀ c o, (∀ C d f, o ≠ HO.ins C d f) → J3 c = some o → hid (fun c => decide (c = a)) J3 c = some o := fun c o n h =>
      hid_some.mpr ⟨decide_eq_false (fun z => by rw [z, ea3] at h; exact n _ _ _ (Option.some.inj h).symm), h⟩
    refine q x J4 rfl rfl rfl rfl rfl rok ⟨e1, nEa.symm, nKa.symm, hid (fun c => decide (c = a)) J3, ⟨hLay.same fun c o h => hid_some.mpr ⟨decide_eq_false (fun z => by rw [z, ha0] at h; cases h), S3 _ _ h⟩, ⟨ls, nin _ _ (fun _ _ _ z => by cases z) eS3, hS3.imp nin⟩, us, nin _ _ (fun _ _ _ z => by cases z) eW3, hW3.imp nin⟩, ?_, ?_, fun c o h => ?_⟩ nKE.symm e2 e3 S4 (none_of S3 hEd) (none_of S3 hKp)
    · show hid _ J3 Ed = none
      unfold hid
      rw [hEd]
      exact ite_self _
    · show hid _ J3 Kp = none
      unfold hid
      rw [hKp]
      exact ite_self _
    · obtain ⟨a1, a2⟩ := hid_some.mp h
      exact e4 c o (of_decide_eq_false a1) a2

end
end L2.K22

set_option Elab.async false
set_option linter.all false
set_option maxRecDepth 100000
set_option maxHeartbeats 4000000
/-! All rows with a text, and their number. -/
namespace L2.K22
open PySem PySem.W PySem.Spec PySem.Calls PyProof.Rows L2.Jk
def x0 (t : Str) (js : List Str) : RX := ⟨[], 0, 0, 0, 0, 0, 0, t, [], js, xssOf t js, wssOf t js⟩
theorem valF_eq {x y : RX} (ht : x.t = y.t) (hj : x.js = y.js) (hx : x.xss = y.xss) (hw : x.wss = y.wss) (i p : Nat) : valF x i p = valF y i p := by
  unfold valF RX.es RX.hp RX.jn
  rw [ht, hj, hx, hw]
theorem rowS_eq {x y : RX} (ht : x.t = y.t) (hj : x.js = y.js) (hx : x.xss = y.xss) (hw : x.wss = y.wss) : ∀ k i p, rowS x k i p = rowS y k i p
  | 0, _, _ => rfl
  | k + 1, i, p => by
    show (valF x i p).flatMap _ = (valF y i p).flatMap _
    rw [valF_eq ht hj hx hw]
    congr 1
    funext v
    rw [rowS_eq ht hj hx hw k]
def waysTot (t : Str) (js : List Str) : Int := ((wssOf t js).headD []).headD 0
def rowsT (t : Str) (js : List Str) : List (List Str) := rowS (x0 t js) (js.length + 1) 0 0
theorem nw_hid {H H' : Hp} {c : Addr} {o : HO} (h : hid (fun c => (H c).isSome) H' c = some o) : nw H H' c = some o := by
  obtain ⟨a, b⟩ := hid_some.mp h
  refine nw_some.mpr ⟨?_, b⟩
  cases e : H c with
  | none => rfl
  | some u => rw [e] at a; cases a
def spCt : Sp := fun vs H Q _ => ∃ t : Str, vs = [.str t] ∧ Q .non H
def spRw (K : Frag) : Sp := fun vs H Q E => ∃ (L : Addr) (ds : List FD) (js : List Str) (t : Str), vs = [.ref L, .str t] ∧ LayAt K H L ds js ∧ (∀ d ∈ ds, d = wAB) ∧ ds.length ≤ 6 ∧ t.length ≤ 4000 ∧ RdOk t js ∧
  (waysTot t js ≤ 1000 → (rowsT t js).length ≤ 1000 ∧ ∀ L' H', Same H H' → RowsAt (nw H H') L' (rowsT t js) → Q (.ref L') H') ∧ (1000 < waysTot t js → RaiseE (LG K) "count" (.int (waysTot t js)) H E)
def spCn (K : Frag) : Sp := fun vs H Q _ => ∃ (L : Addr) (ds : List FD) (js : List Str) (t : Str), vs = [.ref L, .str t] ∧ LayAt K H L ds js ∧ (∀ d ∈ ds, d = wAB) ∧ t.length ≤ 4000 ∧ RdOk t js ∧ ∀ H', Same H H' → Q (.int (waysTot t js)) H'
structure S9 (P : Program) (w : World) (K : Frag) (mg : Str → Option Value) (base : Heap) : Prop extends S4 P w K mg base where
  kRD : ClsAt P w K mg base CX0 6 "Reading" (RD K) ["self", "layout", "text"] (spRd K)
  mAw : MetAt P w K mg base CX0 1 (RD K) "all_ways" ["self"] (spAw K)
  mRf : MetAt P w K mg base CX0 11 (RD K) "rows_from" ["self", "index", "place"] (spRf K 7)
  lg : ErrAt P w K mg base "Large" (LG K) ["count"] "refused large"
  most : ∃ t, mg "MOST_ROWS" = some (.int 1000 t)
structure S10 (P : Program) (w : World) (K : Frag) (mg : Str → Option Value) (base : Heap) : Prop extends S9 P w K mg base where
  check_text : FnAt P w K mg base CX0 1 "check_text" ["text"] spCt

section
variable {P : Program} {w : World} {K : Frag} {mg : Str → Option Value} {base : Heap} {f : Addr} {fd : FuncData}

abbrev s_check_text : Stmt := top 50
theorem sc_check_text : FnScope ["text"] ["text"] (defScope s_check_text) := ⟨rfl, rfl, rfl, by decide +kernel, rfl, by decide +kernel, by decide +kernel⟩

theorem ok_check_text (F : FunD K "check_text" "check_text" (defArgs s_check_text) (defBody s_check_text) (defScope s_check_text) [] [] f fd) (G : S4 P w K mg base) : FnOk P w K mg base CX0 1 f fd ["text"] spCt := by
  refine F.ok (CX := CX0) sc_check_text (fun vs H Q E h => ?_) (fun cdv A outer s H vs Q E hr h => ?_)
  · obtain ⟨_, rfl, _⟩ := h
    rfl
  · refine ⟨_, PSs.nox (pss_one (ps_if (pt_not (pt_val (pe_callB call_ie (by rfl) G.isinstance (by decide +kernel) (pa_cons (pv 0) (pa_cons (pe_bty (n := "str") (by rfl) G.str (by decide +kernel)) pa_nil)))))
      (pss_one ps_dead)
      pss_nil)), ?_⟩
    obtain ⟨t, rfl, q⟩ := h
    refine ⟨_, rfl, _, _, _, _, true, rfl, .ty _, flat_ty (v := .str t) rfl, kit_ty (show kitB "str" "str" = some true by decide +kernel), _, rfl, iteF q⟩

abbrev s_rows_with : Stmt := top 51
theorem sc_rows_with : FnScope ["layout", "text", "reading", "many"] ["layout", "text"] (defScope s_rows_with) := ⟨rfl, rfl, rfl, by decide +kernel, rfl, by decide +kernel, by decide +kernel⟩

theorem ok_rows_with (F : FunD K "rows_with" "rows_with" (defArgs s_rows_with) (defBody s_rows_with) (defScope s_rows_with) [] [] f fd) (G : S10 P w K mg base) : FnOk P w K mg base (L2.CX P w) 12 f fd ["layout", "text"] (spRw K) := by
  refine F.ok (CX := (L2.CX P w)) sc_rows_with (fun vs H Q E h => ?_) (fun cdv A outer s H vs Q E hr h => ?_)
  · obtain ⟨_, _, _, _, rfl, _⟩ := h
    rfl
  · refine ⟨_, (C8.pss_cut (ps_expr (pe_fn G.check_text (hr.mono (by decide)) pass0 (by rfl) (pa_cons (pv 1) pa_nil)))
    (C8.pss_cut (ps_set (i := 2) sc_rows_with.nd rfl (Or.inl rfl) (pe_newS G.kRD (hr.mono (by decide)) (E := fun _ => E0) pass0A (by rfl) (pa_cons (pv 0) (pa_cons (pv 1) pa_nil))))
    (C8.pss_cut (ps_set (i := 3) sc_rows_with.nd rfl (Or.inl rfl) (pe_metS0 G.mAw (hr.mono (by decide)) (pv 2) (E := fun _ => E0) pass0A))
    (C8.pss_cut (ps_if (pt_cmpR op_gt (pv 3) (pe_gi G.most) (nomark _))
      (pss_one (ps_raise rfl (takes_of rfl rfl rfl rfl) (pmk_1 G.lg (hr.mono (by decide)) (by rfl) (pa_cons (pv 3) pa_nil))))
      pss_nil)
    (pss_one (ps_ret (pe_metS G.mRf (hr.mono (by decide)) (pv 2) (E := fun _ => E0) pass0A (pa_cons pe_int (pa_cons pe_int pa_nil))))))))), ?_⟩
    obtain ⟨L, ds, js, t, rfl, hLay, hd, hn, ht, hok, q1, q2⟩ := h
    have hlen := hLay.ok.len
    refine ⟨fun σ J => σ = start ["layout", "text", "reading", "many"] [V.ref L, V.str t] ∧ J = H, ?_, ?_⟩
    · exact ⟨_, rfl, t, rfl, rfl, rfl⟩
    rintro σ J ⟨rfl, rfl⟩
    refine ⟨fun σ J1 => ∃ (a : Addr) (x : RX), σ = [some (.ref L), some (.str t), some (.ref a), none] ∧ x.t = t ∧ x.ds = ds ∧ x.js = js ∧ x.xss = xssOf t js ∧ x.wss = wssOf t js ∧ RxOk x ∧ RdS K J1 a x ∧ J1 x.E = some (.dK []) ∧ J1 x.Kp = some (.dT []) ∧ Same J J1 ∧ J x.E = none ∧ J x.Kp = none, ?_, ?_⟩
    · refine ⟨_, rfl, _, rfl, fun a dx ha hdx ne => ?_⟩
      exact ⟨a, dx, L, t, ds, js, J, rfl, upd_same, hLay, ha, same_new ha hdx, hd, ht, hok, fun x H' e1 e2 e3 e4 e5 e6 e7 e8 e9 e10 e11 e12 e13 => ⟨rfl, a, x, rfl, e1, e2, e3, e4, e5, e6, e7, e9, e10, e11, e12, e13⟩⟩
    rintro σ J1 ⟨a, x, rfl, e1, e2, e3, e4, e5, rok, hR, hE, hK, S1, nE, nK⟩
    obtain ⟨_, _, us, hwa, hW⟩ := hR.fix
    have hRo := hR.ob
    obtain ⟨W, r, eW, lW⟩ := waysF_hd t.length (xssOf t js)
    obtain ⟨z, ws, rfl⟩ : ∃ z ws, W = z :: ws := by
      cases W with
      | nil => cases lW
      | cons z ws => exact ⟨z, ws, rfl⟩
    have eW' : wssOf t js = (z :: ws) :: r := eW
    have etot : waysTot t js = z := by
      unfold waysTot
      rw [eW']
      rfl
    refine ⟨fun σ J => σ = [some (.ref L), some (.str t), some (.ref a), some (.int z)] ∧ J = J1, ?_, ?_⟩
    · rw [e5, eW'] at hW
      cases us with
      | nil => cases hW.1
      | cons u us =>
        obtain ⟨b, rfl, hb⟩ := hW.2 0 u (z :: ws) rfl rfl
        exact ⟨_, rfl, a, x.dx, x.fs, rfl, hRo, rok.no _ (by decide), a, x.dx, x.wa, b, x.fs, us, z, ws, rfl, hRo, rok.fW, hwa, hb, rfl, rfl⟩
    rintro σ J2 ⟨rfl, rfl⟩
    refine ⟨fun σ J => σ = [some (.ref L), some (.str t), some (.ref a), some (.int z)] ∧ J = J2 ∧ z ≤ 1000, ?_, ?_⟩
    · refine ⟨_, rfl, _, _, rfl, rfl, _, rfl, ?_⟩
      refine ite2 (fun c => ?_) (fun c => ?_)
      · have hz := of_decide_eq_true c
        have k := q2 (by rw [etot]; exact hz)
        rw [etot] at k
        exact ⟨_, rfl, mkO_1 (raise_mono S1 k)⟩
      · exact ⟨rfl, rfl, by
          by_cases k : z ≤ 1000
          · exact k
          · exact absurd (decide_eq_true (by omega)) c⟩
    rintro σ J3 ⟨rfl, rfl, hz⟩
    obtain ⟨hl, q⟩ := q1 (by rw [etot]; exact hz)
    have hrow : rowS x (js.length + 1) 0 0 = rowsT t js := rowS_eq (x := x) (y := x0 t js) e1 e3 e4 e5 _ _ _
    have fr : ∀ c, J c = none → (J c).isSome = false := fun c e => by rw [e]; rfl
    refine ⟨_, rfl, a, x.dx, x.fs, rfl, hRo, rok.no _ (by decide), a, x, 0, 0, js.length + 1, fun c => (J c).isSome, rfl, by omega, by rw [e2]; omega, by omega, rok, hR, fun c hc => ?_, ⟨[], hid_some.mpr ⟨fr _ nE, hE⟩, List.nodup_nil, fun kv h => (by cases h)⟩, ⟨[], hid_some.mpr ⟨fr _ nK, hK⟩, List.nodup_nil, fun kv h => (by cases h)⟩, by rw [hrow]; exact hl, fun L' H' B _ _ hRo => ?_⟩
    · obtain ⟨o, e⟩ := Option.isSome_iff_exists.mp hc
      rw [S1 _ _ e]
      exact fun z => by cases z
    · rw [hrow] at hRo
      refine q L' H' (fun c o e => B c o (fun z => by rw [z, nE] at e; cases e) (fun z => by rw [z, nK] at e; cases e) (S1 _ _ e)) (hRo.imp fun c o _ _ e => nw_hid e)

abbrev s_count_ways : Stmt := top 52
theorem sc_count_ways : FnScope ["layout", "text"] ["layout", "text"] (defScope s_count_ways) := ⟨rfl, rfl, rfl, by decide +kernel, rfl, by decide +kernel, by decide +kernel⟩

theorem ok_count_ways (F : FunD K "count_ways" "count_ways" (defArgs s_count_ways) (defBody s_count_ways) (defScope s_count_ways) [] [] f fd) (G : S10 P w K mg base) : FnOk P w K mg base CX0 8 f fd ["layout", "text"] (spCn K) := by
  refine F.ok (CX := CX0) sc_count_ways (fun vs H Q E h => ?_) (fun cdv A outer s H vs Q E hr h => ?_)
  · obtain ⟨_, _, _, _, rfl, _⟩ := h
    rfl
  · refine ⟨_, PSs.nox (pss_cons (ps_expr (pe_fn G.check_text (hr.mono (by decide)) pass0 (by rfl) (pa_cons (pv 1) pa_nil)))
    (pss_one (ps_ret (pe_metS0 G.mAw (hr.mono (by decide)) (pe_newS G.kRD (hr.mono (by decide)) (E := fun _ => E0) pass0A (by rfl) (pa_cons (pv 0) (pa_cons (pv 1) pa_nil))) (E := fun _ => E0) pass0A)))), ?_⟩
    obtain ⟨L, ds, js, t, rfl, hLay, hd, ht, hok, q⟩ := h
    refine ⟨_, rfl, t, rfl, ?_⟩
    refine ⟨_, rfl, _, rfl, fun a dx ha hdx ne => ?_⟩
    refine ⟨a, dx, L, t, ds, js, H, rfl, upd_same, hLay, ha, same_new ha hdx, hd, ht, hok, fun x H' e1 e2 e3 e4 e5 rok hR _ hE hK S1 nE nK => ⟨rfl, ?_⟩⟩
    obtain ⟨_, _, us, hwa, hW⟩ := hR.fix
    have hRo := hR.ob
    obtain ⟨W, r, eW, lW⟩ := waysF_hd t.length (xssOf t js)
    obtain ⟨z, ws, rfl⟩ : ∃ z ws, W = z :: ws := by
      cases W with
      | nil => cases lW
      | cons z ws => exact ⟨z, ws, rfl⟩
    have eW' : wssOf t js = (z :: ws) :: r := eW
    have etot : waysTot t js = z := by
      unfold waysTot
      rw [eW']
      rfl
    rw [e5, eW'] at hW
    cases us with
    | nil => cases hW.1
    | cons u us =>
      obtain ⟨b, rfl, hb⟩ := hW.2 0 u (z :: ws) rfl rfl
      exact ⟨a, x.dx, x.fs, rfl, hRo, rok.no _ (by decide), a, x.dx, x.wa, b, x.fs, us, z, ws, rfl, hRo, rok.fW, hwa, hb, by rw [← etot]; exact q _ S1⟩

end
end L2.K22

set_option Elab.async false
set_option linter.all false
set_option maxRecDepth 100000
set_option maxHeartbeats 4000000
/-! The law's rows. -/
namespace L2.K22
open PySem PySem.W PySem.Spec PySem.Calls PyProof.Rows L2.Jk
/-- 'x' * n, n at least 0 -/
def repOk0 (z : Str) (i : Int) : Bool := decide (i = 0) || repOk z i
theorem op_mulStr0 {X : Cx} : OpR X (binaryOp .Mult) (fun x y H Q => ∃ (z : Str) (i : Int), x = .str z ∧ y = .int i ∧ repOk0 z i = true ∧ Q (.str (repS z i)) H) := by
  intro pins s σ H x y v u Q I rx ry h
  obtain ⟨z, i, rfl, rfl, ok, q⟩ := h
  rcases Bool.or_eq_true_iff.mp ok with o | o
  · obtain rfl := of_decide_eq_true o
    obtain ⟨t, rfl⟩ := rx
    obtain ⟨t', rfl⟩ := ry
    exact P.mul_str_none (by decide) (by decide) ⟨.str _, H, I.tok _, ⟨_, rfl⟩, q⟩
  · exact op_mulStr pins s σ H _ _ v u Q I rx ry ⟨z, i, rfl, rfl, o, q⟩
def aS (n : Nat) : Str := repS "a" (n : Nat)
theorem rep_ok {n : Nat} (h : n ≤ 99) : repOk0 "a" (n : Nat) = true := by
  have : ((List.range 100).all fun n => repOk0 "a" ((n : Nat) : Int)) = true := by decide +kernel
  exact List.all_eq_true.mp this n (List.mem_range.mpr (by omega))
def lrStep (acc : List (List Str)) (s : Nat) : List (List Str) := acc.flatMap fun r => (List.range (s + 1)).map fun k => r ++ [aS k, aS (s - k)]
def lrows (ss : List Nat) : List (List Str) := ss.foldl lrStep [[]]
theorem lrows_snoc (ss : List Nat) (s : Nat) : lrows (ss ++ [s]) = lrStep (lrows ss) s := by
  unfold lrows
  rw [List.foldl_append]
  rfl
theorem lrStep_wide {acc : List (List Str)} {n s : Nat} (h : ∀ r ∈ acc, r.length ≤ n) : ∀ r ∈ lrStep acc s, r.length ≤ n + 2 := fun r hr => by
  obtain ⟨r', h1, h2⟩ := List.mem_flatMap.mp hr
  obtain ⟨k, _, rfl⟩ := List.mem_map.mp h2
  rw [List.length_append]
  have := h r' h1
  show r'.length + 2 ≤ n + 2
  omega
theorem lrows_wide (ss : List Nat) : ∀ (i : Nat), ∀ r ∈ lrows (ss.take i), r.length ≤ 2 * i
  | 0, r, h => by rw [List.mem_singleton.mp h]; exact Nat.le_refl _
  | i + 1, r, h => by
    cases e : ss[i]? with
    | none =>
      rw [List.take_add_one, e] at h
      have := lrows_wide ss i r (by rw [show ss.take i = ss.take i ++ (none : Option Nat).toList from (List.append_nil _).symm]; exact h)
      omega
    | some s =>
      rw [List.take_add_one, e] at h
      replace h : r ∈ lrows (ss.take i ++ [s]) := h
      rw [lrows_snoc] at h
      have := lrStep_wide (lrows_wide ss i) r h
      omega
theorem RwL.append {H : Hp} : ∀ {vs ws : List V} {es fs : List (List Str)}, RwL H vs es → RwL H ws fs → RwL H (vs ++ ws) (es ++ fs)
  | [], _, [], _, _, k => k
  | _ :: _, _, _ :: _, _, ⟨a, r⟩, k => ⟨a, r.append k⟩
  | [], _, _ :: _, _, h, _ => h.elim
  | _ :: _, _, [], _, h, _ => h.elim
def spPick : Sp := fun vs H Q _ => ∃ (a p : Addr) (xs : List V), vs = [.ref a, .ref p] ∧ StAt H a ∧ p ≠ a ∧ H p = some (.lst xs) ∧ xs ≠ [] ∧ xs.length ≤ 1000 ∧ ∀ v H', v ∈ xs → But a H H' → StAt H' a → Q v H'
theorem pick {xs : List V} {i : Nat} (h : i < xs.length) : ∃ v, xs[i]? = some v ∧ v ∈ xs := ⟨xs[i], List.getElem?_eq_getElem h, List.getElem_mem h⟩
def spLr (K : Frag) : Sp := fun vs H Q _ => ∃ (p : Addr) (ss : List Nat), vs = [.ref p] ∧ H p = some (.lst (ss.map fun s => V.int (s : Nat))) ∧ ss.length ≤ 30 ∧ (∀ s ∈ ss, s ≤ 99) ∧ (∀ i, i ≤ ss.length → (lrows (ss.take i)).length ≤ 5000) ∧ ∀ L H', Same H H' → RowsAt (nw H H') L (lrows ss) → Q (.ref L) H'
structure T0 (P : Program) (w : World) (K : Frag) (mg : Str → Option Value) (base : Heap) : Prop extends S4 P w K mg base where
  law_draw : FnAt P w K mg base CX0 1 "_law_draw" ["_law_source_here", "_law_many"] spDraw

section
variable {P : Program} {w : World} {K : Frag} {mg : Str → Option Value} {base : Heap} {f : Addr} {fd : FuncData}

abbrev s_law_pick : Stmt := top 57
theorem sc_law_pick : FnScope ["_law_source_here", "_law_items"] ["_law_source_here", "_law_items"] (defScope s_law_pick) := ⟨rfl, rfl, rfl, by decide +kernel, rfl, by decide +kernel, by decide +kernel⟩

theorem ok_law_pick (F : FunD K "_law_pick" "_law_pick" (defArgs s_law_pick) (defBody s_law_pick) (defScope s_law_pick) [] [] f fd) (G : T0 P w K mg base) : FnOk P w K mg base CX0 2 f fd ["_law_source_here", "_law_items"] spPick := by
  refine F.ok (CX := CX0) sc_law_pick (fun vs H Q E h => ?_) (fun cdv A outer s H vs Q E hr h => ?_)
  · obtain ⟨_, _, _, rfl, _⟩ := h
    rfl
  · refine ⟨_, PSs.nox (pss_one (ps_ret (pe_ix ix_list (pv 1) (pe_fn G.law_draw hr pass0 (by rfl) (pa_cons (pv 0) (pa_cons (pe_callB call_len_seq (by rfl) G.len (by decide +kernel) (pa_cons (pv 1) pa_nil)) pa_nil))) (fun _ _ => rfl)))), ?_⟩
    obtain ⟨a, p, xs, rfl, st, hne, hp, hx, hl, q⟩ := h
    have hx0 : 0 < xs.length := List.length_pos_iff.mpr hx
    refine ⟨_, rfl, _, rfl, _, rfl, p, xs, rfl, .inl (SqL.of hp), a, (xs.length : Nat), rfl, st, by omega, by omega, fun d1 H1 h0 h1 B1 st1 => ?_⟩
    obtain ⟨i, rfl⟩ : ∃ i : Nat, d1 = (i : Int) := ⟨d1.toNat, by omega⟩
    obtain ⟨v, hv, hm⟩ := pick (xs := xs) (i := i) (by omega)
    exact ⟨p, xs, _, v, rfl, rfl, SqL.of (B1 _ _ hne hp), atI_nat (j := i) hv, q v H1 hm B1 st1⟩

abbrev s_law_rows : Stmt := top 58
theorem sc_law_rows : FnScope ["_law_sizes", "_law_found", "_law_size", "_law_longer", "_law_row", "_law_few"] ["_law_sizes"] (defScope s_law_rows) := ⟨rfl, rfl, rfl, by decide +kernel, rfl, by decide +kernel, by decide +kernel⟩

theorem ok_law_rows (F : FunD K "_law_rows" "_law_rows" (defArgs s_law_rows) (defBody s_law_rows) (defScope s_law_rows) [] [] f fd) (G : T0 P w K mg base) : FnOk P w K mg base CX0 1 f fd ["_law_sizes"] (spLr K) := by
  refine F.ok (CX := CX0) sc_law_rows (fun vs H Q E h => ?_) (fun cdv A outer s H vs Q E hr h => ?_)
  · obtain ⟨_, _, rfl, _⟩ := h
    rfl
  · refine ⟨_, PSs.nox (C8.pss_cut (ps_set (i := 1) sc_law_rows.nd rfl (Or.inl rfl) (pe_lstS (pa_cons (pe_tupS pa_nil) pa_nil)))
    (C8.pss_cut (ps_for PassesOwn.never rfl (pi_list (pv 0)) (pg_name (i := 2) sc_law_rows.nd rfl (Or.inr rfl))
      (C8.pss_cut (ps_set (i := 3) sc_law_rows.nd rfl (Or.inl rfl) (pe_lstS pa_nil))
      (C8.pss_cut (ps_for PassesOwn.never rfl (pi_list (pv 1)) (pg_name (i := 4) sc_law_rows.nd rfl (Or.inr rfl))
        (pss_one (ps_expr (pe_bm PySem.F.plainAttrs_list PySem.F.slot_list_extend PySem.F.type_list_extend mt_extend (pv 3) (pa_cons (pe_lc (own := [("_law_few", 5)]) (g := gName 5) (tt := tYes) rfl sc_law_rows.nd (pi_range1 (by rfl) G.range (pa_cons (pe_op op_add (pv 2) pe_int) pa_nil)) (blkOk_by (N := ["_law_sizes", "_law_found", "_law_size", "_law_longer", "_law_row", "_law_few"]) (sc := defScope s_law_rows) (by decide +kernel)) (fun _ _ _ _ _ => pg_name (i := 5) sc_law_rows.nd rfl (Or.inl rfl)) (fun _ _ _ _ _ => pts_nil) (fun _ _ _ _ _ => pe_op (op_catAK (K := K) rfl) (pv 4) (pe_tupS (pa_cons (pe_op op_mulStr0 pe_str (pv 5)) (pa_cons (pe_op op_mulStr0 pe_str (pe_op op_sub (pv 2) (pv 5))) pa_nil))))) pa_nil)))))
      (pss_one (ps_set (i := 1) sc_law_rows.nd rfl (Or.inl rfl) (pv 3))))))
    (pss_one (ps_ret (pv 1))))), ?_⟩
    obtain ⟨p, ss, rfl, hp, hsl, hs9, hl, q⟩ := h
    refine ⟨fun σ J => ∃ fl, σ = [some (.ref p), some (.ref fl), none, none, none, none] ∧ Same H J ∧ RowsAt (nw H J) fl (lrows []), ?_, ?_⟩
    · refine ⟨by show 0 ≤ 1000; decide, fun T J1 hT S1 e1 => ⟨by show 1 ≤ 1000; decide, fun D J2 hD S2 e2 => ?_⟩⟩
      exact ⟨D, rfl, S1.trans S2, [.ref T], nw_some.mpr ⟨none_of S1 hD, e2⟩, ⟨T, rfl, nw_some.mpr ⟨hT, S2 _ _ e1⟩⟩, True.intro⟩
    rintro σ J0 ⟨fl, rfl, S0, hR0⟩
    refine ⟨fun σ J => ∃ (fl : Addr) (v2 v3 v4 v5 : Option V), σ = [some (.ref p), some (.ref fl), v2, v3, v4, v5] ∧ Same H J ∧ RowsAt (nw H J) fl (lrows ss), ?_, ?_⟩
    · refine ⟨_, rfl, p, rfl, ⟨_, SqL.of (S0 _ _ hp)⟩, for_list (K := K) (a := p) (xs := ss.map fun s => V.int (s : Nat)) (fun i σ J => ∃ (fl : Addr) (v2 v3 v4 v5 : Option V), σ = [some (.ref p), some (.ref fl), v2, v3, v4, v5] ∧ Same H J ∧ RowsAt (nw H J) fl (lrows (ss.take i))) ⟨fl, _, _, _, _, rfl, S0, hR0⟩ (fun i σ J _ ⟨_, _, _, _, _, _, SJ, _⟩ => SqL.of (SJ _ _ hp)) ?_ ?_⟩
      · rintro i v σ J hv ⟨fl, v2, v3, v4, v5, rfl, SJ, hR⟩
        rw [List.getElem?_map] at hv
        obtain ⟨s, hs, rfl⟩ := Option.map_eq_some_iff.mp hv
        have hi := (List.getElem?_eq_some_iff.mp hs).1
        have hs99 := hs9 s (List.mem_of_getElem? hs)
        have tk : ss.take (i + 1) = ss.take i ++ [s] := by rw [List.take_add_one, hs]; rfl
        have hl1 := hl (i + 1) hi
        rw [tk, lrows_snoc] at hl1
        obtain ⟨us, eF, hRw⟩ := hR
        obtain ⟨nF, eF⟩ := nw_some.mp eF
        have hul := hRw.len
        refine ⟨fun σ J1 => ∃ lg, σ = [some (.ref p), some (.ref fl), some (.int (s : Nat)), some (.ref lg), v4, v5] ∧ Same J J1 ∧ J lg = none ∧ J1 lg = some (.lst []), ?_, ?_⟩
        · exact ⟨by show 0 ≤ 1000; decide, fun lg J1 hlg S1 e1 => ⟨lg, rfl, S1, hlg, e1⟩⟩
        rintro σ J1 ⟨lg, rfl, S1, hlg, e1⟩
        refine ⟨fun σ J2 => ∃ (v4 v5 : Option V) (ws : List V), σ = [some (.ref p), some (.ref fl), some (.int (s : Nat)), some (.ref lg), v4, v5] ∧ Same J J2 ∧ J2 lg = some (.lst ws) ∧ RwL (nw H J2) ws (lrStep (lrows (ss.take i)) s), ?_, ?_⟩
        · refine ⟨_, rfl, fl, rfl, ⟨_, SqL.of (S1 _ _ eF)⟩, for_list (K := K) (a := fl) (xs := us) (fun j σ J2 => ∃ (v4 v5 : Option V) (ws : List V), σ = [some (.ref p), some (.ref fl), some (.int (s : Nat)), some (.ref lg), v4, v5] ∧ Same J J2 ∧ J2 lg = some (.lst ws) ∧ RwL (nw H J2) ws (lrStep ((lrows (ss.take i)).take j) s)) ⟨_, _, [], rfl, S1, e1, True.intro⟩ (fun j σ J2 _ ⟨_, _, _, _, S2, _⟩ => SqL.of (S2 _ _ eF)) ?_ ?_⟩
          · rintro j v σ J2 hv ⟨v4, v5, ws, rfl, S2, e2, hW⟩
            have hj := (List.getElem?_eq_some_iff.mp hv).1
            obtain ⟨r, hr⟩ : ∃ r, (lrows (ss.take i))[j]? = some r := ⟨_, List.getElem?_eq_getElem (by omega)⟩
            obtain ⟨T, rfl, hT⟩ := hRw.get j v r hv hr
            have hT2 := S2 _ _ (nw_some.mp hT).2
            have tkj : (lrows (ss.take i)).take (j + 1) = (lrows (ss.take i)).take j ++ [r] := by rw [List.take_add_one, hr]; rfl
            refine ⟨_, rfl, .inl ⟨rfl, _, SqL.of e2⟩, ?_⟩
            refine ⟨_, rfl, _, _, rfl, rfl, _, rfl, by omega, by omega, fun D hD => ?_⟩
            rw [show (((s : Nat) : Int) + 1).toNat = s + 1 by omega]
            have nDl : D ≠ lg := fun z => by rw [z, e2] at hD; cases hD
            refine lc_range (lo := 0) (n := s + 1) (fun k J3 => ∃ xs : List V, Same J2 J3 ∧ J3 D = some (.lst xs) ∧ RwL (nw H J3) xs ((List.range k).map fun k => r ++ [aS k, aS (s - k)])) ⟨[], same_upd hD, upd_same, True.intro⟩ ?_ ?_
            · rintro k J3 hk ⟨xs, S3, eD, hX⟩
              have hxl := hX.len
              rw [List.length_map, List.length_range] at hxl
              have e0 : (0 : Int) + ((k : Nat) : Int) = ((k : Nat) : Int) := Int.zero_add _
              have e00 : ((s : Nat) : Int) - (0 + ((k : Nat) : Int)) = ((s - k : Nat) : Int) := by omega
              have hD0 : H D = none := none_of (SJ.trans S2) hD
              have fin : ∀ (p2 : Addr) (J6 : Hp), Same J3 J6 → J3 p2 = none → J6 p2 = some (.tup ((r ++ [aS k, aS (s - k)]).map V.str)) → ∃ acc, J6 D = some (.lst acc) ∧ acc.length < sizeLine ∧ ∃ xs : List V, Same J2 (upd J6 D (.lst (acc ++ [.ref p2]))) ∧ upd J6 D (.lst (acc ++ [.ref p2])) D = some (.lst xs) ∧ RwL (nw H (upd J6 D (.lst (acc ++ [.ref p2])))) xs ((List.range (k + 1)).map fun k => r ++ [aS k, aS (s - k)]) := fun p2 J6 S6 n6 e6 => by
                refine ⟨xs, S6 _ _ eD, by rw [sizeLine_eq]; omega, xs ++ [.ref p2], same_put (S3.trans S6) hD, upd_same, ?_⟩
                have h0 : H p2 = none := none_of ((SJ.trans S2).trans S3) n6
                have tup : ∀ b ys, J6 b = some (.tup ys) → upd J6 D (.lst (xs ++ [.ref p2])) b = some (.tup ys) := fun b ys e => by
                  rw [upd_ne (ne_of e (S6 _ _ eD) (fun z => by cases z))]
                  exact e
                rw [List.range_succ, List.map_append]
                refine RwL.snoc ⟨p2, rfl, nw_some.mpr ⟨h0, tup _ _ e6⟩⟩ (hX.imp fun b ys q => ?_)
                obtain ⟨q1, q2⟩ := nw_some.mp q
                exact nw_some.mpr ⟨q1, tup _ _ (S6 _ _ q2)⟩
              have hT3 := S3 _ _ hT2
              refine ⟨rfl, _, rfl, _, rfl, "a", _, rfl, rfl, by rw [e0]; exact rep_ok (by omega), _, rfl, _, rfl, _, _, rfl, rfl, "a", _, rfl, rfl, by rw [e00]; exact rep_ok (by omega), by show 2 ≤ 1000; decide, fun p1 J5 hp1 S5 e5 => ?_⟩
              rw [e00, e0] at e5
              refine ⟨T, p1, r.map V.str, [.str (aS k), .str (aS (s - k))], rfl, rfl, SqT.of (S5 _ _ hT3), SqT.of e5, ?_, fun z => ?_, fun _ z => (by cases z), fun _ _ p2 hp2 => ?_⟩
              · have := lrows_wide ss i r (List.mem_of_getElem? hr)
                rw [List.length_map, sizeLine_eq]
                show r.length + 2 ≤ 16777216
                omega
              · refine fin p1 J5 S5 hp1 ?_
                have z2 : r = [] := List.map_eq_nil_iff.mp z
                rw [e5, z2]
                rfl
              · refine fin p2 _ (S5.trans (same_upd hp2)) (none_of S5 hp2) ?_
                rw [upd_same, List.map_append]
                rfl
            · rintro J3 ⟨xs, S3, eD, hX⟩
              have e23 := S3 _ _ e2
              have hwl := hW.len
              have hxl := hX.len
              rw [List.length_map, List.length_range] at hxl
              have ft := flat_take (fun r => (List.range (s + 1)).map fun k => r ++ [aS k, aS (s - k)]) (lrows (ss.take i)) j
              refine ⟨lg, D, ws, xs, rfl, rfl, e23, eD, ?_, ?_⟩
              · have : (lrStep ((lrows (ss.take i)).take j) s).length ≤ (lrStep (lrows (ss.take i)) s).length := ft
                rw [sizeLine_eq]
                omega
              · refine ⟨_, _, ws ++ xs, rfl, same_put (S2.trans S3) hlg, upd_same, ?_⟩
                have tup : ∀ b ys, J3 b = some (.tup ys) → upd J3 lg (.lst (ws ++ xs)) b = some (.tup ys) := fun b ys e => by
                  rw [upd_ne (ne_of e e23 (fun z => by cases z))]
                  exact e
                have k1 : RwL (nw H (upd J3 lg (.lst (ws ++ xs)))) ws (lrStep ((lrows (ss.take i)).take j) s) := hW.imp fun b ys q => by
                  obtain ⟨q1, q2⟩ := nw_some.mp q
                  exact nw_some.mpr ⟨q1, tup _ _ (S3 _ _ q2)⟩
                have k2 : RwL (nw H (upd J3 lg (.lst (ws ++ xs)))) xs ((List.range (s + 1)).map fun k => r ++ [aS k, aS (s - k)]) := hX.imp fun b ys q => by
                  obtain ⟨q1, q2⟩ := nw_some.mp q
                  exact nw_some.mpr ⟨q1, tup _ _ q2⟩
                rw [tkj]
                unfold lrStep at k1 ⊢
                rw [List.flatMap_append]
                refine k1.append ?_
                show RwL _ xs (_ ++ [])
                rw [List.append_nil]
                exact k2
          · rintro σ J2 ⟨v4, v5, ws, rfl, S2, e2, hW⟩
            rw [hul, List.take_length] at hW
            exact ⟨_, _, ws, rfl, S2, e2, hW⟩
        rintro σ J2 ⟨v4, v5, ws, rfl, S2, e2, hW⟩
        refine ⟨_, rfl, lg, _, _, _, _, rfl, SJ.trans S2, ws, nw_some.mpr ⟨none_of SJ hlg, e2⟩, ?_⟩
        rw [tk, lrows_snoc]
        exact hW
      · rintro σ J ⟨fl, v2, v3, v4, v5, rfl, SJ, hR⟩
        rw [List.length_map, List.take_length] at hR
        exact ⟨fl, _, _, _, _, rfl, SJ, hR⟩
    rintro σ J ⟨fl, v2, v3, v4, v5, rfl, SJ, hR⟩
    exact ⟨_, rfl, q fl J SJ hR⟩

end
end L2.K22

set_option Elab.async false
set_option linter.all false
set_option maxRecDepth 100000
set_option maxHeartbeats 4000000
/-! The law's texts: what the mirrors make of them. -/
namespace L2.K22
open PySem PySem.W PySem.Spec PySem.Calls PyProof.Rows L2.Jk
def tl (a b c : Nat) (j1 j2 : Str) : List Nat := List.replicate a 97 ++ (j1.cps.toList ++ (List.replicate b 97 ++ (j2.cps.toList ++ List.replicate c 97)))
def tx (a b c : Nat) (j1 j2 : Str) : Str := ⟨(tl a b c j1 j2).toArray⟩
def jx (j1 j2 : Str) : List Str := ["", j1, "", j2, ""]
def XS (a b c : Nat) : List (List (Int × Int × Int)) := xssOf (tx a b c "!" "!") (jx "!" "!")
def WW (a b c : Nat) : List (List Int) := waysF (a + b + c + 2) (XS a b c)
def jw (i : Nat) : Nat := [0, 1, 0, 1, 0, 0].getD i 0
def rowP (xss : List (List (Int × Int × Int))) (wss : List (List Int)) : Nat → Nat → Nat → List (List Nat)
  | 0, _, _ => [[]]
  | k + 1, i, p => ((endsOf (hopF (wss.getD (i + 1) []) (xss.getD i [])) p).getD []).flatMap fun e => (rowP xss wss k (i + 1) e).map fun r => e :: r
def posRows (a b c : Nat) : List (List Nat) := (List.range (a + 1)).flatMap fun i => (List.range (b + 1)).flatMap fun j => (List.range (c + 1)).map fun k => [i, a + 1, a + 1 + j, a + b + 2, a + b + 2 + k, a + b + 2 + c]
/-- all that is looked at, of three lengths -/
def chk (a b c : Nat) : Bool :=
  (XS a b c).all (fun xs => okX (a + b + c + 2) xs && decide ((xs.map fun x => x.1.toNat).Nodup)) &&
  ((List.range 6).all (fun i => (hopF ((WW a b c).getD (i + 1) []) ((XS a b c).getD i [])).all fun en => en.2.all fun e => decide (jw i ≤ e)) &&
  (decide (((WW a b c).headD []).headD 0 = (((a + 1) * (b + 1) * (c + 1) : Nat) : Int)) &&
  (decide (1000 < (a + 1) * (b + 1) * (c + 1)) || decide (rowP (XS a b c) (WW a b c) 6 0 0 = posRows a b c))))
def sgs : List Str := ["!", "~"]
/-- the signs do not matter -/
def sgnB (a b c : Nat) : Bool := sgs.all fun j1 => sgs.all fun j2 => decide (xssOf (tx a b c j1 j2) (jx j1 j2) = XS a b c)
/-! ### texts -/
theorem rep_fold (n : Nat) : ∀ acc : Array Nat, ((List.replicate n (#[97] : Array Nat)).foldl (· ++ ·) acc).toList = acc.toList ++ List.replicate n 97 := by
  induction n with
  | zero => intro acc; rw [List.replicate_zero, List.foldl_nil, List.replicate_zero, List.append_nil]
  | succ n ih =>
    intro acc
    rw [List.replicate_succ, List.foldl_cons, ih, Array.toList_append, List.append_assoc]
    rfl
theorem aS_eq (k : Nat) : aS k = ⟨(List.replicate k 97).toArray⟩ := by
  unfold aS repS
  congr 1
  apply Array.toList_inj.mp
  rw [show ("a" : Str).cps = (#[97] : Array Nat) by decide +kernel, Int.toNat_natCast, rep_fold]
  rfl
theorem cut_block (pre post : List Nat) (n u v : Nat) (h1 : u ≤ v) (h2 : v ≤ n) : ((pre ++ (List.replicate n 97 ++ post)).drop (pre.length + u)).take (v - u) = List.replicate (v - u) 97 := by
  rw [List.drop_append, List.drop_eq_nil_of_le (by omega), List.nil_append, show pre.length + u - pre.length = u by omega, List.drop_append_of_le_length (by rw [List.length_replicate]; omega), List.drop_replicate,
    List.take_append_of_le_length (by rw [List.length_replicate]; omega), List.take_replicate, Nat.min_eq_left (by omega)]
theorem cut_tx {t : Str} {pre post : List Nat} {n u v : Nat} (e : t.cps.toList = pre ++ (List.replicate n 97 ++ post)) (h1 : u ≤ v) (h2 : v ≤ n) (h3 : n ≤ 99) (w : Nat) : cutE t (pre.length + u) (pre.length + v + w) w = aS (v - u) := by
  have hl : t.length = pre.length + (n + post.length) := by
    show t.cps.size = _
    rw [← Array.length_toList, e, List.length_append, List.length_append, List.length_replicate]
  unfold cutE cutS
  rw [show ((pre.length + v + w : Nat) : Int) - (w : Nat) = ((pre.length + v : Nat) : Int) by omega, HT.sIx_nat, HT.sIx_nat, hl, Nat.min_eq_left (by omega), Nat.min_eq_left (by omega), e, show pre.length + v - (pre.length + u) = v - u by omega, cut_block pre post n u v h1 h2, aS_eq]
theorem sg_one {j : Str} (h : j ∈ sgs) : j.cps.toList.length = 1 := by
  have : ∀ j ∈ sgs, j.cps.toList.length = 1 := by decide +kernel
  exact this j h
theorem tx_len {a b c : Nat} {j1 j2 : Str} (h1 : j1 ∈ sgs) (h2 : j2 ∈ sgs) : (tx a b c j1 j2).length = a + b + c + 2 := by
  show (tl a b c j1 j2).toArray.size = _
  rw [List.size_toArray]
  unfold tl
  rw [List.length_append, List.length_append, List.length_append, List.length_append, List.length_replicate, List.length_replicate, List.length_replicate, sg_one h1, sg_one h2]
  omega
/-- the texts of a row by its places -/
def strsF (x : RX) : Nat → Nat → List Nat → List Str
  | _, _, [] => []
  | i, p, e :: r => cutE x.t p e (x.jn i).length :: strsF x (i + 1) e r
theorem rowS_P (x : RX) : ∀ k i p, rowS x k i p = (rowP x.xss x.wss k i p).map (strsF x i p)
  | 0, _, _ => rfl
  | k + 1, i, p => by
    show (valF x i p).flatMap _ = (List.flatMap _ _).map _
    rw [List.map_flatMap]
    unfold valF
    rw [List.flatMap_map]
    show (x.es i p).flatMap _ = (x.es i p).flatMap _
    congr 1
    funext e
    dsimp only
    rw [rowS_P x k, List.map_map, List.map_map]
    rfl
theorem lrows3 (a b c : Nat) : lrows [a, b, c] = (List.range (a + 1)).flatMap fun i => (List.range (b + 1)).flatMap fun j => (List.range (c + 1)).map fun k => [aS i, aS (a - i), aS j, aS (b - j), aS k, aS (c - k)] := by
  show lrStep (lrStep (lrStep [[]] a) b) c = _
  unfold lrStep
  rw [List.flatMap_assoc, List.flatMap_assoc, List.flatMap_cons, List.flatMap_nil, List.append_nil, List.flatMap_map]
  congr 1
  funext i
  rw [List.flatMap_map]
  rfl
theorem len3 {α : Type} (a b c : Nat) (f : Nat → Nat → Nat → α) : ((List.range a).flatMap fun i => (List.range b).flatMap fun j => (List.range c).map fun k => f i j k).length = a * b * c := by
  have h : ∀ (l : List Nat) (m : Nat) (g : Nat → List α), (∀ i, (g i).length = m) → (l.flatMap g).length = l.length * m := fun l m g hg => by
    induction l with
    | nil => simp
    | cons x l ih => rw [List.flatMap_cons, List.length_append, ih, hg, List.length_cons, Nat.succ_mul, Nat.add_comm]
  rw [h _ (b * c) _ fun i => by rw [h _ c _ fun j => by rw [List.length_map, List.length_range], List.length_range], List.length_range, Nat.mul_assoc]
theorem lrows_len (a b c : Nat) : (lrows [a, b, c]).length = (a + 1) * (b + 1) * (c + 1) := by rw [lrows3, len3]
end L2.K22

set_option Elab.async false
set_option linter.all false
set_option maxRecDepth 100000
set_option maxHeartbeats 4000000
/-! The law's texts, one by one. -/
namespace L2.K22
open PySem PySem.W PySem.Spec PySem.Calls PyProof.Rows L2.Jk
theorem chk0 : chk 9 9 9 = true := by decide +kernel
theorem sgn0 : sgnB 9 9 9 = true := by decide +kernel
theorem chk1 : chk 6 10 12 = true := by decide +kernel
theorem sgn1 : sgnB 6 10 12 = true := by decide +kernel
theorem chk2 : chk 8 9 10 = true := by decide +kernel
theorem sgn2 : sgnB 8 9 10 = true := by decide +kernel
theorem chk3 : chk 6 11 11 = true := by decide +kernel
theorem sgn3 : sgnB 6 11 11 = true := by decide +kernel
theorem chk4 : chk 3 24 9 = true := by decide +kernel
theorem sgn4 : sgnB 3 24 9 = true := by decide +kernel
theorem chk5 : chk 1 0 99 = true := by decide +kernel
theorem sgn5 : sgnB 1 0 99 = true := by decide +kernel
theorem chk6 : chk 12 10 6 = true := by decide +kernel
theorem sgn6 : sgnB 12 10 6 = true := by decide +kernel
theorem chk7 : chk 10 9 8 = true := by decide +kernel
theorem sgn7 : sgnB 10 9 8 = true := by decide +kernel
theorem chk8 : chk 11 11 6 = true := by decide +kernel
theorem sgn8 : sgnB 11 11 6 = true := by decide +kernel
theorem chk9 : chk 9 24 3 = true := by decide +kernel
theorem sgn9 : sgnB 9 24 3 = true := by decide +kernel
theorem chk10 : chk 99 0 1 = true := by decide +kernel
theorem sgn10 : sgnB 99 0 1 = true := by decide +kernel
def CS : List (Nat × Nat × Nat) := [(9, 9, 9), (6, 10, 12), (8, 9, 10), (6, 11, 11), (3, 24, 9), (1, 0, 99), (12, 10, 6), (10, 9, 8), (11, 11, 6), (9, 24, 3), (99, 0, 1)]
theorem cs_ok : ∀ x ∈ CS, chk x.1 x.2.1 x.2.2 = true ∧ sgnB x.1 x.2.1 x.2.2 = true := by
  intro x hx
  simp only [CS, List.mem_cons, List.not_mem_nil, or_false] at hx
  rcases hx with rfl | rfl | rfl | rfl | rfl | rfl | rfl | rfl | rfl | rfl | rfl
  · exact ⟨chk0, sgn0⟩
  · exact ⟨chk1, sgn1⟩
  · exact ⟨chk2, sgn2⟩
  · exact ⟨chk3, sgn3⟩
  · exact ⟨chk4, sgn4⟩
  · exact ⟨chk5, sgn5⟩
  · exact ⟨chk6, sgn6⟩
  · exact ⟨chk7, sgn7⟩
  · exact ⟨chk8, sgn8⟩
  · exact ⟨chk9, sgn9⟩
  · exact ⟨chk10, sgn10⟩
end L2.K22

set_option Elab.async false
set_option linter.all false
set_option maxRecDepth 100000
set_option maxHeartbeats 4000000
/-! The law's texts, what they give. -/
namespace L2.K22
open PySem PySem.W PySem.Spec PySem.Calls PyProof.Rows L2.Jk
theorem okSp_of (t : Str) (ht : t.length ≤ 4000) : ∀ (js : List Str) (ps : List Nat), ps.length ≤ 5000 → (∀ xs ∈ spansF t js ps, okX t.length xs = true) → okSp t js ps = true
  | [], _, _, _ => rfl
  | j :: js, ps, hp, h => by
    refine Bool.and_eq_true_iff.mpr ⟨decide_eq_true hp, Bool.and_eq_true_iff.mpr ⟨h _ List.mem_cons_self, okSp_of t ht js _ ?_ fun xs hx => h xs (List.mem_cons_of_mem _ hx)⟩⟩
    unfold plcs
    have h2 := List.length_filter_le (fun k => decide (((stepsOf (t.length + 2) (spanF t j ps)).take (k + 1)).sum > 0)) (List.range (stepsOf (t.length + 2) (spanF t j ps)).length)
    rw [List.length_range] at h2
    have h3 := steps_len (t.length + 2) (spanF t j ps)
    omega
/-- what the law needs to know of its texts -/
structure CaseOk (a b c : Nat) (j1 j2 : Str) : Prop where
  few : a ≤ 99 ∧ b ≤ 99 ∧ c ≤ 99
  len : (tx a b c j1 j2).length ≤ 4000
  ok : RdOk (tx a b c j1 j2) (jx j1 j2)
  tot : waysTot (tx a b c j1 j2) (jx j1 j2) = (((a + 1) * (b + 1) * (c + 1) : Nat) : Int)
  rows : ¬ 1000 < (a + 1) * (b + 1) * (c + 1) → rowsT (tx a b c j1 j2) (jx j1 j2) = lrows [a, b, c]
theorem jn_jx {t : Str} {j1 j2 : Str} (h1 : j1 ∈ sgs) (h2 : j2 ∈ sgs) (i : Nat) (hi : i < 6) : ((jx j1 j2 ++ ([""] : List Str)).getD i "").length = jw i := by
  have l1 : j1.length = 1 := by show j1.cps.size = 1; rw [← Array.length_toList]; exact sg_one h1
  have l2 : j2.length = 1 := by show j2.cps.size = 1; rw [← Array.length_toList]; exact sg_one h2
  match i, hi with
  | 0, _ => rfl
  | 1, _ => exact l1
  | 2, _ => rfl
  | 3, _ => exact l2
  | 4, _ => rfl
  | 5, _ => rfl
theorem flatMap_cong {α β : Type} {f g : α → List β} : ∀ {l : List α}, (∀ x ∈ l, f x = g x) → l.flatMap f = l.flatMap g
  | [], _ => rfl
  | x :: l, h => by rw [List.flatMap_cons, List.flatMap_cons, h x List.mem_cons_self, flatMap_cong fun y hy => h y (List.mem_cons_of_mem _ hy)]
theorem case_ok {a b c : Nat} {j1 j2 : Str} (hc : (a, b, c) ∈ CS) (h1 : j1 ∈ sgs) (h2 : j2 ∈ sgs) : CaseOk a b c j1 j2 := by
  have few : a ≤ 99 ∧ b ≤ 99 ∧ c ≤ 99 := by
    have : ∀ x ∈ CS, x.1 ≤ 99 ∧ x.2.1 ≤ 99 ∧ x.2.2 ≤ 99 := by decide
    exact this _ hc
  obtain ⟨k1, k2⟩ := cs_ok _ hc
  dsimp only at k1 k2
  have hx : xssOf (tx a b c j1 j2) (jx j1 j2) = XS a b c := of_decide_eq_true (List.all_eq_true.mp (List.all_eq_true.mp k2 j1 h1) j2 h2)
  have hl := tx_len (a := a) (b := b) (c := c) h1 h2
  have hw : wssOf (tx a b c j1 j2) (jx j1 j2) = WW a b c := by
    unfold wssOf WW
    rw [hx, hl]
  obtain ⟨k3, k1⟩ := Bool.and_eq_true_iff.mp k1
  obtain ⟨k4, k1⟩ := Bool.and_eq_true_iff.mp k1
  obtain ⟨k5, k6⟩ := Bool.and_eq_true_iff.mp k1
  have ok : RdOk (tx a b c j1 j2) (jx j1 j2) := {
    sp := okSp_of _ (by rw [hl]; omega) _ _ (by decide) (by
      show ∀ xs ∈ xssOf (tx a b c j1 j2) (jx j1 j2), _
      rw [hx, hl]
      exact fun xs hxs => (Bool.and_eq_true_iff.mp (List.all_eq_true.mp k3 xs hxs)).1)
    xv := by
      rw [hx, hl]
      intro xs hxs
      obtain ⟨u, v⟩ := Bool.and_eq_true_iff.mp (List.all_eq_true.mp k3 xs hxs)
      exact ⟨u, of_decide_eq_true v⟩
    ev := by
      rw [hx, hw]
      intro i hi en hen e he
      rw [jn_jx (t := "") h1 h2 i hi]
      exact of_decide_eq_true (List.all_eq_true.mp (List.all_eq_true.mp (List.all_eq_true.mp k4 i (List.mem_range.mpr hi)) en hen) e he) }
  refine ⟨few, by rw [hl]; omega, ok, ?_, fun hn => ?_⟩
  · unfold waysTot
    rw [hw]
    exact of_decide_eq_true k5
  · have k7 : rowP (XS a b c) (WW a b c) 6 0 0 = posRows a b c := by
      rcases Bool.or_eq_true_iff.mp k6 with z | z
      · exact absurd (of_decide_eq_true z) hn
      · exact of_decide_eq_true z
    unfold rowsT
    show rowS (x0 (tx a b c j1 j2) (jx j1 j2)) 6 0 0 = _
    rw [rowS_P]
    show (rowP (xssOf (tx a b c j1 j2) (jx j1 j2)) (wssOf (tx a b c j1 j2) (jx j1 j2)) 6 0 0).map _ = _
    rw [hx, hw, k7, lrows3]
    unfold posRows
    rw [List.map_flatMap]
    refine flatMap_cong fun i hi => ?_
    rw [List.map_flatMap]
    refine flatMap_cong fun j hj => ?_
    rw [List.map_map]
    refine List.map_congr_left fun k hk => ?_
    have hi := List.mem_range.mp hi
    have hj := List.mem_range.mp hj
    have hk := List.mem_range.mp hk
    have o1 := sg_one h1
    have o2 := sg_one h2
    have w0 := jn_jx (t := "") h1 h2 0 (by decide)
    have w1 := jn_jx (t := "") h1 h2 1 (by decide)
    have w2 := jn_jx (t := "") h1 h2 2 (by decide)
    have w3 := jn_jx (t := "") h1 h2 3 (by decide)
    have w4 := jn_jx (t := "") h1 h2 4 (by decide)
    have w5 := jn_jx (t := "") h1 h2 5 (by decide)
    show [cutE _ _ _ ((jx j1 j2 ++ ([""] : List Str)).getD 0 "").length, cutE _ _ _ ((jx j1 j2 ++ ([""] : List Str)).getD 1 "").length, cutE _ _ _ ((jx j1 j2 ++ ([""] : List Str)).getD 2 "").length, cutE _ _ _ ((jx j1 j2 ++ ([""] : List Str)).getD 3 "").length, cutE _ _ _ ((jx j1 j2 ++ ([""] : List Str)).getD 4 "").length, cutE _ _ _ ((jx j1 j2 ++ ([""] : List Str)).getD 5 "").length] = _
    rw [w0, w1, w2, w3, w4, w5]
    have e1 : (tx a b c j1 j2).cps.toList = [] ++ (List.replicate a 97 ++ (j1.cps.toList ++ (List.replicate b 97 ++ (j2.cps.toList ++ List.replicate c 97)))) := rfl
    have e2 : (tx a b c j1 j2).cps.toList = (List.replicate a 97 ++ j1.cps.toList) ++ (List.replicate b 97 ++ (j2.cps.toList ++ List.replicate c 97)) := by rw [e1, List.nil_append, List.append_assoc]
    have e3 : (tx a b c j1 j2).cps.toList = (List.replicate a 97 ++ j1.cps.toList ++ (List.replicate b 97 ++ j2.cps.toList)) ++ (List.replicate c 97 ++ []) := by rw [e2, List.append_nil, List.append_assoc, List.append_assoc, List.append_assoc, List.append_assoc]
    have p2 : (List.replicate a 97 ++ j1.cps.toList).length = a + 1 := by rw [List.length_append, List.length_replicate, o1]
    have p3 : (List.replicate a 97 ++ j1.cps.toList ++ (List.replicate b 97 ++ j2.cps.toList)).length = a + b + 2 := by rw [List.length_append, p2, List.length_append, List.length_replicate, o2]; omega
    have c1 := cut_tx e1 (u := 0) (v := i) (by omega) (by omega) (by omega) 0
    have c2 := cut_tx e1 (u := i) (v := a) (by omega) (by omega) (by omega) 1
    have c3 := cut_tx e2 (u := 0) (v := j) (by omega) (by omega) (by omega) 0
    have c4 := cut_tx e2 (u := j) (v := b) (by omega) (by omega) (by omega) 1
    have c5 := cut_tx e3 (u := 0) (v := k) (by omega) (by omega) (by omega) 0
    have c6 := cut_tx e3 (u := k) (v := c) (by omega) (by omega) (by omega) 0
    rw [p2] at c3 c4
    rw [p3] at c5 c6
    simp only [List.length_nil, Nat.zero_add, Nat.add_zero, Nat.sub_zero] at c1 c2 c3 c4 c5 c6
    rw [show a + 1 + b + 1 = a + b + 2 by omega] at c4
    show [cutE _ 0 i 0, cutE _ i (a + 1) 1, cutE _ (a + 1) (a + 1 + j) 0, cutE _ (a + 1 + j) (a + b + 2) 1, cutE _ (a + b + 2) (a + b + 2 + k) 0, cutE _ (a + b + 2 + k) (a + b + 2 + c) 0] = _
    rw [show cutE (x0 (tx a b c j1 j2) (jx j1 j2)).t 0 i 0 = aS i from c1, show cutE (x0 (tx a b c j1 j2) (jx j1 j2)).t i (a + 1) 1 = _ from c2, show cutE (x0 (tx a b c j1 j2) (jx j1 j2)).t (a + 1) (a + 1 + j) 0 = _ from c3, show cutE (x0 (tx a b c j1 j2) (jx j1 j2)).t (a + 1 + j) (a + b + 2) 1 = _ from c4, show cutE (x0 (tx a b c j1 j2) (jx j1 j2)).t (a + b + 2) (a + b + 2 + k) 0 = _ from c5, show cutE (x0 (tx a b c j1 j2) (jx j1 j2)).t (a + b + 2 + k) (a + b + 2 + c) 0 = _ from c6]
end L2.K22

set_option Elab.async false
set_option linter.all false
set_option maxRecDepth 100000
set_option maxHeartbeats 4000000
/-! repr of flat values. -/
namespace L2.Jk
open PySem PySem.W PySem.Spec PySem.Calls PyProof.Rows
def reprV : V → Str
  | .non => "None"
  | .bl b => if b then "True" else "False"
  | .int i => (toString i : Str)
  | .str z => reprText z
  | _ => ""
def reprOk : V → Bool
  | .int i => decide (i.natAbs.log2 < 1920)
  | .str z => decide ((reprText z).length ≤ 16777216)
  | _ => true
theorem call_reprV {X : Cx} : CallR X (.builtin "repr") (fun xs H Q => ∃ v, xs = [v] ∧ flatV v = true ∧ reprOk v = true ∧ Q (.str (reprV v)) H) := by
  intro pins s σ H xs us Q I r h
  obtain ⟨v, rfl, hf, hz, q⟩ := h
  obtain ⟨u, rfl, ru⟩ := vals1 r
  cases v with
  | non =>
    cases ru
    exact P.repr_of_none ⟨.str _, H, I.tok _, ⟨_, rfl⟩, q⟩
  | bl b =>
    cases ru
    exact P.repr_of_bool ⟨.str _, H, I.tok _, ⟨_, by cases b <;> rfl⟩, q⟩
  | int i =>
    obtain ⟨t, rfl⟩ := ru
    exact P.repr_of_int (of_decide_eq_true hz) ⟨.str _, H, I.tok _, ⟨_, rfl⟩, q⟩
  | str z =>
    obtain ⟨t, rfl⟩ := ru
    exact P.repr_of_str ⟨.str _, H, I.tok _, ⟨_, rfl⟩, q⟩ (by rw [sizeLine_eq]; exact of_decide_eq_true hz)
  | _ => cases hf
end L2.Jk

set_option Elab.async false
set_option linter.all false
set_option maxRecDepth 100000
set_option maxHeartbeats 4000000
/-! try: several clauses, some with a name, some without, put together clause by clause. -/
namespace L2.Jk
open PySem PySem.W PySem.Spec PySem.Calls PyProof.Rows

section
variable {X : Cx}
/-- an error that was caught here: all that is known where the clauses are looked at -/
structure Hit (X : Cx) (pins : List (Addr × Obj)) (σ : St) (H : Hp) (s' : Shared) (a : Addr) (cls : Value) (d : Option Addr) (B : Heap) (sI : Shared) (h3 : Heap) : Prop where
  hs : X.stack = X.env :: X.outer
  hf : X.env.frame = some X.env.locals
  J : Inv X pins σ H sI
  nb : ∀ b o, sI.heap.get? b = some o → b ∉ frs X.stack → B.get? b = some o
  up : sI.heap.UpToSlots h3
  fl : HandSPX.FlyingZ B (X.env :: X.outer) a (Zc cls d) h3
  na : H a = none
  os : s'.os = sI.os
  ag : AllBare s'.gens
/-- the clauses hds keep the wish w -/
def Hnd (X : Cx) (hds : List ExceptHandler) (w : Ends → WX) : Prop := ∀ (D : Ends) (pins : List (Addr × Obj)) (σ : St) (H : Hp) (s' : Shared) (a : Addr) (cls : Value) (d : Option Addr) (B : Heap) (sI : Shared) (h3 : Heap),
  Hit X pins σ H s' a cls d B sI h3 → w D cls d σ H → wpAny (model X.prog X.w) X.A (handleBy (.ref a) X.env hds) (SP X pins D) X.xe { s' with heap := h3 }
section
variable {pins : List (Addr × Obj)} {σ : St} {H : Hp} {s' : Shared} {a : Addr} {cls : Value} {d : Option Addr} {B : Heap} {sI : Shared} {h3 : Heap}
theorem Hit.inv (t : Hit X pins σ H s' a cls d B sI h3) : Inv X pins σ H { s' with heap := h3 } :=
  t.J.landed t.nb t.fl.1 t.up t.os t.ag
theorem Hit.apart (t : Hit X pins σ H s' a cls d B sI h3) : a ≠ X.env.locals ∧ a ∉ X.fs := by
  obtain ⟨oe, vs, he, hz, hd⟩ := t.fl.there
  have nfr : a ∉ frs (X.env :: X.outer) := fun hm => by
    obtain ⟨_, o', e', hnf⟩ := t.fl.2.2.1.mem hm
    rw [he] at e'
    cases e'
    exact hnf _ hd
  refine ⟨fun z => nfr (List.mem_filterMap.mpr ⟨X.env, List.mem_cons_self, by rw [t.hf, z]⟩), fun hm => ?_⟩
  obtain ⟨e, he, q⟩ := List.mem_filterMap.mp hm
  exact nfr (List.mem_filterMap.mpr ⟨e, List.mem_cons_of_mem _ he, q⟩)
end
theorem hnd_nil {Wout : WX} (tk : Takes X Wout) : Hnd X [] (fun _ => Wout) := by
  intro D pins σ H s' a cls d B sI h3 t w
  refine wpAny_handleBy_nil ?_
  obtain ⟨_, _, _, oe, vs, T, oT, ts', he, hz, hd, h1, hr⟩ := id t.fl
  unfold PySem.passOn
  refine wpAny_bind (wpAny_field he hd h1 ?_)
  have nn : ¬ ((Value.ref T == Value.none) = true) := by simp
  rw [if_neg nn]
  have fin : wpAny (model X.prog X.w) X.A (setFlight (.ref a) X.env.frame) (fun _ s4 => wpAny (model X.prog X.w) X.A (throw (.ref a) : Sem Flow) (SP X pins D) X.xe s4) X.xe { s' with heap := h3 } := by
    rw [t.hf]
    exact HandSPX.setFlight_upZ t.fl fun h4 hh4 up4 => wpAny_throw (tk _ _ ⟨a, B, sI, pins, σ, H, cls, d, rfl, t.J, t.nb, t.up.trans up4, .inr (.inr (by rw [t.hs]; exact hh4)), t.na, t.os, t.ag, w⟩)
  first
    | exact wpAny_bind (wpAny_pure (wpAny_bind fin))
    | exact wpAny_bind fin
section
variable {x n : Str} {c : Value} {np cp : Pos} {pins : List (Addr × Obj)} {σ : St} {H : Hp} {s' : Shared} {a : Addr} {cls : Value} {d : Option Addr} {B : Heap} {sI : Shared} {h3 : Heap} {b₀ : Stmt} {suite : List Stmt} {hds : List ExceptHandler} {w : Ends → WX} {ts : Addr → Value → Option Addr → TS} {i : Nat}
/-- there is an object there, and the suite of a clause may run -/
theorem Hit.go (t : Hit X pins σ H s' a cls d B sI h3) : ∃ oe : Obj, h3.get? a = some oe ∧ Zc cls d oe ∧ (∃ vs, oe.data = .fields vs) ∧ Inv (X.suite a ((a, oe) :: (X.pn ++ pins))) [] σ H { s' with heap := h3 } := by
  obtain ⟨oe, vs, he, hz, hd⟩ := t.fl.there
  exact ⟨oe, he, hz, ⟨vs, hd⟩, t.inv.suite he hd t.na t.apart.1 t.apart.2⟩
theorem Hit.again (t : Hit X pins σ H s' a cls d B sI h3) {h4 : Heap} (fl4 : HandSPX.FlyingZ B (X.env :: X.outer) a (Zc cls d) h4) (up4 : h3.UpToSlots h4) : Hit X pins σ H s' a cls d B sI h4 :=
  ⟨t.hs, t.hf, t.J, t.nb, t.up.trans up4, fl4, t.na, t.os, t.ag⟩
/-- what a clause asks first: whether the error is one of its class -/
theorem hit_test {b : Bool} {Q : Bool → Shared → Prop} {E E2 : Value → Shared → Prop}
    (t : Hit X pins σ H s' a cls d B sI h3) (hc : Names X x c) (hb : exmOne X.K cls c = some b) (q : Q b { s' with heap := h3 }) :
    wpAny (model X.prog X.w) (X.A.mark (some (.ref a))) (eval (.Name x np) X.env) (fun c' s1 => wpAny (model X.prog X.w) (X.A.mark (some (.ref a))) (excMatches (.ref a) c') Q E s1) E2 { s' with heap := h3 } := by
  obtain ⟨oe, he, hz, hd, S3⟩ := t.go
  have LT : Looks (model X.prog X.w) h3 (typeOf (.ref a)) cls := fun A Q E s k q => wpAny_typeOf_ref (k _ _ he) (by rw [hz.1]; exact q)
  have LM := exm_one (M := model X.prog X.w) t.inv.kIn LT hb
  have fin : wpAny (model X.prog X.w) (X.A.mark (some (.ref a))) (excMatches (.ref a) c) Q E { s' with heap := h3 } := LM.here q
  obtain ⟨hg, hdbg, hm | ⟨hm, hv, hnn⟩⟩ := hc
  · exact ld_glob (X := X.suite a ((a, oe) :: (X.pn ++ pins))) S3 hg hm fin hdbg
  · exact ld_blt (X := X.suite a ((a, oe) :: (X.pn ++ pins))) S3 hg hm hv fin hnn hdbg
abbrev SuiteOk (X : Cx) (body : List Stmt) (ts : Addr → Value → Option Addr → TS) : Prop :=
  ∀ (a : Addr) (oe : Obj) (cls : Value) (d : Option Addr) (pn : List (Addr × Obj)), Zc cls d oe → (∃ vs, oe.data = .fields vs) → PSs (X.suite a ((a, oe) :: pn)) body (ts a cls d)
/-- except x: suite, and the clauses behind it -/
theorem hnd_un (hc : Names X x c) (hsu : SuiteOk X (b₀ :: suite) ts) (r : Hnd X hds w) :
    Hnd X (.ExceptHandler (some (.Name x np)) none (b₀ :: suite) cp :: hds) (fun D cls d σ H => ∃ b, exmOne X.K cls c = some b ∧ (b = true → ∀ a, H a = none → ts a cls d D σ H) ∧ (b = false → w D cls d σ H)) := by
  intro D pins σ H s' a cls d B sI h3 t ⟨b, hb, yes, no⟩
  have ok := t.J.ok
  refine wpAny_handleBy_cons (codeAny_handlers_test (hit_test t hc hb ?_)) (by intro q; cases q)
  cases b with
  | false => exact r D pins σ H s' a cls d B sI h3 t (no rfl)
  | true =>
    refine codeAny_handlers_suite (HandSPX.lands_againZ t.fl fun h4 fl4 up4 => ?_)
    obtain ⟨oe4, he4, hz4, hd4, S4⟩ := (t.again fl4 up4).go
    refine wpAny_mono ((hsu a oe4 cls d (X.pn ++ pins) hz4 hd4).run [] _ _ H _ S4 (yes rfl a t.na)) (fun f s6 hsp => ?_) (fun _ _ z => False.elim z)
    cases f with
    | ret u =>
      obtain ⟨v6, σ6, H6, S6, r6, q6⟩ := hsp
      exact ⟨_, _, _, S6.unsuite ok, r6, q6⟩
    | _ =>
      obtain ⟨σ6, H6, S6, q6⟩ := hsp
      exact ⟨_, _, S6.unsuite ok, q6⟩
/-- except x as n: suite, n in slot i, and the clauses behind it -/
theorem hnd_as (hN : X.N.Nodup) (hi : X.N[i]? = some n) (hln : X.env.kindOf n = some .local) (hc : Names X x c) (hsu : SuiteOk X (b₀ :: suite) ts) (r : Hnd X hds w) :
    Hnd X (.ExceptHandler (some (.Name x np)) (some n) (b₀ :: suite) cp :: hds) (fun D cls d σ H => ∃ b, exmOne X.K cls c = some b ∧ (b = true → ∀ a, H a = none → ts a cls d { nx := fun σ' H' => D.nx (σ'.set i none) H', rt := D.rt, bk := fun σ' H' => D.bk (σ'.set i none) H', ct := fun σ' H' => D.ct (σ'.set i none) H' } (σ.set i (some (.ref a))) H) ∧ (b = false → w D cls d σ H)) := by
  intro D pins σ H s' a cls d B sI h3 t ⟨b, hb, yes, no⟩
  have ok := t.J.ok
  refine wpAny_handleBy_cons (codeAny_handlers_test (hit_test t hc hb ?_)) (by intro q; cases q)
  cases b with
  | false => exact r D pins σ H s' a cls d B sI h3 t (no rfl)
  | true =>
    refine codeAny_handlers_suite_as (HandSPX.lands_againZ t.fl fun h4 fl4 up4 => ?_)
    obtain ⟨oe4, he4, hz4, hd4, S4⟩ := (t.again fl4 up4).go
    refine store_ok (X := X.suite a ((a, oe4) :: (X.pn ++ pins))) (v := .ref a) S4 hN hi (.inl hln) rfl (fun s5 S5 => ?_) (.inr hln)
    refine wpAny_mono ((hsu a oe4 cls d (X.pn ++ pins) hz4 hd4).run [] s5 _ H _ S5 (yes rfl a t.na)) (fun f s6 hsp => ?_) (fun _ _ z => False.elim z)
    cases f with
    | ret u =>
      obtain ⟨v6, σ6, H6, S6, r6, q6⟩ := hsp
      exact gone_ok (S6.unsuite ok) hN hi hln fun s7 J7 => ⟨_, _, _, J7, r6, q6⟩
    | _ =>
      obtain ⟨σ6, H6, S6, q6⟩ := hsp
      exact gone_ok (S6.unsuite ok) hN hi hln fun s7 J7 => ⟨_, _, J7, q6⟩
end
/-- the statement -/
theorem ps_try_hnd {body : List Stmt} {h₀ : ExceptHandler} {hds : List ExceptHandler} {w : Ends → WX} {tb : WX → TS} {pos : Pos} (hs : X.stack = X.env :: X.outer) (hf : X.env.frame = some X.env.locals)
    (hb : ∀ (W : WX) (pn : List (Addr × Obj)) (xe : Value → Shared → Prop), Takes (X.tr pn xe) W → PassesOwn (model X.prog X.w) X.A X.env xe → PSs (X.tr pn xe) body (tb W))
    (hh : Hnd X (h₀ :: hds) w) : PS X (.Try body (h₀ :: hds) [] [] pos) (fun D σ H => tb (w D) D σ H) := by
  constructor
  intro pins s σ H D I h
  have ok := I.ok
  have hfr : X.A.frames = some (X.env :: X.outer) := by rw [ok.frames, hs]
  refine wpAny_Try_except (wpAny_mono ((hb (w D) (X.pn ++ pins) (fun e s₁ => wpAny (model X.prog X.w) X.A (noteFrame e X.env) (fun _ s₂ => wpAny (model X.prog X.w) X.A (setFlight e none) (fun _ s₃ =>
    wpAny (model X.prog X.w) X.A (handleBy e X.env (h₀ :: hds)) (SP X pins D) X.xe s₃) X.xe s₂) X.xe s₁) (fun u s' xx => ?_) PassesOwn.looking).run [] s σ H D (I.toTry _) h) (fun f s1 hsp => ?_) (fun e s1 he => he))
  · obtain ⟨a, B, sI, pins', σ', H', cls, d, rfl, J', nb, up, sky, na, os, ag, wd⟩ := xx
    have sky' : Sky B (X.env :: X.outer) a (Zc cls d) X.env.locals s'.heap := by rw [← hs]; exact sky
    exact Sky.land Zc.steady hfr hf sky' fun h3 fl3 up3 => hh D pins σ' H' s' a cls d B sI h3 ⟨hs, hf, J'.ofTry ok, nb, up.trans up3, fl3, na, os, ag⟩ wd
  · cases f with
    | next =>
      obtain ⟨σ', H', J', q⟩ := hsp
      exact wpAny_execs_nil ⟨σ', H', J'.ofTry ok, q⟩
    | ret u =>
      obtain ⟨v, σ', H', J', r, q⟩ := hsp
      exact ⟨v, σ', H', J'.ofTry ok, r, q⟩
    | _ =>
      obtain ⟨σ', H', J', q⟩ := hsp
      exact ⟨σ', H', J'.ofTry ok, q⟩
end
end L2.Jk

set_option Elab.async false
set_option linter.all false
set_option maxRecDepth 100000
set_option maxHeartbeats 4000000
/-! What is told of a text. -/
namespace L2.K22
open PySem PySem.W PySem.Spec PySem.Calls PyProof.Rows L2.Jk
theorem count_look {z : V} : ([(("count" : Str), z)] : List (Str × V)).lookup ("count" : Str) = some z := by rw [lookup_put, if_pos rfl]
def spTl (K : Frag) : Sp := fun vs H Q _ => ∃ (L : Addr) (ds : List FD) (js : List Str) (t : Str), vs = [.ref L, .str t] ∧ LayAt K H L ds js ∧ (∀ d ∈ ds, d = wAB) ∧ ds.length ≤ 6 ∧ t.length ≤ 4000 ∧ RdOk t js ∧
  (waysTot t js ≤ 1000 → (rowsT t js).length ≤ 1000 ∧ ∀ L' H', Same H H' → RowsAt (nw H H') L' (rowsT t js) → Q (.ref L') H') ∧ (1000 < waysTot t js → ∀ H', Same H H' → Q (.int (waysTot t js)) H')
structure T1 (P : Program) (w : World) (K : Frag) (mg : Str → Option Value) (base : Heap) : Prop extends T0 P w K mg base where
  rows_with : FnAt P w K mg base (L2.CX P w) 12 "rows_with" ["layout", "text"] (spRw K)
  lg : ErrAt P w K mg base "Large" (LG K) ["count"] "refused large"
  exmL : exmOne K (.ref (LG K)) (.ref (LG K)) = some true
  mgJ : mg "JointError" = some (.ref (He.ga K "JointError"))
section
variable {P : Program} {w : World} {K : Frag} {mg : Str → Option Value} {base : Heap} {f : Addr} {fd : FuncData}

abbrev s_law_told : Stmt := top 59
theorem sc_law_told : FnScope ["_law_layout", "_law_text", "e"] ["_law_layout", "_law_text"] (defScope s_law_told) := ⟨rfl, rfl, rfl, by decide +kernel, rfl, by decide +kernel, by decide +kernel⟩

theorem ok_law_told (F : FunD K "_law_told" "_law_told" (defArgs s_law_told) (defBody s_law_told) (defScope s_law_told) [] [] f fd) (G : T1 P w K mg base) : FnOk P w K mg base CX0 13 f fd ["_law_layout", "_law_text"] (spTl K) := by
  refine F.ok (CX := CX0) sc_law_told (fun vs H Q E h => ?_) (fun cdv A outer s H vs Q E hr h => ?_)
  · obtain ⟨_, _, _, _, rfl, _⟩ := h
    rfl
  · refine ⟨_, PSs.nox (pss_one (ps_try_hnd rfl rfl (fun W pn xe tk _ => pss_one (ps_ret (pe_fnS G.rows_with (hr.mono (by decide)) (fun σ => passAt tk σ) (by rfl) (pa_cons (pv 0) (pa_cons (pv 1) pa_nil))))) (hnd_as (i := 2) sc_law_told.nd rfl rfl ⟨rfl, by decide, .inl G.lg.mgC⟩ (fun a_ oe cls d_ pn hz hf => pss_one (ps_ret (pe_xf G.lg.ex.ec.xf (G.lg.ex.no _ (by decide +kernel)) hz hf (pv 2)))) (hnd_un ⟨rfl, by decide, .inl G.mgJ⟩ (fun a_ oe cls d_ pn hz hf => pss_one (ps_ret pe_str)) (hnd_nil takes0))))), ?_⟩
    obtain ⟨L, ds, js, t, rfl, hLay, hd, hn, ht, hok, q1, q2⟩ := h
    refine ⟨_, rfl, _, rfl, L, ds, js, t, rfl, hLay, hd, hn, ht, hok, fun hz => ?_, fun hz => ?_⟩
    · obtain ⟨hl, q⟩ := q1 hz
      exact ⟨hl, fun L' H' S hR => q L' H' S hR⟩
    · exact fun dd H2 hdd S2 e2 => ⟨true, G.exmL, fun _ a0 ha0 => ⟨_, rfl, rfl, rfl, dd, _, _, rfl, e2, count_look, q2 hz _ S2⟩, fun qq => Bool.noConfusion qq⟩

end
end L2.K22

set_option Elab.async false
set_option linter.all false
set_option maxRecDepth 100000
set_option maxHeartbeats 4000000
/-! The law. -/
namespace L2.K22
open PySem PySem.W PySem.Spec PySem.Calls PyProof.Rows L2.Jk
/-! ### the law's parameters -/
theorem ab_in : (V.str "ab") ∈ sM := ⟨rfl, by decide +kernel⟩
theorem z_in : (V.int 0) ∈ nM := ⟨rfl, fun i h => by injection h with h; omega⟩
theorem n_in : V.non ∈ nM := ⟨rfl, fun i h => nomatch h⟩
theorem ab_due : oDue (.str "ab") (.int 0) .non = none := by decide +kernel
theorem wab_in : (PD.word (.str "ab") (.int 0) .non).In ∧ (PD.word (.str "ab") (.int 0) .non).due = none := ⟨⟨ab_in, z_in, n_in⟩, ab_due⟩
def C6 : List (Nat × Nat × Nat) := [(9, 9, 9), (6, 10, 12), (8, 9, 10), (6, 11, 11), (3, 24, 9), (1, 0, 99)]
theorem c6_cs : ∀ x ∈ C6, (x.1, x.2.1, x.2.2) ∈ CS ∧ (x.2.2, x.2.1, x.1) ∈ CS := by decide
theorem cs_few : ∀ x ∈ CS, x.1 ≤ 99 ∧ x.2.1 ≤ 99 ∧ x.2.2 ≤ 99 ∧ (x.1 + 1) * (x.2.1 + 1) ≤ 5000 ∧ (x.1 + 1) * (x.2.1 + 1) * (x.2.2 + 1) ≤ 5000 := by decide
theorem sg_jn : ∀ j ∈ sgs, j ∈ JN := by decide +kernel
theorem jx_jn {j1 j2 : Str} (h1 : j1 ∈ sgs) (h2 : j2 ∈ sgs) : ∀ j ∈ jx j1 j2, j ∈ JN := by
  intro j h
  unfold jx at h
  simp only [List.mem_cons, List.not_mem_nil, or_false] at h
  have e : ("" : Str) ∈ JN := by decide +kernel
  rcases h with rfl | rfl | rfl | rfl | rfl
  · exact e
  · exact sg_jn _ h1
  · exact e
  · exact sg_jn _ h2
  · exact e
theorem jn_jnB : ∀ j ∈ JN, jnB (.str j) = true := by decide +kernel
theorem jx_good {j1 j2 : Str} (h1 : j1 ∈ sgs) (h2 : j2 ∈ sgs) : jsGood 6 (some ((jx j1 j2).map V.str)) = true := by
  have h : ((jx j1 j2).map V.str).all jnB = true := List.all_eq_true.mpr fun v hv => by
    obtain ⟨j, hj, rfl⟩ := List.mem_map.mp hv
    exact jn_jnB j (jx_jn h1 h2 j hj)
  show (true && ((jx j1 j2).map V.str).all jnB) = true
  rw [h]
  rfl
theorem str_cat (x y : Str) : (x ++ y).cps.toList = x.cps.toList ++ y.cps.toList := Array.toList_append
theorem tx_cat (a b c : Nat) (j1 j2 : Str) : ((((aS a ++ j1) ++ aS b) ++ j2) ++ aS c) = tx a b c j1 j2 := by
  have h : ∀ x y : Str, x.cps.toList = y.cps.toList → x = y := fun x y h => by
    obtain ⟨x⟩ := x
    obtain ⟨y⟩ := y
    congr 1
    exact Array.toList_inj.mp h
  apply h
  rw [str_cat, str_cat, str_cat, str_cat, aS_eq, aS_eq, aS_eq]
  show (((List.replicate a 97 ++ j1.cps.toList) ++ List.replicate b 97) ++ j2.cps.toList) ++ List.replicate c 97 = tl a b c j1 j2
  unfold tl
  rw [List.append_assoc, List.append_assoc, List.append_assoc]
theorem aS_len (k : Nat) : (aS k).length = k := by
  rw [aS_eq]
  show (List.replicate k 97).toArray.size = k
  rw [List.size_toArray, List.length_replicate]
theorem cat_len (x y : Str) : (x ++ y).length = x.length + y.length := Array.size_append
theorem sg_len {j : Str} (h : j ∈ sgs) : j.length = 1 := by show j.cps.size = 1; rw [← Array.length_toList]; exact sg_one h
/-! ### rows as data -/
def strsD (js : List Str) : PyData := .tuple (js.map PyData.str)
theorem dp_strL {K : Frag} : ∀ js : List Str, ∀ H, DpAll K H (js.map V.str) (js.map PyData.str)
  | [], _ => .nil
  | j :: js, H => .cons (.str j) (dp_strL js H)
def rwsD (rs : List (List Str)) : PyData := .list (rs.map strsD)
theorem dp_rows {K : Frag} {H : Hp} : ∀ {vs : List V} {rs : List (List Str)}, RwL H vs rs → DpAll K H vs (rs.map strsD)
  | [], [], _ => .nil
  | _ :: _, r :: _, ⟨⟨T, e, h⟩, q⟩ => by
    rw [e]
    exact .cons (.tup (SqT.of h) (dp_strL r H)) (dp_rows q)
  | [], _ :: _, h => h.elim
  | _ :: _, [], h => h.elim
theorem aS_lay (k : Nat) : (PyData.str (aS k)).canLay0 = true := by
  rw [aS_eq]
  show (List.replicate k 97).toArray.all (fun x => decide (x < 0x110000)) = true
  rw [List.all_toArray]
  exact List.all_eq_true.mpr fun x hx => by rw [List.eq_of_mem_replicate hx]; rfl
theorem strs_lay : ∀ {r : List Str}, (∀ j ∈ r, (PyData.str j).canLay0 = true) → PyData.canLayAll0 (r.map PyData.str) = true ∧ PyData.depthAll (r.map PyData.str) = 0
  | [], _ => ⟨rfl, rfl⟩
  | j :: js, h => by
    obtain ⟨h1, h2⟩ := strs_lay (r := js) fun x hx => h x (List.mem_cons_of_mem _ hx)
    refine ⟨Bool.and_eq_true_iff.mpr ⟨h j List.mem_cons_self, h1⟩, ?_⟩
    show max 0 (PyData.depthAll (js.map PyData.str)) = 0
    rw [h2]
    rfl
theorem rows_lay : ∀ {rs : List (List Str)}, (∀ r ∈ rs, ∀ j ∈ r, (PyData.str j).canLay0 = true) → PyData.canLayAll0 (rs.map strsD) = true ∧ PyData.depthAll (rs.map strsD) ≤ 1
  | [], _ => ⟨rfl, Nat.zero_le _⟩
  | r :: rs, h => by
    obtain ⟨h1, h2⟩ := rows_lay (rs := rs) fun x hx => h x (List.mem_cons_of_mem _ hx)
    obtain ⟨h3, h4⟩ := strs_lay (h r List.mem_cons_self)
    refine ⟨Bool.and_eq_true_iff.mpr ⟨h3, h1⟩, ?_⟩
    show max (PyData.depthAll (r.map PyData.str) + 1) (PyData.depthAll (rs.map strsD)) ≤ 1
    rw [h4]
    omega
theorem sh_rows (a b c : Nat) : SeqAt.shaped (rwsD (lrows [a, b, c])) = true := by
  obtain ⟨h1, h2⟩ := rows_lay (rs := lrows [a, b, c]) (by
    rw [lrows3]
    intro r hr j hj
    obtain ⟨x, _, hr⟩ := List.mem_flatMap.mp hr
    obtain ⟨y, _, hr⟩ := List.mem_flatMap.mp hr
    obtain ⟨z, _, rfl⟩ := List.mem_map.mp hr
    simp only [List.mem_cons, List.not_mem_nil, or_false] at hj
    rcases hj with rfl | rfl | rfl | rfl | rfl | rfl <;> exact aS_lay _)
  refine Bool.and_eq_true_iff.mpr ⟨h1, decide_eq_true ?_⟩
  show PyData.depthAll _ + 1 ≤ 64
  omega
theorem dp_rws {K : Frag} {H : Hp} {L : Addr} {rs : List (List Str)} : RowsAt H L rs → Dp K H (.ref L) (rwsD rs)
  | ⟨_, e, h⟩ => .lst (SqL.of e) (dp_rows h)
theorem StAt.sm {H H' : Hp} {a : Addr} (S : Same H H') : StAt H a → StAt H' a
  | ⟨p, q, r, h, k⟩ => ⟨p, q, r, S _ _ h, k⟩
theorem StAt.ne {J0 J : Hp} {p sa : Addr} (st : StAt J0 sa) (S : Same J0 J) (h : J p = none) : p ≠ sa := fun z => by
  obtain ⟨_, _, _, q, _⟩ := st
  rw [z, S _ _ q] at h
  cases h
theorem seqT_ins {K : Frag} {J : Hp} {fl a C dx : Addr} {fs : List (Str × V)} {ys : List V} {o : HO} (e : J fl = some (.ins C dx fs)) (h : SqT K J a ys) : SqT K (upd J fl o) a ys := by
  rcases h with (h | ⟨u, h⟩) | h
  · exact .inl (.inl (by rw [upd_ne (ne_of h e (fun z => by cases z))]; exact h))
  · exact .inl (.inr ⟨u, by rw [upd_ne (ne_of h e (fun z => by cases z))]; exact h⟩)
  · exact .inr h
theorem rows_nw {H H' : Hp} {L : Addr} {rs : List (List Str)} (h : RowsAt (nw H H') L rs) : RowsAt H' L rs := h.imp fun c o _ _ e => (nw_some.mp e).2
theorem RowsAt.sm {H H' : Hp} {L : Addr} {rs : List (List Str)} (S : Same H H') (h : RowsAt H L rs) : RowsAt H' L rs := h.imp fun c o _ _ e => S _ _ e
theorem len2 {α : Type} (a b : Nat) (f : Nat → Nat → α) : ((List.range a).flatMap fun i => (List.range b).map fun k => f i k).length = a * b := by
  have h : ∀ (l : List Nat), (l.flatMap fun i => (List.range b).map fun k => f i k).length = l.length * b := fun l => by
    induction l with
    | nil => simp
    | cons x l ih => rw [List.flatMap_cons, List.length_append, ih, List.length_map, List.length_range, List.length_cons, Nat.succ_mul, Nat.add_comm]
  rw [h, List.length_range]
def spLaw (K : Frag) : Sp := fun vs H Q _ => ∃ (a : Addr) (ns : List Int), vs = [.ref a] ∧ SqL K H a (ns.map V.int) ∧ ns.length ≤ 63 ∧ ∀ H', Q (.bl true) H'
structure T2 (P : Program) (w : World) (K : Frag) (mg : Str → Option Value) (base : Heap) : Prop extends T0 P w K mg base where
  law_source : FnAt P w K mg base CX0 1 "_law_source" ["_law_cell"] spSource
  law_pick : FnAt P w K mg base CX0 2 "_law_pick" ["_law_source_here", "_law_items"] spPick
  law_rows : FnAt P w K mg base CX0 1 "_law_rows" ["_law_sizes"] (spLr K)
  law_told : FnAt P w K mg base CX0 13 "_law_told" ["_law_layout", "_law_text"] (spTl K)
  count_ways : FnAt P w K mg base CX0 8 "count_ways" ["layout", "text"] (spCn K)
  kWord : ClsAt P w K mg base (L2.CX P w) 4 "Word" (He.ga K "Word") ["self", "signs", "least", "most"] (spWord K)
  kLay : ClsAt P w K mg base (L2.CX P w) 4 "Layout" (LA K) ["self", "fields", "joints"] (spLay K)

section
variable {P : Program} {w : World} {K : Frag} {mg : Str → Option Value} {base : Heap} {f : Addr} {fd : FuncData}

abbrev s_law : Stmt := top 60
theorem sc_law : FnScope ["_law_script", "_law_source_here", "_law_sizes", "_law_joints", "_law_layout", "_law_text", "_law_rows_here", "_law_told_here"] ["_law_script"] (defScope s_law) := ⟨rfl, rfl, rfl, by decide +kernel, rfl, by decide +kernel, by decide +kernel⟩

theorem ok_law (F : FunD K "law" "law" (defArgs s_law) (defBody s_law) (defScope s_law) [] [] f fd) (G : T2 P w K mg base) : FnOk P w K mg base CX0 14 f fd ["_law_script"] (spLaw K) := by
  refine F.ok (CX := CX0) sc_law (fun vs H Q E h => ?_) (fun cdv A outer s H vs Q E hr h => ?_)
  · obtain ⟨_, _, rfl, _⟩ := h
    rfl
  · refine ⟨_, PSs.nox (C8.pss_cut (ps_set (i := 1) sc_law.nd rfl (Or.inl rfl) (pe_fn G.law_source (hr.mono (by decide)) pass0 (by rfl) (pa_cons (pe_ix ix_list (pe_op op_catS (pv 0) (pe_lstS (pa_cons pe_int pa_nil))) pe_int (fun _ _ => rfl)) pa_nil)))
    (C8.pss_cut (ps_set (i := 2) sc_law.nd rfl (Or.inl rfl) (pe_fn G.law_pick (hr.mono (by decide)) pass0 (by rfl) (pa_cons (pv 1) (pa_cons (pe_lstS (pa_cons (pe_lstS (pa_cons pe_int (pa_cons pe_int (pa_cons pe_int pa_nil)))) (pa_cons (pe_lstS (pa_cons pe_int (pa_cons pe_int (pa_cons pe_int pa_nil)))) (pa_cons (pe_lstS (pa_cons pe_int (pa_cons pe_int (pa_cons pe_int pa_nil)))) (pa_cons (pe_lstS (pa_cons pe_int (pa_cons pe_int (pa_cons pe_int pa_nil)))) (pa_cons (pe_lstS (pa_cons pe_int (pa_cons pe_int (pa_cons pe_int pa_nil)))) (pa_cons (pe_lstS (pa_cons pe_int (pa_cons pe_int (pa_cons pe_int pa_nil)))) pa_nil))))))) pa_nil))))
    (C8.pss_cut (ps_set (i := 3) sc_law.nd rfl (Or.inl rfl) (pe_lstS (pa_cons pe_str (pa_cons (pe_fn G.law_pick (hr.mono (by decide)) pass0 (by rfl) (pa_cons (pv 1) (pa_cons (pe_lstS (pa_cons pe_str (pa_cons pe_str pa_nil))) pa_nil))) (pa_cons pe_str (pa_cons (pe_fn G.law_pick (hr.mono (by decide)) pass0 (by rfl) (pa_cons (pv 1) (pa_cons (pe_lstS (pa_cons pe_str (pa_cons pe_str pa_nil))) pa_nil))) (pa_cons pe_str pa_nil)))))))
    (C8.pss_cut (ps_if (pt_cmpR op_eq (pe_fn G.law_draw (hr.mono (by decide)) pass0 (by rfl) (pa_cons (pv 1) (pa_cons pe_int pa_nil))) pe_int (nomark _))
      (pss_one (ps_set (i := 2) sc_law.nd rfl (Or.inl rfl) (pe_revL (pv 2))))
      pss_nil)
    (C8.pss_cut (ps_set (i := 4) sc_law.nd rfl (Or.inl rfl) (pe_newS G.kLay (hr.mono (by decide)) (fun σ => passAt takes0 σ) (by rfl) (pa_cons (pe_op op_rep (pe_lstS (pa_cons (pe_newS G.kWord (hr.mono (by decide)) (fun σ => passAt takes0 σ) (by rfl) (pa_cons pe_str (pa_cons pe_int (pa_cons pe_non pa_nil)))) pa_nil)) pe_int) (pa_cons (pv 3) pa_nil))))
    (C8.pss_cut (ps_set (i := 5) sc_law.nd rfl (Or.inl rfl) (pe_op op_add_str (pe_op op_add_str (pe_op op_add_str (pe_op op_add_str (pe_op op_mulStr0 pe_str (pe_ix ix_list (pv 2) pe_int (fun _ _ => rfl))) (pe_ix ix_list (pv 3) pe_int (fun _ _ => rfl))) (pe_op op_mulStr0 pe_str (pe_ix ix_list (pv 2) pe_int (fun _ _ => rfl)))) (pe_ix ix_list (pv 3) pe_int (fun _ _ => rfl))) (pe_op op_mulStr0 pe_str (pe_ix ix_list (pv 2) pe_int (fun _ _ => rfl)))))
    (C8.pss_cut (ps_set (i := 6) sc_law.nd rfl (Or.inl rfl) (pe_fn G.law_rows (hr.mono (by decide)) pass0 (by rfl) (pa_cons (pv 2) pa_nil)))
    (C8.pss_cut (ps_if (pt_cmpR op_ne (pe_fn G.count_ways (hr.mono (by decide)) pass0 (by rfl) (pa_cons (pv 4) (pa_cons (pv 5) pa_nil))) (pe_callB call_len_seq (by rfl) G.len (by decide +kernel) (pa_cons (pv 6) pa_nil)) (nomark _))
      (pss_one (ps_ret pe_bl))
      pss_nil)
    (C8.pss_cut (ps_set (i := 7) sc_law.nd rfl (Or.inl rfl) (pe_fn G.law_told (hr.mono (by decide)) pass0 (by rfl) (pa_cons (pv 4) (pa_cons (pv 5) pa_nil))))
    (C8.pss_cut (ps_if (pt_cmpR op_gt (pe_callB call_len_seq (by rfl) G.len (by decide +kernel) (pa_cons (pv 6) pa_nil)) pe_int (nomark _))
      (pss_one (ps_ret (pe_cmpR op_eq (pv 7) (pe_callB call_len_seq (by rfl) G.len (by decide +kernel) (pa_cons (pv 6) pa_nil)) (nomark _))))
      pss_nil)
    (C8.pss_cut (ps_if (pt_cmpR (op_neD hr.units) (pv 7) (pv 6) (nomark _))
      (pss_one (ps_ret pe_bl))
      pss_nil)
    (C8.pss_cut (ps_expr (pe_bm0 PySem.F.plainAttrs_list PySem.F.slot_list_clear PySem.F.type_list_clear mt_clear (pv 7)))
    (pss_one (ps_ret (pe_cmpR (op_eqD hr.units) (pe_fn G.law_told (hr.mono (by decide)) pass0 (by rfl) (pa_cons (pv 4) (pa_cons (pv 5) pa_nil))) (pv 6) (nomark _)))))))))))))))), ?_⟩
    obtain ⟨a, ns, rfl, hS, hl, k⟩ := h
    obtain ⟨c0, hc0⟩ : ∃ c : Int, (ns.map V.int ++ [V.int 0])[0]? = some (.int c) := by
      cases ns with
      | nil => exact ⟨0, rfl⟩
      | cons n ns => exact ⟨n, rfl⟩
    refine ⟨fun σ J => ∃ (sa : Addr), σ = [some (.ref a), some (.ref sa), none, none, none, none, none, none] ∧ StAt J sa, ?_, ?_⟩
    · exact ⟨_, rfl, by show 1 ≤ 1000; decide, fun p0 H0 hp0 S0 e0 => ⟨a, p0, _, _, rfl, rfl, S0.seq hS, SqL.of e0, by rw [List.length_map, sizeLine_eq]; show ns.length + 1 ≤ 16777216; omega, fun p1 H2 hp1 S2 e1 => ⟨p1, _, _, _, rfl, rfl, SqL.of e1, atI_nat (j := 0) hc0, c0, rfl, fun sa H4 hsa S4 st4 => ⟨sa, rfl, st4⟩⟩⟩⟩
    rintro σ J0 ⟨sa, rfl, st0⟩
    refine ⟨fun σ J => ∃ (z : Addr) (x y u : Nat), σ = [some (.ref a), some (.ref sa), some (.ref z), none, none, none, none, none] ∧ StAt J sa ∧ (x, y, u) ∈ C6 ∧ z ≠ sa ∧ J z = some (.lst [.int (x : Nat), .int (y : Nat), .int (u : Nat)]), ?_, ?_⟩
    · refine ⟨_, rfl, by show 3 ≤ 1000; decide, fun p1 J1 h1 S1 e1 => ⟨by show 3 ≤ 1000; decide, fun p2 J2 h2 S2 e2 => ⟨by show 3 ≤ 1000; decide, fun p3 J3 h3 S3 e3 => ⟨by show 3 ≤ 1000; decide, fun p4 J4 h4 S4 e4 => ⟨by show 3 ≤ 1000; decide, fun p5 J5 h5 S5 e5 => ⟨by show 3 ≤ 1000; decide, fun p6 J6 h6 S6 e6 => ⟨by show 6 ≤ 1000; decide, fun p7 J7 h7 S7 e7 => ?_⟩⟩⟩⟩⟩⟩⟩
      have T6 := S6.trans S7
      have T5 := S5.trans T6
      have T4 := S4.trans T5
      have T3 := S3.trans T4
      have T2 := S2.trans T3
      have st7 := st0.sm (S1.trans T2)
      have ne : ∀ {p : Addr} {J : Hp}, Same J0 J → J p = none → p ≠ sa := fun S h z => by
        obtain ⟨_, _, _, q, _⟩ := st0
        rw [z, S _ _ q] at h
        cases h
      have hn : ∀ (p : Addr) (x y u : Nat) (J' : Hp), (x, y, u) ∈ C6 → p ≠ sa → J7 p = some (.lst [.int (x : Nat), .int (y : Nat), .int (u : Nat)]) → But sa J7 J' → StAt J' sa → ∃ (z : Addr) (x y u : Nat), [some (V.ref a), some (.ref sa), some (.ref p), none, none, none, none, none] = [some (.ref a), some (.ref sa), some (.ref z), none, none, none, none, none] ∧ StAt J' sa ∧ (x, y, u) ∈ C6 ∧ z ≠ sa ∧ J' z = some (.lst [.int (x : Nat), .int (y : Nat), .int (u : Nat)]) := fun p x y u J' hc hp e B st => ⟨p, x, y, u, rfl, st, hc, hp, B _ _ hp e⟩
      refine ⟨sa, p7, _, rfl, st7, ne (S1.trans (S2.trans (S3.trans (S4.trans (S5.trans S6))))) h7, e7, by simp, by show 6 ≤ 1000; decide, fun v J' hv B st => ?_⟩
      simp only [List.mem_cons, List.not_mem_nil, or_false] at hv
      rcases hv with rfl | rfl | rfl | rfl | rfl | rfl
      · exact hn p1 9 9 9 J' (by decide) (ne (Same.refl _) h1) (T2 _ _ e1) B st
      · exact hn p2 6 10 12 J' (by decide) (ne S1 h2) (T3 _ _ e2) B st
      · exact hn p3 8 9 10 J' (by decide) (ne (S1.trans S2) h3) (T4 _ _ e3) B st
      · exact hn p4 6 11 11 J' (by decide) (ne (S1.trans (S2.trans S3)) h4) (T5 _ _ e4) B st
      · exact hn p5 3 24 9 J' (by decide) (ne (S1.trans (S2.trans (S3.trans S4))) h5) (T6 _ _ e5) B st
      · exact hn p6 1 0 99 J' (by decide) (ne (S1.trans (S2.trans (S3.trans (S4.trans S5)))) h6) (S7 _ _ e6) B st
    rintro σ J1 ⟨z, x, y, u, rfl, st1, hC, hz, ez⟩
    refine ⟨fun σ J => ∃ (jl : Addr) (j1 j2 : Str), σ = [some (.ref a), some (.ref sa), some (.ref z), some (.ref jl), none, none, none, none] ∧ StAt J sa ∧ J z = some (.lst [.int (x : Nat), .int (y : Nat), .int (u : Nat)]) ∧ j1 ∈ sgs ∧ j2 ∈ sgs ∧ jl ≠ sa ∧ J jl = some (.lst ((jx j1 j2).map V.str)), ?_, ?_⟩
    · refine ⟨_, rfl, by show 2 ≤ 1000; decide, fun p1 J2 h1 S1 e1 => ⟨sa, p1, _, rfl, st1.sm S1, st1.ne (Same.refl _) h1, e1, by simp, by show 2 ≤ 1000; decide, fun v1 J3 hv1 B1 st3 => ?_⟩⟩
      refine ⟨_, rfl, by show 2 ≤ 1000; decide, fun p2 J4 h2 S2 e2 => ⟨sa, p2, _, rfl, st3.sm S2, st3.ne (Same.refl _) h2, e2, by simp, by show 2 ≤ 1000; decide, fun v2 J5 hv2 B2 st5 => ?_⟩⟩
      refine ⟨by show 5 ≤ 1000; decide, fun jl J6 hjl S3 e3 => ?_⟩
      have ez6 : J6 z = some (.lst [.int (x : Nat), .int (y : Nat), .int (u : Nat)]) := S3 _ _ (B2 _ _ hz (S2 _ _ (B1 _ _ hz (S1 _ _ ez))))
      have nj : jl ≠ sa := st5.ne (Same.refl _) hjl
      simp only [List.mem_cons, List.not_mem_nil, or_false] at hv1 hv2
      have sv : ∀ {v : V}, (v = .str "!" ∨ v = .str "~") → ∃ j, v = .str j ∧ j ∈ sgs := fun h => by
        rcases h with rfl | rfl
        · exact ⟨"!", rfl, by decide +kernel⟩
        · exact ⟨"~", rfl, by decide +kernel⟩
      obtain ⟨j1, rfl, hj1⟩ := sv hv1
      obtain ⟨j2, rfl, hj2⟩ := sv hv2
      exact ⟨jl, j1, j2, rfl, st5.sm S3, ez6, hj1, hj2, nj, e3⟩
    rintro σ J2 ⟨jl, j1, j2, rfl, st2, ez2, hj1, hj2, hjl, ejl⟩
    clear ez
    refine ⟨fun σ J => ∃ (z : Addr) (x y u : Nat), σ = [some (.ref a), some (.ref sa), some (.ref z), some (.ref jl), none, none, none, none] ∧ (x, y, u) ∈ CS ∧ J z = some (.lst [.int (x : Nat), .int (y : Nat), .int (u : Nat)]) ∧ J jl = some (.lst ((jx j1 j2).map V.str)), ?_, ?_⟩
    · refine ⟨_, rfl, sa, 2, rfl, st2, by decide, by decide, fun d J3 h0 h1 B st3 => ⟨rfl, _, rfl, ?_⟩⟩
      have ez3 := B _ _ hz ez2
      have ej3 := B _ _ hjl ejl
      refine ite2 (fun c => ?_) (fun c => ?_)
      · exact ⟨_, rfl, z, _, rfl, SqL.of ez3, fun p hp => ⟨p, u, y, x, rfl, (c6_cs _ hC).2, upd_same, by rw [upd_ne (ne_of_none ej3 hp)]; exact ej3⟩⟩
      · exact ⟨z, x, y, u, rfl, (c6_cs _ hC).1, ez3, ej3⟩
    clear hC ez2 hz z x y u st2 hjl ejl
    rintro σ J3 ⟨z, x, y, u, rfl, hC, ez, ejl⟩
    have CO := case_ok hC hj1 hj2
    obtain ⟨fx, fy, fu⟩ := CO.few
    refine ⟨fun σ J => ∃ (Ly : Addr), σ = [some (.ref a), some (.ref sa), some (.ref z), some (.ref jl), some (.ref Ly), none, none, none] ∧ Same J3 J ∧ LayAt K J Ly (List.replicate 6 wAB) (jx j1 j2), ?_, ?_⟩
    · refine fun w dw hw hdw new => ⟨w, dw, .str "ab", .int 0, .non, rfl, upd_same, ab_in, z_in, n_in, fun _ => ⟨rfl, ?_⟩, fun z0 hz0 => absurd (ab_due.symm.trans hz0) (by simp)⟩
      have Sw : Same J3 (upd (upd (upd J3 dw (.own w)) w (.ins (He.ga K "Word") dw [])) w (.ins (He.ga K "Word") dw (fWord (.str "ab") (.int 0) .non))) := same_put (same_new hw hdw) hw
      have ew : upd (upd (upd J3 dw (.own w)) w (.ins (He.ga K "Word") dw [])) w (.ins (He.ga K "Word") dw (fWord (.str "ab") (.int 0) .non)) w = some (.ins (He.ga K "Word") dw (fWord (.str "ab") (.int 0) .non)) := upd_same
      generalize upd (upd (upd J3 dw (.own w)) w (.ins (He.ga K "Word") dw [])) w (.ins (He.ga K "Word") dw (fWord (.str "ab") (.int 0) .non)) = J4 at Sw ew ⊢
      refine ⟨by show 1 ≤ 1000; decide, fun p1 J5 hp1 S5 e5 => ?_⟩
      refine ⟨p1, _, _, rfl, rfl, e5, by decide, by decide, by rw [sizeLine_eq]; show 1 * 6 ≤ 16777216; decide, fun p2 hp2 => ?_⟩
      have S6 : Same J5 (upd J5 p2 (.lst (List.replicate 6 (V.ref w)))) := same_upd hp2
      have e6 : upd J5 p2 (.lst (List.replicate 6 (V.ref w))) p2 = some (.lst (List.replicate 6 (V.ref w))) := upd_same
      show (tVar 3) _ (upd J5 p2 (.lst (List.replicate 6 (V.ref w)))) _
      generalize upd J5 p2 (.lst (List.replicate 6 (V.ref w))) = J6 at S6 e6 ⊢
      have S36 := (Sw.trans S5).trans S6
      have ew6 := S6 _ _ (S5 _ _ ew)
      have ej6 := S36 _ _ ejl
      refine ⟨_, rfl, fun L dl hL hdl nel => ?_⟩
      have Sn := same_new (C := LA K) (fs := []) hL hdl
      have eL : upd (upd J6 dl (.own L)) L (.ins (LA K) dl []) L = some (.ins (LA K) dl []) := upd_same
      generalize upd (upd J6 dl (.own L)) L (.ins (LA K) dl []) = J7 at Sn eL ⊢
      have hI : Itms K J7 (List.replicate 6 (V.ref w)) (List.replicate 6 true) := ⟨rfl, fun i v g hv hg => by
        rw [List.eq_of_mem_replicate (List.mem_of_getElem? hv), List.eq_of_mem_replicate (List.mem_of_getElem? hg)]
        exact ⟨w, dw, _, 0, rfl, Sn _ _ ew6, by decide⟩⟩
      have gg := jx_good hj1 hj2
      refine ⟨L, dl, .ref p2, .ref jl, some (List.replicate 6 (V.ref w)), some ((jx j1 j2).map V.str), List.replicate 6 true, rfl, eL, ⟨.lst (Sn _ _ e6), fun ys hy => ?_⟩, ⟨.lst (Sn _ _ ej6), fun xs hx => ?_⟩, fun z0 => (by cases z0), fun _ z0 => ?_, fun _ _ ys xs hys hxs H' t1 t2 S' h1 h2 => ⟨rfl, ?_⟩⟩
      · obtain rfl := Option.some.inj hy
        exact ⟨by show 6 ≤ 1000; decide, hI⟩
      · obtain rfl := Option.some.inj hx
        exact ⟨by show 5 ≤ 1000; decide, fun v hv => by
          obtain ⟨j, hj, rfl⟩ := List.mem_map.mp hv
          exact .inl rfl⟩
      · exact absurd (gg.symm.trans z0) (by simp)
      · obtain rfl := Option.some.inj hys
        obtain rfl := Option.some.inj hxs
        have eL' := S' _ _ eL
        have nwL : w ≠ L := fun z0 => by rw [z0, hL] at ew6; cases ew6
        refine ⟨L, rfl, fun c o e => ?_, ⟨⟨dl, t1, t2, List.replicate 6 (V.ref w), upd_same, seqT_ins eL' h1, ⟨rfl, fun i v d hv hd => ?_⟩, seqT_ins eL' h2⟩, ⟨by decide, by decide, rfl, jx_jn hj1 hj2⟩⟩⟩
        · rw [upd_ne (fun z0 => by rw [z0] at e; rw [S36 _ _ e] at hL; cases hL)]
          exact S' _ _ (Sn _ _ (S36 _ _ e))
        · rw [List.eq_of_mem_replicate (List.mem_of_getElem? hv), List.eq_of_mem_replicate (List.mem_of_getElem? hd)]
          refine ⟨w, rfl, ⟨dw, ?_⟩, wab_in⟩
          rw [upd_ne nwL]
          exact S' _ _ (Sn _ _ ew6)
    rintro σ J4 ⟨Ly, rfl, S4, hLay⟩
    have ez4 := S4 _ _ ez
    have ej4 := S4 _ _ ejl
    have l1 := sg_len hj1
    have l2 := sg_len hj2
    have lx := aS_len x
    have ly := aS_len y
    have lu := aS_len u
    refine ⟨fun σ J => σ = [some (.ref a), some (.ref sa), some (.ref z), some (.ref jl), some (.ref Ly), some (.str (tx x y u j1 j2)), none, none] ∧ J = J4, ?_, ?_⟩
    · refine ⟨_, rfl, z, _, _, _, rfl, rfl, SqL.of ez4, atI_nat (j := 0) rfl, "a", _, rfl, rfl, rep_ok fx, ?_⟩
      refine ⟨_, rfl, jl, _, _, _, rfl, rfl, SqL.of ej4, atI_nat (j := 1) rfl, aS x, j1, rfl, rfl, by rw [lx, l1, sizeLine_eq]; omega, ?_⟩
      refine ⟨_, rfl, z, _, _, _, rfl, rfl, SqL.of ez4, atI_nat (j := 1) rfl, "a", _, rfl, rfl, rep_ok fy, aS x ++ j1, aS y, rfl, rfl, by rw [cat_len, lx, l1, ly, sizeLine_eq]; omega, ?_⟩
      refine ⟨_, rfl, jl, _, _, _, rfl, rfl, SqL.of ej4, atI_nat (j := 3) rfl, (aS x ++ j1) ++ aS y, j2, rfl, rfl, by rw [cat_len, cat_len, lx, l1, ly, l2, sizeLine_eq]; omega, ?_⟩
      refine ⟨_, rfl, z, _, _, _, rfl, rfl, SqL.of ez4, atI_nat (j := 2) rfl, "a", _, rfl, rfl, rep_ok fu, ((aS x ++ j1) ++ aS y) ++ j2, aS u, rfl, rfl, by rw [cat_len, cat_len, cat_len, lx, l1, ly, l2, lu, sizeLine_eq]; omega, ?_⟩
      rw [tx_cat]
      exact ⟨rfl, rfl⟩
    rintro σ J5 ⟨rfl, rfl⟩
    obtain ⟨_, _, _, m1, m2⟩ := cs_few _ hC
    have hN : (lrows [x, y, u]).length = (x + 1) * (y + 1) * (u + 1) := lrows_len x y u
    refine ⟨fun σ J => ∃ rl, σ = [some (.ref a), some (.ref sa), some (.ref z), some (.ref jl), some (.ref Ly), some (.str (tx x y u j1 j2)), some (.ref rl), none] ∧ Same J5 J ∧ RowsAt J rl (lrows [x, y, u]), ?_, ?_⟩
    · refine ⟨_, rfl, z, [x, y, u], rfl, ez4, by show 3 ≤ 30; decide, fun s hs => ?_, fun i hi => ?_, fun L H' S R => ⟨L, rfl, S, rows_nw R⟩⟩
      · simp only [List.mem_cons, List.not_mem_nil, or_false] at hs
        rcases hs with rfl | rfl | rfl
        · exact fx
        · exact fy
        · exact fu
      · match i, hi with
        | 0, _ => exact (by decide : 1 ≤ 5000)
        | 1, _ =>
          show (lrStep [[]] x).length ≤ 5000
          unfold lrStep
          rw [List.flatMap_cons, List.flatMap_nil, List.append_nil, List.length_map, List.length_range]
          omega
        | 2, _ =>
          show (lrStep (lrStep [[]] x) y).length ≤ 5000
          have e : (lrStep (lrStep [[]] x) y).length = (x + 1) * (y + 1) := by
            unfold lrStep
            rw [List.flatMap_cons, List.flatMap_nil, List.append_nil, List.flatMap_map, len2]
          rw [e]
          exact m1
        | 3, _ =>
          show (lrows [x, y, u]).length ≤ 5000
          rw [hN]
          exact m2
    rintro σ J6 ⟨rl, rfl, S6, hR6⟩
    have hLay6 := hLay.same S6
    have hd : ∀ d ∈ List.replicate 6 wAB, d = wAB := fun d hd => List.eq_of_mem_replicate hd
    obtain ⟨rs, erl, hrs⟩ := id hR6
    have rsl := hrs.len
    rw [hN] at rsl
    have hN2 := CO.tot
    refine ⟨fun σ J => σ = [some (.ref a), some (.ref sa), some (.ref z), some (.ref jl), some (.ref Ly), some (.str (tx x y u j1 j2)), some (.ref rl), none] ∧ Same J6 J, ?_, ?_⟩
    · refine ⟨_, rfl, _, rfl, Ly, _, jx j1 j2, _, rfl, hLay6, hd, CO.len, CO.ok, fun J7 S7 => ⟨_, rfl, rl, rs, rfl, .inl (SqL.of (S7 _ _ erl)), rfl, _, rfl, ?_⟩⟩
      rw [hN2, rsl, decide_eq_true rfl]
      exact iteF ⟨rfl, S7⟩
    rintro σ J7 ⟨rfl, S7⟩
    have hLay7 := hLay6.same S7
    have erl7 := S7 _ _ erl
    have hR7 : RowsAt J7 rl (lrows [x, y, u]) := hR6.sm S7
    have tl1 : waysTot (tx x y u j1 j2) (jx j1 j2) ≤ 1000 → ¬ 1000 < (x + 1) * (y + 1) * (u + 1) := fun hz => by rw [hN2] at hz; omega
    have tl2 : 1000 < waysTot (tx x y u j1 j2) (jx j1 j2) → 1000 < (x + 1) * (y + 1) * (u + 1) := fun hz => by rw [hN2] at hz; omega
    refine ⟨fun σ J => ∃ v, σ = [some (.ref a), some (.ref sa), some (.ref z), some (.ref jl), some (.ref Ly), some (.str (tx x y u j1 j2)), some (.ref rl), some v] ∧ Same J7 J ∧ ((1000 < (x + 1) * (y + 1) * (u + 1) ∧ v = .int (((x + 1) * (y + 1) * (u + 1) : Nat) : Int)) ∨ (¬ 1000 < (x + 1) * (y + 1) * (u + 1) ∧ ∃ L', v = .ref L' ∧ RowsAt (nw J7 J) L' (lrows [x, y, u]))), ?_, ?_⟩
    · refine ⟨_, rfl, _, rfl, Ly, _, jx j1 j2, _, rfl, hLay7, hd, by decide, CO.len, CO.ok, fun hz => ?_, fun hz => ?_⟩
      · have er := CO.rows (tl1 hz)
        rw [er]
        exact ⟨by have := tl1 hz; omega, fun L' H' S R => ⟨_, rfl, S, .inr ⟨tl1 hz, L', rfl, R⟩⟩⟩
      · exact fun H' S => ⟨_, rfl, S, .inl ⟨tl2 hz, by rw [hN2]⟩⟩
    rintro σ J8 ⟨v, rfl, S8, hv⟩
    have erl8 := S8 _ _ erl7
    refine ⟨fun σ J => ∃ L', σ = [some (.ref a), some (.ref sa), some (.ref z), some (.ref jl), some (.ref Ly), some (.str (tx x y u j1 j2)), some (.ref rl), some (.ref L')] ∧ J = J8 ∧ ¬ 1000 < (x + 1) * (y + 1) * (u + 1) ∧ RowsAt (nw J7 J8) L' (lrows [x, y, u]), ?_, ?_⟩
    · refine ⟨_, rfl, rl, rs, rfl, .inl (SqL.of erl8), _, _, rfl, rfl, _, rfl, ?_⟩
      refine ite2 (fun c => ?_) (fun c => ?_)
      · have hz : 1000 < (x + 1) * (y + 1) * (u + 1) := by have := of_decide_eq_true c; omega
        rcases hv with ⟨_, rfl⟩ | ⟨hz2, _⟩
        · refine ⟨_, rfl, _, rfl, rl, rs, rfl, .inl (SqL.of erl8), rfl, ?_⟩
          rw [rsl, decide_eq_true rfl]
          exact k _
        · exact absurd hz hz2
      · rcases hv with ⟨hz2, _⟩ | ⟨hz2, L', rfl, R⟩
        · exact absurd (decide_eq_true (by rw [rsl]; omega)) c
        · exact ⟨L', rfl, rfl, hz2, R⟩
    rintro σ J9 ⟨L', rfl, rfl, hz, hR9⟩
    have sh := sh_rows x y u
    refine ⟨fun σ J => σ = [some (.ref a), some (.ref sa), some (.ref z), some (.ref jl), some (.ref Ly), some (.str (tx x y u j1 j2)), some (.ref rl), some (.ref L')] ∧ J = J9, ?_, ?_⟩
    · refine ⟨_, rfl, _, rfl, _, _, dp_rws (rows_nw hR9), dp_rws (hR7.sm S8), sh, sh, _, rfl, ?_⟩
      rw [eqv_same sh]
      exact iteF ⟨rfl, rfl⟩
    rintro σ J10 ⟨rfl, rfl⟩
    obtain ⟨vs', eL', _⟩ := hR9
    obtain ⟨nL', eL'⟩ := nw_some.mp eL'
    refine ⟨fun σ J => σ = [some (.ref a), some (.ref sa), some (.ref z), some (.ref jl), some (.ref Ly), some (.str (tx x y u j1 j2)), some (.ref rl), some (.ref L')] ∧ Same J7 J, ?_, ?_⟩
    · exact ⟨_, rfl, .inl ⟨rfl, _, SqL.of eL'⟩, L', vs', rfl, rfl, eL', rfl, same_put S8 nL'⟩
    rintro σ J11 ⟨rfl, S11⟩
    refine ⟨_, rfl, _, rfl, Ly, _, jx j1 j2, _, rfl, hLay7.same S11, hd, by decide, CO.len, CO.ok, fun hz3 => ?_, fun hz3 => absurd (tl2 hz3) hz⟩
    rw [CO.rows hz]
    refine ⟨by omega, fun L2 J12 S12 R12 => ⟨_, rfl, _, _, dp_rws (rows_nw R12), dp_rws ((hR7.sm S11).sm S12), sh, sh, ?_⟩⟩
    rw [eqv_same sh]
    exact k _

end
end L2.K22

set_option Elab.async false
set_option linter.all false
set_option maxRecDepth 100000
set_option maxHeartbeats 4000000
namespace L2.K22
open PySem PySem.W PySem.Spec PySem.Calls PyProof.Rows L2.Jk

theorem facts {P : Program} {w : World} {K : Frag} {h : Heap} {mg : Str → Option Value} {base : Heap} (X : K.In h) (G : h.Ns mainGlobals mg) (c : He.SaysD fa fn K) (m : ex K = true) :
    T2 P w K mg base := by
  obtain ⟨mB, m⟩ := Bool.and_eq_true_iff.mp m
  obtain ⟨mNT, mB⟩ := Bool.and_eq_true_iff.mp mB
  obtain ⟨mLG, mB⟩ := Bool.and_eq_true_iff.mp mB
  obtain ⟨xA, mB⟩ := Bool.and_eq_true_iff.mp mB
  obtain ⟨xS, xR⟩ := Bool.and_eq_true_iff.mp mB
  obtain ⟨w1, mLG⟩ := Bool.and_eq_true_iff.mp mLG
  obtain ⟨w2, mLG⟩ := Bool.and_eq_true_iff.mp mLG
  obtain ⟨w3, w4⟩ := Bool.and_eq_true_iff.mp mLG
  obtain ⟨mN, m⟩ := Bool.and_eq_true_iff.mp m
  obtain ⟨y1, mN⟩ := Bool.and_eq_true_iff.mp mN
  obtain ⟨y2, mN⟩ := Bool.and_eq_true_iff.mp mN
  obtain ⟨y3, y4⟩ := Bool.and_eq_true_iff.mp mN
  obtain ⟨m, m1⟩ := Bool.and_eq_true_iff.mp m
  obtain ⟨m0, m7⟩ := Bool.and_eq_true_iff.mp m
  obtain ⟨z1, m0⟩ := Bool.and_eq_true_iff.mp m0
  obtain ⟨z2, m0⟩ := Bool.and_eq_true_iff.mp m0
  obtain ⟨z3, m0⟩ := Bool.and_eq_true_iff.mp m0
  obtain ⟨z4, m0⟩ := Bool.and_eq_true_iff.mp m0
  obtain ⟨z5, z6⟩ := Bool.and_eq_true_iff.mp m0
  have more7 : ∀ i, i < 7 → KC K (ca K i) ∧ (∀ T ∈ (["NoneType", "tuple", "list"] : List String), subIn K (.ref (ca K i)) (.type T) = some false) ∧ ∀ j, j < 7 → notFirst K (ca K i) (.ref (ca K j)) = true ∧ (ca K i = ca K j ↔ i = j) := fun i hi => by
    have y := List.all_eq_true.mp m7 i (List.mem_range.mpr hi)
    obtain ⟨y1, y⟩ := Bool.and_eq_true_iff.mp y
    obtain ⟨y2, y⟩ := Bool.and_eq_true_iff.mp y
    obtain ⟨y3, y4⟩ := Bool.and_eq_true_iff.mp y
    obtain ⟨x1, y1⟩ := Bool.and_eq_true_iff.mp y1
    obtain ⟨x2, y1⟩ := Bool.and_eq_true_iff.mp y1
    obtain ⟨x3, y1⟩ := Bool.and_eq_true_iff.mp y1
    obtain ⟨x4, x5⟩ := Bool.and_eq_true_iff.mp y1
    refine ⟨⟨He.eqO_ok x1, of_decide_eq_true x2, x3, eqcB_ok x4, x5⟩, fun T hT => of_decide_eq_true (List.all_eq_true.mp y2 T hT), fun j hj => ?_⟩
    obtain ⟨w1, w2⟩ := Bool.and_eq_true_iff.mp (List.all_eq_true.mp y4 j (List.mem_range.mpr hj))
    exact ⟨w1, of_decide_eq_true w2⟩
  have more : ∀ i, i < 6 → (∀ T ∈ (["NoneType", "str", "int", "bool", "tuple", "list"] : List String), kitOne K (.type T) (.ref (ca K i)) = some false) ∧ kitOne K (.ref (ca K i)) (.type "str") = some false ∧ ∀ j, j < 6 → kitOne K (.ref (ca K i)) (.ref (ca K j)) = some (decide (i = j)) := fun i hi => by
    have y := List.all_eq_true.mp m1 i (List.mem_range.mpr hi)
    obtain ⟨y1, y⟩ := Bool.and_eq_true_iff.mp y
    obtain ⟨y2, y3⟩ := Bool.and_eq_true_iff.mp y
    exact ⟨fun T hT => of_decide_eq_true (List.all_eq_true.mp y1 T hT), of_decide_eq_true y2, fun j hj => of_decide_eq_true (List.all_eq_true.mp y3 j (List.mem_range.mpr hj))⟩
  have X0 := errB_ok z1
  obtain ⟨fdbi, Fbi⟩ := c.def_ 0 (d := ⟨("BadField", some "__init__"), "__init__", "BadField.__init__", defArgs (inClass (top 4) 0), defBody (inClass (top 4) 0), defScope (inClass (top 4) 0), [], []⟩) rfl
  obtain ⟨fdbt, Fbt⟩ := c.def_ 1 (d := ⟨("BadField", some "told"), "told", "BadField.told", defArgs (inClass (top 4) 1), defBody (inClass (top 4) 1), defScope (inClass (top 4) 1), [], []⟩) rfl
  have eb : ErrAt P w K mg base "BadField" (BF K) ["what"] "refused badfield" := ⟨He.glo_ok X G (c.fact 1 (f := .glo "BadField") rfl), X0, ⟨He.eqO_ok z2, of_decide_eq_true z3⟩, ⟨fdbi, FunD.bindsN (ps := ["self", "what"]) Fbi (fun _ _ _ _ _ _ us hl => match us, hl with | [_, _], _ => rfl), ok_init1 Fbi (⟨rfl, rfl, rfl, by decide +kernel, rfl, by decide +kernel, by decide +kernel⟩ : FnScope ["self", "what"] ["self", "what"] (defScope (inClass (top 4) 0))) X0 rfl rfl (by decide +kernel) (by decide +kernel)⟩,
    ⟨fdbt, FunD.bindsN (ps := ["self"]) Fbt (fun _ _ _ _ _ _ us hl => match us, hl with | [_], _ => rfl), Fbt.kp, ok_told Fbt (⟨rfl, rfl, rfl, by decide +kernel, rfl, by decide +kernel, by decide +kernel⟩ : FnScope ["self"] ["self"] (defScope (inClass (top 4) 1)))⟩⟩
  have X1 := errB_ok y1
  obtain ⟨fdni, Fni⟩ := c.def_ 4 (d := ⟨("BadLayout", some "__init__"), "__init__", "BadLayout.__init__", defArgs (inClass (top 6) 0), defBody (inClass (top 6) 0), defScope (inClass (top 6) 0), [], []⟩) rfl
  obtain ⟨fdnt, Fnt⟩ := c.def_ 5 (d := ⟨("BadLayout", some "told"), "told", "BadLayout.told", defArgs (inClass (top 6) 1), defBody (inClass (top 6) 1), defScope (inClass (top 6) 1), [], []⟩) rfl
  have en : ErrAt P w K mg base "BadLayout" (BY K) ["what"] "refused badlayout" := ⟨He.glo_ok X G (c.fact 3 (f := .glo "BadLayout") rfl), X1, ⟨He.eqO_ok y2, of_decide_eq_true y3⟩, ⟨fdni, FunD.bindsN (ps := ["self", "what"]) Fni (fun _ _ _ _ _ _ us hl => match us, hl with | [_, _], _ => rfl), ok_init1 Fni (⟨rfl, rfl, rfl, by decide +kernel, rfl, by decide +kernel, by decide +kernel⟩ : FnScope ["self", "what"] ["self", "what"] (defScope (inClass (top 6) 0))) X1 rfl rfl (by decide +kernel) (by decide +kernel)⟩,
    ⟨fdnt, FunD.bindsN (ps := ["self"]) Fnt (fun _ _ _ _ _ _ us hl => match us, hl with | [_], _ => rfl), Fnt.kp, ok_told Fnt (⟨rfl, rfl, rfl, by decide +kernel, rfl, by decide +kernel, by decide +kernel⟩ : FnScope ["self"] ["self"] (defScope (inClass (top 6) 1)))⟩⟩
  have X2 := errB_ok w1
  obtain ⟨fdxi, Fxi⟩ := c.def_ 6 (d := ⟨("Large", some "__init__"), "__init__", "Large.__init__", defArgs (inClass (top 7) 0), defBody (inClass (top 7) 0), defScope (inClass (top 7) 0), [], []⟩) rfl
  obtain ⟨fdxt, Fxt⟩ := c.def_ 7 (d := ⟨("Large", some "told"), "told", "Large.told", defArgs (inClass (top 7) 1), defBody (inClass (top 7) 1), defScope (inClass (top 7) 1), [], []⟩) rfl
  have et : ErrAt P w K mg base "Large" (LG K) ["count"] "refused large" := ⟨He.glo_ok X G (c.fact 4 (f := .glo "Large") rfl), X2, ⟨He.eqO_ok w2, of_decide_eq_true w3⟩, ⟨fdxi, FunD.bindsN (ps := ["self", "count"]) Fxi (fun _ _ _ _ _ _ us hl => match us, hl with | [_, _], _ => rfl), ok_init1 Fxi (⟨rfl, rfl, rfl, by decide +kernel, rfl, by decide +kernel, by decide +kernel⟩ : FnScope ["self", "count"] ["self", "count"] (defScope (inClass (top 7) 0))) X2 rfl rfl (by decide +kernel) (by decide +kernel)⟩,
    ⟨fdxt, FunD.bindsN (ps := ["self"]) Fxt (fun _ _ _ _ _ _ us hl => match us, hl with | [_], _ => rfl), Fxt.kp, ok_told Fxt (⟨rfl, rfl, rfl, by decide +kernel, rfl, by decide +kernel, by decide +kernel⟩ : FnScope ["self"] ["self"] (defScope (inClass (top 7) 1)))⟩⟩
  have g0 : G0 P w K mg base := ⟨⟨He.free_ok X G (c.fact 39 (f := .free "abs") rfl), He.free_ok X G (c.fact 40 (f := .free "int") rfl), He.free_ok X G (c.fact 41 (f := .free "bool") rfl), He.free_ok X G (c.fact 42 (f := .free "isinstance") rfl), He.free_ok X G (c.fact 43 (f := .free "range") rfl), He.free_ok X G (c.fact 44 (f := .free "len") rfl), He.free_ok X G (c.fact 45 (f := .free "set") rfl), He.free_ok X G (c.fact 46 (f := .free "type") rfl), He.free_ok X G (c.fact 47 (f := .free "str") rfl), He.free_ok X G (c.fact 48 (f := .free "reversed") rfl), He.free_ok X G (c.fact 49 (f := .free "tuple") rfl), He.free_ok X G (c.fact 50 (f := .free "list") rfl), He.free_ok X G (c.fact 51 (f := .free "any") rfl), He.free_ok X G (c.fact 52 (f := .free "all") rfl)⟩, He.str_ok X G (c.fact 57 (f := .str "SIGNS" SG) rfl), He.str_ok X G (c.fact 58 (f := .str "DIGITS" DG) rfl), eb⟩
  obtain ⟨fdf1, Ff1⟩ := c.def_ 41 (d := ⟨("is_made_of", none), "is_made_of", "is_made_of", defArgs (top 13), defBody (top 13), defScope (top 13), [], []⟩) rfl
  have Af1 : FnAt P w K mg base CX0 1 "is_made_of" ["text", "signs"] _ := ⟨_, fdf1, He.glo_ok X G (c.fact 15 (f := .glo "is_made_of") rfl), Ff1.kp, ok_made_of Ff1 g0, FunD.bindsN (ps := ["text", "signs"]) Ff1 (fun _ _ _ _ _ _ us hl => match us, hl with | [_, _], _ => rfl)⟩
  obtain ⟨fdf2, Ff2⟩ := c.def_ 42 (d := ⟨("is_sign", none), "is_sign", "is_sign", defArgs (top 14), defBody (top 14), defScope (top 14), [], []⟩) rfl
  have Af2 : FnAt P w K mg base CX0 1 "is_sign" ["thing"] _ := ⟨_, fdf2, He.glo_ok X G (c.fact 16 (f := .glo "is_sign") rfl), Ff2.kp, ok_is_sign Ff2 g0, FunD.bindsN (ps := ["thing"]) Ff2 (fun _ _ _ _ _ _ us hl => match us, hl with | [_], _ => rfl)⟩
  obtain ⟨fdf3, Ff3⟩ := c.def_ 44 (d := ⟨("is_number", none), "is_number", "is_number", defArgs (top 17), defBody (top 17), defScope (top 17), [], []⟩) rfl
  have Af3 : FnAt P w K mg base CX0 1 "is_number" ["thing"] _ := ⟨_, fdf3, He.glo_ok X G (c.fact 18 (f := .glo "is_number") rfl), Ff3.kp, ok_is_number Ff3 g0, FunD.bindsN (ps := ["thing"]) Ff3 (fun _ _ _ _ _ _ us hl => match us, hl with | [_], _ => rfl)⟩
  obtain ⟨fdf4, Ff4⟩ := c.def_ 45 (d := ⟨("digits_of", none), "digits_of", "digits_of", defArgs (top 18), defBody (top 18), defScope (top 18), [], []⟩) rfl
  have Af4 : FnAt P w K mg base CX0 1 "digits_of" ["number"] _ := ⟨_, fdf4, He.glo_ok X G (c.fact 19 (f := .glo "digits_of") rfl), Ff4.kp, ok_digits_of Ff4 g0, FunD.bindsN (ps := ["number"]) Ff4 (fun _ _ _ _ _ _ us hl => match us, hl with | [_], _ => rfl)⟩
  have g1 : G1 P w K mg base := ⟨g0, Af1, Af2, Af3, Af4⟩
  obtain ⟨fdf5, Ff5⟩ := c.def_ 43 (d := ⟨("are_signs", none), "are_signs", "are_signs", defArgs (top 15), defBody (top 15), defScope (top 15), [], []⟩) rfl
  have Af5 : FnAt P w K mg base CX0 2 "are_signs" ["thing"] _ := ⟨_, fdf5, He.glo_ok X G (c.fact 17 (f := .glo "are_signs") rfl), Ff5.kp, ok_are_signs Ff5 g1, FunD.bindsN (ps := ["thing"]) Ff5 (fun _ _ _ _ _ _ us hl => match us, hl with | [_], _ => rfl)⟩
  have g2 : G2 P w K mg base := ⟨g1, Af5⟩
  obtain ⟨fdf6, Ff6⟩ := c.def_ 47 (d := ⟨("check_signs", none), "check_signs", "check_signs", defArgs (top 21), defBody (top 21), defScope (top 21), [], []⟩) rfl
  have Af6 : FnAt P w K mg base (L2.CX P w) 3 "check_signs" ["signs"] _ := ⟨_, fdf6, He.glo_ok X G (c.fact 21 (f := .glo "check_signs") rfl), Ff6.kp, ok_check_signs Ff6 g2, FunD.bindsN (ps := ["signs"]) Ff6 (fun _ _ _ _ _ _ us hl => match us, hl with | [_], _ => rfl)⟩
  obtain ⟨fdf7, Ff7⟩ := c.def_ 48 (d := ⟨("check_span", none), "check_span", "check_span", defArgs (top 22), defBody (top 22), defScope (top 22), [], []⟩) rfl
  have Af7 : FnAt P w K mg base (L2.CX P w) 3 "check_span" ["least", "most"] _ := ⟨_, fdf7, He.glo_ok X G (c.fact 22 (f := .glo "check_span") rfl), Ff7.kp, ok_check_span Ff7 g2, FunD.bindsN (ps := ["least", "most"]) Ff7 (fun _ _ _ _ _ _ us hl => match us, hl with | [_, _], _ => rfl)⟩
  obtain ⟨fdf8, Ff8⟩ := c.def_ 49 (d := ⟨("has_words_with", none), "has_words_with", "has_words_with", defArgs (top 24), defBody (top 24), defScope (top 24), [], []⟩) rfl
  have Af8 : FnAt P w K mg base CX0 1 "has_words_with" ["field", "sign"] _ := ⟨_, fdf8, He.glo_ok X G (c.fact 23 (f := .glo "has_words_with") rfl), Ff8.kp, ok_has_words Ff8 g0, FunD.bindsN (ps := ["field", "sign"]) Ff8 (fun _ _ _ _ _ _ us hl => match us, hl with | [_, _], _ => rfl)⟩
  have cWord : C0 K mg "Word" ["signs", "least", "most"] := ⟨He.glo_ok X G (c.fact 9 (f := .glo "Word") rfl), He.cls_ok (c.fact 62 (f := .cls "Word") rfl), (fun f hf => by
    rcases List.mem_cons.mp hf with rfl | hf
    · exact He.noat_ok (c.fact 64 (f := .noat "Word" "signs") rfl)
    rcases List.mem_cons.mp hf with rfl | hf
    · exact He.noat_ok (c.fact 65 (f := .noat "Word" "least") rfl)
    rcases List.mem_cons.mp hf with rfl | hf
    · exact He.noat_ok (c.fact 66 (f := .noat "Word" "most") rfl)
    cases hf)⟩
  have cNumber : C0 K mg "Number" ["least", "most"] := ⟨He.glo_ok X G (c.fact 10 (f := .glo "Number") rfl), He.cls_ok (c.fact 70 (f := .cls "Number") rfl), (fun f hf => by
    rcases List.mem_cons.mp hf with rfl | hf
    · exact He.noat_ok (c.fact 72 (f := .noat "Number" "least") rfl)
    rcases List.mem_cons.mp hf with rfl | hf
    · exact He.noat_ok (c.fact 73 (f := .noat "Number" "most") rfl)
    cases hf)⟩
  have cFixed : C0 K mg "Fixed" ["width"] := ⟨He.glo_ok X G (c.fact 11 (f := .glo "Fixed") rfl), He.cls_ok (c.fact 75 (f := .cls "Fixed") rfl), (fun f hf => by
    rcases List.mem_cons.mp hf with rfl | hf
    · exact He.noat_ok (c.fact 77 (f := .noat "Fixed" "width") rfl)
    cases hf)⟩
  have cListed : C0 K mg "Listed" ["texts"] := ⟨He.glo_ok X G (c.fact 12 (f := .glo "Listed") rfl), He.cls_ok (c.fact 79 (f := .cls "Listed") rfl), (fun f hf => by
    rcases List.mem_cons.mp hf with rfl | hf
    · exact He.noat_ok (c.fact 81 (f := .noat "Listed" "texts") rfl)
    cases hf)⟩
  have cEnded : C0 K mg "Ended" ["signs", "sign", "least", "most"] := ⟨He.glo_ok X G (c.fact 13 (f := .glo "Ended") rfl), He.cls_ok (c.fact 83 (f := .cls "Ended") rfl), (fun f hf => by
    rcases List.mem_cons.mp hf with rfl | hf
    · exact He.noat_ok (c.fact 85 (f := .noat "Ended" "signs") rfl)
    rcases List.mem_cons.mp hf with rfl | hf
    · exact He.noat_ok (c.fact 86 (f := .noat "Ended" "sign") rfl)
    rcases List.mem_cons.mp hf with rfl | hf
    · exact He.noat_ok (c.fact 87 (f := .noat "Ended" "least") rfl)
    rcases List.mem_cons.mp hf with rfl | hf
    · exact He.noat_ok (c.fact 88 (f := .noat "Ended" "most") rfl)
    cases hf)⟩
  have cMarked : C0 K mg "Marked" ["none", "mark", "field"] := ⟨He.glo_ok X G (c.fact 14 (f := .glo "Marked") rfl), He.cls_ok (c.fact 90 (f := .cls "Marked") rfl), (fun f hf => by
    rcases List.mem_cons.mp hf with rfl | hf
    · exact He.noat_ok (c.fact 92 (f := .noat "Marked" "none") rfl)
    rcases List.mem_cons.mp hf with rfl | hf
    · exact He.noat_ok (c.fact 93 (f := .noat "Marked" "mark") rfl)
    rcases List.mem_cons.mp hf with rfl | hf
    · exact He.noat_ok (c.fact 94 (f := .noat "Marked" "field") rfl)
    cases hf)⟩
  have cLayout : C0 K mg "Layout" ["fields", "joints"] := ⟨He.glo_ok X G (c.fact 5 (f := .glo "Layout") rfl), He.cls_ok (c.fact 95 (f := .cls "Layout") rfl), (fun f hf => by
    rcases List.mem_cons.mp hf with rfl | hf
    · exact He.noat_ok (c.fact 97 (f := .noat "Layout" "fields") rfl)
    rcases List.mem_cons.mp hf with rfl | hf
    · exact He.noat_ok (c.fact 98 (f := .noat "Layout" "joints") rfl)
    cases hf)⟩
  have g3 : G3 P w K mg base := ⟨g2, Af6, Af7, Af8, cWord, cNumber, cFixed, cListed, cEnded, cMarked⟩
  have mk0 : makesIn K (ca K 0) = true := (He.mkr_ok (c.fact 63 (f := .mkr "Word") rfl)).makes
  have mk1 : makesIn K (ca K 1) = true := (He.mkr_ok (c.fact 71 (f := .mkr "Number") rfl)).makes
  have mk2 : makesIn K (ca K 2) = true := (He.mkr_ok (c.fact 76 (f := .mkr "Fixed") rfl)).makes
  have mk3 : makesIn K (ca K 3) = true := (He.mkr_ok (c.fact 80 (f := .mkr "Listed") rfl)).makes
  have mk4 : makesIn K (ca K 4) = true := (He.mkr_ok (c.fact 84 (f := .mkr "Ended") rfl)).makes
  have mk5 : makesIn K (ca K 5) = true := (He.mkr_ok (c.fact 91 (f := .mkr "Marked") rfl)).makes
  have mk6 : makesIn K (ca K 6) = true := (He.mkr_ok (c.fact 96 (f := .mkr "Layout") rfl)).makes
  have mks : ∀ i, i < 7 → makesIn K (ca K i) = true := fun i hi => by
    have e : i = 0 ∨ i = 1 ∨ i = 2 ∨ i = 3 ∨ i = 4 ∨ i = 5 ∨ i = 6 := by omega
    rcases e with rfl | rfl | rfl | rfl | rfl | rfl | rfl
    · exact mk0
    · exact mk1
    · exact mk2
    · exact mk3
    · exact mk4
    · exact mk5
    · exact mk6
  have g4 : G4 P w K mg base := ⟨g3, fun i hi => (more7 i (by omega)).1, He.eqO_ok z5, of_decide_eq_true z6, fun i j hi hj => (more i hi).2.2 j hj, mks, fun i j hi hj => ((more7 i hi).2.2 j hj).2, fun j hj => (more j hj).1 _ (by decide), fun j hj => (more j hj).1 _ (by decide)⟩
  obtain ⟨fdhWord, FhWord⟩ := c.def_ 10 (d := ⟨("Word", some "has_sign"), "has_sign", "Word.has_sign", defArgs (inClass (top 25) 7), defBody (inClass (top 25) 7), defScope (inClass (top 25) 7), [], []⟩) rfl
  obtain ⟨fdeWord, FeWord⟩ := c.def_ 9 (d := ⟨("Word", some "__eq__"), "__eq__", "Word.__eq__", defArgs (inClass (top 25) 1), defBody (inClass (top 25) 1), defScope (inClass (top 25) 1), [], []⟩) rfl
  have hWord : HM P w K mg base 2 (ca K 0) "has_sign" ["self", "sign"] (spHasWord K) := ⟨He.meth_ok (c.fact 69 (f := .meth "Word" "has_sign") rfl), fdhWord, ok_Word_has FhWord g3, FunD.bindsN (ps := ["self", "sign"]) FhWord (fun _ _ _ _ _ _ us hl => match us, hl with | [_, _], _ => rfl)⟩
  have eWord : EQ P w K mg base (ca K 0) (spEqWord K) := ⟨fdeWord, ok_Word_eq FeWord g4, FunD.bindsN (ps := ["self", "other"]) FeWord (fun _ _ _ _ _ _ us hl => match us, hl with | [_, _], _ => rfl)⟩
  obtain ⟨fdhNumber, FhNumber⟩ := c.def_ 13 (d := ⟨("Number", some "has_sign"), "has_sign", "Number.has_sign", defArgs (inClass (top 26) 7), defBody (inClass (top 26) 7), defScope (inClass (top 26) 7), [], []⟩) rfl
  obtain ⟨fdeNumber, FeNumber⟩ := c.def_ 12 (d := ⟨("Number", some "__eq__"), "__eq__", "Number.__eq__", defArgs (inClass (top 26) 1), defBody (inClass (top 26) 1), defScope (inClass (top 26) 1), [], []⟩) rfl
  have hNumber : HM P w K mg base 2 (ca K 1) "has_sign" ["self", "sign"] (spHasNumber K) := ⟨He.meth_ok (c.fact 74 (f := .meth "Number" "has_sign") rfl), fdhNumber, ok_Number_has FhNumber g3, FunD.bindsN (ps := ["self", "sign"]) FhNumber (fun _ _ _ _ _ _ us hl => match us, hl with | [_, _], _ => rfl)⟩
  have eNumber : EQ P w K mg base (ca K 1) (spEqNumber K) := ⟨fdeNumber, ok_Number_eq FeNumber g4, FunD.bindsN (ps := ["self", "other"]) FeNumber (fun _ _ _ _ _ _ us hl => match us, hl with | [_, _], _ => rfl)⟩
  obtain ⟨fdhFixed, FhFixed⟩ := c.def_ 16 (d := ⟨("Fixed", some "has_sign"), "has_sign", "Fixed.has_sign", defArgs (inClass (top 27) 7), defBody (inClass (top 27) 7), defScope (inClass (top 27) 7), [], []⟩) rfl
  obtain ⟨fdeFixed, FeFixed⟩ := c.def_ 15 (d := ⟨("Fixed", some "__eq__"), "__eq__", "Fixed.__eq__", defArgs (inClass (top 27) 1), defBody (inClass (top 27) 1), defScope (inClass (top 27) 1), [], []⟩) rfl
  have hFixed : HM P w K mg base 2 (ca K 2) "has_sign" ["self", "sign"] (spHasFixed K) := ⟨He.meth_ok (c.fact 78 (f := .meth "Fixed" "has_sign") rfl), fdhFixed, ok_Fixed_has FhFixed g3, FunD.bindsN (ps := ["self", "sign"]) FhFixed (fun _ _ _ _ _ _ us hl => match us, hl with | [_, _], _ => rfl)⟩
  have eFixed : EQ P w K mg base (ca K 2) (spEqFixed K) := ⟨fdeFixed, ok_Fixed_eq FeFixed g4, FunD.bindsN (ps := ["self", "other"]) FeFixed (fun _ _ _ _ _ _ us hl => match us, hl with | [_, _], _ => rfl)⟩
  obtain ⟨fdhListed, FhListed⟩ := c.def_ 19 (d := ⟨("Listed", some "has_sign"), "has_sign", "Listed.has_sign", defArgs (inClass (top 28) 7), defBody (inClass (top 28) 7), defScope (inClass (top 28) 7), [], []⟩) rfl
  obtain ⟨fdeListed, FeListed⟩ := c.def_ 18 (d := ⟨("Listed", some "__eq__"), "__eq__", "Listed.__eq__", defArgs (inClass (top 28) 1), defBody (inClass (top 28) 1), defScope (inClass (top 28) 1), [], []⟩) rfl
  have hListed : HM P w K mg base 2 (ca K 3) "has_sign" ["self", "sign"] (spHasListed K) := ⟨He.meth_ok (c.fact 82 (f := .meth "Listed" "has_sign") rfl), fdhListed, ok_Listed_has FhListed g3, FunD.bindsN (ps := ["self", "sign"]) FhListed (fun _ _ _ _ _ _ us hl => match us, hl with | [_, _], _ => rfl)⟩
  have eListed : EQ P w K mg base (ca K 3) (spEqListed K) := ⟨fdeListed, ok_Listed_eq FeListed g4, FunD.bindsN (ps := ["self", "other"]) FeListed (fun _ _ _ _ _ _ us hl => match us, hl with | [_, _], _ => rfl)⟩
  obtain ⟨fdhEnded, FhEnded⟩ := c.def_ 22 (d := ⟨("Ended", some "has_sign"), "has_sign", "Ended.has_sign", defArgs (inClass (top 29) 7), defBody (inClass (top 29) 7), defScope (inClass (top 29) 7), [], []⟩) rfl
  obtain ⟨fdeEnded, FeEnded⟩ := c.def_ 21 (d := ⟨("Ended", some "__eq__"), "__eq__", "Ended.__eq__", defArgs (inClass (top 29) 1), defBody (inClass (top 29) 1), defScope (inClass (top 29) 1), [], []⟩) rfl
  have hEnded : HM P w K mg base 2 (ca K 4) "has_sign" ["self", "sign"] (spHasEnded K) := ⟨He.meth_ok (c.fact 89 (f := .meth "Ended" "has_sign") rfl), fdhEnded, ok_Ended_has FhEnded g3, FunD.bindsN (ps := ["self", "sign"]) FhEnded (fun _ _ _ _ _ _ us hl => match us, hl with | [_, _], _ => rfl)⟩
  have eEnded : EQ P w K mg base (ca K 4) (spEqEnded K) := ⟨fdeEnded, ok_Ended_eq FeEnded g4, FunD.bindsN (ps := ["self", "other"]) FeEnded (fun _ _ _ _ _ _ us hl => match us, hl with | [_, _], _ => rfl)⟩
  have g5 : G5 P w K mg base := ⟨g4, hWord, eWord, hNumber, eNumber, hFixed, eFixed, hListed, eListed, hEnded, eEnded⟩
  have q0 : Q0 P w K mg base := ⟨g5, en, He.str_ok X G (c.fact 59 (f := .str "LOW" "!") rfl), He.str_ok X G (c.fact 60 (f := .str "HIGH" "~") rfl), cLayout, fun T hT j hj => (more j hj).1 T hT⟩
  obtain ⟨fds1, Fs1⟩ := c.def_ 50 (d := ⟨("is_sequence", none), "is_sequence", "is_sequence", defArgs (top 32), defBody (top 32), defScope (top 32), [], []⟩) rfl
  have As1 : FnAt P w K mg base CX0 1 "is_sequence" ["thing"] _ := ⟨_, fds1, He.glo_ok X G (c.fact 24 (f := .glo "is_sequence") rfl), Fs1.kp, ok_is_sequence Fs1 q0, FunD.bindsN (ps := ["thing"]) Fs1 (fun _ _ _ _ _ _ us hl => match us, hl with | [_], _ => rfl)⟩
  have q1 : Q1 P w K mg base := ⟨q0, As1⟩
  obtain ⟨fds2, Fs2⟩ := c.def_ 51 (d := ⟨("check_fields", none), "check_fields", "check_fields", defArgs (top 33), defBody (top 33), defScope (top 33), [], []⟩) rfl
  have As2 : FnAt P w K mg base (L2.CX P w) 3 "check_fields" ["fields"] _ := ⟨_, fds2, He.glo_ok X G (c.fact 25 (f := .glo "check_fields") rfl), Fs2.kp, ok_check_fields Fs2 q1, FunD.bindsN (ps := ["fields"]) Fs2 (fun _ _ _ _ _ _ us hl => match us, hl with | [_], _ => rfl)⟩
  have q2 : Q2 P w K mg base := ⟨q1, As2⟩
  obtain ⟨fds3, Fs3⟩ := c.def_ 52 (d := ⟨("is_joint", none), "is_joint", "is_joint", defArgs (top 34), defBody (top 34), defScope (top 34), [], []⟩) rfl
  have As3 : FnAt P w K mg base CX0 1 "is_joint" ["thing"] _ := ⟨_, fds3, He.glo_ok X G (c.fact 26 (f := .glo "is_joint") rfl), Fs3.kp, ok_is_joint Fs3 q0, FunD.bindsN (ps := ["thing"]) Fs3 (fun _ _ _ _ _ _ us hl => match us, hl with | [_], _ => rfl)⟩
  have q3 : Q3 P w K mg base := ⟨q2, As3⟩
  obtain ⟨fdiLa, FiLa⟩ := c.def_ 25 (d := ⟨("Layout", some "__init__"), "__init__", "Layout.__init__", defArgs (inClass (top 35) 0), defBody (inClass (top 35) 0), defScope (inClass (top 35) 0), [], []⟩) rfl
  have kLay : ClsAt P w K mg base (L2.CX P w) 4 "Layout" (LA K) ["self", "fields", "joints"] (spLay K) := ⟨cLayout.mgC, cLayout.cl, He.mkr_ok (c.fact 96 (f := .mkr "Layout") rfl), fdiLa, ok_Layout_init FiLa q3, FunD.bindsN (ps := ["self", "fields", "joints"]) FiLa (fun _ _ _ _ _ _ us hl => match us, hl with | [_, _, _], _ => rfl)⟩
  obtain ⟨fdr1, Fr1⟩ := c.def_ 59 (d := ⟨("_law_source", none), "_law_source", "_law_source", defArgs (top 55), defBody (top 55), defScope (top 55), [], []⟩) rfl
  have Ar1 : FnAt P w K mg base CX0 1 "_law_source" ["_law_cell"] _ := ⟨_, fdr1, He.glo_ok X G (c.fact 33 (f := .glo "_law_source") rfl), Fr1.kp, ok_source Fr1 g0.toBl, FunD.bindsN (ps := ["_law_cell"]) Fr1 (fun _ _ _ _ _ _ us hl => match us, hl with | [_], _ => rfl)⟩
  obtain ⟨fdr2, Fr2⟩ := c.def_ 60 (d := ⟨("_law_draw", none), "_law_draw", "_law_draw", defArgs (top 56), defBody (top 56), defScope (top 56), [], []⟩) rfl
  have Ar2 : FnAt P w K mg base CX0 1 "_law_draw" ["_law_source_here", "_law_many"] _ := ⟨_, fdr2, He.glo_ok X G (c.fact 34 (f := .glo "_law_draw") rfl), Fr2.kp, ok_draw Fr2 g0.toBl, FunD.bindsN (ps := ["_law_source_here", "_law_many"]) Fr2 (fun _ _ _ _ _ _ us hl => match us, hl with | [_, _], _ => rfl)⟩
  obtain ⟨fdiWord, FiWord⟩ := c.def_ 8 (d := ⟨("Word", some "__init__"), "__init__", "Word.__init__", defArgs (inClass (top 25) 0), defBody (inClass (top 25) 0), defScope (inClass (top 25) 0), [], []⟩) rfl
  have kWord : ClsAt P w K mg base (L2.CX P w) 4 "Word" (He.ga K "Word") ["self", "signs", "least", "most"] (spWord K) := ⟨cWord.mgC, cWord.cl, He.mkr_ok (c.fact 63 (f := .mkr "Word") rfl), fdiWord, ok_Word_init FiWord g3, FunD.bindsN (ps := ["self", "signs", "least", "most"]) FiWord (fun _ _ _ _ _ _ us hl => match us, hl with | [_, _, _, _], _ => rfl)⟩
  have cWordSpots : C0 K mg "WordSpots" ["text", "signs", "least", "most"] := ⟨He.glo_ok X G (c.fact 7 (f := .glo "WordSpots") rfl), He.cls_ok (c.fact 99 (f := .cls "WordSpots") rfl), (fun f hf => by
    rcases List.mem_cons.mp hf with rfl | hf
    · exact He.noat_ok (c.fact 101 (f := .noat "WordSpots" "text") rfl)
    rcases List.mem_cons.mp hf with rfl | hf
    · exact He.noat_ok (c.fact 102 (f := .noat "WordSpots" "signs") rfl)
    rcases List.mem_cons.mp hf with rfl | hf
    · exact He.noat_ok (c.fact 103 (f := .noat "WordSpots" "least") rfl)
    rcases List.mem_cons.mp hf with rfl | hf
    · exact He.noat_ok (c.fact 104 (f := .noat "WordSpots" "most") rfl)
    cases hf)⟩
  have cReading : C0 K mg "Reading" ["layout", "text", "spans", "ways", "ends", "kept"] := ⟨He.glo_ok X G (c.fact 8 (f := .glo "Reading") rfl), He.cls_ok (c.fact 107 (f := .cls "Reading") rfl), (fun f hf => by
    rcases List.mem_cons.mp hf with rfl | hf
    · exact He.noat_ok (c.fact 109 (f := .noat "Reading" "layout") rfl)
    rcases List.mem_cons.mp hf with rfl | hf
    · exact He.noat_ok (c.fact 110 (f := .noat "Reading" "text") rfl)
    rcases List.mem_cons.mp hf with rfl | hf
    · exact He.noat_ok (c.fact 111 (f := .noat "Reading" "spans") rfl)
    rcases List.mem_cons.mp hf with rfl | hf
    · exact He.noat_ok (c.fact 112 (f := .noat "Reading" "ways") rfl)
    rcases List.mem_cons.mp hf with rfl | hf
    · exact He.noat_ok (c.fact 113 (f := .noat "Reading" "ends") rfl)
    rcases List.mem_cons.mp hf with rfl | hf
    · exact He.noat_ok (c.fact 114 (f := .noat "Reading" "kept") rfl)
    cases hf)⟩
  obtain ⟨fdrI, FrI⟩ := c.def_ 29 (d := ⟨("RunSpots", some "__init__"), "__init__", "RunSpots.__init__", defArgs (inClass (top 41) 0), defBody (inClass (top 41) 0), defScope (inClass (top 41) 0), [], []⟩) rfl
  have s0 : S0 P w K mg base := ⟨q0, clsFnB_ok xR, He.glo_ok X G (c.fact 6 (f := .glo "RunSpots") rfl), ⟨fdrI, ok_RunSpots_init FrI q0, FunD.bindsN (ps := ["self", "text", "signs"]) FrI (fun _ _ _ _ _ _ us hl => match us, hl with | [_, _, _], _ => rfl)⟩, cWordSpots, He.free_ok X G (c.fact 53 (f := .free "min") rfl)⟩
  obtain ⟨fdsp, Fsp⟩ := c.def_ 32 (d := ⟨("WordSpots", some "span_at"), "span_at", "WordSpots.span_at", defArgs (inClass (top 42) 1), defBody (inClass (top 42) 1), defScope (inClass (top 42) 1), [], []⟩) rfl
  have msp : MetAt P w K mg base CX0 1 (He.ga K "WordSpots") "span_at" ["self", "place", "end"] (spSa K) := ⟨He.cls_ok (c.fact 99 (f := .cls "WordSpots") rfl), He.meth_ok (c.fact 106 (f := .meth "WordSpots" "span_at") rfl), fdsp, ok_WordSpots_span_at Fsp s0, FunD.bindsN (ps := ["self", "place", "end"]) Fsp (fun _ _ _ _ _ _ us hl => match us, hl with | [_, _, _], _ => rfl)⟩
  have s1 : S1 P w K mg base := ⟨s0, msp⟩
  obtain ⟨fdsf, Fsf⟩ := c.def_ 30 (d := ⟨("RunSpots", some "spans_from"), "spans_from", "RunSpots.spans_from", defArgs (inClass (top 41) 1), defBody (inClass (top 41) 1), defScope (inClass (top 41) 1), [], []⟩) rfl
  have msf : MetAt P w K mg base CX0 2 (He.ga K "WordSpots") "spans_from" ["self", "places"] (spSf K) := ⟨He.cls_ok (c.fact 99 (f := .cls "WordSpots") rfl), He.meth_ok (c.fact 105 (f := .meth "WordSpots" "spans_from") rfl), fdsf, (of_decide_eq_true xS : He.ma K (He.ga K "WordSpots") "spans_from" = He.ma K (He.ga K "RunSpots") "spans_from").symm ▸ ok_RunSpots_spans Fsf s1, FunD.bindsN (ps := ["self", "places"]) Fsf (fun _ _ _ _ _ _ us hl => match us, hl with | [_, _], _ => rfl)⟩
  obtain ⟨fdwI, FwI⟩ := c.def_ 31 (d := ⟨("WordSpots", some "__init__"), "__init__", "WordSpots.__init__", defArgs (inClass (top 42) 0), defBody (inClass (top 42) 0), defScope (inClass (top 42) 0), [], []⟩) rfl
  have kWS : ClsAt P w K mg base CX0 2 "WordSpots" (WS K) ["self", "field", "text"] (spWi K) := ⟨cWordSpots.mgC, cWordSpots.cl, He.mkr_ok (c.fact 100 (f := .mkr "WordSpots") rfl), fdwI, ok_WordSpots_init FwI s0, FunD.bindsN (ps := ["self", "field", "text"]) FwI (fun _ _ _ _ _ _ us hl => match us, hl with | [_, _, _], _ => rfl)⟩
  have s2 : S2 P w K mg base := ⟨s1, kWS⟩
  have s3 : S3 P w K mg base := ⟨s2, PySem.W.mg_of X G (He.eqO_ok xA), He.free_ok X G (c.fact 56 (f := .free "enumerate") rfl), cReading⟩
  obtain ⟨fdjb, Fjb⟩ := c.def_ 53 (d := ⟨("joints_behind", none), "joints_behind", "joints_behind", defArgs (top 36), defBody (top 36), defScope (top 36), [], []⟩) rfl
  have Ajb : FnAt P w K mg base CX0 1 "joints_behind" ["layout"] _ := ⟨_, fdjb, He.glo_ok X G (c.fact 27 (f := .glo "joints_behind") rfl), Fjb.kp, ok_joints_behind Fjb q0, FunD.bindsN (ps := ["layout"]) Fjb (fun _ _ _ _ _ _ us hl => match us, hl with | [_], _ => rfl)⟩
  obtain ⟨fdsi, Fsi⟩ := c.def_ 55 (d := ⟨("spots_in", none), "spots_in", "spots_in", defArgs (top 40), defBody (top 40), defScope (top 40), [], []⟩) rfl
  have Asi : FnAt P w K mg base CX0 4 "spots_in" ["field", "text"] _ := ⟨_, fdsi, He.glo_ok X G (c.fact 29 (f := .glo "spots_in") rfl), Fsi.kp, ok_spots_in Fsi s2, FunD.bindsN (ps := ["field", "text"]) Fsi (fun _ _ _ _ _ _ us hl => match us, hl with | [_, _], _ => rfl)⟩
  obtain ⟨fdpi, Fpi⟩ := c.def_ 35 (d := ⟨("Reading", some "places_in"), "places_in", "Reading.places_in", defArgs (inClass (top 53) 2), defBody (inClass (top 53) 2), defScope (inClass (top 53) 2), [], []⟩) rfl
  have mpi : MetAt P w K mg base CX0 1 (He.ga K "Reading") "places_in" ["self", "spans"] (spPi K) := ⟨He.cls_ok (c.fact 107 (f := .cls "Reading") rfl), He.meth_ok (c.fact 116 (f := .meth "Reading" "places_in") rfl), fdpi, ok_Reading_places Fpi s3, FunD.bindsN (ps := ["self", "spans"]) Fpi (fun _ _ _ _ _ _ us hl => match us, hl with | [_, _], _ => rfl)⟩
  have s4 : S4 P w K mg base := ⟨s3, He.free_ok X G (c.fact 55 (f := .free "zip") rfl), Ajb, Asi, msf, mpi⟩
  obtain ⟨fdas, Fas⟩ := c.def_ 34 (d := ⟨("Reading", some "all_spans"), "all_spans", "Reading.all_spans", defArgs (inClass (top 53) 1), defBody (inClass (top 53) 1), defScope (inClass (top 53) 1), [], []⟩) rfl
  have mas : MetAt P w K mg base CX0 5 (He.ga K "Reading") "all_spans" ["self"] (spAs K) := ⟨He.cls_ok (c.fact 107 (f := .cls "Reading") rfl), He.meth_ok (c.fact 115 (f := .meth "Reading" "all_spans") rfl), fdas, ok_Reading_all_spans Fas s4, FunD.bindsN (ps := ["self"]) Fas (fun _ _ _ _ _ _ us hl => match us, hl with | [_], _ => rfl)⟩
  obtain ⟨fdcw, Fcw⟩ := c.def_ 36 (d := ⟨("Reading", some "counts_of_ways"), "counts_of_ways", "Reading.counts_of_ways", defArgs (inClass (top 53) 3), defBody (inClass (top 53) 3), defScope (inClass (top 53) 3), [], []⟩) rfl
  have mcw : MetAt P w K mg base CX0 1 (He.ga K "Reading") "counts_of_ways" ["self"] (spCw K) := ⟨He.cls_ok (c.fact 107 (f := .cls "Reading") rfl), He.meth_ok (c.fact 117 (f := .meth "Reading" "counts_of_ways") rfl), fdcw, ok_Reading_counts Fcw s4, FunD.bindsN (ps := ["self"]) Fcw (fun _ _ _ _ _ _ us hl => match us, hl with | [_], _ => rfl)⟩
  obtain ⟨fdaw, Faw⟩ := c.def_ 37 (d := ⟨("Reading", some "all_ways"), "all_ways", "Reading.all_ways", defArgs (inClass (top 53) 4), defBody (inClass (top 53) 4), defScope (inClass (top 53) 4), [], []⟩) rfl
  have maw : MetAt P w K mg base CX0 1 (He.ga K "Reading") "all_ways" ["self"] (spAw K) := ⟨He.cls_ok (c.fact 107 (f := .cls "Reading") rfl), He.meth_ok (c.fact 118 (f := .meth "Reading" "all_ways") rfl), fdaw, ok_Reading_all_ways Faw s4, FunD.bindsN (ps := ["self"]) Faw (fun _ _ _ _ _ _ us hl => match us, hl with | [_], _ => rfl)⟩
  obtain ⟨fdff, Fff⟩ := c.def_ 54 (d := ⟨("first_from", none), "first_from", "first_from", defArgs (top 38), defBody (top 38), defScope (top 38), [], []⟩) rfl
  have Aff : FnAt P w K mg base CX0 1 "first_from" ["ascending", "thing"] _ := ⟨_, fdff, He.glo_ok X G (c.fact 28 (f := .glo "first_from") rfl), Fff.kp, ok_first_from Fff q0, FunD.bindsN (ps := ["ascending", "thing"]) Fff (fun _ _ _ _ _ _ us hl => match us, hl with | [_, _], _ => rfl)⟩
  have s5 : S5 P w K mg base := ⟨s4, Aff⟩
  obtain ⟨fdhe, Fhe⟩ := c.def_ 40 (d := ⟨("Reading", some "hopeful_ends"), "hopeful_ends", "Reading.hopeful_ends", defArgs (inClass (top 53) 7), defBody (inClass (top 53) 7), defScope (inClass (top 53) 7), [], []⟩) rfl
  have mhe : MetAt P w K mg base CX0 2 (He.ga K "Reading") "hopeful_ends" ["self", "index"] (spHe K) := ⟨He.cls_ok (c.fact 107 (f := .cls "Reading") rfl), He.meth_ok (c.fact 121 (f := .meth "Reading" "hopeful_ends") rfl), fdhe, ok_Reading_hopeful Fhe s5, FunD.bindsN (ps := ["self", "index"]) Fhe (fun _ _ _ _ _ _ us hl => match us, hl with | [_, _], _ => rfl)⟩
  obtain ⟨fdvf, Fvf⟩ := c.def_ 27 (d := ⟨("Word", some "value_for"), "value_for", "Word.value_for", defArgs (inClass (top 25) 5), defBody (inClass (top 25) 5), defScope (inClass (top 25) 5), [], []⟩) rfl
  have mvf : MetAt P w K mg base CX0 1 (He.ga K "Word") "value_for" ["self", "text"] spVf := ⟨He.cls_ok (c.fact 62 (f := .cls "Word") rfl), He.meth_ok (c.fact 67 (f := .meth "Word" "value_for") rfl), fdvf, ok_Word_value_for Fvf s4, FunD.bindsN (ps := ["self", "text"]) Fvf (fun _ _ _ _ _ _ us hl => match us, hl with | [_, _], _ => rfl)⟩
  obtain ⟨fdpb, Fpb⟩ := c.def_ 28 (d := ⟨("Word", some "puts_before"), "puts_before", "Word.puts_before", defArgs (inClass (top 25) 6), defBody (inClass (top 25) 6), defScope (inClass (top 25) 6), [], []⟩) rfl
  have mpb : MetAt P w K mg base CX0 1 (He.ga K "Word") "puts_before" ["self", "one", "other"] spPb := ⟨He.cls_ok (c.fact 62 (f := .cls "Word") rfl), He.meth_ok (c.fact 68 (f := .meth "Word" "puts_before") rfl), fdpb, ok_Word_puts_before Fpb s4, FunD.bindsN (ps := ["self", "one", "other"]) Fpb (fun _ _ _ _ _ _ us hl => match us, hl with | [_, _, _], _ => rfl)⟩
  have s6 : S6 P w K mg base := ⟨s5, mhe, mvf, mpb⟩
  obtain ⟨fdva, Fva⟩ := c.def_ 39 (d := ⟨("Reading", some "values_at"), "values_at", "Reading.values_at", defArgs (inClass (top 53) 6), defBody (inClass (top 53) 6), defScope (inClass (top 53) 6), [], []⟩) rfl
  have mva : MetAt P w K mg base CX0 3 (He.ga K "Reading") "values_at" ["self", "index", "place"] (spVa K) := ⟨He.cls_ok (c.fact 107 (f := .cls "Reading") rfl), He.meth_ok (c.fact 120 (f := .meth "Reading" "values_at") rfl), fdva, ok_Reading_values_at Fva s6, FunD.bindsN (ps := ["self", "index", "place"]) Fva (fun _ _ _ _ _ _ us hl => match us, hl with | [_, _, _], _ => rfl)⟩
  have s7 : S7 P w K mg base := ⟨s6, mva⟩
  obtain ⟨fdrf, Frf⟩ := c.def_ 38 (d := ⟨("Reading", some "rows_from"), "rows_from", "Reading.rows_from", defArgs (inClass (top 53) 5), defBody (inClass (top 53) 5), defScope (inClass (top 53) 5), [], []⟩) rfl
  have crf := He.cls_ok (c.fact 107 (f := .cls "Reading") rfl)
  have hrf := He.meth_ok (c.fact 119 (f := .meth "Reading" "rows_from") rfl)
  have brf := FunD.bindsN (ps := ["self", "index", "place"]) Frf (fun _ _ _ _ _ _ us hl => match us, hl with | [_, _, _], _ => rfl)
  have rf0 : MetAt P w K mg base CX0 (0 + 4) (RD K) "rows_from" ["self", "index", "place"] (spRf K 0) := ⟨crf, hrf, fdrf, fn_never.imp fun vs H Q E h => (by obtain ⟨_, _, _, _, _, _, _, hd, _⟩ := h; exact absurd hd (Nat.not_lt_zero _)), brf⟩
  have steprf : ∀ n, MetAt P w K mg base CX0 (n + 4) (RD K) "rows_from" ["self", "index", "place"] (spRf K n) → MetAt P w K mg base CX0 (n + 1 + 4) (RD K) "rows_from" ["self", "index", "place"] (spRf K (n + 1)) := fun n A => ⟨crf, hrf, fdrf, ok_Reading_rows_from Frf A s7, brf⟩
  have rf7 := steprf 6 (steprf 5 (steprf 4 (steprf 3 (steprf 2 (steprf 1 (steprf 0 rf0))))))
  obtain ⟨fdrdI, FrdI⟩ := c.def_ 33 (d := ⟨("Reading", some "__init__"), "__init__", "Reading.__init__", defArgs (inClass (top 53) 0), defBody (inClass (top 53) 0), defScope (inClass (top 53) 0), [], []⟩) rfl
  have s8 : S8 P w K mg base := ⟨s4, mas, mcw⟩
  have kRD : ClsAt P w K mg base CX0 6 "Reading" (RD K) ["self", "layout", "text"] (spRd K) := ⟨cReading.mgC, cReading.cl, He.mkr_ok (c.fact 108 (f := .mkr "Reading") rfl), fdrdI, ok_Reading_init FrdI s8, FunD.bindsN (ps := ["self", "layout", "text"]) FrdI (fun _ _ _ _ _ _ us hl => match us, hl with | [_, _, _], _ => rfl)⟩
  have s9 : S9 P w K mg base := ⟨s4, kRD, maw, rf7, et, He.int_ok X G (c.fact 61 (f := .int "MOST_ROWS" 1000) rfl)⟩
  obtain ⟨fdct, Fct⟩ := c.def_ 56 (d := ⟨("check_text", none), "check_text", "check_text", defArgs (top 50), defBody (top 50), defScope (top 50), [], []⟩) rfl
  have Act : FnAt P w K mg base CX0 1 "check_text" ["text"] _ := ⟨_, fdct, He.glo_ok X G (c.fact 30 (f := .glo "check_text") rfl), Fct.kp, ok_check_text Fct s4, FunD.bindsN (ps := ["text"]) Fct (fun _ _ _ _ _ _ us hl => match us, hl with | [_], _ => rfl)⟩
  have s10 : S10 P w K mg base := ⟨s9, Act⟩
  obtain ⟨fdrw, Frw⟩ := c.def_ 57 (d := ⟨("rows_with", none), "rows_with", "rows_with", defArgs (top 51), defBody (top 51), defScope (top 51), [], []⟩) rfl
  have Arw : FnAt P w K mg base (L2.CX P w) 12 "rows_with" ["layout", "text"] _ := ⟨_, fdrw, He.glo_ok X G (c.fact 31 (f := .glo "rows_with") rfl), Frw.kp, ok_rows_with Frw s10, FunD.bindsN (ps := ["layout", "text"]) Frw (fun _ _ _ _ _ _ us hl => match us, hl with | [_, _], _ => rfl)⟩
  obtain ⟨fdcn, Fcn⟩ := c.def_ 58 (d := ⟨("count_ways", none), "count_ways", "count_ways", defArgs (top 52), defBody (top 52), defScope (top 52), [], []⟩) rfl
  have Acn : FnAt P w K mg base CX0 8 "count_ways" ["layout", "text"] _ := ⟨_, fdcn, He.glo_ok X G (c.fact 32 (f := .glo "count_ways") rfl), Fcn.kp, ok_count_ways Fcn s10, FunD.bindsN (ps := ["layout", "text"]) Fcn (fun _ _ _ _ _ _ us hl => match us, hl with | [_, _], _ => rfl)⟩
  have t0 : T0 P w K mg base := ⟨s4, Ar2⟩
  obtain ⟨fdlp, Flp⟩ := c.def_ 61 (d := ⟨("_law_pick", none), "_law_pick", "_law_pick", defArgs (top 57), defBody (top 57), defScope (top 57), [], []⟩) rfl
  have Alp : FnAt P w K mg base CX0 2 "_law_pick" ["_law_source_here", "_law_items"] _ := ⟨_, fdlp, He.glo_ok X G (c.fact 35 (f := .glo "_law_pick") rfl), Flp.kp, ok_law_pick Flp t0, FunD.bindsN (ps := ["_law_source_here", "_law_items"]) Flp (fun _ _ _ _ _ _ us hl => match us, hl with | [_, _], _ => rfl)⟩
  obtain ⟨fdlr, Flr⟩ := c.def_ 62 (d := ⟨("_law_rows", none), "_law_rows", "_law_rows", defArgs (top 58), defBody (top 58), defScope (top 58), [], []⟩) rfl
  have Alr : FnAt P w K mg base CX0 1 "_law_rows" ["_law_sizes"] _ := ⟨_, fdlr, He.glo_ok X G (c.fact 36 (f := .glo "_law_rows") rfl), Flr.kp, ok_law_rows Flr t0, FunD.bindsN (ps := ["_law_sizes"]) Flr (fun _ _ _ _ _ _ us hl => match us, hl with | [_], _ => rfl)⟩
  have t1 : T1 P w K mg base := ⟨t0, Arw, et, of_decide_eq_true w4, He.glo_ok X G (c.fact 0 (f := .glo "JointError") rfl)⟩
  obtain ⟨fdlt, Flt⟩ := c.def_ 63 (d := ⟨("_law_told", none), "_law_told", "_law_told", defArgs (top 59), defBody (top 59), defScope (top 59), [], []⟩) rfl
  have Alt : FnAt P w K mg base CX0 13 "_law_told" ["_law_layout", "_law_text"] _ := ⟨_, fdlt, He.glo_ok X G (c.fact 37 (f := .glo "_law_told") rfl), Flt.kp, ok_law_told Flt t1, FunD.bindsN (ps := ["_law_layout", "_law_text"]) Flt (fun _ _ _ _ _ _ us hl => match us, hl with | [_, _], _ => rfl)⟩
  exact ⟨t0, Ar1, Alp, Alr, Alt, Acn, kWord, kLay⟩

end L2.K22
open PySem PySem.W PySem.Calls PyProof.Rows
set_option maxRecDepth 100000 in
set_option maxHeartbeats 0 in
theorem PySem.Challenge.cw_jointkeys_k22_a_thousand_rows_and_one_mo_holds : PySem.Challenge.rw_jointkeys_k22_a_thousand_rows_and_one_mo.Holds := by
  w_on; o_law
  refine HandSHeadRun.head_imp (r := OpenLaw.row PySem.Challenge.rw_jointkeys_k22_a_thousand_rows_and_one_mo) (q := view (OpenLaw.row PySem.Challenge.rw_jointkeys_k22_a_thousand_rows_and_one_mo).prog [0, 60]) (H := L2.K22.hk) (ob := L2.K22.ob) (M := 16000) (loose := L2.K22.names) (d := HandSHeadRun.topDef (OpenLaw.row PySem.Challenge.rw_jointkeys_k22_a_thousand_rows_and_one_mo).prog 60) (kwd := []) L2.K22.ob_eq
    L2.K22.run (by kernel_rfl) (by kernel_rfl) (by kernel_rfl) (by rfl) (by first | assumption | decide +kernel) (by decide +kernel) ⟨rfl, rfl, rfl, rfl, rfl, by decide +kernel⟩ ?hw ?hc
  case hw => w_witness2
  case hc =>
    refine L2.walk_ofE (l := PySem.Challenge.rw_jointkeys_k22_a_thousand_rows_and_one_mo) (n := 63) (k := 14) (x := "_law_script") (CX := L2.CX0) rfl (by decide) (by kernel_rfl) ⟨rfl, by decide, by decide⟩ ?F (fun _ _ _ _ z => z)
    intro w mg fa h Y G hmg0
    obtain ⟨K, KX, c⟩ := Y
    have hmg : mg ("law" : PySem.Str) = some (.ref fa) := by
      have e : (HandSHeadRun.topDef (OpenLaw.row PySem.Challenge.rw_jointkeys_k22_a_thousand_rows_and_one_mo).prog 60).name = ("law" : PySem.Str) := by kernel_rfl
      rw [← e]
      exact hmg0
    obtain ⟨fd, F⟩ := c.1.d.def_ 64 (d := ⟨("law", none), "law", "law", L2.defArgs L2.K22.s_law, L2.defBody L2.K22.s_law, L2.defScope L2.K22.s_law, [], []⟩) rfl
    have e := hmg.symm.trans (He.glo_ok KX G (c.1.d.fact 38 (f := .glo "law") rfl))
    cases e
    have b := L2.FunD.bindsA (ps := ["_law_script"]) F fun _ _ _ _ _ _ us hl => match us, hl with | [_], _ => rfl
    exact ⟨K, fd, L2.K22.spLaw K, KX, fun s v => b s [v] rfl, fun H a ns hl _ hS => ⟨a, ns, rfl, hS, hl, fun _ => rfl⟩, fun base XB _ => L2.K22.ok_law F (L2.K22.facts KX G c.1.d c.2)⟩
#print axioms PySem.Challenge.cw_jointkeys_k22_a_thousand_rows_and_one_mo_holds
