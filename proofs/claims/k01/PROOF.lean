import PyProof.Rows.All
import Wide.All
import OpenK.AllK
import Wide.FinOn
import HandS.ForMost
import HandS.ForExc
import HandS.Property
import HandS.IsInst
import KE.KExcInit
import HandS.TryMany
import HandS.Wide
import HandS.WideBits
import HandS.Gcd
import HandS.FStr
import HandS.Defaults
import PyProof.StrBlock2
import PyProof.Rows.StrOr
import HandS.Lambda
import HandS.EndTab
import HandS.ExcBuiltin
import HandS.Style
import HandS.Comp
import KE.KExcLine
import PySem.Challenge.RW_worthstead_k01_whole_rules_of_a_field
set_option Elab.async false
set_option linter.all false
set_option maxRecDepth 100000
set_option maxHeartbeats 4000000
namespace L3
open PySem PySem.Spec PyProof.Rows L2

/-- a special method of the class's own, at f -/
structure Own (K : PySem.W.Frag) (C : Addr) (m : Str) (f : Addr) : Prop where
  at_ : PySem.W.findIn K (.ref C) m = some (some (.ref f))
  fn : PySem.W.isFn K (.ref f) = true

section
variable {X : Cx} {CX : CXT} {k : Nat} {C f : Addr} {fd : FuncData} {ps : List Str} {sp : Sp} {E : XK} {pins : List (Addr × Obj)} {σ : L2.St} {H : Hp} {s : Shared}

theorem run_in {A : Around} {Q : VK} {us : List Value} {vs : List V} (F : FnOk X.prog X.w X.K X.mg X.base CX k f fd ps sp) (hr : Room k A) (e0 : Env0 X.prog X.w X.K X.mg X.base A X.stack s H) (hb : Binds X.K fd ps []) (hx : Passes CX X E)
    (I : Inv X pins σ H s) (r : Vals vs us) (h : sp vs H Q E) : wpAny (model X.prog X.w) A (call (.ref f) us) (EP X pins σ Q) X.xe s := by
  have hl : (us ++ []).length = ps.length := by rw [List.append_nil, ← r.length]; exact F.len _ _ _ _ h
  have hb2 := hb s us I.kIn hl
  rw [List.append_nil] at hb2
  refine wpAny_call (codeAny_mono (F.run A X.stack s H ⟨us, []⟩ us vs Q E hr e0 hb2 r h) fun r s' hq => ?_)
  cases r with
  | error e => exact hx pins σ H s e s' I hq
  | ok fl =>
    cases fl with
    | ret u => exact I.after hq
    | next => exact False.elim hq
    | brk => exact False.elim hq
    | cont => exact False.elim hq

/-- the promise of a special method at an instance of C -/
def rOwn1 (C : Addr) (sp : Sp) (E : XK) : V → Hp → VK → Prop := fun x H Q => ∃ a dx fs, x = .ref a ∧ H a = some (.ins C dx fs) ∧ sp [.ref a] H Q E

theorem un_ownNeg (o : Own X.K C "__neg__" f) (F : FnOk X.prog X.w X.K X.mg X.base CX k f fd ps sp) (hr : Room k X.A) (hb : Binds X.K fd ps []) (hx : Passes CX X E) : UnR X (unaryOp .USub) (rOwn1 C sp E) := by
  intro pins s σ H x v Q I rx h
  obtain ⟨a, dx, fs, rfl, ea, h⟩ := h
  cases (show v = Value.ref a from rx)
  obtain ⟨mA, O, _⟩ := ins_get I.hok ea
  obtain ⟨od, J, _⟩ := O.look
  obtain ⟨m, hF⟩ := I.fr
  exact PySem.W.ksp_neg hF I.ok.mod.kin J o.at_ o.fn (run_in (us := [.ref a]) (vs := [.ref a]) F hr I.env0 hb hx I (.cons rfl .nil) h)

theorem abs_K {prog : Program} {w : World} {A : Around} {E : Value → Shared → Prop} {s : Shared} {K : PySem.W.Frag} {x C f : Addr} {ox : Obj} {od : Option Obj} {Q : Value → Shared → Prop} (X : K.In s.heap) (I : PySem.W.InstAt s.heap x ox C od)
    (hs : PySem.W.findIn K (.ref C) "__abs__" = some (some (.ref f))) (hf : PySem.W.isFn K (.ref f) = true)
    (h : wpAny (model prog w) A.in1 (call (.ref f) [.ref x]) Q E s) : wpAny (model prog w) A (call (.builtin "abs") [.ref x]) Q E s := by
  refine Calls.call_function_entry kind_abs plain_abs entry_abs (args_abs _) ?_
  unfold Builtin.«abs»
  refine wpAny_bind (m := oneArg "abs" _) (wpAny_pure ?_)
  refine wpAny_bind (m := callSpecial? (.ref x) (Str.ofString "__abs__")) (PySem.W.special_fn X I hs (beq_iff_eq.mp hf) (wpAny_mono h (fun r s' hr => ?_) fun _ _ y => y))
  exact wpAny_pure ⟨_, rfl, hr⟩

theorem call_ownAbs (o : Own X.K C "__abs__" f) (F : FnOk X.prog X.w X.K X.mg X.base CX k f fd ps sp) (hr : Room (k + 1) X.A) (hb : Binds X.K fd ps []) (hx : Passes CX X E) : CallR X (.builtin "abs") (fun xs H Q => ∃ x, xs = [x] ∧ rOwn1 C sp E x H Q) := by
  intro pins s σ H xs us Q I r h
  obtain ⟨_, rfl, a, dx, fs, rfl, ea, h⟩ := h
  obtain ⟨u, rfl, rx⟩ := vals1 r
  cases (show u = Value.ref a from rx)
  obtain ⟨mA, O, _⟩ := ins_get I.hok ea
  obtain ⟨od, J, _⟩ := O.look
  exact abs_K I.kIn J o.at_ o.fn (run_in (us := [.ref a]) (vs := [.ref a]) F hr.in1 I.env0.in1 hb hx I (.cons rfl .nil) h)

/-- str(x) -/
theorem call_ownStr (o : Own X.K C "__str__" f) (F : FnOk X.prog X.w X.K X.mg X.base CX k f fd ps sp) (hr : Room (k + 2) X.A) (hb : Binds X.K fd ps []) (hx : Passes CX X E) :
    CallR X (.type "str") (fun xs H Q => ∃ x, xs = [x] ∧ rOwn1 C sp E x H (fun v H' => ∃ z, v = .str z ∧ Q (.str z) H')) := by
  intro pins s σ H xs us Q I r h
  obtain ⟨_, rfl, a, dx, fs, rfl, ea, h⟩ := h
  obtain ⟨u, rfl, rx⟩ := vals1 r
  cases (show u = Value.ref a from rx)
  obtain ⟨mA, O, _⟩ := ins_get I.hok ea
  obtain ⟨od, J, _⟩ := O.look
  refine PySem.W.kso_call hr.in1.in1.units0 I.kIn J o.at_ o.fn (wpAny_mono (run_in (us := [.ref a]) (vs := [.ref a]) F hr.in1.in1 I.env0.in1.in1 hb hx I (.cons rfl .nil) h) (fun u s' q => ?_) fun _ _ y => y)
  obtain ⟨v, H', I', rv, z, rfl, q⟩ := q
  obtain ⟨t, rfl⟩ := (show ∃ t, u = Value.str z t from rv)
  exact ⟨.str z, H', I', ⟨_, rfl⟩, q⟩

/-- truth of an instance by its own __bool__ -/
def rTruOwn (C : Addr) (sp : Sp) (E : XK) : V → Hp → (Bool → Hp → Prop) → Prop := fun x H Q => rOwn1 C sp E x H (fun v H' => ∃ b, v = .bl b ∧ Q b H')
theorem tru_own (o : Own X.K C "__bool__" f) (F : FnOk X.prog X.w X.K X.mg X.base CX k f fd ps sp) (hr : Room k X.A) (hb : Binds X.K fd ps []) (hx : Passes CX X E) : TruR X (rTruOwn C sp E) := by
  intro pins s σ H x v Q I rx h
  obtain ⟨a, dx, fs, rfl, ea, h⟩ := h
  cases (show v = Value.ref a from rx)
  obtain ⟨mA, O, _⟩ := ins_get I.hok ea
  obtain ⟨od, J, _⟩ := O.look
  obtain ⟨m, hF⟩ := I.fr
  refine PySem.W.truthy_K hF I.ok.mod.kin J o.at_ o.fn (wpAny_mono (run_in (us := [.ref a]) (vs := [.ref a]) F hr I.env0 hb hx I (.cons rfl .nil) h) (fun u s' q => ?_) fun _ _ y => y)
  obtain ⟨v, H', I', rv, z, rfl, q⟩ := q
  cases (show u = Value.bool z from rv)
  exact ⟨H', I', q⟩
/-- any expression whose test is its value's truth, by a TruR -/
theorem pt_tru {a : Expr} {ta : TE} {r : V → Hp → (Bool → Hp → Prop) → Prop} (ht : TruR X r) (ha : PE X a ta) (he : ∀ whole, isTrue a X.env whole = (do let v ← whole; standAt a.pos; holding [v] (truthy v))) :
    PT X a (fun σ H Q => ta σ H fun x H' => r x H' Q) := by
  refine ⟨fun pins s σ H Q I h => ?_⟩
  exact isTrue_plain (thn (ha.run pins s σ H _ I h) fun v s1 ⟨x, H1, I1, r1, q1⟩ => ht pins s1 σ H1 x v Q I1 r1 q1) (he _)

theorem looks_at {M : Model} {h : Heap} {a : Addr} {o : Obj} {c : Value} (ha : h.get? a = some o) (hc : o.cls = c) : PySem.W.Looks M h (typeOf (.ref a)) c := fun A Q E s k q => wpAny_typeOf_ref (k _ _ ha) (by rw [hc]; exact q)
theorem tyLooks {y : V} {u t : Value} (I : Inv X pins σ H s) (ry : RelV y u) (ty : TyOf X.K H y t) : PySem.W.Looks (model X.prog X.w) s.heap (typeOf u) t := by
  cases ty with
  | non => cases (show u = Value.none from ry); exact PySem.W.Looks.of_pure rfl
  | bl y => cases (show u = Value.bool y from ry); exact PySem.W.Looks.of_pure rfl
  | int i => obtain ⟨t, q⟩ := (show ∃ t, u = Value.int i t from ry); cases q; exact PySem.W.Looks.of_pure rfl
  | str y => obtain ⟨t, q⟩ := (show ∃ t, u = Value.str y t from ry); cases q; exact PySem.W.Looks.of_pure rfl
  | flt y => obtain ⟨t, q⟩ := (show ∃ t, u = Value.float y t from ry); cases q; exact PySem.W.Looks.of_pure rfl
  | @lst a xs ea =>
    cases (show u = Value.ref a from ry)
    obtain ⟨_, _, n, _, h1⟩ := (show ObjOk X.prog X.w H s.heap a (.lst xs) from I.hok a _ ea)
    exact looks_at h1 rfl
  | @frz a ob xs ea =>
    cases (show u = Value.ref a from ry)
    obtain ⟨_, _, _, n, _, h1⟩ := (show ObjOk X.prog X.w H s.heap a (.frz ob (.lst xs)) from I.hok a _ ea)
    exact looks_at h1 rfl
  | @tup a xs ea =>
    cases (show u = Value.ref a from ry)
    obtain ⟨_, _, _, p⟩ := (show ObjOk X.prog X.w H s.heap a (.tup xs) from I.hok a _ ea)
    obtain ⟨o, h1, h2, _⟩ := p
    exact looks_at h1 h2
  | @dK a kvs ea =>
    cases (show u = Value.ref a from ry)
    obtain ⟨_, _, vs, _, p⟩ := (show ObjOk X.prog X.w H s.heap a (.dK kvs) from I.hok a _ ea)
    obtain ⟨o, es, ep, h1, h2, _⟩ := p
    exact looks_at h1 h2.1
  | @dT a kvs ea =>
    cases (show u = Value.ref a from ry)
    obtain ⟨_, _, xs, _, o, es, ep, h1, h2, _⟩ := (show ObjOk X.prog X.w H s.heap a (.dT kvs) from I.hok a _ ea)
    exact looks_at h1 h2.1
  | @ins a C dx fs ea cl ha hn htk hm =>
    cases (show u = Value.ref a from ry)
    obtain ⟨mA, O, _⟩ := ins_get I.hok ea
    obtain ⟨od, J, _⟩ := O.look
    exact J.type

/-- a comparison, a call, .. by the class's own method of two, at an instance x of C and any y of a known type that is no class below C -/
def rOwn2 (K : PySem.W.Frag) (C : Addr) (sp : Sp) (E : XK) : R2 := fun x y H Q => ∃ a dx fs t, x = .ref a ∧ H a = some (.ins C dx fs) ∧ TyOf K H y t ∧ PySem.W.notFirst K C t = true ∧ sp [.ref a, y] H (fun v H' => ∃ b, v = .bl b ∧ Q (.bl b) H') E
theorem op_ownCmp {op : CmpOp} (o : Own X.K C (cmpInfo op).2.1 f) (F : FnOk X.prog X.w X.K X.mg X.base CX k f fd ps sp) (hr : Room k X.A) (hb : Binds X.K fd ps []) (hx : Passes CX X E)
    (hop : ∀ v u, compareOp op v u = richCompare op v u) : OpR X (compareOp op) (rOwn2 X.K C sp E) := by
  intro pins s σ H x y v u Q I rx ry h
  obtain ⟨a, dx, fs, t, rfl, ea, ty, nf, h⟩ := h
  cases (show v = Value.ref a from rx)
  obtain ⟨mA, O, _⟩ := ins_get I.hok ea
  obtain ⟨od, J, _⟩ := O.look
  obtain ⟨m, hF⟩ := I.fr
  rw [hop]
  refine PySem.W.cmp_K hr.units0 hF I.ok.mod.kin J (tyLooks I ry ty) nf o.at_ o.fn (wpAny_mono (run_in (us := [.ref a, u]) (vs := [.ref a, y]) F hr I.env0 hb hx I (.cons rfl (.cons ry .nil)) h) (fun u s' q => ?_) fun _ _ y => y)
  obtain ⟨v, H', I', rv, z, rfl, q⟩ := q
  cases (show u = Value.bool z from rv)
  exact ⟨.bl z, H', I', rfl, q⟩
theorem op_ownEq (o : Own X.K C "__eq__" f) (F : FnOk X.prog X.w X.K X.mg X.base CX k f fd ps sp) (hr : Room k X.A) (hb : Binds X.K fd ps []) (hx : Passes CX X E) : OpR X (compareOp .Eq) (rOwn2 X.K C sp E) :=
  op_ownCmp (op := .Eq) o F hr hb hx fun _ _ => rfl

theorem ifBoundB_K {M : Model} {A : Around} {E : Value → Shared → Prop} {s : Shared} {K : PySem.W.Frag} {x C : Addr} {ox : Obj} {od : Option Obj} {name : Str} {id : String} {args : List Value} {Q : Option Value → Shared → Prop} (X : K.In s.heap) (I : PySem.W.InstAt s.heap x ox C od) (hs : PySem.W.findIn K (.ref C) name = some (some (.builtin id)))
    (hb : ∀ self, bindSpecial (.builtin id) self = pure (.builtin id, [self])) (h : wpAny M A (call (.builtin id) (.ref x :: args)) (fun v => Q (some v)) E s) : wpAny M A (callSpecialIfBound? (.ref x) name args) Q E s := by
  simp only [callSpecialIfBound?, bindSpecialIfBound?]
  refine wpAny_holding (wpAny_bind (wpAny_bind (wpAny_bind (I.type.here ((PySem.W.looks_findIn X hs).here ?_)))))
  refine wpAny_bind (wpAny_askSetting (wpAny_ite ?_))
  have fin : wpAny M A (call (.builtin id) ([.ref x] ++ args) >>= fun v => pure (some v)) Q E s := wpAny_bind (wpAny_mono h (fun v s' h' => wpAny_pure h') fun _ _ h' => h')
  split
  · exact wpAny_bind ((PySem.W.Looks.of_pure (hb _)).here (wpAny_pure (by exact fin)))
  · exact wpAny_tryCatch (wpAny_bind ((PySem.W.Looks.of_pure (hb _)).here (wpAny_pure (by exact fin))))
theorem one_ne {prog : Program} {w : World} {A : Around} {E : Value → Shared → Prop} {s : Shared} {K : PySem.W.Frag} {x C f : Addr} {ox : Obj} {od : Option Obj} {b : Value} {Q : Value → Shared → Prop} (hu : A.units + 1 < cLine) (X : K.In s.heap) (I : PySem.W.InstAt s.heap x ox C od)
    (hs : PySem.W.findIn K (.ref C) "__eq__" = some (some (.ref f))) (hf : PySem.W.isFn K (.ref f) = true) (hne : PySem.W.findIn K (.ref C) "__ne__" = some (some (.builtin "object.__ne__"))) (hm : PySem.W.mroIn K C (.type "object") = some true)
    (h : wpAny (model prog w) A.in1 (call (.ref f) [.ref x, b]) (fun v s' => ∃ k, v = .bool k ∧ Q (.bool (!k)) s') E s) : wpAny (model prog w) A (tryCompare (.ref x) (cmpInfo .NotEq).2.1 b) (fun r s' => ∃ v, r = some v ∧ Q v s') E s := by
  unfold tryCompare
  refine wpAny_bind (ifBoundB_K X I hne PySem.F.slot_object_ne.bind (wpAny_call (codeAny_call_builtin PySem.F.slot_object_ne.plain PySem.F.entry_object_ne
    (PySem.W.check_slot (i := "object.__ne__") (owner := "object") (n := "__ne__") (by decide +kernel) (by decide +kernel) (I.type.andThen (PySem.W.looks_mroIn X hm)) (PySem.F.args_object_ne_2 _ _) ?_))))
  unfold Builtin.«object.__ne__»
  refine wpAny_bind (m := slotArgs "__ne__" 1 _) (wpAny_pure ?_)
  refine wpAny_bind (m := cRoomFor _ _) (wpAny_cRoomFor hu ?_)
  refine wpAny_bind (m := callSpecialIfBound? (.ref x) (Str.ofString "__eq__") _) (PySem.W.ifBound_K X I hs hf (wpAny_mono h (fun r s' hq => ?_) fun _ _ y => y))
  obtain ⟨k, rfl, q⟩ := hq
  dsimp only
  refine wpAny_bind (wpAny_truthy_bool ?_)
  exact wpAny_pure (wpAny_pure ⟨_, rfl, q⟩)

/-- != of an instance whose class has an own == and no own != -/
theorem ne_K {prog : Program} {w : World} {A : Around} {E : Value → Shared → Prop} {s : Shared} {K : PySem.W.Frag} {x C L f : Addr} {h₀ : Heap} {m : Str → Option Value} {ox : Obj} {od : Option Obj} {b tb : Value} {Q : Value → Shared → Prop} (hu : A.units + 1 < cLine) (F : Fr h₀ L s.heap m) (X₀ : K.In h₀) (I : PySem.W.InstAt s.heap x ox C od) (hb : PySem.W.Looks (model prog w) s.heap (typeOf b) tb) (hn : PySem.W.notFirst K C tb = true)
    (hs : PySem.W.findIn K (.ref C) "__eq__" = some (some (.ref f))) (hf : PySem.W.isFn K (.ref f) = true) (hne : PySem.W.findIn K (.ref C) "__ne__" = some (some (.builtin "object.__ne__"))) (hm : PySem.W.mroIn K C (.type "object") = some true)
    (h : wpAny (model prog w) A.in1 (call (.ref f) [.ref x, b]) (fun v s' => ∃ k, v = .bool k ∧ Q (.bool (!k)) s') E s) : wpAny (model prog w) A (richCompare .NotEq (.ref x) b) Q E s := by
  have X := X₀.keeps F.keep
  have one : wpAny (model prog w) A (tryCompare (.ref x) (cmpInfo .NotEq).2.1 b) (fun r s' => ∃ v, r = some v ∧ Q v s') E s := one_ne hu X I hs hf hne hm h
  unfold richCompare
  simp only [oneThing_ref]
  refine wpAny_holding (wpAny_bind (wpAny_cRoomFor (by omega) ?_))
  refine wpAny_bind (I.type.here (wpAny_bind (hb.here ?_)))
  split
  · rename_i q
    have e : PySem.W.subIn K tb (.ref C) = some false := by
      rcases Bool.or_eq_true_iff.mp hn with e | e
      · rw [beq_iff_eq.mp e] at q; simp at q
      · exact beq_iff_eq.mp e
    refine wpAny_bind ((PySem.W.looks_subIn X e).here ?_)
    simp only [Bool.false_eq_true, if_false]
    refine wpAny_bind (wpAny_mono one (fun r s' z => ?_) fun _ _ e => e)
    obtain ⟨v, rfl, hq⟩ := z
    exact wpAny_pure hq
  · refine wpAny_bind (wpAny_pure ?_)
    simp only [Bool.false_eq_true, if_false]
    refine wpAny_bind (wpAny_mono one (fun r s' z => ?_) fun _ _ e => e)
    obtain ⟨v, rfl, hq⟩ := z
    exact wpAny_pure hq
structure OwnNe (K : PySem.W.Frag) (C : Addr) : Prop where
  ne : PySem.W.findIn K (.ref C) "__ne__" = some (some (.builtin "object.__ne__"))
  mr : PySem.W.mroIn K C (.type "object") = some true
theorem op_ownNe (o : Own X.K C "__eq__" f) (on : OwnNe X.K C) (F : FnOk X.prog X.w X.K X.mg X.base CX k f fd ps sp) (hr : Room (k + 1) X.A) (hb : Binds X.K fd ps []) (hx : Passes CX X E) :
    OpR X (compareOp .NotEq) (fun x y H Q => rOwn2 X.K C sp E x y H (fun v H' => ∃ b, v = .bl b ∧ Q (.bl (!b)) H')) := by
  intro pins s σ H x y v u Q I rx ry h
  obtain ⟨a, dx, fs, t, rfl, ea, ty, nf, h⟩ := h
  cases (show v = Value.ref a from rx)
  obtain ⟨mA, O, _⟩ := ins_get I.hok ea
  obtain ⟨od, J, _⟩ := O.look
  obtain ⟨m, hF⟩ := I.fr
  show wpAny (model X.prog X.w) X.A (richCompare .NotEq (Value.ref a) u) _ _ _
  refine ne_K (by have := hr.un; omega) hF I.ok.mod.kin J (tyLooks I ry ty) nf o.at_ o.fn on.ne on.mr (wpAny_mono (run_in (us := [.ref a, u]) (vs := [.ref a, y]) F hr.in1 I.env0.in1 hb hx I (.cons rfl (.cons ry .nil)) h) (fun u s' q => ?_) fun _ _ y => y)
  obtain ⟨v, H', I', rv, z, rfl, b, hb, q⟩ := q
  cases hb
  cases (show u = Value.bool z from rv)
  exact ⟨z, rfl, .bl (!z), H', I', rfl, q⟩
end
end L3

/-! own exceptions, over any built-in error, whose __init__ keeps the one thing that it takes -/
namespace X1
open PySem PySem.W PySem.Calls PyProof.Rows Builtin Builtin.ObjectAttr
theorem osa_first {prog : Program} {w : World} {A : Around} {R : Result → Shared → Prop} {hp : Heap} {g : Array GenState} {d : Drawn} {t : Nat} {os : OsState} {K : Frag} {B : String} {bmB : List Value} {name : Str} {tk : Tok} {v : Value} {x C : Addr} {fv : Array Value}
    (SF : StoreFacts B bmB "object.__setattr__" "object") (X : K.In hp) (hx : hp.get? x = some { cls := .ref C, data := .fields fv }) (ho : excOver K C bmB = true) (hh : hasDictIn K C = true) (ha : findIn K (.ref C) name = some none)
    (hq : ∀ h' tk' dx, (∀ b o, b ≠ x → hp.get? b = some o → h'.get? b = some o) → hp.objs.size ≤ dx → dx ≠ x → h'.get? x = some { cls := .ref C, dict := some dx, data := .fields fv } →
      h'.Ns1 dx (fun y => if y = name then some v else none) → R (.ok (.ret .none)) ⟨h', g, d, tk', os⟩) :
    codeAny (model prog w) A (.call (.builtin "object.__setattr__") ⟨[.ref x, .str name tk, v], []⟩) R ⟨hp, g, d, t, os⟩ := by
  have hxs : x ≠ hp.objs.size := Nat.ne_of_lt (Heap.lt_size hx)
  obtain ⟨cd, hc, hd'⟩ := any_some hh
  have hcls : Looks (model prog w) hp (classData C) cd := looks_clsIn X hc
  refine osa_openX (s := ⟨hp, g, d, t, os⟩) (od := none) (r := none) SF X ⟨hx, rfl, rfl, trivial⟩ ho (by unfold takerIn; rw [ha]; rfl) fun b => ?_
  dsimp only
  obtain ⟨nm, bs, mro, ns, qn, hd, sn, sb, ab, col, del⟩ := cd
  dsimp only at hd'
  subst hd'
  unfold storeInOwnDict ownDictForStores
  repeat (first | with_reducible refine HandSPX.store_in_new ?_ ?_ | with_reducible refine wpAny_loadPart_at hx ?_ | with_reducible refine hcls.at ?_ | wp_step)
  · exact ⟨_, #[], _, (Heap.get?_update_ne _ _ _ _ hxs.symm).trans (Heap.get?_push_at rfl rfl), rfl, fun e he => absurd he (by simp), fun _ => rfl⟩
  · intro h' tk' hn' hs
    have hx₁ : (hp.push { cls := .type "dict", data := .dict #[] }).get? x = some { cls := .ref C, data := .fields fv } := Heap.get?_push_of_some _ hx
    refine hq h' tk' hp.objs.size (fun b o hb ho => ?_) (Nat.le_refl _) hxs.symm ?_ hn'
    · exact (hs.2 b (Nat.ne_of_lt (Heap.lt_size ho))).trans ((Heap.get?_update_ne _ _ _ _ hb).trans (Heap.get?_push_of_some _ ho))
    · exact (hs.2 x hxs).trans (Heap.get?_update_self _ hx₁ rfl)
theorem ldC {M : Model} {s : Shared} {name : Str} {scope : Scope} {L a : Addr} {cd : Value} {m : Str → Option Value} {x : Str} {pos : Pos} {v : Value} {Q : Value → Shared → Prop} {A : Around} {E : Value → Shared → Prop} (hn : s.heap.Ns L m) (hv : m x = some v) (h : Q v s)
    (hk : scope.kind = .function := by rfl) (hl : (envOfC name scope L a cd).kindOf x = some .local := by rfl) (hd : (x == ("__debug__" : Str)) = false := by decide) : wpAny M A (eval (.Name x pos) (envOfC name scope L a cd)) Q E s := wpAny_Name (wpAny_loadName_local hk hl hn hv h) hd
/-- what __init__ leaves of a new exception at x -/
structure InitEnd (f : Str) (h h' : Heap) (x C dx t1 : Addr) (v : Value) : Prop where
  keep : ∀ b o, b ≠ x → h.get? b = some o → h'.get? b = some o
  obj : h'.get? x = some { cls := .ref C, dict := some dx, data := .fields #[.ref t1, .none, .none, .none, .bool false, .none] }
  dbig : h.objs.size ≤ dx
  dne : dx ≠ x
  ns : h'.Ns1 dx (fun y => if y = f then some v else none)
/-- a made exception -/
structure Made (f : Str) (h h' : Heap) (e C d : Addr) (v : Value) : Prop where
  keep : ∀ b o, h.get? b = some o → h'.get? b = some o
  new : h.objs.size ≤ e
  obj : ∃ oe vs, h'.get? e = some oe ∧ oe.cls = .ref C ∧ oe.dict = some d ∧ oe.data = .fields vs ∧ vs[1]? = some .none
  dbig : h.objs.size ≤ d
  dne : d ≠ e
  ns : h'.Ns1 d (fun y => if y = f then some v else none)
end X1
namespace L3
open PySem PySem.Spec PyProof.Rows L2
theorem relO_one {g : Str} {v : V} {v' : Value} (r : RelV v v') (f : Str) : RelO (List.lookup f [((g : Str), v)]) (if f = g then some v' else none) := by
  by_cases hw : f = g
  · subst hw
    rw [if_pos rfl]
    have q : List.lookup f [((f : Str), v)] = some v := by simp [List.lookup]
    rw [q]
    exact r
  · rw [if_neg hw]
    have qw : (f == g) = false := by simpa using hw
    have q2 : List.lookup f [((g : Str), v)] = none := by simp [List.lookup, qw]
    rw [q2]
    trivial
/-- C(e): the error's own dict d is new and holds f -/
def tMkX (f : Str) (C : Addr) (ta : TA) : L2.St → Hp → XK → Prop := fun σ H Q => ta σ H fun vs H1 => ∃ v, vs = [v] ∧ ∀ d, H1 d = none → Q (.ref C) (some d) (upd H1 d (.xd [(f, v)]))
def tRaiseX (f : Str) (C : Addr) (W : WX) (ta : TA) : TS := fun _ σ H => tMkX f C ta σ H fun cls d H' => W cls d σ H'
def tFldX (f : Str) (C : Addr) (a : Addr) (cls : Value) (d : Option Addr) (te : TE) : TE := fun σ H Q => te σ H fun x H1 => x = .ref a ∧ cls = .ref C ∧ ∃ (dd : Addr) (v : V), d = some dd ∧ H1 dd = some (.xd [(f, v)]) ∧ Q v H1
section
variable {X : Cx} {C fI : Addr}
theorem mk_back {f : Str} {pins : List (Addr × Obj)} {σ : L2.St} {H1 : Hp} {Q : XK} {hp h' : Heap} {g : Array GenState} {dr : Drawn} {tk tk' : Nat} {os : OsState} {e d : Addr} {v : V} {v' : Value} (I1 : Inv X pins σ H1 ⟨hp, g, dr, tk, os⟩) (M : X1.Made f hp h' e C d v') (rv : RelV v v')
    (exC : PySem.W.subIn X.K (.ref C) (.type "BaseException") = some true) (tyC : PySem.W.typeIn X.K (.ref C) = some (.type "type")) (q : Q (.ref C) (some d) (upd H1 d (.xd [(f, v)]))) : MkP X pins σ Q (.ref e) ⟨h', g, dr, tk', os⟩ := by
  obtain ⟨oe, fv, hoe, hc, hd, hdat, h1⟩ := M.obj
  have hns := M.ns
  obtain ⟨G', g1, g2⟩ := restrict h' fun b => decide (b ≠ e)
  have gk : ∀ b, b ≠ e → G'.get? b = h'.get? b := fun b hb => g1 b (decide_eq_true hb)
  have ge : G'.get? e = none := g2 e (by simp)
  have old : ∀ b o, hp.get? b = some o → G'.get? b = some o := fun b o q => (gk b (Nat.ne_of_lt (Nat.lt_of_lt_of_le (Heap.lt_size q) M.new))).trans (M.keep b o q)
  have ob : ObjOk X.prog X.w (upd H1 d (.xd [(f, v)])) G' d (.xd [(f, v)]) := ⟨_, hns.at (fun o q => (gk d M.dne).trans q), fun y => relO_one rv y⟩
  have J : Inv X pins σ (upd H1 d (.xd [(f, v)])) ⟨G', g, dr, tk', os⟩ := I1.laid (t' := tk') old M.dbig ob
  refine ⟨e, oe, fv, ⟨G', g, dr, tk', os⟩, _, .ref C, some d, rfl, J, fun b o q => ?_, ge, hoe, ⟨hc, hd⟩, hdat, h1, ?_, rfl, I1.bare, raises_own exC tyC, q⟩
  · by_cases hb : b = e
    · have q' : G'.get? b = some o := q
      rw [hb, ge] at q'; cases q'
    · exact (gk b hb).symm.trans q
  · rw [upd_ne (Ne.symm M.dne)]
    exact I1.hok.fresh M.new
theorem fldX {f : Str} {a : Addr} {oe : Obj} {cls : Value} {d : Option Addr} {pn : List (Addr × Obj)} {e : Expr} {te : TE} {pos : Pos} (ga : PySem.W.findIn X.K (.ref C) "__getattribute__" = some (some (.builtin "BaseException.__getattribute__"))) (gg : PySem.W.findIn X.K (.ref C) "__getattr__" = some none)
    (exC : PySem.W.subIn X.K (.ref C) (.type "BaseException") = some true) (hdC : PySem.W.hasDictIn X.K C = true) (noN : PySem.W.findIn X.K (.ref C) f = some none) (hz : Zc cls d oe) (hf : ∃ vs, oe.data = .fields vs) (he : PE (X.suite a ((a, oe) :: pn)) e te)
    (hb : attributeBase e f X.env (eval e X.env) = eval e X.env) : PE (X.suite a ((a, oe) :: pn)) (.Attribute e f pos) (tFldX f C a cls d te) := by
  refine ⟨fun pins s σ H Q I h => ?_⟩
  refine attr_of hb (thn (he.run pins s σ H _ I h) fun u s1 hh => ?_)
  obtain ⟨x, H1, I1, rx, ex, ec, dd, v, ed, ea, q⟩ := hh
  subst ex
  obtain rfl : u = Value.ref a := rx
  subst ec
  subst ed
  obtain ⟨ha, _⟩ := I1.pin (a, oe) (List.mem_append_left _ List.mem_cons_self)
  obtain ⟨vs, hd⟩ := hf
  have hx : ObjOk X.prog X.w H1 s1.heap dd (.xd [(f, v)]) := I1.hok dd _ ea
  obtain ⟨mA, hns, hr⟩ := hx
  obtain ⟨od, ho, hl⟩ := lookIn_ns hns
  have l : List.lookup f [(f, v)] = some v := by simp [List.lookup]
  obtain ⟨u, hu, ru⟩ := RelO.some_of (v := v) (o := mA f) (by rw [← l]; exact hr f)
  have J : PySem.W.InstAt s1.heap a oe C (some od) := ⟨ha, hz.1, by unfold PySem.W.notCls; rw [hd] <;> rfl, by rw [hz.2]; exact ho⟩
  exact HandSPX.exc_get I1.kIn J ga gg exC (PySem.W.findObj_own hdC noN rfl (by rw [hl, hu])) (handed_of ru) ⟨v, H1, I1.tok _, ru, q⟩
end
end L3

namespace PySem
namespace XInvalidNumber
open PySem.W PySem.Calls PyProof.Rows PySem.HandSPX
def iA (p1 p2 : Pos) : Arguments := { posonlyargs := [], args := [{ arg := "self", annotation := none, pos := p1 }, { arg := "given", annotation := none, pos := p2 }], vararg := none, kwonlyargs := [], kw_defaults := [], kwarg := none, defaults := [] }
def iB (q1 q2 q3 q4 : Pos) : List Stmt := [.Assign [.Attribute (.Name "self" q1) "given" q2] (.Name "given" q3) q4]
def iS : Scope := { kind := .function, names := [(PySem.Str.ofString "self", .local), (PySem.Str.ofString "given", .local)], isGenerator := false, isCoroutine := false, more := [] }
structure Txt (K : Frag) (mg : Str → Option Value) (C fI : Addr) : Prop where
  gC : mg "InvalidNumber" = some (.ref C)
  ini : excInitIn K C [.type "IndexError", .type "LookupError", .type "Exception", .type "BaseException", .type "object"] "IndexError.__new__" = true
  ov : excOver K C [.type "IndexError", .type "LookupError", .type "Exception", .type "BaseException", .type "object"] = true
  sa : findIn K (.ref C) "__setattr__" = some (some (.builtin "object.__setattr__"))
  ga : findIn K (.ref C) "__getattribute__" = some (some (.builtin "BaseException.__getattribute__"))
  gg : findIn K (.ref C) "__getattr__" = some none
  noN : findIn K (.ref C) "given" = some none
  iC : findIn K (.ref C) "__init__" = some (some (.ref fI))
  tC : typeIn K (.ref fI) = some (.type "function")
  kC : keepIn K (.ref C) = true
  exC : subIn K (.ref C) (.type "BaseException") = some true
  tyC : typeIn K (.ref C) = some (.type "type")
  hdC : hasDictIn K C = true
  te : exmOne K (.ref C) (.ref C) = some true
  fn : ∃ (oc : Value) (od : Option Addr) (doc pm : Value) (an : Option Addr) (cdv ct : Value) (osl : Array (Option Value)) (p1 p2 q1 q2 q3 q4 : Pos),
    K.lookup fI = some ⟨oc, od, .func (fnOf "__init__" "InvalidNumber.__init__" (iA p1 p2) (iB q1 q2 q3 q4) iS .none .none doc pm an cdv ct), osl⟩ ∧ codeIn K cdv "InvalidNumber.__init__" = true
section
variable {prog : Program} {w : World} {A : Around} {E : Value → Shared → Prop} {R : Result → Shared → Prop} {s : Shared} {K : Frag} {mg : Str → Option Value} {C fI : Addr}
theorem init_run (T : Txt K mg C fI) {x t0 : Addr} {v : Value} (X : K.In s.heap) (hlim : s.heap.NoLimit) (hx : s.heap.get? x = some (excO C t0)) (hroom : A.depth < recursionLimit)
    (hq : ∀ h' tk dx, X1.InitEnd "given" s.heap h' x C dx t0 v → R (.ok (.ret .none)) { s with heap := h', toks := tk }) :
    codeAny (model prog w) A (.call (.ref fI) ⟨[.ref x, v], []⟩) R s := by
  obtain ⟨oc, od, doc, pm, an, cdv, ct, osl, p1, p2, q1, q2, q3, q4, ho, hcd⟩ := T.fn
  refine Att.call_fn (binds := [("self", .ref x), ("given", v)]) X hlim ho hcd hroom (BindsTo.of_eq (by first | rfl | with_unfolding_all rfl)) (by first | rfl | decide | with_unfolding_all rfl) (fun s₁ IC => ?_) rfl rfl rfl
  obtain ⟨h₁, tk₁, rfl⟩ := IC.toInCall.same
  have k : ∀ b o, s.heap.get? b = some o → h₁.get? b = some o := IC.toInCall.keep
  have hn := IC.toInCall.ns
  have X₁ : K.In h₁ := X.keeps k
  have hx₁ := k _ _ hx
  show wpAny _ _ (execs _ _) _ _ _
  refine wpAny_execs_cons (plainObj_wpAny_Assign_Attribute ?_)
  refine X1.ldC (v := v) hn (by first | rfl | with_unfolding_all rfl | kernel_rfl) (X1.ldC (v := .ref x) hn (by first | rfl | with_unfolding_all rfl | kernel_rfl) ?_)
  refine set_plain X₁ (ox := excO C t0) (od := none) ⟨hx₁, rfl, rfl, trivial⟩ T.sa ?_
  refine X1.osa_first PySem.F.store_IndexError X₁ hx₁ T.ov T.hdC T.noN (fun h₃ tk₃ dx k₃ dn dne hx₃ hn₃ => ?_)
  show wpAny _ _ (execs _ _) _ _ _
  have z : s.heap.objs.size < h₁.objs.size := hn.lt
  exact wpAny_execs_nil (hq h₃ tk₃ dx ⟨fun b o hb e => k₃ b o hb (k b o e), hx₃, Nat.le_of_lt (Nat.lt_of_lt_of_le z dn), dne, hn₃⟩)
theorem made (T : Txt K mg C fI) {v : Value} (X : K.In s.heap) (hlim : s.heap.NoLimit) (hroom : A.depth + 1 < recursionLimit)
    (hq : ∀ h' tk e d, X1.Made "given" s.heap h' e C d v → R (.ok (.ret (.ref e))) { s with heap := h', toks := tk }) :
    codeAny (model prog w) A (.call (.ref C) ⟨[v], []⟩) R s := by
  obtain ⟨nm, N, q, bs, bm, hdct, sn, sub, ab, col, dd, k0, k1, k2, k3, k5, hC, hbm⟩ := excInit_of X T.ini
  obtain ⟨hp, g, dr, tk, os⟩ := s
  have k : ∀ b o, hp.get? b = some o → ((hp.push (kdv_tup [v])).push (excO C hp.objs.size)).get? b = some o := fun b o e => Heap.get?_push_of_some _ (Heap.get?_push_of_some _ e)
  have hget : ((hp.push (kdv_tup [v])).push (excO C hp.objs.size)).get? (hp.objs.size + 1) = some (excO C hp.objs.size) := by heap_get
  refine call_own PySem.F.excBase_IndexError hbm hC (looks_findIn X T.iC) (fun self => bind_fn X self T.tC) (by rw [sizeLine_eq]; exact (by decide : 1 ≤ 16777216)) ?_
  refine init_run (s := ⟨(hp.push (kdv_tup [v])).push (excO C hp.objs.size), g, dr, tk, os⟩) T (X.keeps k) (hlim.keeps k) hget ?_ fun h' tk' dx ⟨k', hx, dn, dne, hns⟩ => ?_
  · show A.depth + 1 < recursionLimit
    exact hroom
  · have old : ∀ b o, hp.get? b = some o → h'.get? b = some o := fun b o e => k' b o (Nat.ne_of_lt (Nat.lt_succ_of_lt (Heap.lt_size e))) (k b o e)
    have z : hp.objs.size + 1 + 1 ≤ dx := by
      first
        | (simpa only [Heap.size_push] using dn)
        | exact dn
        | (have q := dn; rw [Heap.size_push, Heap.size_push] at q; exact q)
    exact ⟨rfl, hq h' tk' (hp.objs.size + 1) dx ⟨old, Nat.le_succ _, ⟨_, _, hx, rfl, rfl, rfl, rfl⟩, Nat.le_trans (Nat.le_trans (Nat.le_succ _) (Nat.le_succ _)) z, dne, hns⟩⟩
end
end XInvalidNumber
end PySem
namespace L3
open PySem PySem.Spec PyProof.Rows L2
section
variable {X : Cx} {C fI : Addr}
theorem pmk_InvalidNumber {a : Expr} {ta : TA} {p pos : Pos} {k : Nat} (T : PySem.XInvalidNumber.Txt X.K X.mg C fI) (hr : Room k X.A) (ha : PA X [a] ta) (hg : Gl X "InvalidNumber" := by rfl)
    (he : starEach (a :: []) X.env = (false, eval a X.env) :: starEach [] X.env := by rfl) (hpl : (backTo pos (starEach [] X.env)).any (·.1) = false := by rfl) :
    PMk X (.Call (.Name "InvalidNumber" p) [a] [] pos) (tMkX "given" C ta) := by
  intro pins s σ H Q I h
  refine wpAny_Call_Name_kw (ld_glob I hg T.gC ?_)
  refine PySem.W.callWith_K (h₀ := X.base) I.ok.mod.kin T.kC (thn (ha.run pos pins s σ H _ I h) fun us s1 hh => ?_) he hpl
  obtain ⟨vs, H1, I1, r1, v, ev, q1⟩ := hh
  subst ev
  refine ⟨I1.kIn, ?_⟩
  cases r1 with
  | cons rv rn =>
    rename_i v' us'
    cases rn
    show wpAny _ _ (call (.ref C) [v']) _ _ _
    have hlim := I1.nolimit
    obtain ⟨hp, g, dr, tk, os⟩ := s1
    refine wpAny_call (PySem.XInvalidNumber.made T I1.kIn hlim (by have := hr.dp; omega) fun h' tk' e d M => ?_)
    exact mk_back I1 M rv T.exC T.tyC (q1 d (I1.hok.fresh M.dbig))
theorem ps_raiseInvalidNumber {a : Expr} {ta : TA} {W : WX} {p pos pos2 : Pos} {k : Nat} (hc : X.calm = true) (T : PySem.XInvalidNumber.Txt X.K X.mg C fI) (hr : Room k X.A) (tk : Takes X W) (ha : PA X [a] ta) (hg : Gl X "InvalidNumber" := by rfl)
    (he : starEach (a :: []) X.env = (false, eval a X.env) :: starEach [] X.env := by rfl) (hpl : (backTo pos (starEach [] X.env)).any (·.1) = false := by rfl) :
    PS X (.Raise (some (.Call (.Name "InvalidNumber" p) [a] [] pos)) none pos2) (tRaiseX "given" C W ta) := ps_raise hc tk (pmk_InvalidNumber T hr ha hg he hpl)
theorem pe_fldInvalidNumber {a : Addr} {oe : Obj} {cls : Value} {d : Option Addr} {pn : List (Addr × Obj)} {e : Expr} {te : TE} {pos : Pos} (T : PySem.XInvalidNumber.Txt X.K X.mg C fI) (hz : Zc cls d oe) (hf : ∃ vs, oe.data = .fields vs) (he : PE (X.suite a ((a, oe) :: pn)) e te)
    (hb : attributeBase e "given" X.env (eval e X.env) = eval e X.env := by rfl) :
    PE (X.suite a ((a, oe) :: pn)) (.Attribute e "given" pos) (tFldX "given" C a cls d te) := fldX T.ga T.gg T.exC T.hdC T.noN hz hf he hb
end
end L3

namespace PySem
namespace XTooMany
open PySem.W PySem.Calls PyProof.Rows PySem.HandSPX
def iA (p1 p2 : Pos) : Arguments := { posonlyargs := [], args := [{ arg := "self", annotation := none, pos := p1 }, { arg := "limit", annotation := none, pos := p2 }], vararg := none, kwonlyargs := [], kw_defaults := [], kwarg := none, defaults := [] }
def iB (q1 q2 q3 q4 : Pos) : List Stmt := [.Assign [.Attribute (.Name "self" q1) "limit" q2] (.Name "limit" q3) q4]
def iS : Scope := { kind := .function, names := [(PySem.Str.ofString "self", .local), (PySem.Str.ofString "limit", .local)], isGenerator := false, isCoroutine := false, more := [] }
structure Txt (K : Frag) (mg : Str → Option Value) (C fI : Addr) : Prop where
  gC : mg "TooMany" = some (.ref C)
  ini : excInitIn K C [.type "OverflowError", .type "ArithmeticError", .type "Exception", .type "BaseException", .type "object"] "OverflowError.__new__" = true
  ov : excOver K C [.type "OverflowError", .type "ArithmeticError", .type "Exception", .type "BaseException", .type "object"] = true
  sa : findIn K (.ref C) "__setattr__" = some (some (.builtin "object.__setattr__"))
  ga : findIn K (.ref C) "__getattribute__" = some (some (.builtin "BaseException.__getattribute__"))
  gg : findIn K (.ref C) "__getattr__" = some none
  noN : findIn K (.ref C) "limit" = some none
  iC : findIn K (.ref C) "__init__" = some (some (.ref fI))
  tC : typeIn K (.ref fI) = some (.type "function")
  kC : keepIn K (.ref C) = true
  exC : subIn K (.ref C) (.type "BaseException") = some true
  tyC : typeIn K (.ref C) = some (.type "type")
  hdC : hasDictIn K C = true
  te : exmOne K (.ref C) (.ref C) = some true
  fn : ∃ (oc : Value) (od : Option Addr) (doc pm : Value) (an : Option Addr) (cdv ct : Value) (osl : Array (Option Value)) (p1 p2 q1 q2 q3 q4 : Pos),
    K.lookup fI = some ⟨oc, od, .func (fnOf "__init__" "TooMany.__init__" (iA p1 p2) (iB q1 q2 q3 q4) iS .none .none doc pm an cdv ct), osl⟩ ∧ codeIn K cdv "TooMany.__init__" = true
section
variable {prog : Program} {w : World} {A : Around} {E : Value → Shared → Prop} {R : Result → Shared → Prop} {s : Shared} {K : Frag} {mg : Str → Option Value} {C fI : Addr}
theorem init_run (T : Txt K mg C fI) {x t0 : Addr} {v : Value} (X : K.In s.heap) (hlim : s.heap.NoLimit) (hx : s.heap.get? x = some (excO C t0)) (hroom : A.depth < recursionLimit)
    (hq : ∀ h' tk dx, X1.InitEnd "limit" s.heap h' x C dx t0 v → R (.ok (.ret .none)) { s with heap := h', toks := tk }) :
    codeAny (model prog w) A (.call (.ref fI) ⟨[.ref x, v], []⟩) R s := by
  obtain ⟨oc, od, doc, pm, an, cdv, ct, osl, p1, p2, q1, q2, q3, q4, ho, hcd⟩ := T.fn
  refine Att.call_fn (binds := [("self", .ref x), ("limit", v)]) X hlim ho hcd hroom (BindsTo.of_eq (by first | rfl | with_unfolding_all rfl)) (by first | rfl | decide | with_unfolding_all rfl) (fun s₁ IC => ?_) rfl rfl rfl
  obtain ⟨h₁, tk₁, rfl⟩ := IC.toInCall.same
  have k : ∀ b o, s.heap.get? b = some o → h₁.get? b = some o := IC.toInCall.keep
  have hn := IC.toInCall.ns
  have X₁ : K.In h₁ := X.keeps k
  have hx₁ := k _ _ hx
  show wpAny _ _ (execs _ _) _ _ _
  refine wpAny_execs_cons (plainObj_wpAny_Assign_Attribute ?_)
  refine X1.ldC (v := v) hn (by first | rfl | with_unfolding_all rfl | kernel_rfl) (X1.ldC (v := .ref x) hn (by first | rfl | with_unfolding_all rfl | kernel_rfl) ?_)
  refine set_plain X₁ (ox := excO C t0) (od := none) ⟨hx₁, rfl, rfl, trivial⟩ T.sa ?_
  refine X1.osa_first PySem.F.store_OverflowError X₁ hx₁ T.ov T.hdC T.noN (fun h₃ tk₃ dx k₃ dn dne hx₃ hn₃ => ?_)
  show wpAny _ _ (execs _ _) _ _ _
  have z : s.heap.objs.size < h₁.objs.size := hn.lt
  exact wpAny_execs_nil (hq h₃ tk₃ dx ⟨fun b o hb e => k₃ b o hb (k b o e), hx₃, Nat.le_of_lt (Nat.lt_of_lt_of_le z dn), dne, hn₃⟩)
theorem made (T : Txt K mg C fI) {v : Value} (X : K.In s.heap) (hlim : s.heap.NoLimit) (hroom : A.depth + 1 < recursionLimit)
    (hq : ∀ h' tk e d, X1.Made "limit" s.heap h' e C d v → R (.ok (.ret (.ref e))) { s with heap := h', toks := tk }) :
    codeAny (model prog w) A (.call (.ref C) ⟨[v], []⟩) R s := by
  obtain ⟨nm, N, q, bs, bm, hdct, sn, sub, ab, col, dd, k0, k1, k2, k3, k5, hC, hbm⟩ := excInit_of X T.ini
  obtain ⟨hp, g, dr, tk, os⟩ := s
  have k : ∀ b o, hp.get? b = some o → ((hp.push (kdv_tup [v])).push (excO C hp.objs.size)).get? b = some o := fun b o e => Heap.get?_push_of_some _ (Heap.get?_push_of_some _ e)
  have hget : ((hp.push (kdv_tup [v])).push (excO C hp.objs.size)).get? (hp.objs.size + 1) = some (excO C hp.objs.size) := by heap_get
  refine call_own PySem.F.excBase_OverflowError hbm hC (looks_findIn X T.iC) (fun self => bind_fn X self T.tC) (by rw [sizeLine_eq]; exact (by decide : 1 ≤ 16777216)) ?_
  refine init_run (s := ⟨(hp.push (kdv_tup [v])).push (excO C hp.objs.size), g, dr, tk, os⟩) T (X.keeps k) (hlim.keeps k) hget ?_ fun h' tk' dx ⟨k', hx, dn, dne, hns⟩ => ?_
  · show A.depth + 1 < recursionLimit
    exact hroom
  · have old : ∀ b o, hp.get? b = some o → h'.get? b = some o := fun b o e => k' b o (Nat.ne_of_lt (Nat.lt_succ_of_lt (Heap.lt_size e))) (k b o e)
    have z : hp.objs.size + 1 + 1 ≤ dx := by
      first
        | (simpa only [Heap.size_push] using dn)
        | exact dn
        | (have q := dn; rw [Heap.size_push, Heap.size_push] at q; exact q)
    exact ⟨rfl, hq h' tk' (hp.objs.size + 1) dx ⟨old, Nat.le_succ _, ⟨_, _, hx, rfl, rfl, rfl, rfl⟩, Nat.le_trans (Nat.le_trans (Nat.le_succ _) (Nat.le_succ _)) z, dne, hns⟩⟩
end
end XTooMany
end PySem
namespace L3
open PySem PySem.Spec PyProof.Rows L2
section
variable {X : Cx} {C fI : Addr}
theorem pmk_TooMany {a : Expr} {ta : TA} {p pos : Pos} {k : Nat} (T : PySem.XTooMany.Txt X.K X.mg C fI) (hr : Room k X.A) (ha : PA X [a] ta) (hg : Gl X "TooMany" := by rfl)
    (he : starEach (a :: []) X.env = (false, eval a X.env) :: starEach [] X.env := by rfl) (hpl : (backTo pos (starEach [] X.env)).any (·.1) = false := by rfl) :
    PMk X (.Call (.Name "TooMany" p) [a] [] pos) (tMkX "limit" C ta) := by
  intro pins s σ H Q I h
  refine wpAny_Call_Name_kw (ld_glob I hg T.gC ?_)
  refine PySem.W.callWith_K (h₀ := X.base) I.ok.mod.kin T.kC (thn (ha.run pos pins s σ H _ I h) fun us s1 hh => ?_) he hpl
  obtain ⟨vs, H1, I1, r1, v, ev, q1⟩ := hh
  subst ev
  refine ⟨I1.kIn, ?_⟩
  cases r1 with
  | cons rv rn =>
    rename_i v' us'
    cases rn
    show wpAny _ _ (call (.ref C) [v']) _ _ _
    have hlim := I1.nolimit
    obtain ⟨hp, g, dr, tk, os⟩ := s1
    refine wpAny_call (PySem.XTooMany.made T I1.kIn hlim (by have := hr.dp; omega) fun h' tk' e d M => ?_)
    exact mk_back I1 M rv T.exC T.tyC (q1 d (I1.hok.fresh M.dbig))
theorem ps_raiseTooMany {a : Expr} {ta : TA} {W : WX} {p pos pos2 : Pos} {k : Nat} (hc : X.calm = true) (T : PySem.XTooMany.Txt X.K X.mg C fI) (hr : Room k X.A) (tk : Takes X W) (ha : PA X [a] ta) (hg : Gl X "TooMany" := by rfl)
    (he : starEach (a :: []) X.env = (false, eval a X.env) :: starEach [] X.env := by rfl) (hpl : (backTo pos (starEach [] X.env)).any (·.1) = false := by rfl) :
    PS X (.Raise (some (.Call (.Name "TooMany" p) [a] [] pos)) none pos2) (tRaiseX "limit" C W ta) := ps_raise hc tk (pmk_TooMany T hr ha hg he hpl)
theorem pe_fldTooMany {a : Addr} {oe : Obj} {cls : Value} {d : Option Addr} {pn : List (Addr × Obj)} {e : Expr} {te : TE} {pos : Pos} (T : PySem.XTooMany.Txt X.K X.mg C fI) (hz : Zc cls d oe) (hf : ∃ vs, oe.data = .fields vs) (he : PE (X.suite a ((a, oe) :: pn)) e te)
    (hb : attributeBase e "limit" X.env (eval e X.env) = eval e X.env := by rfl) :
    PE (X.suite a ((a, oe) :: pn)) (.Attribute e "limit" pos) (tFldX "limit" C a cls d te) := fldX T.ga T.gg T.exC T.hdC T.noN hz hf he hb
end
end L3

/-! several except clauses, with and without a name -/
namespace L3
open PySem PySem.Spec PyProof.Rows L2
abbrev Suite := Addr → Value → Option Addr → TS
def offAt (i : Nat) (D : Ends) : Ends := { nx := fun σ' H' => D.nx (σ'.set i none) H', rt := D.rt, bk := fun σ' H' => D.bk (σ'.set i none) H', ct := fun σ' H' => D.ct (σ'.set i none) H' }
def wMix (K : PySem.W.Frag) (Wout : WX) (D : Ends) : List (Value × Option Nat × Suite) → WX
  | [] => Wout
  | (c, none, ts) :: r => fun cls d σ H => ∃ b, PySem.W.exmOne K cls c = some b ∧ (b = true → ∀ a, H a = none → ts a cls d D σ H) ∧ (b = false → wMix K Wout D r cls d σ H)
  | (c, some i, ts) :: r => fun cls d σ H => ∃ b, PySem.W.exmOne K cls c = some b ∧ (b = true → ∀ a, H a = none → ts a cls d (offAt i D) (σ.set i (some (.ref a))) H) ∧ (b = false → wMix K Wout D r cls d σ H)
inductive Hds (X : Cx) : List ExceptHandler → List (Value × Option Nat × Suite) → Prop
  | nil : Hds X [] []
  | plain {x : Str} {c : Value} {ts : Suite} {b₀ : Stmt} {suite : List Stmt} {np p : Pos} {hds : List ExceptHandler} {l : List (Value × Option Nat × Suite)} (hc : Names X x c)
      (hsu : ∀ (a : Addr) (oe : Obj) (cls : Value) (d : Option Addr) (pn : List (Addr × Obj)), Zc cls d oe → (∃ vs, oe.data = .fields vs) → PSs (X.suite a ((a, oe) :: pn)) (b₀ :: suite) (ts a cls d)) (r : Hds X hds l) :
      Hds X (.ExceptHandler (some (.Name x np)) none (b₀ :: suite) p :: hds) ((c, none, ts) :: l)
  | named {x n : Str} {i : Nat} {c : Value} {ts : Suite} {b₀ : Stmt} {suite : List Stmt} {np p : Pos} {hds : List ExceptHandler} {l : List (Value × Option Nat × Suite)} (hi : X.N[i]? = some n) (hln : X.env.kindOf n = some .local) (hc : Names X x c)
      (hsu : ∀ (a : Addr) (oe : Obj) (cls : Value) (d : Option Addr) (pn : List (Addr × Obj)), Zc cls d oe → (∃ vs, oe.data = .fields vs) → PSs (X.suite a ((a, oe) :: pn)) (b₀ :: suite) (ts a cls d)) (r : Hds X hds l) :
      Hds X (.ExceptHandler (some (.Name x np)) (some n) (b₀ :: suite) p :: hds) ((c, some i, ts) :: l)

section
variable {X : Cx} {Wout : WX}
/-- an exception that has landed in the frame: what the clauses may use -/
structure Landed (X : Cx) (pins : List (Addr × Obj)) (σ : L2.St) (H : Hp) (B : Heap) (a : Addr) (cls : Value) (d : Option Addr) (sI s' : Shared) (h3 : Heap) : Prop where
  J : Inv X pins σ H sI
  nb : ∀ b o, sI.heap.get? b = some o → b ∉ frs X.stack → B.get? b = some o
  up : sI.heap.UpToSlots h3
  os : s'.os = sI.os
  ag : AllBare s'.gens
  na : H a = none
  fl : HandSPX.FlyingZ B (X.env :: X.outer) a (Zc cls d) h3
theorem Landed.inv {pins : List (Addr × Obj)} {σ : L2.St} {H : Hp} {B : Heap} {a : Addr} {cls : Value} {d : Option Addr} {sI s' : Shared} {h3 : Heap} (L : Landed X pins σ H B a cls d sI s' h3) : Inv X pins σ H { s' with heap := h3 } :=
  L.J.landed L.nb L.fl.1 L.up L.os L.ag
/-- the error's object is none of the frames -/
theorem Landed.apart {pins : List (Addr × Obj)} {σ : L2.St} {H : Hp} {B : Heap} {a : Addr} {cls : Value} {d : Option Addr} {sI s' : Shared} {h3 : Heap} (L : Landed X pins σ H B a cls d sI s' h3) (hf : X.env.frame = some X.env.locals) :
    ∃ oe vs, h3.get? a = some oe ∧ Zc cls d oe ∧ oe.data = .fields vs ∧ a ≠ X.env.locals ∧ a ∉ X.fs := by
  obtain ⟨oe, vs, he, hz, hd⟩ := L.fl.there
  have nfr : a ∉ frs (X.env :: X.outer) := fun hm => by
    obtain ⟨_, o', e', hnf⟩ := L.fl.2.2.1.mem hm
    rw [he] at e'; cases e'
    exact hnf _ hd
  refine ⟨oe, vs, he, hz, hd, fun z => nfr (List.mem_filterMap.mpr ⟨X.env, List.mem_cons_self, by rw [hf, z]⟩), fun hm => ?_⟩
  obtain ⟨e, he, q⟩ := List.mem_filterMap.mp hm
  exact nfr (List.mem_filterMap.mpr ⟨e, List.mem_cons_of_mem _ he, q⟩)
theorem handle_mix (hs : X.stack = X.env :: X.outer) (hf : X.env.frame = some X.env.locals) (hN : X.N.Nodup) (tk : Takes X Wout) (ok : X.Ok) {pins : List (Addr × Obj)} {σ : L2.St} {H : Hp} {B : Heap} {a : Addr} {cls : Value} {d : Option Addr} {sI s' : Shared} {h3 : Heap} {D : Ends}
    (L : Landed X pins σ H B a cls d sI s' h3) : ∀ {hds : List ExceptHandler} {l : List (Value × Option Nat × Suite)}, Hds X hds l → wMix X.K Wout D l cls d σ H →
    wpAny (model X.prog X.w) X.A (handleBy (.ref a) X.env hds) (SP X pins D) X.xe { s' with heap := h3 } := by
  obtain ⟨oe3, vs3, he3, hz3, hd3, nL, nF⟩ := L.apart hf
  have J3 := L.inv
  have S3 := J3.suite he3 hd3 L.na nL nF
  have LT : PySem.W.Looks (model X.prog X.w) h3 (typeOf (.ref a)) cls := fun A Q E s k q => wpAny_typeOf_ref (k _ _ he3) (by rw [hz3.1]; exact q)
  have test : ∀ {x : Str} {c : Value} {np : Pos}, Names X x c → ∀ {Q : Value → Shared → Prop} {E : Value → Shared → Prop}, Q c { s' with heap := h3 } → wpAny (model X.prog X.w) (X.A.mark (some (.ref a))) (eval (.Name x np) X.env) Q E { s' with heap := h3 } := fun {x c np} hc {Q E} q => by
    obtain ⟨hg, hdbg, hm | ⟨hm, hv, hnn⟩⟩ := hc
    · exact ld_glob (X := X.suite a ((a, oe3) :: (X.pn ++ pins))) S3 hg hm q hdbg
    · exact ld_blt (X := X.suite a ((a, oe3) :: (X.pn ++ pins))) S3 hg hm hv q hnn hdbg
  intro hds l hk
  induction hk with
  | nil =>
    intro w
    refine wpAny_handleBy_nil ?_
    obtain ⟨_, _, _, oe, vs, T, oT, _, he, _, hd, h1, _⟩ := id L.fl
    unfold PySem.passOn
    refine wpAny_bind (wpAny_field he hd h1 ?_)
    rw [if_neg (show ¬ ((Value.ref T == Value.none) = true) from by simp)]
    have fin : wpAny (model X.prog X.w) X.A (setFlight (.ref a) X.env.frame) (fun _ s4 => wpAny (model X.prog X.w) X.A (throw (.ref a) : Sem Flow) (SP X pins D) X.xe s4) X.xe { s' with heap := h3 } := by
      rw [hf]
      refine HandSPX.setFlight_upZ L.fl fun h4 hh4 up4 => wpAny_throw (tk _ _ ?_)
      exact ⟨a, B, sI, pins, σ, H, cls, d, rfl, L.J, L.nb, L.up.trans up4, .inr (.inr (by rw [hs]; exact hh4)), L.na, L.os, L.ag, w⟩
    first
      | exact wpAny_bind (wpAny_pure (wpAny_bind fin))
      | exact wpAny_bind fin
  | @plain x c ts b₀ suite np p hds2 l2 hc hsu r ih =>
    rintro ⟨b, hb1, hyes, hno⟩
    refine wpAny_handleBy_cons (codeAny_handlers_test ?_) (by intro q; cases q)
    refine test hc ((PySem.W.exm_one (M := model X.prog X.w) J3.kIn LT hb1).here ?_)
    cases b with
    | true =>
      refine codeAny_handlers_suite ?_
      refine HandSPX.lands_againZ L.fl fun h4 fl4 up4 => ?_
      have L4 : Landed X pins σ H B a cls d sI s' h4 := ⟨L.J, L.nb, L.up.trans up4, L.os, L.ag, L.na, fl4⟩
      obtain ⟨oe4, vs4, he4, hz4, hd4, _, _⟩ := L4.apart hf
      refine wpAny_mono ((hsu a oe4 cls d (X.pn ++ pins) hz4 ⟨_, hd4⟩).run [] _ _ H _ (L4.inv.suite he4 hd4 L.na nL nF) (hyes rfl a L.na)) (fun f s6 hsp => ?_) (fun _ _ z => False.elim z)
      cases f with
      | ret u => obtain ⟨v6, σ6, H6, S6, r6, q6⟩ := hsp; exact ⟨_, _, _, S6.unsuite ok, r6, q6⟩
      | next => obtain ⟨σ6, H6, S6, q6⟩ := hsp; exact ⟨_, _, S6.unsuite ok, q6⟩
      | brk => obtain ⟨σ6, H6, S6, q6⟩ := hsp; exact ⟨_, _, S6.unsuite ok, q6⟩
      | cont => obtain ⟨σ6, H6, S6, q6⟩ := hsp; exact ⟨_, _, S6.unsuite ok, q6⟩
    | false =>
      show wpAny _ X.A (handleBy (.ref a) X.env hds2) _ _ _
      exact ih (hno rfl)
  | @named x n i c ts b₀ suite np p hds2 l2 hi hln hc hsu r ih =>
    rintro ⟨b, hb1, hyes, hno⟩
    refine wpAny_handleBy_cons (codeAny_handlers_test ?_) (by intro q; cases q)
    refine test hc ((PySem.W.exm_one (M := model X.prog X.w) J3.kIn LT hb1).here ?_)
    cases b with
    | true =>
      refine codeAny_handlers_suite_as ?_
      refine HandSPX.lands_againZ L.fl fun h4 fl4 up4 => ?_
      have L4 : Landed X pins σ H B a cls d sI s' h4 := ⟨L.J, L.nb, L.up.trans up4, L.os, L.ag, L.na, fl4⟩
      obtain ⟨oe4, vs4, he4, hz4, hd4, _, _⟩ := L4.apart hf
      refine store_ok (X := X.suite a ((a, oe4) :: (X.pn ++ pins))) (v := .ref a) (L4.inv.suite he4 hd4 L.na nL nF) hN hi (.inl hln) rfl (fun s5 S5 => ?_) (.inr hln)
      refine wpAny_mono ((hsu a oe4 cls d (X.pn ++ pins) hz4 ⟨_, hd4⟩).run [] s5 _ H _ S5 (hyes rfl a L.na)) (fun f s6 hsp => ?_) (fun _ _ z => False.elim z)
      cases f with
      | ret u => obtain ⟨v6, σ6, H6, S6, r6, q6⟩ := hsp; exact gone_ok (S6.unsuite ok) hN hi hln fun s7 J7 => ⟨_, _, _, J7, r6, q6⟩
      | next => obtain ⟨σ6, H6, S6, q6⟩ := hsp; exact gone_ok (S6.unsuite ok) hN hi hln fun s7 J7 => ⟨_, _, J7, q6⟩
      | brk => obtain ⟨σ6, H6, S6, q6⟩ := hsp; exact gone_ok (S6.unsuite ok) hN hi hln fun s7 J7 => ⟨_, _, J7, q6⟩
      | cont => obtain ⟨σ6, H6, S6, q6⟩ := hsp; exact gone_ok (S6.unsuite ok) hN hi hln fun s7 J7 => ⟨_, _, J7, q6⟩
    | false =>
      show wpAny _ X.A (handleBy (.ref a) X.env hds2) _ _ _
      exact ih (hno rfl)
theorem ps_try_mix {body : List Stmt} {h₀ : ExceptHandler} {hds : List ExceptHandler} {l : List (Value × Option Nat × Suite)} {pos : Pos} {tb : WX → TS} (hs : X.stack = X.env :: X.outer) (hf : X.env.frame = some X.env.locals) (hN : X.N.Nodup) (tk : Takes X Wout)
    (hb : ∀ (W : WX) (pn : List (Addr × Obj)) (xe : Value → Shared → Prop), Takes (X.tr pn xe) W → PassesOwn (model X.prog X.w) X.A X.env xe → PSs (X.tr pn xe) body (tb W))
    (hh : Hds X (h₀ :: hds) l) : PS X (.Try body (h₀ :: hds) [] [] pos) (fun D σ H => tb (wMix X.K Wout D l) D σ H) := by
  refine ⟨fun pins s σ H D I h => ?_⟩
  have ok := I.ok
  have hfr : X.A.frames = some (X.env :: X.outer) := by rw [ok.frames, hs]
  refine wpAny_Try_except ?_
  refine wpAny_mono ((hb (wMix X.K Wout D l) (X.pn ++ pins) (fun e s₁ => wpAny (model X.prog X.w) X.A (noteFrame e X.env) (fun _ s₂ => wpAny (model X.prog X.w) X.A (setFlight e none) (fun _ s₃ =>
    wpAny (model X.prog X.w) X.A (handleBy e X.env (h₀ :: hds)) (SP X pins D) X.xe s₃) X.xe s₂) X.xe s₁) (fun u s' xx => ?_) PassesOwn.looking).run [] s σ H D (I.toTry _) h) (fun f s1 hsp => ?_) (fun e s1 he => he)
  · obtain ⟨a, B, sI, pins', σ', H', cls, d, rfl, J', nb, up, sky, na, os, ag, w⟩ := xx
    have sky' : Sky B (X.env :: X.outer) a (Zc cls d) X.env.locals s'.heap := by rw [← hs]; exact sky
    show wpAny (model X.prog X.w) X.A (noteFrame (.ref a) X.env) _ _ _
    refine Sky.land Zc.steady hfr hf sky' fun h3 fl3 up3 => ?_
    exact handle_mix hs hf hN tk ok (s' := s') ⟨J'.ofTry ok, nb, up.trans up3, os, ag, na, fl3⟩ hh w
  · cases f with
    | next => obtain ⟨σ', H', J', q⟩ := hsp; exact wpAny_execs_nil ⟨σ', H', J'.ofTry ok, q⟩
    | brk => obtain ⟨σ', H', J', q⟩ := hsp; exact ⟨σ', H', J'.ofTry ok, q⟩
    | cont => obtain ⟨σ', H', J', q⟩ := hsp; exact ⟨σ', H', J'.ofTry ok, q⟩
    | ret u => obtain ⟨v, σ', H', J', r, q⟩ := hsp; exact ⟨v, σ', H', J'.ofTry ok, r, q⟩
end
end L3

namespace L3
open PySem PySem.Spec PyProof.Rows L2
/-- what TyOf asks of an own class -/
structure TyC (K : PySem.W.Frag) (C : Addr) : Prop where
  cl : Cls K C
  t1 : PySem.W.findIn K (.ref C) "__class__" = some (some (.builtin "object.__class__"))
  t2 : PySem.W.specialIn K (.builtin "object.__class__") "__get__" = some (some (.builtin "getset_descriptor.__get__"))
  t3 : PySem.W.takesIn K (.builtin "object.__class__") = some true
  t4 : PySem.W.mroIn K C (.type "object") = some true
theorem TyC.ty {K : PySem.W.Frag} {C : Addr} (T : TyC K C) {H : Hp} {a dx : Addr} {fs : List (Str × V)} (h : H a = some (.ins C dx fs)) : TyOf K H (.ref a) (.ref C) := .ins h T.cl T.t1 T.t2 T.t3 T.t4
theorem exm_of {K : PySem.W.Frag} {A B : Addr} {b : Bool} (h1 : PySem.W.subIn K (.ref B) (.type "BaseException") = some true) (h2 : PySem.W.isClsIn K B = true) (h3 : PySem.W.typeIn K (.ref B) = some (.type "type")) (h4 : PySem.W.subIn K (.ref A) (.ref B) = some b) :
    PySem.W.exmOne K (.ref A) (.ref B) = some b := by
  have e1 : (PySem.W.subIn K (.ref B) (.type "BaseException") == some true) = true := by rw [h1] <;> rfl
  have e2 : ((PySem.W.clsIn K B).isSome && PySem.W.typeIn K (.ref B) == some (.type "type")) = true := by
    have h2' : (PySem.W.clsIn K B).isSome = true := h2
    rw [h2', h3] <;> rfl
  unfold PySem.W.exmOne
  rw [if_pos e1]
  show (if ((PySem.W.clsIn K B).isSome && PySem.W.typeIn K (.ref B) == some (.type "type")) = true then PySem.W.subIn K (.ref A) (.ref B) else none) = some b
  rw [if_pos e2]
  exact h4
theorem binds_full {K : PySem.W.Frag} {fd : FuncData} {ps : List Str} {dvs : List V} {j : Nat} (h : ∃ ds, Vals (dvs.drop j) ds ∧ Binds K fd ps ds) (hj : dvs.length ≤ j := by decide) : Binds K fd ps [] := by
  obtain ⟨ds, r, b⟩ := h
  rw [List.drop_of_length_le hj] at r
  cases r
  exact b
open Builtin in
theorem bool_K {prog : Program} {w : World} {A : Around} {E : Value → Shared → Prop} {s : Shared} {x : Value} {Q : Value → Shared → Prop}
    (h : wpAny (model prog w) A.in1.in1 (truthy x) (fun b s' => Q (.bool b) s') E s) : wpAny (model prog w) A (call (.type "bool") [x]) Q E s := by
  refine callType_codes (T := "bool") (Bi := Builtin.«object.__init__») (Q₁ := fun r s₁ => ∃ b, r = .bool b ∧ Q r s₁) PySem.F.called_bool (PySem.F.typeCall_bool_1 _) PySem.F.entry_object_init ?_ ?_
  · refine codeAny_of_tree ?_
    show wpAny _ A.in1.in1 (do checkBuiltinCall "bool.__new__" ⟨[.type "bool", x], []⟩; again (.builtin "bool.__new__" ⟨[.type "bool", x], []⟩)) _ _ s
    refine wpAny_bind (wpAny_of_eq (PySem.F.newCall_bool_1 _) (wpAny_pure ⟨plainId_quiet (by decide +kernel) _, codeAny_builtin PySem.F.entry_bool_new ?_⟩))
    rw [Around.under_plainId (by decide +kernel) _]
    obtain ⟨hp, g, d, tk, os⟩ := s
    have f1 := PySem.F.conv_sub_bool
    repeat (any_goals (first | assumption | (with_reducible refine wpAny_bind (wpAny_mono h (fun b s' hb => ?_) fun _ _ y => y)) | wp_step))
    exact ⟨b, rfl, hb⟩
  · rintro obj s₁ ⟨b, rfl, hq⟩
    exact ⟨PySem.typeIs_bool _ _, PySem.F.args_object_init_2 _ _, object_init_meets PySem.F.called_bool.init.lookup PySem.F.called_bool.made (by decide) prog w A.in1 _ s₁ ⟨PySem.typeIs_bool _ _, rfl, hq⟩⟩
section
variable {X : Cx}
/-- o.f as a target -/
def gFld (K : PySem.W.Frag) (to : TE) (f : Str) : TG := fun v σ H Q => to σ H fun x H1 => ∃ a C dx fs, x = .ref a ∧ H1 a = some (.ins C dx fs) ∧ Cls K C ∧ NoAttr K C f ∧ fs.length < 1000 ∧ Q σ (upd H1 a (.ins C dx (putF f v fs)))
theorem pg_fld {o : Expr} {f : Str} {pos : Pos} {to : TE} (ho : PE X o to)
    (ha : ∀ v, assign (.Attribute o f pos) X.env v = (do
      let ov ← holding [v] (eval o X.env)
      standAt pos.atName
      holding [v, ov] (setAttr ov f v)
      release [v, ov] []) := by intro _; rfl) : PG X (.Attribute o f pos) (gFld X.K to f) := by
  refine ⟨fun pins s σ H v u Q I r h => ?_⟩
  rw [ha]
  refine wpAny_bind (wpAny_holding (thn (ho.run pins s σ H _ I h) fun ov s1 ⟨x, H1, I1, r1, a, C, dx, fs, ex, ea, c, n, l, q1⟩ => ?_))
  subst ex
  obtain rfl : ov = Value.ref a := r1
  refine wpAny_bind (wpAny_standAt (wpAny_bind (wpAny_holding (setattr_ok I1 ea c n l r fun s3 I3 => ?_))))
  exact wpAny_release ⟨σ, _, I3, q1⟩
/-- // by any divisor but 0, below 2 ^ 9000 in size -/
def CDivS (_ j : Int) : Prop := j ≠ 0 ∧ j.natAbs.log2 < 9000
theorem op_fdivN2 : OpR X (binaryOp .FloorDiv) (rI CDivS fun i j => .int (i.fdiv j)) := opI fun i j _ _ _ _ _ hc q => floordiv_int hc.1 q (.inl (PyProof.noPylong_of_log2 hc.2))
def CPowW (i j : Int) : Prop := 0 ≤ j ∧ (Builtin.Int.intBits i : Int) * j ≤ 2 ^ 27
theorem op_powW : OpR X (binaryOp .Pow) (rI CPowW fun i j => .int (i ^ j.toNat)) := opI fun _ _ _ _ _ _ _ hc q => pow_int hc.1 hc.2 q
/-- bool(x), by a TruR one room deeper -/
theorem call_ownBool {CX : CXT} {k : Nat} {C f : Addr} {fd : FuncData} {ps : List Str} {sp : Sp} {E : XK} (o : Own X.K C "__bool__" f) (F : FnOk X.prog X.w X.K X.mg X.base CX k f fd ps sp) (hr : Room (k + 2) X.A) (hb : Binds X.K fd ps []) (hx : Passes CX X E) :
    CallR X (.type "bool") (fun xs H Q => ∃ x, xs = [x] ∧ rOwn1 C sp E x H (fun v H' => ∃ z, v = .bl z ∧ Q (.bl z) H')) := by
  intro pins s σ H xs us Q I r h
  obtain ⟨_, rfl, a, dx, fs, rfl, ea, h⟩ := h
  obtain ⟨u, rfl, rx⟩ := vals1 r
  cases (show u = Value.ref a from rx)
  obtain ⟨mA, O, _⟩ := ins_get I.hok ea
  obtain ⟨od, J, _⟩ := O.look
  obtain ⟨m, hF⟩ := I.fr
  refine bool_K (PySem.W.truthy_K hF I.ok.mod.kin J o.at_ o.fn (wpAny_mono (run_in (us := [.ref a]) (vs := [.ref a]) F hr.in1.in1 I.env0.in1.in1 hb hx I (.cons rfl .nil) h) (fun u s' q => ?_) fun _ _ y => y))
  obtain ⟨v, H', I', rv, z, rfl, q⟩ := q
  cases (show u = Value.bool z from rv)
  exact ⟨.bl z, H', I', rfl, q⟩
end
end L3

namespace L3
open PySem PySem.Spec PyProof.Rows L2
section
variable {X : Cx}
/-- not e as a value, by a TruR -/
theorem pe_notTru {a : Expr} {ta : TE} {r : V → Hp → (Bool → Hp → Prop) → Prop} {pos : Pos} (ht : TruR X r) (ha : PE X a ta) : PE X (.UnaryOp .Not a pos) (fun σ H Q => ta σ H fun x H' => r x H' fun c H2 => Q (.bl (!c)) H2) := by
  refine ⟨fun pins s σ H Q I h => ?_⟩
  refine UnaryOp_ (thn (ha.run pins s σ H _ I h) fun v s1 ⟨x, H1, I1, r1, q1⟩ => ?_)
  exact not_of (thn (ht pins s1 σ H1 x v _ I1 r1 q1) fun c s2 ⟨H2, I2, q2⟩ => ⟨.bl (!c), H2, I2, rfl, q2⟩)
/-- a text times a number -/
theorem op_rep_str : OpR X (binaryOp .Mult) (fun x y H Q => ∃ z n, x = .str z ∧ y = .int n ∧ PySem.MulOk z n ∧ Q (.str (PySem.Txt.mul z n)) H) := by
  intro pins s σ H x y v u Q I rx ry h
  obtain ⟨i, j, rfl, rfl, hz, q⟩ := h
  obtain ⟨t, rfl⟩ := rx
  obtain ⟨t', rfl⟩ := ry
  exact SB.mul hz (fun t' tk => ⟨.str (PySem.Txt.mul i j), H, I.tok _, ⟨_, rfl⟩, q⟩)
end
end L3

namespace L3
open PySem PySem.Spec PyProof.Rows L2
section
variable {X : Cx}
/-- str of an int of at most 4300 digits -/
theorem call_str_intD (hD : PySem.W.nsIn X.K cStatics "sys.int_max_str_digits" = some none) (hc : X.calm = true) : CallR X (.type "str") (fun xs H Q => ∃ i, xs = [.int i] ∧ i.natAbs < 10 ^ 4300 ∧ Q (.str (toString i)) H) := by
  intro pins s σ H xs us Q I r h
  obtain ⟨i, rfl, hz, q⟩ := h
  obtain ⟨u, rfl, t, rfl⟩ := vals1 r
  obtain ⟨mc, hn, _⟩ := I.nolimit
  refine str_of_int_or (I.ok.hd hc) ⟨mc, hn, PySem.W.ns_none_of I.kIn hn hD⟩ (fun _ => ⟨.str (toString i), H, I.tok _, ⟨_, rfl⟩, q⟩) (fun hge => ?_)
  exact absurd hz (Nat.not_lt.mpr hge)
/-- // by a divisor of any size, or of one so great that the other is not far greater -/
def CDivX (i j : Int) : Prop := j ≠ 0 ∧ (j.natAbs.log2 < 9000 ∨ i.natAbs.log2 ≤ j.natAbs.log2 + 4400)
theorem CDivX.ok {i j : Int} (h : CDivX i j) : Builtin.divisionGoesByPylong i j = false := by
  rcases h.2 with h2 | h2
  · exact PyProof.noPylong_of_log2 h2
  · have hj : (j == 0) = false := by simpa using h.1
    have k1 : (if (j == 0) = true then 0 else j.natAbs.log2 / 30 + 1) = j.natAbs.log2 / 30 + 1 := by rw [hj] <;> rfl
    have k2 : (if (i == 0) = true then 0 else i.natAbs.log2 / 30 + 1) ≤ j.natAbs.log2 / 30 + 1 + 150 := by
      split <;> omega
    show (decide ((if (j == 0) = true then 0 else j.natAbs.log2 / 30 + 1) > 300) && decide ((if (i == 0) = true then 0 else i.natAbs.log2 / 30 + 1) > (if (j == 0) = true then 0 else j.natAbs.log2 / 30 + 1) + 150)) = false
    rw [Bool.and_eq_false_iff]
    exact .inr (decide_eq_false (by omega))
theorem op_fdivX : OpR X (binaryOp .FloorDiv) (rI CDivX fun i j => .int (i.fdiv j)) := opI fun i j _ _ _ _ _ hc q => floordiv_int hc.1 q (.inl hc.ok)
variable {CX : CXT} {k : Nat} {C f : Addr} {fd : FuncData} {ps : List Str} {sp : Sp} {E : XK} {m : Str}
/-- two instances of the class, by the class's own method -/
def rOwnB (C : Addr) (sp : Sp) (E : XK) : R2 := fun x y H Q => ∃ a b dx dy fs gs, x = .ref a ∧ y = .ref b ∧ H a = some (.ins C dx fs) ∧ H b = some (.ins C dy gs) ∧ sp [.ref a, .ref b] H Q E
theorem op_ownBin {op : Operator} (hm : PySem.dunder op.info.2 = m) (sf : PySem.W.selfFirst X.K C = true) (ty : L3.TyC X.K C) (o : Own X.K C m f) (F : FnOk X.prog X.w X.K X.mg X.base CX k f fd ps sp) (hr : Room k X.A) (hb : Binds X.K fd ps []) (hx : Passes CX X E) :
    OpR X (binaryOp op) (rOwnB C sp E) := by
  intro pins s σ H x y v u Q I rx ry h
  obtain ⟨a, b, dx, dy, fs, gs, rfl, rfl, ea, eb, h⟩ := h
  cases (show v = Value.ref a from rx)
  cases (show u = Value.ref b from ry)
  obtain ⟨mA, O, _⟩ := ins_get I.hok ea
  obtain ⟨od, J, _⟩ := O.look
  obtain ⟨m', hF⟩ := I.fr
  subst hm
  refine PySem.W.binop_K hF I.ok.mod.kin J (tyLooks I ry (ty.ty eb)) sf o.at_ o.fn (wpAny_mono (run_in (us := [.ref a, .ref b]) (vs := [.ref a, .ref b]) F hr I.env0 hb hx I (.cons rfl (.cons rfl .nil)) h) (fun u s' q => ?_) fun _ _ y => y)
  obtain ⟨z, H', I', rz, q⟩ := q
  have key : ∀ w : Value, RelV z w → w ≠ .notImplemented := fun w r e => by
    subst e
    cases z <;> first | (cases r; done) | (obtain ⟨_, r⟩ := r; cases r)
  have e := key u rz
  cases u <;> first | exact (e rfl).elim | exact ⟨z, H', I', rz, q⟩
theorem op_ownAdd (sf : PySem.W.selfFirst X.K C = true) (ty : L3.TyC X.K C) (o : Own X.K C "__add__" f) (F : FnOk X.prog X.w X.K X.mg X.base CX k f fd ps sp) (hr : Room k X.A) (hb : Binds X.K fd ps []) (hx : Passes CX X E) : OpR X (binaryOp .Add) (rOwnB C sp E) := op_ownBin (by decide +kernel) sf ty o F hr hb hx
theorem op_ownSub (sf : PySem.W.selfFirst X.K C = true) (ty : L3.TyC X.K C) (o : Own X.K C "__sub__" f) (F : FnOk X.prog X.w X.K X.mg X.base CX k f fd ps sp) (hr : Room k X.A) (hb : Binds X.K fd ps []) (hx : Passes CX X E) : OpR X (binaryOp .Sub) (rOwnB C sp E) := op_ownBin (by decide +kernel) sf ty o F hr hb hx
theorem op_ownMul (sf : PySem.W.selfFirst X.K C = true) (ty : L3.TyC X.K C) (o : Own X.K C "__mul__" f) (F : FnOk X.prog X.w X.K X.mg X.base CX k f fd ps sp) (hr : Room k X.A) (hb : Binds X.K fd ps []) (hx : Passes CX X E) : OpR X (binaryOp .Mult) (rOwnB C sp E) := op_ownBin (by decide +kernel) sf ty o F hr hb hx
end
end L3

namespace L3
open PySem PySem.Spec PyProof.Rows L2
theorem takes_len {X : Cx} {W : WX} (t : Takes X W) : Takes X (fun c d σ H => σ.length = X.N.length → W c d σ H) := fun u s' ⟨a, B, sI, pins, σ, H, cls, d, e, I, nb, up, sky, na, os, ag, w⟩ =>
  t u s' ⟨a, B, sI, pins, σ, H, cls, d, e, I, nb, up, sky, na, os, ag, w I.len⟩
/-- try with its clauses, all that the body lets out told by one word -/
theorem ps_tryE {X : Cx} {t : XK → TS} {body : List Stmt} {h₀ : ExceptHandler} {hds : List ExceptHandler} {l : List (Value × Option Nat × Suite)} {pos : Pos} (hs : X.stack = X.env :: X.outer) (hf : X.env.frame = some X.env.locals) (hN : X.N.Nodup)
    (hb : ∀ (W : WX) (pn : List (Addr × Obj)) (xe : Value → Shared → Prop) (Ech : XK), Takes (X.tr pn xe) W → (∀ cls d σ' H', Ech cls d H' → σ'.length = X.N.length → W cls d σ' H') → PSs (X.tr pn xe) body (t Ech)) (hh : Hds X (h₀ :: hds) l) :
    PS X (.Try body (h₀ :: hds) [] [] pos) (fun D σ H => ∃ Ech : XK, (∀ cls d σ' H', Ech cls d H' → σ'.length = X.N.length → wMix X.K (fun _ _ _ _ => False) D l cls d σ' H') ∧ t Ech D σ H) :=
  ps_try_mix (Wout := fun _ _ _ _ => False) (tb := fun W D σ H => ∃ Ech : XK, (∀ cls d σ' H', Ech cls d H' → σ'.length = X.N.length → W cls d σ' H') ∧ t Ech D σ H) hs hf hN LamX.takes0
    (fun W pn xe tk _ => ⟨fun pins s σ H D I ⟨Ech, hW, h⟩ => (hb W pn xe Ech tk hW).run pins s σ H D I h⟩) hh
end L3

namespace K01
open PySem PySem.Spec PyProof.Rows L2 L3
def top (i : Nat) : Stmt := PySem.Challenge.pw_worthstead_k01_whole_rules_of_a_field.main.body.getD i (.Pass ⟨0, 0, 0, 0⟩)
abbrev s_is_longer : Stmt := top 10
abbrev s_is_plain_int : Stmt := top 15
abbrev s_lowest_terms : Stmt := top 16
abbrev s_ratio_of : Stmt := top 17
abbrev s__law_urn : Stmt := top 19
abbrev s__law_drawn : Stmt := top 20
abbrev s__law_one_of : Stmt := top 21
abbrev s__law_divisor : Stmt := top 22
abbrev s__law_lowest : Stmt := top 23
abbrev s__law_power : Stmt := top 24
abbrev s__law_whole : Stmt := top 25
abbrev s__law_due : Stmt := top 26
abbrev s__law_worked : Stmt := top 27
abbrev s__law_chain_right : Stmt := top 28
abbrev s__law_rules_right : Stmt := top 29
abbrev s_law : Stmt := top 30
abbrev s_Ratio___init__ : Stmt := inClass (top 14) 0
abbrev s_Ratio_top : Stmt := inClass (top 14) 1
abbrev s_Ratio_bottom : Stmt := inClass (top 14) 2
abbrev s_Ratio___add__ : Stmt := inClass (top 14) 4
abbrev s_Ratio___sub__ : Stmt := inClass (top 14) 5
abbrev s_Ratio___mul__ : Stmt := inClass (top 14) 6
abbrev s_Ratio___neg__ : Stmt := inClass (top 14) 7
abbrev s_Ratio___abs__ : Stmt := inClass (top 14) 8
abbrev s_Ratio___bool__ : Stmt := inClass (top 14) 9
abbrev s_Ratio___eq__ : Stmt := inClass (top 14) 10
abbrev s_Ratio_over : Stmt := inClass (top 14) 12
abbrev s_Ratio_is_less : Stmt := inClass (top 14) 13
theorem sc_is_longer : FnScope ["number", "digits", "bits"] ["number", "digits"] (defScope s_is_longer) := ⟨rfl, rfl, rfl, by decide +kernel, rfl, by decide +kernel, by decide +kernel⟩
theorem sc_is_plain_int : FnScope ["value"] ["value"] (defScope s_is_plain_int) := ⟨rfl, rfl, rfl, by decide +kernel, rfl, by decide +kernel, by decide +kernel⟩
theorem sc_lowest_terms : FnScope ["top", "bottom", "shared"] ["top", "bottom"] (defScope s_lowest_terms) := ⟨rfl, rfl, rfl, by decide +kernel, rfl, by decide +kernel, by decide +kernel⟩
theorem sc_ratio_of : FnScope ["top", "bottom", "made"] ["top", "bottom"] (defScope s_ratio_of) := ⟨rfl, rfl, rfl, by decide +kernel, rfl, by decide +kernel, by decide +kernel⟩
theorem sc__law_urn : FnScope ["_law_script", "_law_turn", "_law_cell", "_law_great"] ["_law_script", "_law_turn"] (defScope s__law_urn) := ⟨rfl, rfl, rfl, by decide +kernel, rfl, by decide +kernel, by decide +kernel⟩
theorem sc__law_drawn : FnScope ["_law_urn_here", "_law_many", "_law_found", "_law_one", "_law_two"] ["_law_urn_here", "_law_many"] (defScope s__law_drawn) := ⟨rfl, rfl, rfl, by decide +kernel, rfl, by decide +kernel, by decide +kernel⟩
theorem sc__law_one_of : FnScope ["_law_urn_here", "_law_items"] ["_law_urn_here", "_law_items"] (defScope s__law_one_of) := ⟨rfl, rfl, rfl, by decide +kernel, rfl, by decide +kernel, by decide +kernel⟩
theorem sc__law_divisor : FnScope ["_law_one", "_law_other"] ["_law_one", "_law_other"] (defScope s__law_divisor) := ⟨rfl, rfl, rfl, by decide +kernel, rfl, by decide +kernel, by decide +kernel⟩
theorem sc__law_lowest : FnScope ["_law_top", "_law_bottom", "_law_part"] ["_law_top", "_law_bottom"] (defScope s__law_lowest) := ⟨rfl, rfl, rfl, by decide +kernel, rfl, by decide +kernel, by decide +kernel⟩
theorem sc__law_power : FnScope ["_law_base", "_law_times", "_law_found", "_law_lap"] ["_law_base", "_law_times"] (defScope s__law_power) := ⟨rfl, rfl, rfl, by decide +kernel, rfl, by decide +kernel, by decide +kernel⟩
theorem sc__law_whole : FnScope ["_law_urn_here", "_law_way", "_law_found", "_law_lap"] ["_law_urn_here"] (defScope s__law_whole) := ⟨rfl, rfl, rfl, by decide +kernel, rfl, by decide +kernel, by decide +kernel⟩
theorem sc__law_due : FnScope ["_law_sign", "_law_one", "_law_other", "_law_turned", "_law_found"] ["_law_sign", "_law_one", "_law_other"] (defScope s__law_due) := ⟨rfl, rfl, rfl, by decide +kernel, rfl, by decide +kernel, by decide +kernel⟩
theorem sc__law_worked : FnScope ["_law_sign", "_law_one", "_law_other", "e"] ["_law_sign", "_law_one", "_law_other"] (defScope s__law_worked) := ⟨rfl, rfl, rfl, by decide +kernel, rfl, by decide +kernel, by decide +kernel⟩
theorem sc__law_chain_right : FnScope ["_law_urn_here", "_law_pool", "_law_turn", "_law_top", "_law_bottom", "_law_sign", "_law_first", "_law_second", "_law_due_here", "_law_found", "_law_odd", "_law_one"] ["_law_urn_here"] (defScope s__law_chain_right) := ⟨rfl, rfl, rfl, by decide +kernel, rfl, by decide +kernel, by decide +kernel⟩
theorem sc__law_rules_right : FnScope ["_law_urn_here", "_law_some", "_law_a", "_law_b", "_law_c", "_law_none", "_law_one", "_law_turn"] ["_law_urn_here"] (defScope s__law_rules_right) := ⟨rfl, rfl, rfl, by decide +kernel, rfl, by decide +kernel, by decide +kernel⟩
theorem sc_law : FnScope ["_law_script", "_law_turn", "_law_urn_here", "_law_great", "_law_lap", "_law_told", "_law_small"] ["_law_script"] (defScope s_law) := ⟨rfl, rfl, rfl, by decide +kernel, rfl, by decide +kernel, by decide +kernel⟩
theorem sc_Ratio___init__ : FnScope ["self", "top", "bottom"] ["self", "top", "bottom"] (defScope s_Ratio___init__) := ⟨rfl, rfl, rfl, by decide +kernel, rfl, by decide +kernel, by decide +kernel⟩
theorem sc_Ratio_top : FnScope ["self"] ["self"] (defScope s_Ratio_top) := ⟨rfl, rfl, rfl, by decide +kernel, rfl, by decide +kernel, by decide +kernel⟩
theorem sc_Ratio_bottom : FnScope ["self"] ["self"] (defScope s_Ratio_bottom) := ⟨rfl, rfl, rfl, by decide +kernel, rfl, by decide +kernel, by decide +kernel⟩
theorem sc_Ratio___add__ : FnScope ["self", "other"] ["self", "other"] (defScope s_Ratio___add__) := ⟨rfl, rfl, rfl, by decide +kernel, rfl, by decide +kernel, by decide +kernel⟩
theorem sc_Ratio___sub__ : FnScope ["self", "other"] ["self", "other"] (defScope s_Ratio___sub__) := ⟨rfl, rfl, rfl, by decide +kernel, rfl, by decide +kernel, by decide +kernel⟩
theorem sc_Ratio___mul__ : FnScope ["self", "other"] ["self", "other"] (defScope s_Ratio___mul__) := ⟨rfl, rfl, rfl, by decide +kernel, rfl, by decide +kernel, by decide +kernel⟩
theorem sc_Ratio___neg__ : FnScope ["self"] ["self"] (defScope s_Ratio___neg__) := ⟨rfl, rfl, rfl, by decide +kernel, rfl, by decide +kernel, by decide +kernel⟩
theorem sc_Ratio___abs__ : FnScope ["self"] ["self"] (defScope s_Ratio___abs__) := ⟨rfl, rfl, rfl, by decide +kernel, rfl, by decide +kernel, by decide +kernel⟩
theorem sc_Ratio___bool__ : FnScope ["self"] ["self"] (defScope s_Ratio___bool__) := ⟨rfl, rfl, rfl, by decide +kernel, rfl, by decide +kernel, by decide +kernel⟩
theorem sc_Ratio___eq__ : FnScope ["self", "other"] ["self", "other"] (defScope s_Ratio___eq__) := ⟨rfl, rfl, rfl, by decide +kernel, rfl, by decide +kernel, by decide +kernel⟩
theorem sc_Ratio_over : FnScope ["self", "other"] ["self", "other"] (defScope s_Ratio_over) := ⟨rfl, rfl, rfl, by decide +kernel, rfl, by decide +kernel, by decide +kernel⟩
theorem sc_Ratio_is_less : FnScope ["self", "other"] ["self", "other"] (defScope s_Ratio_is_less) := ⟨rfl, rfl, rfl, by decide +kernel, rfl, by decide +kernel, by decide +kernel⟩
structure TX (K : PySem.W.Frag) (mg : Str → Option Value) where
  C_InvalidNumber : Addr
  f_InvalidNumber___init__ : Addr
  x_InvalidNumber : PySem.XInvalidNumber.Txt K mg C_InvalidNumber f_InvalidNumber___init__
  g_InvalidNumber : mg "InvalidNumber" = some (.ref C_InvalidNumber)
  C_TooMany : Addr
  f_TooMany___init__ : Addr
  x_TooMany : PySem.XTooMany.Txt K mg C_TooMany f_TooMany___init__
  g_TooMany : mg "TooMany" = some (.ref C_TooMany)
  C_InvalidRatio : Addr
  g_InvalidRatio : mg "InvalidRatio" = some (.ref C_InvalidRatio)
  x_InvalidRatio : PySem.W.excIn K C_InvalidRatio [.type "ValueError", .type "Exception", .type "BaseException", .type "object"] "ValueError.__new__" = true
  k_InvalidRatio : PySem.W.keepIn K (.ref C_InvalidRatio) = true
  bx_InvalidRatio : PySem.W.subIn K (.ref C_InvalidRatio) (.type "BaseException") = some true
  tx_InvalidRatio : PySem.W.typeIn K (.ref C_InvalidRatio) = some (.type "type")
  e_InvalidRatio_TooMany : PySem.W.exmOne K (.ref C_InvalidRatio) (.ref C_TooMany) = some false
  e_InvalidRatio_InvalidRatio : PySem.W.exmOne K (.ref C_InvalidRatio) (.ref C_InvalidRatio) = some true
  C_Ratio : Addr
  g_Ratio : mg "Ratio" = some (.ref C_Ratio)
  cl_Ratio : Cls K C_Ratio
  n_Ratio__top : NoAttr K C_Ratio "_top"
  n_Ratio__bottom : NoAttr K C_Ratio "_bottom"
  tc_Ratio : L3.TyC K C_Ratio
  ne_Ratio : L3.OwnNe K C_Ratio
  kit_Ratio_NoneType : PySem.W.kitOne K (.type "NoneType") (.ref C_Ratio) = some false
  nf_Ratio_NoneType : PySem.W.notFirst K C_Ratio (.type "NoneType") = true
  itk_Ratio_NoneType : PySem.W.kitOne K (.ref C_Ratio) (.type "NoneType") = some false
  kit_Ratio_bool : PySem.W.kitOne K (.type "bool") (.ref C_Ratio) = some false
  nf_Ratio_bool : PySem.W.notFirst K C_Ratio (.type "bool") = true
  itk_Ratio_bool : PySem.W.kitOne K (.ref C_Ratio) (.type "bool") = some false
  kit_Ratio_int : PySem.W.kitOne K (.type "int") (.ref C_Ratio) = some false
  nf_Ratio_int : PySem.W.notFirst K C_Ratio (.type "int") = true
  itk_Ratio_int : PySem.W.kitOne K (.ref C_Ratio) (.type "int") = some false
  kit_Ratio_str : PySem.W.kitOne K (.type "str") (.ref C_Ratio) = some false
  nf_Ratio_str : PySem.W.notFirst K C_Ratio (.type "str") = true
  itk_Ratio_str : PySem.W.kitOne K (.ref C_Ratio) (.type "str") = some false
  kit_Ratio_list : PySem.W.kitOne K (.type "list") (.ref C_Ratio) = some false
  nf_Ratio_list : PySem.W.notFirst K C_Ratio (.type "list") = true
  itk_Ratio_list : PySem.W.kitOne K (.ref C_Ratio) (.type "list") = some false
  kit_Ratio_tuple : PySem.W.kitOne K (.type "tuple") (.ref C_Ratio) = some false
  nf_Ratio_tuple : PySem.W.notFirst K C_Ratio (.type "tuple") = true
  itk_Ratio_tuple : PySem.W.kitOne K (.ref C_Ratio) (.type "tuple") = some false
  kit_Ratio_dict : PySem.W.kitOne K (.type "dict") (.ref C_Ratio) = some false
  nf_Ratio_dict : PySem.W.notFirst K C_Ratio (.type "dict") = true
  itk_Ratio_dict : PySem.W.kitOne K (.ref C_Ratio) (.type "dict") = some false
  kit_Ratio : PySem.W.kitOne K (.ref C_Ratio) (.ref C_Ratio) = some true
  nf_Ratio : PySem.W.notFirst K C_Ratio (.ref C_Ratio) = true
  f_is_longer : Addr
  d_is_longer : FuncData
  F_is_longer : Fun K "is_longer" "is_longer" s_is_longer f_is_longer d_is_longer
  b_is_longer : Binds K d_is_longer ["number", "digits"] []
  g_is_longer : mg "is_longer" = some (.ref f_is_longer)
  f_is_plain_int : Addr
  d_is_plain_int : FuncData
  F_is_plain_int : Fun K "is_plain_int" "is_plain_int" s_is_plain_int f_is_plain_int d_is_plain_int
  b_is_plain_int : Binds K d_is_plain_int ["value"] []
  g_is_plain_int : mg "is_plain_int" = some (.ref f_is_plain_int)
  f_lowest_terms : Addr
  d_lowest_terms : FuncData
  F_lowest_terms : Fun K "lowest_terms" "lowest_terms" s_lowest_terms f_lowest_terms d_lowest_terms
  b_lowest_terms : Binds K d_lowest_terms ["top", "bottom"] []
  g_lowest_terms : mg "lowest_terms" = some (.ref f_lowest_terms)
  f_ratio_of : Addr
  d_ratio_of : FuncData
  F_ratio_of : Fun K "ratio_of" "ratio_of" s_ratio_of f_ratio_of d_ratio_of
  b_ratio_of : Binds K d_ratio_of ["top", "bottom"] []
  g_ratio_of : mg "ratio_of" = some (.ref f_ratio_of)
  f__law_urn : Addr
  d__law_urn : FuncData
  F__law_urn : Fun K "_law_urn" "_law_urn" s__law_urn f__law_urn d__law_urn
  b__law_urn : Binds K d__law_urn ["_law_script", "_law_turn"] []
  g__law_urn : mg "_law_urn" = some (.ref f__law_urn)
  f__law_drawn : Addr
  d__law_drawn : FuncData
  F__law_drawn : Fun K "_law_drawn" "_law_drawn" s__law_drawn f__law_drawn d__law_drawn
  b__law_drawn : Binds K d__law_drawn ["_law_urn_here", "_law_many"] []
  g__law_drawn : mg "_law_drawn" = some (.ref f__law_drawn)
  f__law_one_of : Addr
  d__law_one_of : FuncData
  F__law_one_of : Fun K "_law_one_of" "_law_one_of" s__law_one_of f__law_one_of d__law_one_of
  b__law_one_of : Binds K d__law_one_of ["_law_urn_here", "_law_items"] []
  g__law_one_of : mg "_law_one_of" = some (.ref f__law_one_of)
  f__law_divisor : Addr
  d__law_divisor : FuncData
  F__law_divisor : Fun K "_law_divisor" "_law_divisor" s__law_divisor f__law_divisor d__law_divisor
  b__law_divisor : Binds K d__law_divisor ["_law_one", "_law_other"] []
  g__law_divisor : mg "_law_divisor" = some (.ref f__law_divisor)
  f__law_lowest : Addr
  d__law_lowest : FuncData
  F__law_lowest : Fun K "_law_lowest" "_law_lowest" s__law_lowest f__law_lowest d__law_lowest
  b__law_lowest : Binds K d__law_lowest ["_law_top", "_law_bottom"] []
  g__law_lowest : mg "_law_lowest" = some (.ref f__law_lowest)
  f__law_power : Addr
  d__law_power : FuncData
  F__law_power : Fun K "_law_power" "_law_power" s__law_power f__law_power d__law_power
  b__law_power : Binds K d__law_power ["_law_base", "_law_times"] []
  g__law_power : mg "_law_power" = some (.ref f__law_power)
  f__law_whole : Addr
  d__law_whole : FuncData
  F__law_whole : Fun K "_law_whole" "_law_whole" s__law_whole f__law_whole d__law_whole
  b__law_whole : Binds K d__law_whole ["_law_urn_here"] []
  g__law_whole : mg "_law_whole" = some (.ref f__law_whole)
  f__law_due : Addr
  d__law_due : FuncData
  F__law_due : Fun K "_law_due" "_law_due" s__law_due f__law_due d__law_due
  b__law_due : Binds K d__law_due ["_law_sign", "_law_one", "_law_other"] []
  g__law_due : mg "_law_due" = some (.ref f__law_due)
  f__law_worked : Addr
  d__law_worked : FuncData
  F__law_worked : Fun K "_law_worked" "_law_worked" s__law_worked f__law_worked d__law_worked
  b__law_worked : Binds K d__law_worked ["_law_sign", "_law_one", "_law_other"] []
  g__law_worked : mg "_law_worked" = some (.ref f__law_worked)
  f__law_chain_right : Addr
  d__law_chain_right : FuncData
  F__law_chain_right : Fun K "_law_chain_right" "_law_chain_right" s__law_chain_right f__law_chain_right d__law_chain_right
  b__law_chain_right : Binds K d__law_chain_right ["_law_urn_here"] []
  g__law_chain_right : mg "_law_chain_right" = some (.ref f__law_chain_right)
  f__law_rules_right : Addr
  d__law_rules_right : FuncData
  F__law_rules_right : Fun K "_law_rules_right" "_law_rules_right" s__law_rules_right f__law_rules_right d__law_rules_right
  b__law_rules_right : Binds K d__law_rules_right ["_law_urn_here"] []
  g__law_rules_right : mg "_law_rules_right" = some (.ref f__law_rules_right)
  f_law : Addr
  d_law : FuncData
  F_law : Fun K "law" "law" s_law f_law d_law
  b_law : Binds K d_law ["_law_script"] []
  g_law : mg "law" = some (.ref f_law)
  f_Ratio___init__ : Addr
  d_Ratio___init__ : FuncData
  F_Ratio___init__ : FunD K "__init__" "Ratio.__init__" (defArgs s_Ratio___init__) (defBody s_Ratio___init__) (defScope s_Ratio___init__) [.int 1] [] f_Ratio___init__ d_Ratio___init__
  w_Ratio___init__ : List Value
  v_Ratio___init___2 : Vals [.int 1] w_Ratio___init__
  b_Ratio___init___2 : Binds K d_Ratio___init__ ["self", "top", "bottom"] w_Ratio___init__
  b_Ratio___init__ : Binds K d_Ratio___init__ ["self", "top", "bottom"] []
  f_Ratio_top : Addr
  d_Ratio_top : FuncData
  F_Ratio_top : Fun K "top" "Ratio.top" s_Ratio_top f_Ratio_top d_Ratio_top
  b_Ratio_top : Binds K d_Ratio_top ["self"] []
  pa_Ratio_top : Addr
  p_Ratio_top : PropOf K C_Ratio "top" pa_Ratio_top f_Ratio_top
  f_Ratio_bottom : Addr
  d_Ratio_bottom : FuncData
  F_Ratio_bottom : Fun K "bottom" "Ratio.bottom" s_Ratio_bottom f_Ratio_bottom d_Ratio_bottom
  b_Ratio_bottom : Binds K d_Ratio_bottom ["self"] []
  pa_Ratio_bottom : Addr
  p_Ratio_bottom : PropOf K C_Ratio "bottom" pa_Ratio_bottom f_Ratio_bottom
  f_Ratio___add__ : Addr
  d_Ratio___add__ : FuncData
  F_Ratio___add__ : Fun K "__add__" "Ratio.__add__" s_Ratio___add__ f_Ratio___add__ d_Ratio___add__
  b_Ratio___add__ : Binds K d_Ratio___add__ ["self", "other"] []
  o_Ratio___add__ : L3.Own K C_Ratio "__add__" f_Ratio___add__
  f_Ratio___sub__ : Addr
  d_Ratio___sub__ : FuncData
  F_Ratio___sub__ : Fun K "__sub__" "Ratio.__sub__" s_Ratio___sub__ f_Ratio___sub__ d_Ratio___sub__
  b_Ratio___sub__ : Binds K d_Ratio___sub__ ["self", "other"] []
  o_Ratio___sub__ : L3.Own K C_Ratio "__sub__" f_Ratio___sub__
  f_Ratio___mul__ : Addr
  d_Ratio___mul__ : FuncData
  F_Ratio___mul__ : Fun K "__mul__" "Ratio.__mul__" s_Ratio___mul__ f_Ratio___mul__ d_Ratio___mul__
  b_Ratio___mul__ : Binds K d_Ratio___mul__ ["self", "other"] []
  o_Ratio___mul__ : L3.Own K C_Ratio "__mul__" f_Ratio___mul__
  f_Ratio___neg__ : Addr
  d_Ratio___neg__ : FuncData
  F_Ratio___neg__ : Fun K "__neg__" "Ratio.__neg__" s_Ratio___neg__ f_Ratio___neg__ d_Ratio___neg__
  b_Ratio___neg__ : Binds K d_Ratio___neg__ ["self"] []
  o_Ratio___neg__ : L3.Own K C_Ratio "__neg__" f_Ratio___neg__
  f_Ratio___abs__ : Addr
  d_Ratio___abs__ : FuncData
  F_Ratio___abs__ : Fun K "__abs__" "Ratio.__abs__" s_Ratio___abs__ f_Ratio___abs__ d_Ratio___abs__
  b_Ratio___abs__ : Binds K d_Ratio___abs__ ["self"] []
  o_Ratio___abs__ : L3.Own K C_Ratio "__abs__" f_Ratio___abs__
  f_Ratio___bool__ : Addr
  d_Ratio___bool__ : FuncData
  F_Ratio___bool__ : Fun K "__bool__" "Ratio.__bool__" s_Ratio___bool__ f_Ratio___bool__ d_Ratio___bool__
  b_Ratio___bool__ : Binds K d_Ratio___bool__ ["self"] []
  o_Ratio___bool__ : L3.Own K C_Ratio "__bool__" f_Ratio___bool__
  f_Ratio___eq__ : Addr
  d_Ratio___eq__ : FuncData
  F_Ratio___eq__ : Fun K "__eq__" "Ratio.__eq__" s_Ratio___eq__ f_Ratio___eq__ d_Ratio___eq__
  b_Ratio___eq__ : Binds K d_Ratio___eq__ ["self", "other"] []
  o_Ratio___eq__ : L3.Own K C_Ratio "__eq__" f_Ratio___eq__
  f_Ratio_over : Addr
  d_Ratio_over : FuncData
  F_Ratio_over : Fun K "over" "Ratio.over" s_Ratio_over f_Ratio_over d_Ratio_over
  b_Ratio_over : Binds K d_Ratio_over ["self", "other"] []
  m_Ratio_over : Meth K C_Ratio "over" f_Ratio_over
  f_Ratio_is_less : Addr
  d_Ratio_is_less : FuncData
  F_Ratio_is_less : Fun K "is_less" "Ratio.is_less" s_Ratio_is_less f_Ratio_is_less d_Ratio_is_less
  b_Ratio_is_less : Binds K d_Ratio_is_less ["self", "other"] []
  m_Ratio_is_less : Meth K C_Ratio "is_less" f_Ratio_is_less
  mk_Ratio : Mk K C_Ratio f_Ratio___init__
  ct_FEWEST_BITS : Tok
  c_FEWEST_BITS : mg "FEWEST_BITS" = some (.int 3 ct_FEWEST_BITS)
  ct_MOST_BITS : Tok
  c_MOST_BITS : mg "MOST_BITS" = some (.int 4 ct_MOST_BITS)
  ct_MAX_FIGURES : Tok
  c_MAX_FIGURES : mg "MAX_FIGURES" = some (.int 60 ct_MAX_FIGURES)
  ct_MAX_DIGITS : Tok
  c_MAX_DIGITS : mg "MAX_DIGITS" = some (.int 2000 ct_MAX_DIGITS)
  n_isinstance : mg "isinstance" = none
  n_len : mg "len" = none
  n_str : mg "str" = none
  n_abs : mg "abs" = none
  n_int : mg "int" = none
  n_bool : mg "bool" = none
  n_max : mg "max" = none
  n_min : mg "min" = none
  n_range : mg "range" = none
  n_ZeroDivisionError : mg "ZeroDivisionError" = none
  g_gcd : mg "gcd" = some (.builtin "math.gcd")
  sf_Ratio : PySem.W.selfFirst K C_Ratio = true
  dg : PySem.W.nsIn K cStatics "sys.int_max_str_digits" = some none
  zz : PySem.W.exmOne K (.type "ZeroDivisionError") (.type "ZeroDivisionError") = some true
  zt : PySem.W.exmOne K (.ref C_TooMany) (.type "ZeroDivisionError") = some false
  zr : PySem.W.exmOne K (.ref C_InvalidRatio) (.type "ZeroDivisionError") = some false
theorem mkT {K : PySem.W.Frag} {h : Heap} {mg : Str → Option Value} (X : K.In h) (G : h.Ns mainGlobals mg)
    {C_InvalidNumber f_InvalidNumber___init__ : Addr}
    {od_InvalidNumber___init__ an_InvalidNumber___init__ : Option Addr} {sl_InvalidNumber___init__ : Array (Option Value)} {oc_InvalidNumber___init__ dc_InvalidNumber___init__ pm_InvalidNumber___init__ cd_InvalidNumber___init__ ct_InvalidNumber___init__ : Value}
    {C_TooMany f_TooMany___init__ : Addr}
    {od_TooMany___init__ an_TooMany___init__ : Option Addr} {sl_TooMany___init__ : Array (Option Value)} {oc_TooMany___init__ dc_TooMany___init__ pm_TooMany___init__ cd_TooMany___init__ ct_TooMany___init__ : Value}
    {C_InvalidRatio : Addr}
    {C_Ratio : Addr}
    {f_is_longer : Addr}
    {od_is_longer an_is_longer : Option Addr} {sl_is_longer : Array (Option Value)} {oc_is_longer kV_is_longer dc_is_longer pm_is_longer cd_is_longer ct_is_longer : Value}
    {f_is_plain_int : Addr}
    {od_is_plain_int an_is_plain_int : Option Addr} {sl_is_plain_int : Array (Option Value)} {oc_is_plain_int kV_is_plain_int dc_is_plain_int pm_is_plain_int cd_is_plain_int ct_is_plain_int : Value}
    {f_lowest_terms : Addr}
    {od_lowest_terms an_lowest_terms : Option Addr} {sl_lowest_terms : Array (Option Value)} {oc_lowest_terms kV_lowest_terms dc_lowest_terms pm_lowest_terms cd_lowest_terms ct_lowest_terms : Value}
    {f_ratio_of : Addr}
    {od_ratio_of an_ratio_of : Option Addr} {sl_ratio_of : Array (Option Value)} {oc_ratio_of kV_ratio_of dc_ratio_of pm_ratio_of cd_ratio_of ct_ratio_of : Value}
    {f__law_urn : Addr}
    {od__law_urn an__law_urn : Option Addr} {sl__law_urn : Array (Option Value)} {oc__law_urn kV__law_urn dc__law_urn pm__law_urn cd__law_urn ct__law_urn : Value}
    {f__law_drawn : Addr}
    {od__law_drawn an__law_drawn : Option Addr} {sl__law_drawn : Array (Option Value)} {oc__law_drawn kV__law_drawn dc__law_drawn pm__law_drawn cd__law_drawn ct__law_drawn : Value}
    {f__law_one_of : Addr}
    {od__law_one_of an__law_one_of : Option Addr} {sl__law_one_of : Array (Option Value)} {oc__law_one_of kV__law_one_of dc__law_one_of pm__law_one_of cd__law_one_of ct__law_one_of : Value}
    {f__law_divisor : Addr}
    {od__law_divisor an__law_divisor : Option Addr} {sl__law_divisor : Array (Option Value)} {oc__law_divisor kV__law_divisor dc__law_divisor pm__law_divisor cd__law_divisor ct__law_divisor : Value}
    {f__law_lowest : Addr}
    {od__law_lowest an__law_lowest : Option Addr} {sl__law_lowest : Array (Option Value)} {oc__law_lowest kV__law_lowest dc__law_lowest pm__law_lowest cd__law_lowest ct__law_lowest : Value}
    {f__law_power : Addr}
    {od__law_power an__law_power : Option Addr} {sl__law_power : Array (Option Value)} {oc__law_power kV__law_power dc__law_power pm__law_power cd__law_power ct__law_power : Value}
    {f__law_whole : Addr}
    {od__law_whole an__law_whole : Option Addr} {sl__law_whole : Array (Option Value)} {oc__law_whole kV__law_whole dc__law_whole pm__law_whole cd__law_whole ct__law_whole : Value}
    {f__law_due : Addr}
    {od__law_due an__law_due : Option Addr} {sl__law_due : Array (Option Value)} {oc__law_due kV__law_due dc__law_due pm__law_due cd__law_due ct__law_due : Value}
    {f__law_worked : Addr}
    {od__law_worked an__law_worked : Option Addr} {sl__law_worked : Array (Option Value)} {oc__law_worked kV__law_worked dc__law_worked pm__law_worked cd__law_worked ct__law_worked : Value}
    {f__law_chain_right : Addr}
    {od__law_chain_right an__law_chain_right : Option Addr} {sl__law_chain_right : Array (Option Value)} {oc__law_chain_right kV__law_chain_right dc__law_chain_right pm__law_chain_right cd__law_chain_right ct__law_chain_right : Value}
    {f__law_rules_right : Addr}
    {od__law_rules_right an__law_rules_right : Option Addr} {sl__law_rules_right : Array (Option Value)} {oc__law_rules_right kV__law_rules_right dc__law_rules_right pm__law_rules_right cd__law_rules_right ct__law_rules_right : Value}
    {f_law : Addr}
    {od_law an_law : Option Addr} {sl_law : Array (Option Value)} {oc_law kV_law dc_law pm_law cd_law ct_law : Value}
    {f_Ratio___init__ : Addr}
    {od_Ratio___init__ an_Ratio___init__ : Option Addr} {sl_Ratio___init__ : Array (Option Value)} {oc_Ratio___init__ kV_Ratio___init__ dc_Ratio___init__ pm_Ratio___init__ cd_Ratio___init__ ct_Ratio___init__ : Value}
    {dT_Ratio___init__ : Addr}
    {do_Ratio___init__ : Value} {dd_Ratio___init__ : Option Addr} {ds_Ratio___init__ : Array (Option Value)} {dn_Ratio___init__ : Nat} {dt_Ratio___init__ : Tok}
    {f_Ratio_top : Addr}
    {od_Ratio_top an_Ratio_top : Option Addr} {sl_Ratio_top : Array (Option Value)} {oc_Ratio_top kV_Ratio_top dc_Ratio_top pm_Ratio_top cd_Ratio_top ct_Ratio_top : Value}
    {pa_Ratio_top : Addr} {pr_Ratio_top : List Value}
    {f_Ratio_bottom : Addr}
    {od_Ratio_bottom an_Ratio_bottom : Option Addr} {sl_Ratio_bottom : Array (Option Value)} {oc_Ratio_bottom kV_Ratio_bottom dc_Ratio_bottom pm_Ratio_bottom cd_Ratio_bottom ct_Ratio_bottom : Value}
    {pa_Ratio_bottom : Addr} {pr_Ratio_bottom : List Value}
    {f_Ratio___add__ : Addr}
    {od_Ratio___add__ an_Ratio___add__ : Option Addr} {sl_Ratio___add__ : Array (Option Value)} {oc_Ratio___add__ kV_Ratio___add__ dc_Ratio___add__ pm_Ratio___add__ cd_Ratio___add__ ct_Ratio___add__ : Value}
    {f_Ratio___sub__ : Addr}
    {od_Ratio___sub__ an_Ratio___sub__ : Option Addr} {sl_Ratio___sub__ : Array (Option Value)} {oc_Ratio___sub__ kV_Ratio___sub__ dc_Ratio___sub__ pm_Ratio___sub__ cd_Ratio___sub__ ct_Ratio___sub__ : Value}
    {f_Ratio___mul__ : Addr}
    {od_Ratio___mul__ an_Ratio___mul__ : Option Addr} {sl_Ratio___mul__ : Array (Option Value)} {oc_Ratio___mul__ kV_Ratio___mul__ dc_Ratio___mul__ pm_Ratio___mul__ cd_Ratio___mul__ ct_Ratio___mul__ : Value}
    {f_Ratio___neg__ : Addr}
    {od_Ratio___neg__ an_Ratio___neg__ : Option Addr} {sl_Ratio___neg__ : Array (Option Value)} {oc_Ratio___neg__ kV_Ratio___neg__ dc_Ratio___neg__ pm_Ratio___neg__ cd_Ratio___neg__ ct_Ratio___neg__ : Value}
    {f_Ratio___abs__ : Addr}
    {od_Ratio___abs__ an_Ratio___abs__ : Option Addr} {sl_Ratio___abs__ : Array (Option Value)} {oc_Ratio___abs__ kV_Ratio___abs__ dc_Ratio___abs__ pm_Ratio___abs__ cd_Ratio___abs__ ct_Ratio___abs__ : Value}
    {f_Ratio___bool__ : Addr}
    {od_Ratio___bool__ an_Ratio___bool__ : Option Addr} {sl_Ratio___bool__ : Array (Option Value)} {oc_Ratio___bool__ kV_Ratio___bool__ dc_Ratio___bool__ pm_Ratio___bool__ cd_Ratio___bool__ ct_Ratio___bool__ : Value}
    {f_Ratio___eq__ : Addr}
    {od_Ratio___eq__ an_Ratio___eq__ : Option Addr} {sl_Ratio___eq__ : Array (Option Value)} {oc_Ratio___eq__ kV_Ratio___eq__ dc_Ratio___eq__ pm_Ratio___eq__ cd_Ratio___eq__ ct_Ratio___eq__ : Value}
    {f_Ratio_over : Addr}
    {od_Ratio_over an_Ratio_over : Option Addr} {sl_Ratio_over : Array (Option Value)} {oc_Ratio_over kV_Ratio_over dc_Ratio_over pm_Ratio_over cd_Ratio_over ct_Ratio_over : Value}
    {f_Ratio_is_less : Addr}
    {od_Ratio_is_less an_Ratio_is_less : Option Addr} {sl_Ratio_is_less : Array (Option Value)} {oc_Ratio_is_less kV_Ratio_is_less dc_Ratio_is_less pm_Ratio_is_less cd_Ratio_is_less ct_Ratio_is_less : Value}
    {ct0_FEWEST_BITS : Tok}
    {ct0_MOST_BITS : Tok}
    {ct0_MAX_FIGURES : Tok}
    {ct0_MAX_DIGITS : Tok}
    (xg_InvalidNumber : PySem.W.nsIn K mainGlobals "InvalidNumber" = some (some (.ref C_InvalidNumber)))
    (xi_InvalidNumber : PySem.W.excInitIn K C_InvalidNumber [.type "IndexError", .type "LookupError", .type "Exception", .type "BaseException", .type "object"] "IndexError.__new__" = true)
    (xo_InvalidNumber : PySem.W.excOver K C_InvalidNumber [.type "IndexError", .type "LookupError", .type "Exception", .type "BaseException", .type "object"] = true)
    (x1_InvalidNumber : PySem.W.findIn K (.ref C_InvalidNumber) "__setattr__" = some (some (.builtin "object.__setattr__")))
    (x2_InvalidNumber : PySem.W.findIn K (.ref C_InvalidNumber) "__getattribute__" = some (some (.builtin "BaseException.__getattribute__")))
    (x3_InvalidNumber : PySem.W.findIn K (.ref C_InvalidNumber) "__getattr__" = some none)
    (x4_InvalidNumber : PySem.W.findIn K (.ref C_InvalidNumber) "given" = some none)
    (x5_InvalidNumber : PySem.W.findIn K (.ref C_InvalidNumber) "__init__" = some (some (.ref f_InvalidNumber___init__)))
    (x6_InvalidNumber : PySem.W.typeIn K (.ref f_InvalidNumber___init__) = some (.type "function"))
    (x7_InvalidNumber : PySem.W.keepIn K (.ref C_InvalidNumber) = true)
    (x8_InvalidNumber : PySem.W.subIn K (.ref C_InvalidNumber) (.type "BaseException") = some true)
    (x9_InvalidNumber : PySem.W.typeIn K (.ref C_InvalidNumber) = some (.type "type"))
    (xa_InvalidNumber : PySem.W.hasDictIn K C_InvalidNumber = true)
    (xb_InvalidNumber : PySem.W.isClsIn K C_InvalidNumber = true)
    (xc_InvalidNumber : PySem.W.subIn K (.ref C_InvalidNumber) (.ref C_InvalidNumber) = some true)
    (xl_InvalidNumber : K.lookup f_InvalidNumber___init__ = some ⟨oc_InvalidNumber___init__, od_InvalidNumber___init__, .func (PySem.W.fnOf "__init__" "InvalidNumber.__init__" (PySem.XInvalidNumber.iA ⟨12, 17, 12, 21⟩ ⟨12, 23, 12, 28⟩) (PySem.XInvalidNumber.iB ⟨13, 8, 13, 12⟩ ⟨13, 8, 13, 18⟩ ⟨13, 21, 13, 26⟩ ⟨13, 8, 13, 26⟩) PySem.XInvalidNumber.iS .none .none dc_InvalidNumber___init__ pm_InvalidNumber___init__ an_InvalidNumber___init__ cd_InvalidNumber___init__ ct_InvalidNumber___init__), sl_InvalidNumber___init__⟩)
    (xd_InvalidNumber : PySem.W.codeIn K cd_InvalidNumber___init__ "InvalidNumber.__init__" = true)
    (xg_TooMany : PySem.W.nsIn K mainGlobals "TooMany" = some (some (.ref C_TooMany)))
    (xi_TooMany : PySem.W.excInitIn K C_TooMany [.type "OverflowError", .type "ArithmeticError", .type "Exception", .type "BaseException", .type "object"] "OverflowError.__new__" = true)
    (xo_TooMany : PySem.W.excOver K C_TooMany [.type "OverflowError", .type "ArithmeticError", .type "Exception", .type "BaseException", .type "object"] = true)
    (x1_TooMany : PySem.W.findIn K (.ref C_TooMany) "__setattr__" = some (some (.builtin "object.__setattr__")))
    (x2_TooMany : PySem.W.findIn K (.ref C_TooMany) "__getattribute__" = some (some (.builtin "BaseException.__getattribute__")))
    (x3_TooMany : PySem.W.findIn K (.ref C_TooMany) "__getattr__" = some none)
    (x4_TooMany : PySem.W.findIn K (.ref C_TooMany) "limit" = some none)
    (x5_TooMany : PySem.W.findIn K (.ref C_TooMany) "__init__" = some (some (.ref f_TooMany___init__)))
    (x6_TooMany : PySem.W.typeIn K (.ref f_TooMany___init__) = some (.type "function"))
    (x7_TooMany : PySem.W.keepIn K (.ref C_TooMany) = true)
    (x8_TooMany : PySem.W.subIn K (.ref C_TooMany) (.type "BaseException") = some true)
    (x9_TooMany : PySem.W.typeIn K (.ref C_TooMany) = some (.type "type"))
    (xa_TooMany : PySem.W.hasDictIn K C_TooMany = true)
    (xb_TooMany : PySem.W.isClsIn K C_TooMany = true)
    (xc_TooMany : PySem.W.subIn K (.ref C_TooMany) (.ref C_TooMany) = some true)
    (xl_TooMany : K.lookup f_TooMany___init__ = some ⟨oc_TooMany___init__, od_TooMany___init__, .func (PySem.W.fnOf "__init__" "TooMany.__init__" (PySem.XTooMany.iA ⟨16, 17, 16, 21⟩ ⟨16, 23, 16, 28⟩) (PySem.XTooMany.iB ⟨17, 8, 17, 12⟩ ⟨17, 8, 17, 18⟩ ⟨17, 21, 17, 26⟩ ⟨17, 8, 17, 26⟩) PySem.XTooMany.iS .none .none dc_TooMany___init__ pm_TooMany___init__ an_TooMany___init__ cd_TooMany___init__ ct_TooMany___init__), sl_TooMany___init__⟩)
    (xd_TooMany : PySem.W.codeIn K cd_TooMany___init__ "TooMany.__init__" = true)
    (xg_InvalidRatio : PySem.W.nsIn K mainGlobals "InvalidRatio" = some (some (.ref C_InvalidRatio)))
    (xe_InvalidRatio : PySem.W.excIn K C_InvalidRatio [.type "ValueError", .type "Exception", .type "BaseException", .type "object"] "ValueError.__new__" = true)
    (x7_InvalidRatio : PySem.W.keepIn K (.ref C_InvalidRatio) = true)
    (x8_InvalidRatio : PySem.W.subIn K (.ref C_InvalidRatio) (.type "BaseException") = some true)
    (x9_InvalidRatio : PySem.W.typeIn K (.ref C_InvalidRatio) = some (.type "type"))
    (xb_InvalidRatio : PySem.W.isClsIn K C_InvalidRatio = true)
    (sub_InvalidRatio_TooMany : PySem.W.subIn K (.ref C_InvalidRatio) (.ref C_TooMany) = some false)
    (sub_InvalidRatio_InvalidRatio : PySem.W.subIn K (.ref C_InvalidRatio) (.ref C_InvalidRatio) = some true)
    (ac_Ratio : PySem.W.nsIn K mainGlobals "Ratio" = some (some (.ref C_Ratio)))
    (pg_Ratio : PySem.W.plainGet K C_Ratio Str.empty = true)
    (hd_Ratio : PySem.W.hasDictIn K C_Ratio = true)
    (po_Ratio : PySem.W.plainOver K C_Ratio = true)
    (sa_Ratio : PySem.W.findIn K (.ref C_Ratio) "__setattr__" = some (some (.builtin "object.__setattr__")))
    (nA_Ratio__top : PySem.W.findIn K (.ref C_Ratio) "_top" = some none)
    (nA_Ratio__bottom : PySem.W.findIn K (.ref C_Ratio) "_bottom" = some none)
    (t1_Ratio : PySem.W.findIn K (.ref C_Ratio) "__class__" = some (some (.builtin "object.__class__")))
    (t2_Ratio : PySem.W.specialIn K (.builtin "object.__class__") "__get__" = some (some (.builtin "getset_descriptor.__get__")))
    (t3_Ratio : PySem.W.takesIn K (.builtin "object.__class__") = some true)
    (t4_Ratio : PySem.W.mroIn K C_Ratio (.type "object") = some true)
    (ne0_Ratio : PySem.W.findIn K (.ref C_Ratio) "__ne__" = some (some (.builtin "object.__ne__")))
    (kit_Ratio_NoneType : PySem.W.kitOne K (.type "NoneType") (.ref C_Ratio) = some false)
    (nf_Ratio_NoneType : PySem.W.notFirst K C_Ratio (.type "NoneType") = true)
    (itk_Ratio_NoneType : PySem.W.kitOne K (.ref C_Ratio) (.type "NoneType") = some false)
    (kit_Ratio_bool : PySem.W.kitOne K (.type "bool") (.ref C_Ratio) = some false)
    (nf_Ratio_bool : PySem.W.notFirst K C_Ratio (.type "bool") = true)
    (itk_Ratio_bool : PySem.W.kitOne K (.ref C_Ratio) (.type "bool") = some false)
    (kit_Ratio_int : PySem.W.kitOne K (.type "int") (.ref C_Ratio) = some false)
    (nf_Ratio_int : PySem.W.notFirst K C_Ratio (.type "int") = true)
    (itk_Ratio_int : PySem.W.kitOne K (.ref C_Ratio) (.type "int") = some false)
    (kit_Ratio_str : PySem.W.kitOne K (.type "str") (.ref C_Ratio) = some false)
    (nf_Ratio_str : PySem.W.notFirst K C_Ratio (.type "str") = true)
    (itk_Ratio_str : PySem.W.kitOne K (.ref C_Ratio) (.type "str") = some false)
    (kit_Ratio_list : PySem.W.kitOne K (.type "list") (.ref C_Ratio) = some false)
    (nf_Ratio_list : PySem.W.notFirst K C_Ratio (.type "list") = true)
    (itk_Ratio_list : PySem.W.kitOne K (.ref C_Ratio) (.type "list") = some false)
    (kit_Ratio_tuple : PySem.W.kitOne K (.type "tuple") (.ref C_Ratio) = some false)
    (nf_Ratio_tuple : PySem.W.notFirst K C_Ratio (.type "tuple") = true)
    (itk_Ratio_tuple : PySem.W.kitOne K (.ref C_Ratio) (.type "tuple") = some false)
    (kit_Ratio_dict : PySem.W.kitOne K (.type "dict") (.ref C_Ratio) = some false)
    (nf_Ratio_dict : PySem.W.notFirst K C_Ratio (.type "dict") = true)
    (itk_Ratio_dict : PySem.W.kitOne K (.ref C_Ratio) (.type "dict") = some false)
    (kit_Ratio : PySem.W.kitOne K (.ref C_Ratio) (.ref C_Ratio) = some true)
    (nf_Ratio : PySem.W.notFirst K C_Ratio (.ref C_Ratio) = true)
    (a_is_longer : PySem.W.nsIn K mainGlobals "is_longer" = some (some (.ref f_is_longer)))
    (l_is_longer : K.lookup f_is_longer = some ⟨oc_is_longer, od_is_longer, .func (PySem.W.fnOf "is_longer" "is_longer" (defArgs s_is_longer) (defBody s_is_longer) (defScope s_is_longer) .none kV_is_longer dc_is_longer pm_is_longer an_is_longer cd_is_longer ct_is_longer), sl_is_longer⟩)
    (c_is_longer : PySem.W.codeIn K cd_is_longer "is_longer" = true)
    (k_is_longer : PySem.W.keepIn K (.ref f_is_longer) = true)
    (a_is_plain_int : PySem.W.nsIn K mainGlobals "is_plain_int" = some (some (.ref f_is_plain_int)))
    (l_is_plain_int : K.lookup f_is_plain_int = some ⟨oc_is_plain_int, od_is_plain_int, .func (PySem.W.fnOf "is_plain_int" "is_plain_int" (defArgs s_is_plain_int) (defBody s_is_plain_int) (defScope s_is_plain_int) .none kV_is_plain_int dc_is_plain_int pm_is_plain_int an_is_plain_int cd_is_plain_int ct_is_plain_int), sl_is_plain_int⟩)
    (c_is_plain_int : PySem.W.codeIn K cd_is_plain_int "is_plain_int" = true)
    (k_is_plain_int : PySem.W.keepIn K (.ref f_is_plain_int) = true)
    (a_lowest_terms : PySem.W.nsIn K mainGlobals "lowest_terms" = some (some (.ref f_lowest_terms)))
    (l_lowest_terms : K.lookup f_lowest_terms = some ⟨oc_lowest_terms, od_lowest_terms, .func (PySem.W.fnOf "lowest_terms" "lowest_terms" (defArgs s_lowest_terms) (defBody s_lowest_terms) (defScope s_lowest_terms) .none kV_lowest_terms dc_lowest_terms pm_lowest_terms an_lowest_terms cd_lowest_terms ct_lowest_terms), sl_lowest_terms⟩)
    (c_lowest_terms : PySem.W.codeIn K cd_lowest_terms "lowest_terms" = true)
    (k_lowest_terms : PySem.W.keepIn K (.ref f_lowest_terms) = true)
    (a_ratio_of : PySem.W.nsIn K mainGlobals "ratio_of" = some (some (.ref f_ratio_of)))
    (l_ratio_of : K.lookup f_ratio_of = some ⟨oc_ratio_of, od_ratio_of, .func (PySem.W.fnOf "ratio_of" "ratio_of" (defArgs s_ratio_of) (defBody s_ratio_of) (defScope s_ratio_of) .none kV_ratio_of dc_ratio_of pm_ratio_of an_ratio_of cd_ratio_of ct_ratio_of), sl_ratio_of⟩)
    (c_ratio_of : PySem.W.codeIn K cd_ratio_of "ratio_of" = true)
    (k_ratio_of : PySem.W.keepIn K (.ref f_ratio_of) = true)
    (a__law_urn : PySem.W.nsIn K mainGlobals "_law_urn" = some (some (.ref f__law_urn)))
    (l__law_urn : K.lookup f__law_urn = some ⟨oc__law_urn, od__law_urn, .func (PySem.W.fnOf "_law_urn" "_law_urn" (defArgs s__law_urn) (defBody s__law_urn) (defScope s__law_urn) .none kV__law_urn dc__law_urn pm__law_urn an__law_urn cd__law_urn ct__law_urn), sl__law_urn⟩)
    (c__law_urn : PySem.W.codeIn K cd__law_urn "_law_urn" = true)
    (k__law_urn : PySem.W.keepIn K (.ref f__law_urn) = true)
    (a__law_drawn : PySem.W.nsIn K mainGlobals "_law_drawn" = some (some (.ref f__law_drawn)))
    (l__law_drawn : K.lookup f__law_drawn = some ⟨oc__law_drawn, od__law_drawn, .func (PySem.W.fnOf "_law_drawn" "_law_drawn" (defArgs s__law_drawn) (defBody s__law_drawn) (defScope s__law_drawn) .none kV__law_drawn dc__law_drawn pm__law_drawn an__law_drawn cd__law_drawn ct__law_drawn), sl__law_drawn⟩)
    (c__law_drawn : PySem.W.codeIn K cd__law_drawn "_law_drawn" = true)
    (k__law_drawn : PySem.W.keepIn K (.ref f__law_drawn) = true)
    (a__law_one_of : PySem.W.nsIn K mainGlobals "_law_one_of" = some (some (.ref f__law_one_of)))
    (l__law_one_of : K.lookup f__law_one_of = some ⟨oc__law_one_of, od__law_one_of, .func (PySem.W.fnOf "_law_one_of" "_law_one_of" (defArgs s__law_one_of) (defBody s__law_one_of) (defScope s__law_one_of) .none kV__law_one_of dc__law_one_of pm__law_one_of an__law_one_of cd__law_one_of ct__law_one_of), sl__law_one_of⟩)
    (c__law_one_of : PySem.W.codeIn K cd__law_one_of "_law_one_of" = true)
    (k__law_one_of : PySem.W.keepIn K (.ref f__law_one_of) = true)
    (a__law_divisor : PySem.W.nsIn K mainGlobals "_law_divisor" = some (some (.ref f__law_divisor)))
    (l__law_divisor : K.lookup f__law_divisor = some ⟨oc__law_divisor, od__law_divisor, .func (PySem.W.fnOf "_law_divisor" "_law_divisor" (defArgs s__law_divisor) (defBody s__law_divisor) (defScope s__law_divisor) .none kV__law_divisor dc__law_divisor pm__law_divisor an__law_divisor cd__law_divisor ct__law_divisor), sl__law_divisor⟩)
    (c__law_divisor : PySem.W.codeIn K cd__law_divisor "_law_divisor" = true)
    (k__law_divisor : PySem.W.keepIn K (.ref f__law_divisor) = true)
    (a__law_lowest : PySem.W.nsIn K mainGlobals "_law_lowest" = some (some (.ref f__law_lowest)))
    (l__law_lowest : K.lookup f__law_lowest = some ⟨oc__law_lowest, od__law_lowest, .func (PySem.W.fnOf "_law_lowest" "_law_lowest" (defArgs s__law_lowest) (defBody s__law_lowest) (defScope s__law_lowest) .none kV__law_lowest dc__law_lowest pm__law_lowest an__law_lowest cd__law_lowest ct__law_lowest), sl__law_lowest⟩)
    (c__law_lowest : PySem.W.codeIn K cd__law_lowest "_law_lowest" = true)
    (k__law_lowest : PySem.W.keepIn K (.ref f__law_lowest) = true)
    (a__law_power : PySem.W.nsIn K mainGlobals "_law_power" = some (some (.ref f__law_power)))
    (l__law_power : K.lookup f__law_power = some ⟨oc__law_power, od__law_power, .func (PySem.W.fnOf "_law_power" "_law_power" (defArgs s__law_power) (defBody s__law_power) (defScope s__law_power) .none kV__law_power dc__law_power pm__law_power an__law_power cd__law_power ct__law_power), sl__law_power⟩)
    (c__law_power : PySem.W.codeIn K cd__law_power "_law_power" = true)
    (k__law_power : PySem.W.keepIn K (.ref f__law_power) = true)
    (a__law_whole : PySem.W.nsIn K mainGlobals "_law_whole" = some (some (.ref f__law_whole)))
    (l__law_whole : K.lookup f__law_whole = some ⟨oc__law_whole, od__law_whole, .func (PySem.W.fnOf "_law_whole" "_law_whole" (defArgs s__law_whole) (defBody s__law_whole) (defScope s__law_whole) .none kV__law_whole dc__law_whole pm__law_whole an__law_whole cd__law_whole ct__law_whole), sl__law_whole⟩)
    (c__law_whole : PySem.W.codeIn K cd__law_whole "_law_whole" = true)
    (k__law_whole : PySem.W.keepIn K (.ref f__law_whole) = true)
    (a__law_due : PySem.W.nsIn K mainGlobals "_law_due" = some (some (.ref f__law_due)))
    (l__law_due : K.lookup f__law_due = some ⟨oc__law_due, od__law_due, .func (PySem.W.fnOf "_law_due" "_law_due" (defArgs s__law_due) (defBody s__law_due) (defScope s__law_due) .none kV__law_due dc__law_due pm__law_due an__law_due cd__law_due ct__law_due), sl__law_due⟩)
    (c__law_due : PySem.W.codeIn K cd__law_due "_law_due" = true)
    (k__law_due : PySem.W.keepIn K (.ref f__law_due) = true)
    (a__law_worked : PySem.W.nsIn K mainGlobals "_law_worked" = some (some (.ref f__law_worked)))
    (l__law_worked : K.lookup f__law_worked = some ⟨oc__law_worked, od__law_worked, .func (PySem.W.fnOf "_law_worked" "_law_worked" (defArgs s__law_worked) (defBody s__law_worked) (defScope s__law_worked) .none kV__law_worked dc__law_worked pm__law_worked an__law_worked cd__law_worked ct__law_worked), sl__law_worked⟩)
    (c__law_worked : PySem.W.codeIn K cd__law_worked "_law_worked" = true)
    (k__law_worked : PySem.W.keepIn K (.ref f__law_worked) = true)
    (a__law_chain_right : PySem.W.nsIn K mainGlobals "_law_chain_right" = some (some (.ref f__law_chain_right)))
    (l__law_chain_right : K.lookup f__law_chain_right = some ⟨oc__law_chain_right, od__law_chain_right, .func (PySem.W.fnOf "_law_chain_right" "_law_chain_right" (defArgs s__law_chain_right) (defBody s__law_chain_right) (defScope s__law_chain_right) .none kV__law_chain_right dc__law_chain_right pm__law_chain_right an__law_chain_right cd__law_chain_right ct__law_chain_right), sl__law_chain_right⟩)
    (c__law_chain_right : PySem.W.codeIn K cd__law_chain_right "_law_chain_right" = true)
    (k__law_chain_right : PySem.W.keepIn K (.ref f__law_chain_right) = true)
    (a__law_rules_right : PySem.W.nsIn K mainGlobals "_law_rules_right" = some (some (.ref f__law_rules_right)))
    (l__law_rules_right : K.lookup f__law_rules_right = some ⟨oc__law_rules_right, od__law_rules_right, .func (PySem.W.fnOf "_law_rules_right" "_law_rules_right" (defArgs s__law_rules_right) (defBody s__law_rules_right) (defScope s__law_rules_right) .none kV__law_rules_right dc__law_rules_right pm__law_rules_right an__law_rules_right cd__law_rules_right ct__law_rules_right), sl__law_rules_right⟩)
    (c__law_rules_right : PySem.W.codeIn K cd__law_rules_right "_law_rules_right" = true)
    (k__law_rules_right : PySem.W.keepIn K (.ref f__law_rules_right) = true)
    (a_law : PySem.W.nsIn K mainGlobals "law" = some (some (.ref f_law)))
    (l_law : K.lookup f_law = some ⟨oc_law, od_law, .func (PySem.W.fnOf "law" "law" (defArgs s_law) (defBody s_law) (defScope s_law) .none kV_law dc_law pm_law an_law cd_law ct_law), sl_law⟩)
    (c_law : PySem.W.codeIn K cd_law "law" = true)
    (k_law : PySem.W.keepIn K (.ref f_law) = true)
    (a_Ratio___init__ : PySem.W.findIn K (.ref C_Ratio) "__init__" = some (some (.ref f_Ratio___init__)))
    (l_Ratio___init__ : K.lookup f_Ratio___init__ = some ⟨oc_Ratio___init__, od_Ratio___init__, .func (PySem.W.fnOf "__init__" "Ratio.__init__" (defArgs s_Ratio___init__) (defBody s_Ratio___init__) (defScope s_Ratio___init__) (.ref dT_Ratio___init__) kV_Ratio___init__ dc_Ratio___init__ pm_Ratio___init__ an_Ratio___init__ cd_Ratio___init__ ct_Ratio___init__), sl_Ratio___init__⟩)
    (c_Ratio___init__ : PySem.W.codeIn K cd_Ratio___init__ "Ratio.__init__" = true)
    (k_Ratio___init__ : PySem.W.keepIn K (.ref f_Ratio___init__) = true)
    (dl_Ratio___init__ : K.lookup dT_Ratio___init__ = some ⟨do_Ratio___init__, dd_Ratio___init__, .seq #[.int 1 dt_Ratio___init__] dn_Ratio___init__, ds_Ratio___init__⟩)
    (i_Ratio___init__ : PySem.W.isFn K (.ref f_Ratio___init__) = true)
    (a1_Ratio_top : PySem.W.findIn K (.ref C_Ratio) "top" = some (some (.ref pa_Ratio_top)))
    (a2_Ratio_top : PySem.W.specialIn K (.ref pa_Ratio_top) "__get__" = some (some (.builtin "property.__get__")))
    (a3_Ratio_top : PySem.W.takesIn K (.ref pa_Ratio_top) = some true)
    (a4_Ratio_top : PySem.W.recIn K pa_Ratio_top "property" = some (.ref f_Ratio_top :: pr_Ratio_top))
    (l_Ratio_top : K.lookup f_Ratio_top = some ⟨oc_Ratio_top, od_Ratio_top, .func (PySem.W.fnOf "top" "Ratio.top" (defArgs s_Ratio_top) (defBody s_Ratio_top) (defScope s_Ratio_top) .none kV_Ratio_top dc_Ratio_top pm_Ratio_top an_Ratio_top cd_Ratio_top ct_Ratio_top), sl_Ratio_top⟩)
    (c_Ratio_top : PySem.W.codeIn K cd_Ratio_top "Ratio.top" = true)
    (k_Ratio_top : PySem.W.keepIn K (.ref f_Ratio_top) = true)
    (a1_Ratio_bottom : PySem.W.findIn K (.ref C_Ratio) "bottom" = some (some (.ref pa_Ratio_bottom)))
    (a2_Ratio_bottom : PySem.W.specialIn K (.ref pa_Ratio_bottom) "__get__" = some (some (.builtin "property.__get__")))
    (a3_Ratio_bottom : PySem.W.takesIn K (.ref pa_Ratio_bottom) = some true)
    (a4_Ratio_bottom : PySem.W.recIn K pa_Ratio_bottom "property" = some (.ref f_Ratio_bottom :: pr_Ratio_bottom))
    (l_Ratio_bottom : K.lookup f_Ratio_bottom = some ⟨oc_Ratio_bottom, od_Ratio_bottom, .func (PySem.W.fnOf "bottom" "Ratio.bottom" (defArgs s_Ratio_bottom) (defBody s_Ratio_bottom) (defScope s_Ratio_bottom) .none kV_Ratio_bottom dc_Ratio_bottom pm_Ratio_bottom an_Ratio_bottom cd_Ratio_bottom ct_Ratio_bottom), sl_Ratio_bottom⟩)
    (c_Ratio_bottom : PySem.W.codeIn K cd_Ratio_bottom "Ratio.bottom" = true)
    (k_Ratio_bottom : PySem.W.keepIn K (.ref f_Ratio_bottom) = true)
    (a_Ratio___add__ : PySem.W.findIn K (.ref C_Ratio) "__add__" = some (some (.ref f_Ratio___add__)))
    (l_Ratio___add__ : K.lookup f_Ratio___add__ = some ⟨oc_Ratio___add__, od_Ratio___add__, .func (PySem.W.fnOf "__add__" "Ratio.__add__" (defArgs s_Ratio___add__) (defBody s_Ratio___add__) (defScope s_Ratio___add__) .none kV_Ratio___add__ dc_Ratio___add__ pm_Ratio___add__ an_Ratio___add__ cd_Ratio___add__ ct_Ratio___add__), sl_Ratio___add__⟩)
    (c_Ratio___add__ : PySem.W.codeIn K cd_Ratio___add__ "Ratio.__add__" = true)
    (k_Ratio___add__ : PySem.W.keepIn K (.ref f_Ratio___add__) = true)
    (i_Ratio___add__ : PySem.W.isFn K (.ref f_Ratio___add__) = true)
    (a_Ratio___sub__ : PySem.W.findIn K (.ref C_Ratio) "__sub__" = some (some (.ref f_Ratio___sub__)))
    (l_Ratio___sub__ : K.lookup f_Ratio___sub__ = some ⟨oc_Ratio___sub__, od_Ratio___sub__, .func (PySem.W.fnOf "__sub__" "Ratio.__sub__" (defArgs s_Ratio___sub__) (defBody s_Ratio___sub__) (defScope s_Ratio___sub__) .none kV_Ratio___sub__ dc_Ratio___sub__ pm_Ratio___sub__ an_Ratio___sub__ cd_Ratio___sub__ ct_Ratio___sub__), sl_Ratio___sub__⟩)
    (c_Ratio___sub__ : PySem.W.codeIn K cd_Ratio___sub__ "Ratio.__sub__" = true)
    (k_Ratio___sub__ : PySem.W.keepIn K (.ref f_Ratio___sub__) = true)
    (i_Ratio___sub__ : PySem.W.isFn K (.ref f_Ratio___sub__) = true)
    (a_Ratio___mul__ : PySem.W.findIn K (.ref C_Ratio) "__mul__" = some (some (.ref f_Ratio___mul__)))
    (l_Ratio___mul__ : K.lookup f_Ratio___mul__ = some ⟨oc_Ratio___mul__, od_Ratio___mul__, .func (PySem.W.fnOf "__mul__" "Ratio.__mul__" (defArgs s_Ratio___mul__) (defBody s_Ratio___mul__) (defScope s_Ratio___mul__) .none kV_Ratio___mul__ dc_Ratio___mul__ pm_Ratio___mul__ an_Ratio___mul__ cd_Ratio___mul__ ct_Ratio___mul__), sl_Ratio___mul__⟩)
    (c_Ratio___mul__ : PySem.W.codeIn K cd_Ratio___mul__ "Ratio.__mul__" = true)
    (k_Ratio___mul__ : PySem.W.keepIn K (.ref f_Ratio___mul__) = true)
    (i_Ratio___mul__ : PySem.W.isFn K (.ref f_Ratio___mul__) = true)
    (a_Ratio___neg__ : PySem.W.findIn K (.ref C_Ratio) "__neg__" = some (some (.ref f_Ratio___neg__)))
    (l_Ratio___neg__ : K.lookup f_Ratio___neg__ = some ⟨oc_Ratio___neg__, od_Ratio___neg__, .func (PySem.W.fnOf "__neg__" "Ratio.__neg__" (defArgs s_Ratio___neg__) (defBody s_Ratio___neg__) (defScope s_Ratio___neg__) .none kV_Ratio___neg__ dc_Ratio___neg__ pm_Ratio___neg__ an_Ratio___neg__ cd_Ratio___neg__ ct_Ratio___neg__), sl_Ratio___neg__⟩)
    (c_Ratio___neg__ : PySem.W.codeIn K cd_Ratio___neg__ "Ratio.__neg__" = true)
    (k_Ratio___neg__ : PySem.W.keepIn K (.ref f_Ratio___neg__) = true)
    (i_Ratio___neg__ : PySem.W.isFn K (.ref f_Ratio___neg__) = true)
    (a_Ratio___abs__ : PySem.W.findIn K (.ref C_Ratio) "__abs__" = some (some (.ref f_Ratio___abs__)))
    (l_Ratio___abs__ : K.lookup f_Ratio___abs__ = some ⟨oc_Ratio___abs__, od_Ratio___abs__, .func (PySem.W.fnOf "__abs__" "Ratio.__abs__" (defArgs s_Ratio___abs__) (defBody s_Ratio___abs__) (defScope s_Ratio___abs__) .none kV_Ratio___abs__ dc_Ratio___abs__ pm_Ratio___abs__ an_Ratio___abs__ cd_Ratio___abs__ ct_Ratio___abs__), sl_Ratio___abs__⟩)
    (c_Ratio___abs__ : PySem.W.codeIn K cd_Ratio___abs__ "Ratio.__abs__" = true)
    (k_Ratio___abs__ : PySem.W.keepIn K (.ref f_Ratio___abs__) = true)
    (i_Ratio___abs__ : PySem.W.isFn K (.ref f_Ratio___abs__) = true)
    (a_Ratio___bool__ : PySem.W.findIn K (.ref C_Ratio) "__bool__" = some (some (.ref f_Ratio___bool__)))
    (l_Ratio___bool__ : K.lookup f_Ratio___bool__ = some ⟨oc_Ratio___bool__, od_Ratio___bool__, .func (PySem.W.fnOf "__bool__" "Ratio.__bool__" (defArgs s_Ratio___bool__) (defBody s_Ratio___bool__) (defScope s_Ratio___bool__) .none kV_Ratio___bool__ dc_Ratio___bool__ pm_Ratio___bool__ an_Ratio___bool__ cd_Ratio___bool__ ct_Ratio___bool__), sl_Ratio___bool__⟩)
    (c_Ratio___bool__ : PySem.W.codeIn K cd_Ratio___bool__ "Ratio.__bool__" = true)
    (k_Ratio___bool__ : PySem.W.keepIn K (.ref f_Ratio___bool__) = true)
    (i_Ratio___bool__ : PySem.W.isFn K (.ref f_Ratio___bool__) = true)
    (a_Ratio___eq__ : PySem.W.findIn K (.ref C_Ratio) "__eq__" = some (some (.ref f_Ratio___eq__)))
    (l_Ratio___eq__ : K.lookup f_Ratio___eq__ = some ⟨oc_Ratio___eq__, od_Ratio___eq__, .func (PySem.W.fnOf "__eq__" "Ratio.__eq__" (defArgs s_Ratio___eq__) (defBody s_Ratio___eq__) (defScope s_Ratio___eq__) .none kV_Ratio___eq__ dc_Ratio___eq__ pm_Ratio___eq__ an_Ratio___eq__ cd_Ratio___eq__ ct_Ratio___eq__), sl_Ratio___eq__⟩)
    (c_Ratio___eq__ : PySem.W.codeIn K cd_Ratio___eq__ "Ratio.__eq__" = true)
    (k_Ratio___eq__ : PySem.W.keepIn K (.ref f_Ratio___eq__) = true)
    (i_Ratio___eq__ : PySem.W.isFn K (.ref f_Ratio___eq__) = true)
    (a_Ratio_over : PySem.W.findIn K (.ref C_Ratio) "over" = some (some (.ref f_Ratio_over)))
    (l_Ratio_over : K.lookup f_Ratio_over = some ⟨oc_Ratio_over, od_Ratio_over, .func (PySem.W.fnOf "over" "Ratio.over" (defArgs s_Ratio_over) (defBody s_Ratio_over) (defScope s_Ratio_over) .none kV_Ratio_over dc_Ratio_over pm_Ratio_over an_Ratio_over cd_Ratio_over ct_Ratio_over), sl_Ratio_over⟩)
    (c_Ratio_over : PySem.W.codeIn K cd_Ratio_over "Ratio.over" = true)
    (k_Ratio_over : PySem.W.keepIn K (.ref f_Ratio_over) = true)
    (i_Ratio_over : PySem.W.isFn K (.ref f_Ratio_over) = true)
    (a_Ratio_is_less : PySem.W.findIn K (.ref C_Ratio) "is_less" = some (some (.ref f_Ratio_is_less)))
    (l_Ratio_is_less : K.lookup f_Ratio_is_less = some ⟨oc_Ratio_is_less, od_Ratio_is_less, .func (PySem.W.fnOf "is_less" "Ratio.is_less" (defArgs s_Ratio_is_less) (defBody s_Ratio_is_less) (defScope s_Ratio_is_less) .none kV_Ratio_is_less dc_Ratio_is_less pm_Ratio_is_less an_Ratio_is_less cd_Ratio_is_less ct_Ratio_is_less), sl_Ratio_is_less⟩)
    (c_Ratio_is_less : PySem.W.codeIn K cd_Ratio_is_less "Ratio.is_less" = true)
    (k_Ratio_is_less : PySem.W.keepIn K (.ref f_Ratio_is_less) = true)
    (i_Ratio_is_less : PySem.W.isFn K (.ref f_Ratio_is_less) = true)
    (mk_Ratio : PySem.W.makesIn K C_Ratio = true)
    (kc_Ratio : PySem.W.keepIn K (.ref C_Ratio) = true)
    (ca_FEWEST_BITS : PySem.W.nsIn K mainGlobals "FEWEST_BITS" = some (some (.int 3 ct0_FEWEST_BITS)))
    (ca_MOST_BITS : PySem.W.nsIn K mainGlobals "MOST_BITS" = some (some (.int 4 ct0_MOST_BITS)))
    (ca_MAX_FIGURES : PySem.W.nsIn K mainGlobals "MAX_FIGURES" = some (some (.int 60 ct0_MAX_FIGURES)))
    (ca_MAX_DIGITS : PySem.W.nsIn K mainGlobals "MAX_DIGITS" = some (some (.int 2000 ct0_MAX_DIGITS)))
    (z_isinstance : PySem.W.nsIn K mainGlobals "isinstance" = some none)
    (z_len : PySem.W.nsIn K mainGlobals "len" = some none)
    (z_str : PySem.W.nsIn K mainGlobals "str" = some none)
    (z_abs : PySem.W.nsIn K mainGlobals "abs" = some none)
    (z_int : PySem.W.nsIn K mainGlobals "int" = some none)
    (z_bool : PySem.W.nsIn K mainGlobals "bool" = some none)
    (z_max : PySem.W.nsIn K mainGlobals "max" = some none)
    (z_min : PySem.W.nsIn K mainGlobals "min" = some none)
    (z_range : PySem.W.nsIn K mainGlobals "range" = some none)
    (z_ZeroDivisionError : PySem.W.nsIn K mainGlobals "ZeroDivisionError" = some none)
    (lb_gcd : PySem.W.nsIn K mainGlobals "gcd" = some (some (.builtin "math.gcd")))
    (q_sf_Ratio : PySem.W.selfFirst K C_Ratio = true)
    (q_dg : PySem.W.nsIn K cStatics "sys.int_max_str_digits" = some none)
    (q_zz : PySem.W.exmOne K (.type "ZeroDivisionError") (.type "ZeroDivisionError") = some true)
    (q_zt : PySem.W.exmOne K (.ref C_TooMany) (.type "ZeroDivisionError") = some false)
    (q_zr : PySem.W.exmOne K (.ref C_InvalidRatio) (.type "ZeroDivisionError") = some false)
    : Nonempty (TX K mg) := ⟨{
    C_InvalidNumber := C_InvalidNumber,
    f_InvalidNumber___init__ := f_InvalidNumber___init__,
    x_InvalidNumber := ⟨PySem.W.mg_of X G xg_InvalidNumber, xi_InvalidNumber, xo_InvalidNumber, x1_InvalidNumber, x2_InvalidNumber, x3_InvalidNumber, x4_InvalidNumber, x5_InvalidNumber, x6_InvalidNumber, x7_InvalidNumber, x8_InvalidNumber, x9_InvalidNumber, xa_InvalidNumber, L3.exm_of x8_InvalidNumber xb_InvalidNumber x9_InvalidNumber xc_InvalidNumber, ⟨_, _, _, _, _, _, _, _, _, _, _, _, _, _, xl_InvalidNumber, xd_InvalidNumber⟩⟩,
    g_InvalidNumber := PySem.W.mg_of X G xg_InvalidNumber,
    C_TooMany := C_TooMany,
    f_TooMany___init__ := f_TooMany___init__,
    x_TooMany := ⟨PySem.W.mg_of X G xg_TooMany, xi_TooMany, xo_TooMany, x1_TooMany, x2_TooMany, x3_TooMany, x4_TooMany, x5_TooMany, x6_TooMany, x7_TooMany, x8_TooMany, x9_TooMany, xa_TooMany, L3.exm_of x8_TooMany xb_TooMany x9_TooMany xc_TooMany, ⟨_, _, _, _, _, _, _, _, _, _, _, _, _, _, xl_TooMany, xd_TooMany⟩⟩,
    g_TooMany := PySem.W.mg_of X G xg_TooMany,
    C_InvalidRatio := C_InvalidRatio,
    g_InvalidRatio := PySem.W.mg_of X G xg_InvalidRatio,
    x_InvalidRatio := xe_InvalidRatio,
    k_InvalidRatio := x7_InvalidRatio,
    bx_InvalidRatio := x8_InvalidRatio,
    tx_InvalidRatio := x9_InvalidRatio,
    e_InvalidRatio_TooMany := L3.exm_of x8_TooMany xb_TooMany x9_TooMany sub_InvalidRatio_TooMany,
    e_InvalidRatio_InvalidRatio := L3.exm_of x8_InvalidRatio xb_InvalidRatio x9_InvalidRatio sub_InvalidRatio_InvalidRatio,
    C_Ratio := C_Ratio,
    g_Ratio := PySem.W.mg_of X G ac_Ratio,
    cl_Ratio := ⟨pg_Ratio, hd_Ratio, po_Ratio, sa_Ratio⟩,
    n_Ratio__top := nA_Ratio__top,
    n_Ratio__bottom := nA_Ratio__bottom,
    tc_Ratio := ⟨⟨pg_Ratio, hd_Ratio, po_Ratio, sa_Ratio⟩, t1_Ratio, t2_Ratio, t3_Ratio, t4_Ratio⟩,
    ne_Ratio := ⟨ne0_Ratio, t4_Ratio⟩,
    kit_Ratio_NoneType := kit_Ratio_NoneType,
    nf_Ratio_NoneType := nf_Ratio_NoneType,
    itk_Ratio_NoneType := itk_Ratio_NoneType,
    kit_Ratio_bool := kit_Ratio_bool,
    nf_Ratio_bool := nf_Ratio_bool,
    itk_Ratio_bool := itk_Ratio_bool,
    kit_Ratio_int := kit_Ratio_int,
    nf_Ratio_int := nf_Ratio_int,
    itk_Ratio_int := itk_Ratio_int,
    kit_Ratio_str := kit_Ratio_str,
    nf_Ratio_str := nf_Ratio_str,
    itk_Ratio_str := itk_Ratio_str,
    kit_Ratio_list := kit_Ratio_list,
    nf_Ratio_list := nf_Ratio_list,
    itk_Ratio_list := itk_Ratio_list,
    kit_Ratio_tuple := kit_Ratio_tuple,
    nf_Ratio_tuple := nf_Ratio_tuple,
    itk_Ratio_tuple := itk_Ratio_tuple,
    kit_Ratio_dict := kit_Ratio_dict,
    nf_Ratio_dict := nf_Ratio_dict,
    itk_Ratio_dict := itk_Ratio_dict,
    kit_Ratio := kit_Ratio,
    nf_Ratio := nf_Ratio,
    f_is_longer := f_is_longer,
    d_is_longer := PySem.W.fnOf "is_longer" "is_longer" (defArgs s_is_longer) (defBody s_is_longer) (defScope s_is_longer) .none kV_is_longer dc_is_longer pm_is_longer an_is_longer cd_is_longer ct_is_longer,
    F_is_longer := fun_mk (st := s_is_longer) l_is_longer c_is_longer k_is_longer,
    b_is_longer := (fun_mk (st := s_is_longer) l_is_longer c_is_longer k_is_longer).binds (ps := ["number", "digits"]) fun _ _ _ _ _ _ us hl => match us, hl with | [_, _], _ => rfl,
    g_is_longer := PySem.W.mg_of X G a_is_longer,
    f_is_plain_int := f_is_plain_int,
    d_is_plain_int := PySem.W.fnOf "is_plain_int" "is_plain_int" (defArgs s_is_plain_int) (defBody s_is_plain_int) (defScope s_is_plain_int) .none kV_is_plain_int dc_is_plain_int pm_is_plain_int an_is_plain_int cd_is_plain_int ct_is_plain_int,
    F_is_plain_int := fun_mk (st := s_is_plain_int) l_is_plain_int c_is_plain_int k_is_plain_int,
    b_is_plain_int := (fun_mk (st := s_is_plain_int) l_is_plain_int c_is_plain_int k_is_plain_int).binds (ps := ["value"]) fun _ _ _ _ _ _ us hl => match us, hl with | [_], _ => rfl,
    g_is_plain_int := PySem.W.mg_of X G a_is_plain_int,
    f_lowest_terms := f_lowest_terms,
    d_lowest_terms := PySem.W.fnOf "lowest_terms" "lowest_terms" (defArgs s_lowest_terms) (defBody s_lowest_terms) (defScope s_lowest_terms) .none kV_lowest_terms dc_lowest_terms pm_lowest_terms an_lowest_terms cd_lowest_terms ct_lowest_terms,
    F_lowest_terms := fun_mk (st := s_lowest_terms) l_lowest_terms c_lowest_terms k_lowest_terms,
    b_lowest_terms := (fun_mk (st := s_lowest_terms) l_lowest_terms c_lowest_terms k_lowest_terms).binds (ps := ["top", "bottom"]) fun _ _ _ _ _ _ us hl => match us, hl with | [_, _], _ => rfl,
    g_lowest_terms := PySem.W.mg_of X G a_lowest_terms,
    f_ratio_of := f_ratio_of,
    d_ratio_of := PySem.W.fnOf "ratio_of" "ratio_of" (defArgs s_ratio_of) (defBody s_ratio_of) (defScope s_ratio_of) .none kV_ratio_of dc_ratio_of pm_ratio_of an_ratio_of cd_ratio_of ct_ratio_of,
    F_ratio_of := fun_mk (st := s_ratio_of) l_ratio_of c_ratio_of k_ratio_of,
    b_ratio_of := (fun_mk (st := s_ratio_of) l_ratio_of c_ratio_of k_ratio_of).binds (ps := ["top", "bottom"]) fun _ _ _ _ _ _ us hl => match us, hl with | [_, _], _ => rfl,
    g_ratio_of := PySem.W.mg_of X G a_ratio_of,
    f__law_urn := f__law_urn,
    d__law_urn := PySem.W.fnOf "_law_urn" "_law_urn" (defArgs s__law_urn) (defBody s__law_urn) (defScope s__law_urn) .none kV__law_urn dc__law_urn pm__law_urn an__law_urn cd__law_urn ct__law_urn,
    F__law_urn := fun_mk (st := s__law_urn) l__law_urn c__law_urn k__law_urn,
    b__law_urn := (fun_mk (st := s__law_urn) l__law_urn c__law_urn k__law_urn).binds (ps := ["_law_script", "_law_turn"]) fun _ _ _ _ _ _ us hl => match us, hl with | [_, _], _ => rfl,
    g__law_urn := PySem.W.mg_of X G a__law_urn,
    f__law_drawn := f__law_drawn,
    d__law_drawn := PySem.W.fnOf "_law_drawn" "_law_drawn" (defArgs s__law_drawn) (defBody s__law_drawn) (defScope s__law_drawn) .none kV__law_drawn dc__law_drawn pm__law_drawn an__law_drawn cd__law_drawn ct__law_drawn,
    F__law_drawn := fun_mk (st := s__law_drawn) l__law_drawn c__law_drawn k__law_drawn,
    b__law_drawn := (fun_mk (st := s__law_drawn) l__law_drawn c__law_drawn k__law_drawn).binds (ps := ["_law_urn_here", "_law_many"]) fun _ _ _ _ _ _ us hl => match us, hl with | [_, _], _ => rfl,
    g__law_drawn := PySem.W.mg_of X G a__law_drawn,
    f__law_one_of := f__law_one_of,
    d__law_one_of := PySem.W.fnOf "_law_one_of" "_law_one_of" (defArgs s__law_one_of) (defBody s__law_one_of) (defScope s__law_one_of) .none kV__law_one_of dc__law_one_of pm__law_one_of an__law_one_of cd__law_one_of ct__law_one_of,
    F__law_one_of := fun_mk (st := s__law_one_of) l__law_one_of c__law_one_of k__law_one_of,
    b__law_one_of := (fun_mk (st := s__law_one_of) l__law_one_of c__law_one_of k__law_one_of).binds (ps := ["_law_urn_here", "_law_items"]) fun _ _ _ _ _ _ us hl => match us, hl with | [_, _], _ => rfl,
    g__law_one_of := PySem.W.mg_of X G a__law_one_of,
    f__law_divisor := f__law_divisor,
    d__law_divisor := PySem.W.fnOf "_law_divisor" "_law_divisor" (defArgs s__law_divisor) (defBody s__law_divisor) (defScope s__law_divisor) .none kV__law_divisor dc__law_divisor pm__law_divisor an__law_divisor cd__law_divisor ct__law_divisor,
    F__law_divisor := fun_mk (st := s__law_divisor) l__law_divisor c__law_divisor k__law_divisor,
    b__law_divisor := (fun_mk (st := s__law_divisor) l__law_divisor c__law_divisor k__law_divisor).binds (ps := ["_law_one", "_law_other"]) fun _ _ _ _ _ _ us hl => match us, hl with | [_, _], _ => rfl,
    g__law_divisor := PySem.W.mg_of X G a__law_divisor,
    f__law_lowest := f__law_lowest,
    d__law_lowest := PySem.W.fnOf "_law_lowest" "_law_lowest" (defArgs s__law_lowest) (defBody s__law_lowest) (defScope s__law_lowest) .none kV__law_lowest dc__law_lowest pm__law_lowest an__law_lowest cd__law_lowest ct__law_lowest,
    F__law_lowest := fun_mk (st := s__law_lowest) l__law_lowest c__law_lowest k__law_lowest,
    b__law_lowest := (fun_mk (st := s__law_lowest) l__law_lowest c__law_lowest k__law_lowest).binds (ps := ["_law_top", "_law_bottom"]) fun _ _ _ _ _ _ us hl => match us, hl with | [_, _], _ => rfl,
    g__law_lowest := PySem.W.mg_of X G a__law_lowest,
    f__law_power := f__law_power,
    d__law_power := PySem.W.fnOf "_law_power" "_law_power" (defArgs s__law_power) (defBody s__law_power) (defScope s__law_power) .none kV__law_power dc__law_power pm__law_power an__law_power cd__law_power ct__law_power,
    F__law_power := fun_mk (st := s__law_power) l__law_power c__law_power k__law_power,
    b__law_power := (fun_mk (st := s__law_power) l__law_power c__law_power k__law_power).binds (ps := ["_law_base", "_law_times"]) fun _ _ _ _ _ _ us hl => match us, hl with | [_, _], _ => rfl,
    g__law_power := PySem.W.mg_of X G a__law_power,
    f__law_whole := f__law_whole,
    d__law_whole := PySem.W.fnOf "_law_whole" "_law_whole" (defArgs s__law_whole) (defBody s__law_whole) (defScope s__law_whole) .none kV__law_whole dc__law_whole pm__law_whole an__law_whole cd__law_whole ct__law_whole,
    F__law_whole := fun_mk (st := s__law_whole) l__law_whole c__law_whole k__law_whole,
    b__law_whole := (fun_mk (st := s__law_whole) l__law_whole c__law_whole k__law_whole).binds (ps := ["_law_urn_here"]) fun _ _ _ _ _ _ us hl => match us, hl with | [_], _ => rfl,
    g__law_whole := PySem.W.mg_of X G a__law_whole,
    f__law_due := f__law_due,
    d__law_due := PySem.W.fnOf "_law_due" "_law_due" (defArgs s__law_due) (defBody s__law_due) (defScope s__law_due) .none kV__law_due dc__law_due pm__law_due an__law_due cd__law_due ct__law_due,
    F__law_due := fun_mk (st := s__law_due) l__law_due c__law_due k__law_due,
    b__law_due := (fun_mk (st := s__law_due) l__law_due c__law_due k__law_due).binds (ps := ["_law_sign", "_law_one", "_law_other"]) fun _ _ _ _ _ _ us hl => match us, hl with | [_, _, _], _ => rfl,
    g__law_due := PySem.W.mg_of X G a__law_due,
    f__law_worked := f__law_worked,
    d__law_worked := PySem.W.fnOf "_law_worked" "_law_worked" (defArgs s__law_worked) (defBody s__law_worked) (defScope s__law_worked) .none kV__law_worked dc__law_worked pm__law_worked an__law_worked cd__law_worked ct__law_worked,
    F__law_worked := fun_mk (st := s__law_worked) l__law_worked c__law_worked k__law_worked,
    b__law_worked := (fun_mk (st := s__law_worked) l__law_worked c__law_worked k__law_worked).binds (ps := ["_law_sign", "_law_one", "_law_other"]) fun _ _ _ _ _ _ us hl => match us, hl with | [_, _, _], _ => rfl,
    g__law_worked := PySem.W.mg_of X G a__law_worked,
    f__law_chain_right := f__law_chain_right,
    d__law_chain_right := PySem.W.fnOf "_law_chain_right" "_law_chain_right" (defArgs s__law_chain_right) (defBody s__law_chain_right) (defScope s__law_chain_right) .none kV__law_chain_right dc__law_chain_right pm__law_chain_right an__law_chain_right cd__law_chain_right ct__law_chain_right,
    F__law_chain_right := fun_mk (st := s__law_chain_right) l__law_chain_right c__law_chain_right k__law_chain_right,
    b__law_chain_right := (fun_mk (st := s__law_chain_right) l__law_chain_right c__law_chain_right k__law_chain_right).binds (ps := ["_law_urn_here"]) fun _ _ _ _ _ _ us hl => match us, hl with | [_], _ => rfl,
    g__law_chain_right := PySem.W.mg_of X G a__law_chain_right,
    f__law_rules_right := f__law_rules_right,
    d__law_rules_right := PySem.W.fnOf "_law_rules_right" "_law_rules_right" (defArgs s__law_rules_right) (defBody s__law_rules_right) (defScope s__law_rules_right) .none kV__law_rules_right dc__law_rules_right pm__law_rules_right an__law_rules_right cd__law_rules_right ct__law_rules_right,
    F__law_rules_right := fun_mk (st := s__law_rules_right) l__law_rules_right c__law_rules_right k__law_rules_right,
    b__law_rules_right := (fun_mk (st := s__law_rules_right) l__law_rules_right c__law_rules_right k__law_rules_right).binds (ps := ["_law_urn_here"]) fun _ _ _ _ _ _ us hl => match us, hl with | [_], _ => rfl,
    g__law_rules_right := PySem.W.mg_of X G a__law_rules_right,
    f_law := f_law,
    d_law := PySem.W.fnOf "law" "law" (defArgs s_law) (defBody s_law) (defScope s_law) .none kV_law dc_law pm_law an_law cd_law ct_law,
    F_law := fun_mk (st := s_law) l_law c_law k_law,
    b_law := (fun_mk (st := s_law) l_law c_law k_law).binds (ps := ["_law_script"]) fun _ _ _ _ _ _ us hl => match us, hl with | [_], _ => rfl,
    g_law := PySem.W.mg_of X G a_law,
    f_Ratio___init__ := f_Ratio___init__,
    d_Ratio___init__ := PySem.W.fnOf "__init__" "Ratio.__init__" (defArgs s_Ratio___init__) (defBody s_Ratio___init__) (defScope s_Ratio___init__) (.ref dT_Ratio___init__) kV_Ratio___init__ dc_Ratio___init__ pm_Ratio___init__ an_Ratio___init__ cd_Ratio___init__ ct_Ratio___init__,
    F_Ratio___init__ := (⟨⟨_, _, _, _, _, _, _, _, _, _, rfl, l_Ratio___init__, c_Ratio___init__, .inr ⟨by simp, _, _, [.int 1 dt_Ratio___init__], _, rfl, dl_Ratio___init__, rfl, .cons ⟨_, rfl⟩ .nil⟩, .inl rfl⟩, k_Ratio___init__⟩ : FunD K "__init__" "Ratio.__init__" (defArgs s_Ratio___init__) (defBody s_Ratio___init__) (defScope s_Ratio___init__) [.int 1] [] f_Ratio___init__ (PySem.W.fnOf "__init__" "Ratio.__init__" (defArgs s_Ratio___init__) (defBody s_Ratio___init__) (defScope s_Ratio___init__) (.ref dT_Ratio___init__) kV_Ratio___init__ dc_Ratio___init__ pm_Ratio___init__ an_Ratio___init__ cd_Ratio___init__ ct_Ratio___init__)),
    w_Ratio___init__ := (Classical.choose (((⟨⟨_, _, _, _, _, _, _, _, _, _, rfl, l_Ratio___init__, c_Ratio___init__, .inr ⟨by simp, _, _, [.int 1 dt_Ratio___init__], _, rfl, dl_Ratio___init__, rfl, .cons ⟨_, rfl⟩ .nil⟩, .inl rfl⟩, k_Ratio___init__⟩ : FunD K "__init__" "Ratio.__init__" (defArgs s_Ratio___init__) (defBody s_Ratio___init__) (defScope s_Ratio___init__) [.int 1] [] f_Ratio___init__ (PySem.W.fnOf "__init__" "Ratio.__init__" (defArgs s_Ratio___init__) (defBody s_Ratio___init__) (defScope s_Ratio___init__) (.ref dT_Ratio___init__) kV_Ratio___init__ dc_Ratio___init__ pm_Ratio___init__ an_Ratio___init__ cd_Ratio___init__ ct_Ratio___init__))).binds1 2 0 (by simp) (by rfl) (fun T kV doc pm an cdv ct us its hu hi => match us, its, hu, hi with | [_, _], [_], _, _ => ⟨_, rfl, rfl⟩))),
    v_Ratio___init___2 := (Classical.choose_spec (((⟨⟨_, _, _, _, _, _, _, _, _, _, rfl, l_Ratio___init__, c_Ratio___init__, .inr ⟨by simp, _, _, [.int 1 dt_Ratio___init__], _, rfl, dl_Ratio___init__, rfl, .cons ⟨_, rfl⟩ .nil⟩, .inl rfl⟩, k_Ratio___init__⟩ : FunD K "__init__" "Ratio.__init__" (defArgs s_Ratio___init__) (defBody s_Ratio___init__) (defScope s_Ratio___init__) [.int 1] [] f_Ratio___init__ (PySem.W.fnOf "__init__" "Ratio.__init__" (defArgs s_Ratio___init__) (defBody s_Ratio___init__) (defScope s_Ratio___init__) (.ref dT_Ratio___init__) kV_Ratio___init__ dc_Ratio___init__ pm_Ratio___init__ an_Ratio___init__ cd_Ratio___init__ ct_Ratio___init__))).binds1 2 0 (by simp) (by rfl) (fun T kV doc pm an cdv ct us its hu hi => match us, its, hu, hi with | [_, _], [_], _, _ => ⟨_, rfl, rfl⟩))).1,
    b_Ratio___init___2 := (Classical.choose_spec (((⟨⟨_, _, _, _, _, _, _, _, _, _, rfl, l_Ratio___init__, c_Ratio___init__, .inr ⟨by simp, _, _, [.int 1 dt_Ratio___init__], _, rfl, dl_Ratio___init__, rfl, .cons ⟨_, rfl⟩ .nil⟩, .inl rfl⟩, k_Ratio___init__⟩ : FunD K "__init__" "Ratio.__init__" (defArgs s_Ratio___init__) (defBody s_Ratio___init__) (defScope s_Ratio___init__) [.int 1] [] f_Ratio___init__ (PySem.W.fnOf "__init__" "Ratio.__init__" (defArgs s_Ratio___init__) (defBody s_Ratio___init__) (defScope s_Ratio___init__) (.ref dT_Ratio___init__) kV_Ratio___init__ dc_Ratio___init__ pm_Ratio___init__ an_Ratio___init__ cd_Ratio___init__ ct_Ratio___init__))).binds1 2 0 (by simp) (by rfl) (fun T kV doc pm an cdv ct us its hu hi => match us, its, hu, hi with | [_, _], [_], _, _ => ⟨_, rfl, rfl⟩))).2,
    b_Ratio___init__ := L3.binds_full (((⟨⟨_, _, _, _, _, _, _, _, _, _, rfl, l_Ratio___init__, c_Ratio___init__, .inr ⟨by simp, _, _, [.int 1 dt_Ratio___init__], _, rfl, dl_Ratio___init__, rfl, .cons ⟨_, rfl⟩ .nil⟩, .inl rfl⟩, k_Ratio___init__⟩ : FunD K "__init__" "Ratio.__init__" (defArgs s_Ratio___init__) (defBody s_Ratio___init__) (defScope s_Ratio___init__) [.int 1] [] f_Ratio___init__ (PySem.W.fnOf "__init__" "Ratio.__init__" (defArgs s_Ratio___init__) (defBody s_Ratio___init__) (defScope s_Ratio___init__) (.ref dT_Ratio___init__) kV_Ratio___init__ dc_Ratio___init__ pm_Ratio___init__ an_Ratio___init__ cd_Ratio___init__ ct_Ratio___init__))).binds1 3 1 (by simp) (by rfl) (fun T kV doc pm an cdv ct us its hu hi => match us, its, hu, hi with | [_, _, _], [_], _, _ => ⟨_, rfl, rfl⟩)),
    f_Ratio_top := f_Ratio_top,
    d_Ratio_top := PySem.W.fnOf "top" "Ratio.top" (defArgs s_Ratio_top) (defBody s_Ratio_top) (defScope s_Ratio_top) .none kV_Ratio_top dc_Ratio_top pm_Ratio_top an_Ratio_top cd_Ratio_top ct_Ratio_top,
    F_Ratio_top := fun_mk (st := s_Ratio_top) l_Ratio_top c_Ratio_top k_Ratio_top,
    b_Ratio_top := (fun_mk (st := s_Ratio_top) l_Ratio_top c_Ratio_top k_Ratio_top).binds (ps := ["self"]) fun _ _ _ _ _ _ us hl => match us, hl with | [_], _ => rfl,
    pa_Ratio_top := pa_Ratio_top,
    p_Ratio_top := ⟨a1_Ratio_top, a2_Ratio_top, a3_Ratio_top, ⟨_, a4_Ratio_top⟩⟩,
    f_Ratio_bottom := f_Ratio_bottom,
    d_Ratio_bottom := PySem.W.fnOf "bottom" "Ratio.bottom" (defArgs s_Ratio_bottom) (defBody s_Ratio_bottom) (defScope s_Ratio_bottom) .none kV_Ratio_bottom dc_Ratio_bottom pm_Ratio_bottom an_Ratio_bottom cd_Ratio_bottom ct_Ratio_bottom,
    F_Ratio_bottom := fun_mk (st := s_Ratio_bottom) l_Ratio_bottom c_Ratio_bottom k_Ratio_bottom,
    b_Ratio_bottom := (fun_mk (st := s_Ratio_bottom) l_Ratio_bottom c_Ratio_bottom k_Ratio_bottom).binds (ps := ["self"]) fun _ _ _ _ _ _ us hl => match us, hl with | [_], _ => rfl,
    pa_Ratio_bottom := pa_Ratio_bottom,
    p_Ratio_bottom := ⟨a1_Ratio_bottom, a2_Ratio_bottom, a3_Ratio_bottom, ⟨_, a4_Ratio_bottom⟩⟩,
    f_Ratio___add__ := f_Ratio___add__,
    d_Ratio___add__ := PySem.W.fnOf "__add__" "Ratio.__add__" (defArgs s_Ratio___add__) (defBody s_Ratio___add__) (defScope s_Ratio___add__) .none kV_Ratio___add__ dc_Ratio___add__ pm_Ratio___add__ an_Ratio___add__ cd_Ratio___add__ ct_Ratio___add__,
    F_Ratio___add__ := fun_mk (st := s_Ratio___add__) l_Ratio___add__ c_Ratio___add__ k_Ratio___add__,
    b_Ratio___add__ := (fun_mk (st := s_Ratio___add__) l_Ratio___add__ c_Ratio___add__ k_Ratio___add__).binds (ps := ["self", "other"]) fun _ _ _ _ _ _ us hl => match us, hl with | [_, _], _ => rfl,
    o_Ratio___add__ := ⟨a_Ratio___add__, i_Ratio___add__⟩,
    f_Ratio___sub__ := f_Ratio___sub__,
    d_Ratio___sub__ := PySem.W.fnOf "__sub__" "Ratio.__sub__" (defArgs s_Ratio___sub__) (defBody s_Ratio___sub__) (defScope s_Ratio___sub__) .none kV_Ratio___sub__ dc_Ratio___sub__ pm_Ratio___sub__ an_Ratio___sub__ cd_Ratio___sub__ ct_Ratio___sub__,
    F_Ratio___sub__ := fun_mk (st := s_Ratio___sub__) l_Ratio___sub__ c_Ratio___sub__ k_Ratio___sub__,
    b_Ratio___sub__ := (fun_mk (st := s_Ratio___sub__) l_Ratio___sub__ c_Ratio___sub__ k_Ratio___sub__).binds (ps := ["self", "other"]) fun _ _ _ _ _ _ us hl => match us, hl with | [_, _], _ => rfl,
    o_Ratio___sub__ := ⟨a_Ratio___sub__, i_Ratio___sub__⟩,
    f_Ratio___mul__ := f_Ratio___mul__,
    d_Ratio___mul__ := PySem.W.fnOf "__mul__" "Ratio.__mul__" (defArgs s_Ratio___mul__) (defBody s_Ratio___mul__) (defScope s_Ratio___mul__) .none kV_Ratio___mul__ dc_Ratio___mul__ pm_Ratio___mul__ an_Ratio___mul__ cd_Ratio___mul__ ct_Ratio___mul__,
    F_Ratio___mul__ := fun_mk (st := s_Ratio___mul__) l_Ratio___mul__ c_Ratio___mul__ k_Ratio___mul__,
    b_Ratio___mul__ := (fun_mk (st := s_Ratio___mul__) l_Ratio___mul__ c_Ratio___mul__ k_Ratio___mul__).binds (ps := ["self", "other"]) fun _ _ _ _ _ _ us hl => match us, hl with | [_, _], _ => rfl,
    o_Ratio___mul__ := ⟨a_Ratio___mul__, i_Ratio___mul__⟩,
    f_Ratio___neg__ := f_Ratio___neg__,
    d_Ratio___neg__ := PySem.W.fnOf "__neg__" "Ratio.__neg__" (defArgs s_Ratio___neg__) (defBody s_Ratio___neg__) (defScope s_Ratio___neg__) .none kV_Ratio___neg__ dc_Ratio___neg__ pm_Ratio___neg__ an_Ratio___neg__ cd_Ratio___neg__ ct_Ratio___neg__,
    F_Ratio___neg__ := fun_mk (st := s_Ratio___neg__) l_Ratio___neg__ c_Ratio___neg__ k_Ratio___neg__,
    b_Ratio___neg__ := (fun_mk (st := s_Ratio___neg__) l_Ratio___neg__ c_Ratio___neg__ k_Ratio___neg__).binds (ps := ["self"]) fun _ _ _ _ _ _ us hl => match us, hl with | [_], _ => rfl,
    o_Ratio___neg__ := ⟨a_Ratio___neg__, i_Ratio___neg__⟩,
    f_Ratio___abs__ := f_Ratio___abs__,
    d_Ratio___abs__ := PySem.W.fnOf "__abs__" "Ratio.__abs__" (defArgs s_Ratio___abs__) (defBody s_Ratio___abs__) (defScope s_Ratio___abs__) .none kV_Ratio___abs__ dc_Ratio___abs__ pm_Ratio___abs__ an_Ratio___abs__ cd_Ratio___abs__ ct_Ratio___abs__,
    F_Ratio___abs__ := fun_mk (st := s_Ratio___abs__) l_Ratio___abs__ c_Ratio___abs__ k_Ratio___abs__,
    b_Ratio___abs__ := (fun_mk (st := s_Ratio___abs__) l_Ratio___abs__ c_Ratio___abs__ k_Ratio___abs__).binds (ps := ["self"]) fun _ _ _ _ _ _ us hl => match us, hl with | [_], _ => rfl,
    o_Ratio___abs__ := ⟨a_Ratio___abs__, i_Ratio___abs__⟩,
    f_Ratio___bool__ := f_Ratio___bool__,
    d_Ratio___bool__ := PySem.W.fnOf "__bool__" "Ratio.__bool__" (defArgs s_Ratio___bool__) (defBody s_Ratio___bool__) (defScope s_Ratio___bool__) .none kV_Ratio___bool__ dc_Ratio___bool__ pm_Ratio___bool__ an_Ratio___bool__ cd_Ratio___bool__ ct_Ratio___bool__,
    F_Ratio___bool__ := fun_mk (st := s_Ratio___bool__) l_Ratio___bool__ c_Ratio___bool__ k_Ratio___bool__,
    b_Ratio___bool__ := (fun_mk (st := s_Ratio___bool__) l_Ratio___bool__ c_Ratio___bool__ k_Ratio___bool__).binds (ps := ["self"]) fun _ _ _ _ _ _ us hl => match us, hl with | [_], _ => rfl,
    o_Ratio___bool__ := ⟨a_Ratio___bool__, i_Ratio___bool__⟩,
    f_Ratio___eq__ := f_Ratio___eq__,
    d_Ratio___eq__ := PySem.W.fnOf "__eq__" "Ratio.__eq__" (defArgs s_Ratio___eq__) (defBody s_Ratio___eq__) (defScope s_Ratio___eq__) .none kV_Ratio___eq__ dc_Ratio___eq__ pm_Ratio___eq__ an_Ratio___eq__ cd_Ratio___eq__ ct_Ratio___eq__,
    F_Ratio___eq__ := fun_mk (st := s_Ratio___eq__) l_Ratio___eq__ c_Ratio___eq__ k_Ratio___eq__,
    b_Ratio___eq__ := (fun_mk (st := s_Ratio___eq__) l_Ratio___eq__ c_Ratio___eq__ k_Ratio___eq__).binds (ps := ["self", "other"]) fun _ _ _ _ _ _ us hl => match us, hl with | [_, _], _ => rfl,
    o_Ratio___eq__ := ⟨a_Ratio___eq__, i_Ratio___eq__⟩,
    f_Ratio_over := f_Ratio_over,
    d_Ratio_over := PySem.W.fnOf "over" "Ratio.over" (defArgs s_Ratio_over) (defBody s_Ratio_over) (defScope s_Ratio_over) .none kV_Ratio_over dc_Ratio_over pm_Ratio_over an_Ratio_over cd_Ratio_over ct_Ratio_over,
    F_Ratio_over := fun_mk (st := s_Ratio_over) l_Ratio_over c_Ratio_over k_Ratio_over,
    b_Ratio_over := (fun_mk (st := s_Ratio_over) l_Ratio_over c_Ratio_over k_Ratio_over).binds (ps := ["self", "other"]) fun _ _ _ _ _ _ us hl => match us, hl with | [_, _], _ => rfl,
    m_Ratio_over := ⟨a_Ratio_over, i_Ratio_over, k_Ratio_over⟩,
    f_Ratio_is_less := f_Ratio_is_less,
    d_Ratio_is_less := PySem.W.fnOf "is_less" "Ratio.is_less" (defArgs s_Ratio_is_less) (defBody s_Ratio_is_less) (defScope s_Ratio_is_less) .none kV_Ratio_is_less dc_Ratio_is_less pm_Ratio_is_less an_Ratio_is_less cd_Ratio_is_less ct_Ratio_is_less,
    F_Ratio_is_less := fun_mk (st := s_Ratio_is_less) l_Ratio_is_less c_Ratio_is_less k_Ratio_is_less,
    b_Ratio_is_less := (fun_mk (st := s_Ratio_is_less) l_Ratio_is_less c_Ratio_is_less k_Ratio_is_less).binds (ps := ["self", "other"]) fun _ _ _ _ _ _ us hl => match us, hl with | [_, _], _ => rfl,
    m_Ratio_is_less := ⟨a_Ratio_is_less, i_Ratio_is_less, k_Ratio_is_less⟩,
    mk_Ratio := ⟨mk_Ratio, a_Ratio___init__, i_Ratio___init__, kc_Ratio⟩,
    ct_FEWEST_BITS := ct0_FEWEST_BITS,
    c_FEWEST_BITS := PySem.W.mg_of X G ca_FEWEST_BITS,
    ct_MOST_BITS := ct0_MOST_BITS,
    c_MOST_BITS := PySem.W.mg_of X G ca_MOST_BITS,
    ct_MAX_FIGURES := ct0_MAX_FIGURES,
    c_MAX_FIGURES := PySem.W.mg_of X G ca_MAX_FIGURES,
    ct_MAX_DIGITS := ct0_MAX_DIGITS,
    c_MAX_DIGITS := PySem.W.mg_of X G ca_MAX_DIGITS,
    n_isinstance := PySem.W.mg_none_of X G z_isinstance,
    n_len := PySem.W.mg_none_of X G z_len,
    n_str := PySem.W.mg_none_of X G z_str,
    n_abs := PySem.W.mg_none_of X G z_abs,
    n_int := PySem.W.mg_none_of X G z_int,
    n_bool := PySem.W.mg_none_of X G z_bool,
    n_max := PySem.W.mg_none_of X G z_max,
    n_min := PySem.W.mg_none_of X G z_min,
    n_range := PySem.W.mg_none_of X G z_range,
    n_ZeroDivisionError := PySem.W.mg_none_of X G z_ZeroDivisionError,
    g_gcd := PySem.W.mg_of X G lb_gcd,
    sf_Ratio := q_sf_Ratio,
    dg := q_dg,
    zz := q_zz,
    zt := q_zt,
    zr := q_zr }⟩
end K01

namespace K01
open PySem PySem.Spec PyProof.Rows L2 L3
theorem if_true_of {c : Bool} {A B : Prop} (hc : c = true) (h : A) : if c = true then A else B := by
  rw [if_pos hc]
  exact h
theorem if_false_of {c : Bool} {A B : Prop} (hc : c = false) (h : B) : if c = true then A else B := by
  rw [hc, if_neg Bool.false_ne_true]
  exact h
/-! ### numbers and their sizes -/
theorem bits_le {n : Int} {k : Nat} : Builtin.Int.intBits n ≤ k ↔ n.natAbs < 2 ^ k := by
  unfold Builtin.Int.intBits
  split
  · rename_i h
    have e : n.natAbs = 0 := by first | simpa using h | omega
    rw [e]
    exact ⟨fun _ => Nat.two_pow_pos k, fun _ => Nat.zero_le _⟩
  · rename_i h
    have e : n.natAbs ≠ 0 := by first | simpa using h | omega
    rw [← Nat.log2_lt e]
    omega
theorem len_nat (m : Nat) : (Str.ofString (toString ((m : Nat) : Int))).length = (Nat.toDigits 10 m).length := by
  have h := congrArg List.length (PySem.W.KIN.signs_num m)
  rw [List.length_map] at h
  rw [← h]
  rfl
theorem len_le {m k : Nat} (hk : 0 < k) : (Str.ofString (toString ((m : Nat) : Int))).length ≤ k ↔ m < 10 ^ k := by
  rw [len_nat, Nat.length_toDigits_le_iff (by decide) hk]
def longer (n : Int) : Bool := decide (10 ^ 60 ≤ n.natAbs)
theorem abs_if (n : Int) : (if n < 0 then -n else n) = ((n.natAbs : Nat) : Int) := by split <;> omega
theorem short_of {n : Int} {k : Nat} (h : longer n = false) (hk : 200 ≤ k) : n.natAbs < 2 ^ k := by
  have h' := of_decide_eq_false h
  have : (10 : Nat) ^ 60 ≤ 2 ^ 200 := by decide
  exact Nat.lt_of_lt_of_le (by omega : n.natAbs < 2 ^ 200) (Nat.pow_le_pow_right (by decide) hk)
theorem longer_few {n : Int} (h : Builtin.Int.intBits n ≤ 180) : longer n = false := by
  rw [bits_le] at h
  have : (2 : Nat) ^ 180 ≤ 10 ^ 60 := by decide
  exact decide_eq_false (by omega)
theorem longer_most {n : Int} (h : ¬ Builtin.Int.intBits n ≤ 240) : longer n = true := by
  rw [bits_le] at h
  have : (10 : Nat) ^ 60 ≤ 2 ^ 240 := by decide
  exact decide_eq_true (by omega)
theorem longer_text {n : Int} : decide ((60 : Int) < ((Str.ofString (toString ((n.natAbs : Nat) : Int))).length : Nat)) = longer n := by
  have h := @len_le n.natAbs 60 (by decide)
  unfold longer
  by_cases c : n.natAbs < 10 ^ 60
  · have := h.mpr c
    rw [decide_eq_false (by omega), decide_eq_false (by omega)]
  · have h2 : ¬ (Str.ofString (toString ((n.natAbs : Nat) : Int))).length ≤ 60 := fun q => c (h.mp q)
    rw [decide_eq_true (by omega), decide_eq_true (by omega)]
theorem log_of {n : Nat} {k : Nat} (hk : 0 < k) (h : n < 2 ^ k) : n.log2 < k := by
  by_cases e : n = 0
  · subst e; exact hk
  · exact (Nat.log2_lt e).mpr h
end K01
namespace K01
open PySem PySem.Spec PyProof.Rows L2 L3
/-! ### lowest terms -/
/-- the divisor that both terms are divided by: its sign is that of the bottom -/
def shr (a b : Int) : Int := if b < 0 then -((Nat.gcd a.natAbs b.natAbs : Nat) : Int) else ((Nat.gcd a.natAbs b.natAbs : Nat) : Int)
def lowT (a b : Int) : Int := a.fdiv (shr a b)
def lowB (a b : Int) : Int := b.fdiv (shr a b)
theorem shr_ne {a b : Int} (h : b ≠ 0) : shr a b ≠ 0 := by
  have : Nat.gcd a.natAbs b.natAbs ≠ 0 := fun z => h (by have := Nat.eq_zero_of_gcd_eq_zero_right z; omega)
  unfold shr
  split <;> omega
theorem shr_abs (a b : Int) : (shr a b).natAbs = Nat.gcd a.natAbs b.natAbs := by
  unfold shr
  split <;> omega
theorem shr_dvd_left (a b : Int) : shr a b ∣ a := by
  rw [← Int.natAbs_dvd_natAbs, shr_abs]
  exact Nat.gcd_dvd_left _ _
theorem shr_dvd_right (a b : Int) : shr a b ∣ b := by
  rw [← Int.natAbs_dvd_natAbs, shr_abs]
  exact Nat.gcd_dvd_right _ _
theorem lowT_mul (a b : Int) : lowT a b * shr a b = a := by
  unfold lowT
  rw [Int.fdiv_eq_ediv_of_dvd (shr_dvd_left a b)]
  exact Int.ediv_mul_cancel (shr_dvd_left a b)
theorem lowB_mul (a b : Int) : lowB a b * shr a b = b := by
  unfold lowB
  rw [Int.fdiv_eq_ediv_of_dvd (shr_dvd_right a b)]
  exact Int.ediv_mul_cancel (shr_dvd_right a b)
theorem lowB_pos {a b : Int} (h : b ≠ 0) : 0 < lowB a b := by
  have e := lowB_mul a b
  have g : 0 < Nat.gcd a.natAbs b.natAbs := by
    have : Nat.gcd a.natAbs b.natAbs ≠ 0 := fun z => h (by have := Nat.eq_zero_of_gcd_eq_zero_right z; omega)
    omega
  by_cases c : b < 0
  · have s : shr a b = -((Nat.gcd a.natAbs b.natAbs : Nat) : Int) := if_pos c
    have sn : shr a b < 0 := by omega
    refine Decidable.byContradiction fun z => ?_
    have := Int.mul_nonneg_of_nonpos_of_nonpos (Int.not_lt.mp z) (Int.le_of_lt sn)
    omega
  · have s : shr a b = ((Nat.gcd a.natAbs b.natAbs : Nat) : Int) := if_neg c
    have sn : 0 < shr a b := by omega
    refine Decidable.byContradiction fun z => ?_
    have q : lowB a b * shr a b ≤ 0 := Int.mul_nonpos_of_nonpos_of_nonneg (Int.not_lt.mp z) (Int.le_of_lt sn)
    have b0 : b = 0 := by omega
    exact h b0
theorem low_cop {a b : Int} (h : b ≠ 0) : Nat.gcd (lowT a b).natAbs (lowB a b).natAbs = 1 := by
  have g : 0 < Nat.gcd a.natAbs b.natAbs := by
    have : Nat.gcd a.natAbs b.natAbs ≠ 0 := fun z => h (by have := Nat.eq_zero_of_gcd_eq_zero_right z; omega)
    omega
  have e1 := congrArg Int.natAbs (lowT_mul a b)
  have e2 := congrArg Int.natAbs (lowB_mul a b)
  rw [Int.natAbs_mul, shr_abs] at e1 e2
  have e3 : Nat.gcd ((lowT a b).natAbs * Nat.gcd a.natAbs b.natAbs) ((lowB a b).natAbs * Nat.gcd a.natAbs b.natAbs) = Nat.gcd a.natAbs b.natAbs := by rw [e1, e2]
  rw [Nat.gcd_mul_right] at e3
  exact Nat.eq_of_mul_eq_mul_right g (by rw [e3, Nat.one_mul])
theorem low_le (a b : Int) (h : b ≠ 0) : (lowT a b).natAbs ≤ a.natAbs ∧ (lowB a b).natAbs ≤ b.natAbs := by
  have e1 := congrArg Int.natAbs (lowT_mul a b)
  have e2 := congrArg Int.natAbs (lowB_mul a b)
  rw [Int.natAbs_mul, shr_abs] at e1 e2
  have g : 0 < Nat.gcd a.natAbs b.natAbs := by
    have : Nat.gcd a.natAbs b.natAbs ≠ 0 := fun z => h (by have := Nat.eq_zero_of_gcd_eq_zero_right z; omega)
    omega
  exact ⟨by rw [← e1]; exact Nat.le_mul_of_pos_right _ g, by rw [← e2]; exact Nat.le_mul_of_pos_right _ g⟩
/-- lowest terms are the only coprime pair over a positive bottom with this value -/
theorem low_eq {a b t u : Int} (h : b ≠ 0) (hu : 0 < u) (hc : Nat.gcd t.natAbs u.natAbs = 1) (e : a * u = t * b) : lowT a b = t ∧ lowB a b = u := by
  have h1 := lowT_mul a b
  have h2 := lowB_mul a b
  have p := lowB_pos (a := a) h
  have c := low_cop (a := a) h
  have s := shr_ne (a := a) h
  have k : lowT a b * u = t * lowB a b := by
    have : (lowT a b * u) * shr a b = (t * lowB a b) * shr a b := by
      rw [Int.mul_right_comm, h1, e, Int.mul_assoc, h2]
    exact Int.eq_of_mul_eq_mul_right s this
  have kn := congrArg Int.natAbs k
  rw [Int.natAbs_mul, Int.natAbs_mul] at kn
  have d1 : u.natAbs ∣ (lowB a b).natAbs := by
    have : u.natAbs ∣ t.natAbs * (lowB a b).natAbs := ⟨(lowT a b).natAbs, by rw [← kn, Nat.mul_comm]⟩
    exact Nat.Coprime.dvd_of_dvd_mul_left (Nat.Coprime.symm hc) this
  have d2 : (lowB a b).natAbs ∣ u.natAbs := by
    have : (lowB a b).natAbs ∣ (lowT a b).natAbs * u.natAbs := ⟨t.natAbs, by rw [kn, Nat.mul_comm]⟩
    exact Nat.Coprime.dvd_of_dvd_mul_left (Nat.Coprime.symm c) this
  have eu : lowB a b = u := by
    have := Nat.dvd_antisymm d2 d1
    omega
  refine ⟨?_, eu⟩
  rw [eu] at k
  exact Int.eq_of_mul_eq_mul_right (by omega) k
theorem tl_le {a : Int} (h : a.natAbs.log2 < 1920) : (Str.ofString (toString a)).length ≤ 1921 := by
  have e := int_text_length_le (k := 1920) (by decide) h
  rw [PySem.ofString_length]; omega
theorem sz_num {a : Int} (h : a.natAbs.log2 < 1920) : (Str.empty ++ Str.ofString (toString a)).length ≤ sizeLine := by
  have e := tl_le h
  rw [PySem.Str.length_append, sizeLine_eq, show Str.empty.length = 0 from rfl]; omega
theorem sz_bar {a : Int} (h : a.natAbs.log2 < 1920) : (Str.empty ++ Str.ofString (toString a) ++ ("/" : Str)).length ≤ sizeLine := by
  have e := tl_le h
  rw [PySem.Str.length_append, PySem.Str.length_append, sizeLine_eq, show Str.empty.length = 0 from rfl, show ("/" : Str).length = 1 from rfl]; omega
theorem sz_all {a b : Int} (h : a.natAbs.log2 < 1920) (h2 : b.natAbs.log2 < 1920) : (Str.empty ++ Str.ofString (toString a) ++ ("/" : Str) ++ Str.ofString (toString b)).length ≤ sizeLine := by
  have e := tl_le h
  have e2 := tl_le h2
  rw [PySem.Str.length_append, PySem.Str.length_append, PySem.Str.length_append, sizeLine_eq, show Str.empty.length = 0 from rfl, show ("/" : Str).length = 1 from rfl]; omega
/-! ### numbers of two thousand digits -/
def many (n : Int) : Bool := decide (10 ^ 2000 ≤ n.natAbs)
theorem many_few {n : Int} (h : Builtin.Int.intBits n ≤ 6000) : many n = false := by
  rw [bits_le] at h
  have : (2 : Nat) ^ 6000 ≤ 10 ^ 2000 := by decide +kernel
  exact decide_eq_false (Nat.not_le.mpr (Nat.lt_of_lt_of_le h this))
theorem many_most {n : Int} (h : ¬ Builtin.Int.intBits n ≤ 8000) : many n = true := by
  rw [bits_le] at h
  have : (10 : Nat) ^ 2000 ≤ 2 ^ 8000 := by decide +kernel
  exact decide_eq_true (Nat.le_trans this (Nat.not_lt.mp h))
theorem many_text {n : Int} : decide ((2000 : Int) < ((Str.ofString (toString ((n.natAbs : Nat) : Int))).length : Nat)) = many n := by
  have h := @len_le n.natAbs 2000 (by decide)
  unfold many
  by_cases c : n.natAbs < 10 ^ 2000
  · have := h.mpr c
    rw [decide_eq_false (by omega), decide_eq_false (Nat.not_le.mpr c)]
  · have h2 : ¬ (Str.ofString (toString ((n.natAbs : Nat) : Int))).length ≤ 2000 := fun q => c (h.mp q)
    rw [decide_eq_true (by omega), decide_eq_true (Nat.not_lt.mp c)]
theorem few_many {n : Int} (h : many n = false) : n.natAbs < 2 ^ 6650 := by
  have h' := of_decide_eq_false h
  have : (10 : Nat) ^ 2000 ≤ 2 ^ 6650 := by decide +kernel
  exact Nat.lt_of_lt_of_le (Nat.not_le.mp h') this
theorem many_of {n : Int} {k : Nat} (h : n.natAbs < 2 ^ k) (hk : k ≤ 6000) : many n = false := by
  have : (2 : Nat) ^ 6000 ≤ 10 ^ 2000 := by decide +kernel
  exact decide_eq_false (Nat.not_le.mpr (Nat.lt_of_lt_of_le (Nat.lt_of_lt_of_le h (Nat.pow_le_pow_right (by decide) hk)) this))
/-! ### the rational numbers -/
theorem low_rat {n m : Int} (h : m ≠ 0) : lowT n m = (Rat.divInt n m).num ∧ lowB n m = ((Rat.divInt n m).den : Int) := by
  have hd : ((Rat.divInt n m).den : Int) ≠ 0 := by have := (Rat.divInt n m).den_pos; omega
  refine low_eq h (by have := (Rat.divInt n m).den_pos; omega) (by rw [Int.natAbs_natCast]; exact (Rat.divInt n m).reduced) ?_
  have e : Rat.divInt n m = Rat.divInt (Rat.divInt n m).num (Rat.divInt n m).den := (Rat.num_divInt_den _).symm
  exact (Rat.divInt_eq_divInt_iff h hd).mp e
theorem den_ne (q : Rat) : ((q.den : Nat) : Int) ≠ 0 := by have := q.den_pos; omega
def big (q : Rat) : Bool := many q.num || many (q.den : Int)
theorem add_low (a b : Rat) : lowT (a.num * b.den + b.num * a.den) (a.den * b.den) = (a + b).num ∧ lowB (a.num * b.den + b.num * a.den) (a.den * b.den) = ((a + b).den : Int) := by
  have h := low_rat (n := a.num * b.den + b.num * a.den) (m := (a.den : Int) * b.den) (Int.mul_ne_zero (den_ne a) (den_ne b))
  have e : Rat.divInt (a.num * b.den + b.num * a.den) ((a.den : Int) * b.den) = a + b := by
    rw [← Rat.divInt_add_divInt _ _ (den_ne a) (den_ne b), Rat.num_divInt_den, Rat.num_divInt_den]
  rw [e] at h
  exact h
theorem neg_q (a : Rat) : (-a).num = -a.num ∧ (-a).den = a.den := ⟨Rat.neg_num a, rfl⟩
theorem sub_low (a b : Rat) : lowT (a.num * b.den - b.num * a.den) (a.den * b.den) = (a - b).num ∧ lowB (a.num * b.den - b.num * a.den) (a.den * b.den) = ((a - b).den : Int) := by
  have h := add_low a (-b)
  rw [(neg_q b).1, (neg_q b).2, Int.neg_mul, ← Int.sub_eq_add_neg, ← Rat.sub_eq_add_neg] at h
  exact h
theorem mul_low (a b : Rat) : lowT (a.num * b.num) (a.den * b.den) = (a * b).num ∧ lowB (a.num * b.num) (a.den * b.den) = ((a * b).den : Int) := by
  have h := low_rat (n := a.num * b.num) (m := (a.den : Int) * b.den) (Int.mul_ne_zero (den_ne a) (den_ne b))
  have e : Rat.divInt (a.num * b.num) ((a.den : Int) * b.den) = a * b := by
    rw [← Rat.divInt_mul_divInt, Rat.num_divInt_den, Rat.num_divInt_den]
  rw [e] at h
  exact h
theorem num_ne {b : Rat} (h : b ≠ 0) : b.num ≠ 0 := fun z => h (Rat.num_eq_zero.mp z)
theorem div_low (a b : Rat) (h : b ≠ 0) : lowT (a.num * b.den) (a.den * b.num) = (a / b).num ∧ lowB (a.num * b.den) (a.den * b.num) = ((a / b).den : Int) := by
  have h := low_rat (n := a.num * b.den) (m := (a.den : Int) * b.num) (Int.mul_ne_zero (den_ne a) (num_ne h))
  have e : Rat.divInt (a.num * b.den) ((a.den : Int) * b.num) = a / b := by
    rw [← Rat.divInt_mul_divInt, Rat.num_divInt_den, Rat.div_def]
    have e2 : Rat.divInt (b.den : Int) b.num = b⁻¹ := by
      rw [← Rat.inv_divInt, Rat.num_divInt_den]
    rw [e2]
  rw [e] at h
  exact h
theorem eq_q (a b : Rat) : (decide (a.num = b.num) && decide ((a.den : Int) = b.den)) = decide (a = b) := by
  by_cases h : a = b
  · subst h
    simp
  · rw [decide_eq_false h]
    by_cases h1 : a.num = b.num
    · by_cases h2 : a.den = b.den
      · exact absurd (Rat.ext h1 h2) h
      · rw [decide_eq_false (show ¬ (a.den : Int) = b.den by omega), Bool.and_false]
    · rw [decide_eq_false h1, Bool.false_and]
def qabs (a : Rat) : Rat := if a.num < 0 then -a else a
theorem abs_q (a : Rat) : (qabs a).num = ((a.num.natAbs : Nat) : Int) ∧ (qabs a).den = a.den := by
  unfold qabs
  split
  · rw [(neg_q a).1, (neg_q a).2]
    exact ⟨by omega, rfl⟩
  · exact ⟨by omega, rfl⟩
theorem lo_self (n : Int) (d : Nat) (hd : d ≠ 0) (hc : n.natAbs.Coprime d) : lowT n d = n ∧ lowB n d = d := low_eq (by omega) (by omega) (by rw [Int.natAbs_natCast]; exact hc) rfl
theorem neg_low (a : Rat) : lowT (-a.num) a.den = (-a).num ∧ lowB (-a.num) a.den = ((-a).den : Int) := by
  have h := lo_self (-a).num (-a).den (-a).den_nz (-a).reduced
  rw [(neg_q a).1, (neg_q a).2] at h
  rw [(neg_q a).1, (neg_q a).2]
  exact h
theorem abs_low (a : Rat) : lowT ((a.num.natAbs : Nat) : Int) a.den = (qabs a).num ∧ lowB ((a.num.natAbs : Nat) : Int) a.den = ((qabs a).den : Int) := by
  have h := lo_self (qabs a).num (qabs a).den (qabs a).den_nz (qabs a).reduced
  rw [(abs_q a).1, (abs_q a).2] at h
  rw [(abs_q a).1, (abs_q a).2]
  exact h
theorem big_neg (a : Rat) : big (-a) = big a := by
  unfold big many
  rw [(neg_q a).1, (neg_q a).2, Int.natAbs_neg]
theorem big_abs (a : Rat) : big (qabs a) = big a := by
  unfold big many
  rw [(abs_q a).1, (abs_q a).2, Int.natAbs_natCast]
theorem big_of {a : Rat} (h : big a = false) : many a.num = false ∧ many (a.den : Int) = false := by
  unfold big at h
  cases h1 : many a.num <;> cases h2 : many (a.den : Int) <;> simp [h1, h2] at h ⊢
theorem w_mul {x y : Int} (hx : many x = false) (hy : many y = false) : (x * y).natAbs < 2 ^ 13300 := by
  have a := few_many hx
  have b := few_many hy
  rw [Int.natAbs_mul, show 13300 = 6650 + 6650 from rfl, Nat.pow_add]
  exact Nat.mul_lt_mul'' a b
theorem w_up {x : Int} (h : x.natAbs < 2 ^ 13300) : x.natAbs < 2 ^ 13400 := Nat.lt_of_lt_of_le h (Nat.pow_le_pow_right (by decide) (by decide))
theorem w_add {x y : Int} (hx : x.natAbs < 2 ^ 13300) (hy : y.natAbs < 2 ^ 13300) : (x + y).natAbs < 2 ^ 13400 := by
  have e : (2 : Nat) ^ 13301 = 2 ^ 13300 * 2 := Nat.pow_succ _ _
  have l : (2 : Nat) ^ 13301 ≤ 2 ^ 13400 := Nat.pow_le_pow_right (by decide) (by decide)
  generalize (2 : Nat) ^ 13300 = P at *
  omega
theorem w_sub {x y : Int} (hx : x.natAbs < 2 ^ 13300) (hy : y.natAbs < 2 ^ 13300) : (x - y).natAbs < 2 ^ 13400 := by
  rw [Int.sub_eq_add_neg]
  exact w_add hx (by rw [Int.natAbs_neg]; exact hy)
theorem cm_many {x y : Int} (hx : many x = false) (hy : many y = false) : CMulW x y := by
  have a := log_of (by decide) (few_many hx)
  have b := log_of (by decide) (few_many hy)
  unfold CMulW
  omega
theorem log_le {n k : Nat} (h : n < 2 ^ k) : n.log2 ≤ k := by
  by_cases e : k = 0
  · subst e
    have : n = 0 := by simpa using h
    subst this
    decide
  · exact Nat.le_of_lt (log_of (by omega) h)
/-- both terms by what they share -/
theorem cd_low {a b z : Int} (hb : b ≠ 0) (h : z.natAbs < 2 ^ 13400) : CDivX z (shr a b) := by
  refine ⟨shr_ne hb, ?_⟩
  have l := log_le h
  by_cases c : (shr a b).natAbs.log2 < 9000
  · exact .inl c
  · exact .inr (by omega)
end K01

namespace K01
open PySem PySem.Spec PyProof.Rows L2 L3

/-! ### what a ratio is in the heap -/
def rf (t b : Int) : List (Str × V) := [("_top", .int t), ("_bottom", .int b)]
theorem tb_ : ¬ (("_top" : Str) = "_bottom") := by decide +kernel
theorem lk_here {k : Str} {v : V} {r : List (Str × V)} : List.lookup k ((k, v) :: r) = some v := by
  have e : (k == k) = true := beq_self_eq_true k
  simp only [List.lookup, e]
theorem lk_past {k g : Str} {v : V} {r : List (Str × V)} (h : (k == g) = false) : List.lookup k ((g, v) :: r) = List.lookup k r := by
  simp only [List.lookup, h]
theorem rf_top (t b : Int) : (rf t b).lookup ("_top" : Str) = some (.int t) := lk_here
theorem rf_bottom (t b : Int) : (rf t b).lookup ("_bottom" : Str) = some (.int b) := (lk_past (by decide +kernel)).trans lk_here
theorem rf_is_less (t b : Int) : (rf t b).lookup ("is_less" : Str) = none := (lk_past (by decide +kernel)).trans ((lk_past (by decide +kernel)).trans rfl)
theorem rf_new (t b : Int) : putF "_bottom" (.int b) (putF "_top" (.int t) []) = rf t b := if_neg tb_
theorem rf_put_top (t b y : Int) : putF "_top" (.int y) (rf t b) = rf y b := if_pos rfl
theorem rf_put_bottom (t b y : Int) : putF "_bottom" (.int y) (rf t b) = rf t y := by
  show (if ("_top" : Str) = "_bottom" then _ else (("_top" : Str), V.int t) :: (if ("_bottom" : Str) = "_bottom" then [(("_bottom" : Str), V.int y)] else _)) = rf t y
  rw [if_neg tb_, if_pos rfl]
  rfl
def RatAt (C : Addr) (H : Hp) (a : Addr) (t b : Int) : Prop := ∃ dx, H a = some (.ins C dx (rf t b))
def Ext (H H' : Hp) : Prop := ∀ a o, H a = some o → H' a = some o
theorem RatAt.ext {C : Addr} {H H' : Hp} {a : Addr} {t b : Int} (r : RatAt C H a t b) (e : Ext H H') : RatAt C H' a t b := r.elim fun dx h => ⟨dx, e _ _ h⟩
theorem Ext.trans {H H1 H2 : Hp} (a : Ext H H1) (b : Ext H1 H2) : Ext H H2 := fun c o h => b c o (a c o h)
theorem Ext.new {H : Hp} {p : Addr} {o : HO} (h : H p = none) : Ext H (upd H p o) := fun a u e => by
  rw [upd_ne (ne_of_none e h)]
  exact e
theorem Ext.free {H H' : Hp} (e : Ext H H') {l : Addr} (h : H' l = none) : H l = none := by
  cases q : H l with
  | none => rfl
  | some o =>
    rw [e l o q] at h
    cases h
/-! ### which values are whole numbers of at most sixty digits -/
def NonInt (K : PySem.W.Frag) (H : Hp) (x : V) : Prop := ∃ t, TyOf K H x t ∧ PySem.W.kitOne K t (.type "int") = some false
def Kn (K : PySem.W.Frag) (H : Hp) (x : V) : Prop := (∃ n, x = .int n) ∨ (∃ b, x = .bl b) ∨ NonInt K H x
def plainV : V → Bool
  | .int n => !longer n
  | _ => false
theorem plain_non {K : PySem.W.Frag} {H : Hp} {x : V} (h : NonInt K H x) : plainV x = false := by
  obtain ⟨t, ty, e⟩ := h
  cases ty with
  | int i => rw [show PySem.W.kitOne K (.type "int") (.type "int") = some true from rfl] at e; cases e
  | _ => rfl
theorem Kn.ext {K : PySem.W.Frag} {H H' : Hp} {x : V} (h : Kn K H x) (e : Ext H H') : Kn K H' x := by
  rcases h with h | h | ⟨t, ty, q⟩
  · exact .inl h
  · exact .inr (.inl h)
  · refine .inr (.inr ⟨t, ?_, q⟩)
    clear q
    cases ty with
    | non => exact .non
    | bl x => exact .bl x
    | int i => exact .int i
    | str x => exact .str x
    | flt x => exact .flt x
    | lst h => exact .lst (e _ _ h)
    | frz h => exact .frz (e _ _ h)
    | tup h => exact .tup (e _ _ h)
    | dK h => exact .dK (e _ _ h)
    | dT h => exact .dT (e _ _ h)
    | ins h a b c d f => exact .ins (e _ _ h) a b c d f
/-! ### the promises -/
def RatQ (C : Addr) (H : Hp) (r : Addr) (q : Rat) : Prop := RatAt C H r q.num q.den
def spLonger : Sp := fun vs H Q _ => ∃ n d : Int, vs = [.int n, .int d] ∧ ((d = 60 ∧ Q (.bl (longer n)) H) ∨ (d = 2000 ∧ Q (.bl (many n)) H))
def spPlain (K : PySem.W.Frag) : Sp := fun vs H Q _ => ∃ x, vs = [x] ∧ Kn K H x ∧ Q (.bl (plainV x)) H
def spLow : Sp := fun vs H Q _ => ∃ a b : Int, vs = [.int a, .int b] ∧ b ≠ 0 ∧ a.natAbs < 2 ^ 13400 ∧ b.natAbs < 2 ^ 13400 ∧ ∀ p, H p = none → Q (.ref p) (upd H p (.tup [.int (lowT a b), .int (lowB a b)]))
def Ext1 (p : Addr) (H H' : Hp) : Prop := ∀ c o, c ≠ p → H c = some o → H' c = some o
def spInit (K : PySem.W.Frag) (C : Addr) : Sp := fun vs H Q _ => ∃ (p dx : Addr) (a b : Int), vs = [.ref p, .int a, .int b] ∧ H p = some (.ins C dx []) ∧ longer a = false ∧ longer b = false ∧ b ≠ 0 ∧ ∀ H', Ext1 p H H' → H' p = some (.ins C dx (rf (lowT a b) (lowB a b))) → Q .non H'
def spRatio (C N : Addr) : Sp := fun vs H Q E => ∃ a b : Int, vs = [.int a, .int b] ∧ b ≠ 0 ∧ a.natAbs < 2 ^ 13400 ∧ b.natAbs < 2 ^ 13400 ∧
  ((many (lowT a b) || many (lowB a b)) = true → ∀ d H', Ext H H' → H' d = some (.xd [("limit", .int 2000)]) → E (.ref N) (some d) H') ∧
  ((many (lowT a b) || many (lowB a b)) = false → ∀ r H', Ext H H' → RatAt C H' r (lowT a b) (lowB a b) → Q (.ref r) H')
def spGet (C : Addr) (f : Int → Int → V) : Sp := fun vs H Q _ => ∃ p t b, vs = [.ref p] ∧ RatAt C H p t b ∧ Q (f t b) H
def spOne (C : Addr) (f : Rat → Rat) : Sp := fun vs H Q _ => ∃ p a, vs = [.ref p] ∧ RatQ C H p a ∧ big a = false ∧ ∀ r H', Ext H H' → RatQ C H' r (f a) → Q (.ref r) H'
def spTwo (C N : Addr) (f : Rat → Rat → Rat) : Sp := fun vs H Q E => ∃ p q a b, vs = [.ref p, .ref q] ∧ RatQ C H p a ∧ RatQ C H q b ∧ big a = false ∧ big b = false ∧
  (big (f a b) = true → ∀ d H', Ext H H' → H' d = some (.xd [("limit", .int 2000)]) → E (.ref N) (some d) H') ∧
  (big (f a b) = false → ∀ r H', Ext H H' → RatQ C H' r (f a b) → Q (.ref r) H')
def spOver (K : PySem.W.Frag) (C N R : Addr) : Sp := fun vs H Q E => ∃ p y a, vs = [.ref p, y] ∧ RatQ C H p a ∧ big a = false ∧
  ((∃ q b, y = .ref q ∧ RatQ C H q b ∧ big b = false ∧ (b = 0 → E (.type "ZeroDivisionError") none H) ∧
    (b ≠ 0 → big (a / b) = true → ∀ d H', Ext H H' → H' d = some (.xd [("limit", .int 2000)]) → E (.ref N) (some d) H') ∧
    (b ≠ 0 → big (a / b) = false → ∀ r H', Ext H H' → RatQ C H' r (a / b) → Q (.ref r) H')) ∨
   (∃ t, TyX K H y t ∧ PySem.W.kitOne K t (.ref C) = some false ∧ E (.ref R) none H))
def spEq (C : Addr) : Sp := fun vs H Q _ => ∃ p q a b, vs = [.ref p, .ref q] ∧ RatQ C H p a ∧ RatQ C H q b ∧ Q (.bl (decide (a = b))) H
def spLess (C : Addr) : Sp := fun vs H Q _ => ∃ p q a b, vs = [.ref p, .ref q] ∧ RatQ C H p a ∧ RatQ C H q b ∧ big a = false ∧ big b = false ∧ Q (.bl (decide (a < b))) H
def spTrue (C : Addr) : Sp := fun vs H Q _ => ∃ p a, vs = [.ref p] ∧ RatQ C H p a ∧ Q (.bl (decide (a ≠ 0))) H
theorem ps_no {X : Cx} {st : Stmt} : PS X st (fun _ _ _ => False) := ⟨fun _ _ _ _ _ _ h => h.elim⟩
theorem ratq_ext {C : Addr} {H H' : Hp} {r : Addr} {q : Rat} (h : RatQ C H r q) (e : Ext H H') : RatQ C H' r q := RatAt.ext h e
section
variable {P : Program} {w : World} {K : PySem.W.Frag} {mg : Str → Option Value} {base : Heap}
theorem ok_is_longer (T : TX K mg) : FnOk P w K mg base (L2.CX P w) 1 T.f_is_longer T.d_is_longer ["number", "digits"] (spLonger) := by
  refine T.F_is_longer.okX sc_is_longer (fun vs H Q E h => ?_) (fun cdv A outer s H vs Q E hr h => ?_)
  · obtain ⟨n, d, rfl, _⟩ := h
    rfl
  · refine ⟨_, (pss_cons (ps_set (i := 2) sc_is_longer.nd rfl (Or.inl rfl) (pe_bits (pv 0)))
    (pss_cons (ps_if (pt_cmpR op_le (pv 2) (pe_op op_mulW (pe_glob (v := .int 3) rfl T.c_FEWEST_BITS ⟨_, rfl⟩) (pv 1)) (nomark _)) (pss_one (ps_ret pe_bl)) pss_nil)
    (pss_one (ps_ret (pe_or (pe_cmpR op_gt (pv 2) (pe_op op_mulW (pe_glob (v := .int 4) rfl T.c_MOST_BITS ⟨_, rfl⟩) (pv 1)) (nomark _)) (pe_one (pe_cmpR op_gt (pe_callB call_len_str (by rfl) T.n_len (by decide +kernel) (pa_cons (pe_callTy (call_str_intD T.dg rfl) (by rfl) T.n_str (by decide +kernel) (pa_cons (pe_callB call_abs (by rfl) T.n_abs (by decide +kernel) (pa_cons (pv 0) pa_nil)) pa_nil)) pa_nil)) (pv 1) (nomark _)))))))), ?_⟩
    obtain ⟨n, d, rfl, h⟩ := h
    refine ⟨_, rfl, _, rfl, ?_⟩
    rcases h with ⟨rfl, k⟩ | ⟨rfl, k⟩
    · refine ⟨_, rfl, _, rfl, _, _, rfl, rfl, (by unfold CMulW; decide), _, _, rfl, rfl, _, rfl, ?_⟩
      refine ite2 (fun c => ?_) (fun c => ?_)
      · have c' := of_decide_eq_true c
        rw [longer_few (by omega)] at k
        exact k
      · refine ⟨_, rfl, _, rfl, _, _, rfl, rfl, (by unfold CMulW; decide), _, _, rfl, rfl, _, rfl, ?_⟩
        refine ite2 (fun c2 => ?_) (fun c2 => ?_)
        · have c' := of_decide_eq_true c2
          rw [longer_most (by omega)] at k
          exact k
        · have c' : ¬ ((4 : Int) * 60 < (Builtin.Int.intBits n : Nat)) := fun z => c2 (decide_eq_true z)
          have hb : n.natAbs < 2 ^ 240 := bits_le.mp (by omega)
          have h10 : n.natAbs < 10 ^ 4300 := Nat.lt_of_lt_of_le hb (by decide +kernel)
          refine ⟨_, rfl, _, rfl, ?_⟩
          rw [abs_if]
          refine ⟨_, rfl, h10, ?_⟩
          refine ⟨_, rfl, int_text_fits10 h10, ?_⟩
          refine ⟨_, rfl, _, _, rfl, rfl, ?_⟩
          show Q (.bl (decide ((60 : Int) < _))) H
          rw [longer_text]
          exact k
    · refine ⟨_, rfl, _, rfl, _, _, rfl, rfl, (by unfold CMulW; decide), _, _, rfl, rfl, _, rfl, ?_⟩
      refine ite2 (fun c => ?_) (fun c => ?_)
      · have c' := of_decide_eq_true c
        rw [many_few (by omega)] at k
        exact k
      · refine ⟨_, rfl, _, rfl, _, _, rfl, rfl, (by unfold CMulW; decide), _, _, rfl, rfl, _, rfl, ?_⟩
        refine ite2 (fun c2 => ?_) (fun c2 => ?_)
        · have c' := of_decide_eq_true c2
          rw [many_most (by omega)] at k
          exact k
        · have c' : ¬ ((4 : Int) * 2000 < (Builtin.Int.intBits n : Nat)) := fun z => c2 (decide_eq_true z)
          have hb : n.natAbs < 2 ^ 8000 := bits_le.mp (by omega)
          have h10 : n.natAbs < 10 ^ 4300 := Nat.lt_of_lt_of_le hb (by decide +kernel)
          refine ⟨_, rfl, _, rfl, ?_⟩
          rw [abs_if]
          refine ⟨_, rfl, h10, ?_⟩
          refine ⟨_, rfl, int_text_fits10 h10, ?_⟩
          refine ⟨_, rfl, _, _, rfl, rfl, ?_⟩
          show Q (.bl (decide ((2000 : Int) < _))) H
          rw [many_text]
          exact k
theorem ok_is_plain_int (T : TX K mg) : FnOk P w K mg base (L2.CX P w) 2 T.f_is_plain_int T.d_is_plain_int ["value"] (spPlain K) := by
  refine T.F_is_plain_int.okX sc_is_plain_int (fun vs H Q E h => ?_) (fun cdv A outer s H vs Q E hr h => ?_)
  · obtain ⟨x, rfl, _⟩ := h
    rfl
  · refine ⟨_, (pss_one (ps_ret (pe_and (pe_callB (id := "isinstance") (r := rIsi K) call_isi (by rfl) T.n_isinstance (by decide +kernel) (pa_cons (pv 0) (pa_cons (pe_bltn (v := .ty "int") (u := .type "int") rfl T.n_int (by decide +kernel) rfl) pa_nil))) (pe_and (pe_not (pe_callB (id := "isinstance") (r := rIsi K) call_isi (by rfl) T.n_isinstance (by decide +kernel) (pa_cons (pv 0) (pa_cons (pe_bltn (v := .ty "bool") (u := .type "bool") rfl T.n_bool (by decide +kernel) rfl) pa_nil)))) (pe_one (pe_not (pe_call (ok_is_longer T) (hr.mono (by decide)) (by rfl) T.g_is_longer T.F_is_longer.kp T.b_is_longer .nil passL (pa_cons (pv 0) (pa_cons (pe_glob (v := .int 60) rfl T.c_MAX_FIGURES ⟨_, rfl⟩) pa_nil))))))))), ?_⟩
    obtain ⟨x, rfl, hk, k⟩ := h
    rcases hk with ⟨n, rfl⟩ | ⟨b, rfl⟩ | hn
    · refine ⟨_, rfl, _, _, _, _, _, rfl, .ty _, .base (.int n), kit_ty (r := true) (by decide +kernel), _, rfl, iteT ?_⟩
      refine ⟨_, rfl, _, _, _, _, _, rfl, .ty _, .base (.int n), kit_ty (r := false) (by decide +kernel), _, rfl, _, rfl, iteT ?_⟩
      exact ⟨_, rfl, n, 60, rfl, .inl ⟨rfl, _, rfl, k⟩⟩
    · refine ⟨_, rfl, _, _, _, _, _, rfl, .ty _, .base (.bl b), kit_ty (r := true) (by decide +kernel), _, rfl, iteT ?_⟩
      refine ⟨_, rfl, _, _, _, _, _, rfl, .ty _, .base (.bl b), kit_ty (r := true) (by decide +kernel), _, rfl, _, rfl, iteF ?_⟩
      exact k
    · rw [plain_non hn] at k
      obtain ⟨t, ty, e⟩ := hn
      refine ⟨_, rfl, _, _, _, _, _, rfl, .ty _, .base ty, e, _, rfl, iteF ?_⟩
      exact k
theorem ok_lowest_terms (T : TX K mg) : FnOk P w K mg base (L2.CX P w) 1 T.f_lowest_terms T.d_lowest_terms ["top", "bottom"] (spLow) := by
  refine T.F_lowest_terms.okX sc_lowest_terms (fun vs H Q E h => ?_) (fun cdv A outer s H vs Q E hr h => ?_)
  · obtain ⟨a, b, rfl, _⟩ := h
    rfl
  · refine ⟨_, (pss_cons (ps_set (i := 2) sc_lowest_terms.nd rfl (Or.inl rfl) (pe_callBfun cr_gcd (by rfl) T.g_gcd (pa_cons (pv 0) (pa_cons (pv 1) pa_nil))))
    (pss_cons (ps_if (pt_cmpR op_lt (pv 1) pe_int (nomark _)) (pss_one (ps_set (i := 2) sc_lowest_terms.nd rfl (Or.inl rfl) (pe_un un_neg (pv 2)))) pss_nil)
    (pss_one (ps_ret (pe_tup (pa_cons (pe_op op_fdivX (pv 0) (pv 2)) (pa_cons (pe_op op_fdivX (pv 1) (pv 2)) pa_nil))))))), ?_⟩
    obtain ⟨a, b, rfl, hb, ha, hz, k⟩ := h
    refine ⟨_, rfl, _, rfl, _, _, rfl, ?_⟩
    refine ⟨_, rfl, _, _, rfl, rfl, _, rfl, ?_⟩
    have fin : ∀ z, z = shr a b → tRet (tTup (tCons (tOp (rI CDivX fun i j => .int (i.fdiv j)) (tVar 0) (tVar 2)) (tCons (tOp (rI CDivX fun i j => .int (i.fdiv j)) (tVar 1) (tVar 2)) tNil))) { nx := fun _ H' => Q .non H', rt := Q } [some (.int a), some (.int b), some (.int z)] H := by
      rintro z rfl
      exact ⟨_, rfl, _, rfl, _, _, rfl, rfl, cd_low hb ha, _, rfl, _, rfl, _, _, rfl, rfl, cd_low hb hz, (by show 2 ≤ sizeLine; decide), k⟩
    refine ite2 (fun c => ?_) (fun c => ?_)
    · refine ⟨_, rfl, _, rfl, fin _ ?_⟩
      exact (if_pos (of_decide_eq_true c)).symm
    · refine fin _ ?_
      exact (if_neg (fun z => c (decide_eq_true z))).symm
theorem ok_Ratio___init__ (T : TX K mg) : FnOk P w K mg base (L2.CX P w) 3 T.f_Ratio___init__ T.d_Ratio___init__ ["self", "top", "bottom"] (spInit K T.C_Ratio) := by
  refine FunD.ok (CX := L2.CX P w) T.F_Ratio___init__ sc_Ratio___init__ (fun vs H Q E h => ?_) (fun cdv A outer s H vs Q E hr h => ?_)
  · obtain ⟨p, dx, a, b, rfl, _⟩ := h
    rfl
  · refine ⟨_, (pss_cons (ps_if (pt_not (pt_val (pe_call (ok_is_plain_int T) (hr.mono (by decide)) (by rfl) T.g_is_plain_int T.F_is_plain_int.kp T.b_is_plain_int .nil passL (pa_cons (pv 1) pa_nil)))) (pss_one (ps_raiseInvalidNumber rfl T.x_InvalidNumber hr (takes_of rfl rfl rfl rfl) (pa_cons (pv 1) pa_nil))) pss_nil)
    (pss_cons (ps_if (PW.pt (pw_or (pt_not (pt_val (pe_call (ok_is_plain_int T) (hr.mono (by decide)) (by rfl) T.g_is_plain_int T.F_is_plain_int.kp T.b_is_plain_int .nil passL (pa_cons (pv 2) pa_nil)))) (pw_or1 (pt_cmpR op_eq (pv 2) pe_int (nomark _))))) (pss_one (ps_raiseInvalidNumber rfl T.x_InvalidNumber hr (takes_of rfl rfl rfl rfl) (pa_cons (pv 2) pa_nil))) pss_nil)
    (pss_one (ps_asg (pe_call (ok_lowest_terms T) (hr.mono (by decide)) (by rfl) T.g_lowest_terms T.F_lowest_terms.kp T.b_lowest_terms .nil passL (pa_cons (pv 1) (pa_cons (pv 2) pa_nil))) (pg_tup (by rfl) (pgs_cons (pg_fld (pv 0)) (pgs_cons (pg_fld (pv 0)) pgs_nil))))))), ?_⟩
    obtain ⟨p, dx, a, b, rfl, hp, la, lb, b0, k3⟩ := h
    have px : plainV (.int a) = true := by simp [plainV, la]
    have py : plainV (.int b) = true := by simp [plainV, lb]
    refine ⟨_, rfl, _, rfl, .inl ⟨a, rfl⟩, _, rfl, if_false_of (by rw [px] <;> rfl) ?_⟩
    refine ⟨_, rfl, _, rfl, .inl ⟨b, rfl⟩, _, rfl, if_false_of (by rw [py] <;> rfl) ?_⟩
    refine ⟨_, rfl, rfl, _, rfl, ?_⟩
    refine if_false_of (decide_eq_false (fun z => b0 (V.int.inj z))) ?_
    refine ⟨_, rfl, _, rfl, a, b, rfl, b0, short_of la (by decide), short_of lb (by decide), fun q hq => ?_⟩
    have npq : p ≠ q := ne_of_none hp hq
    refine ⟨q, _, rfl, SqT.of upd_same, rfl, _, _, rfl, _, rfl, p, T.C_Ratio, dx, [], rfl, (by rw [upd_ne npq]; exact hp), T.cl_Ratio, T.n_Ratio__top, (by show 0 < 1000; decide), ?_⟩
    refine ⟨_, _, rfl, _, rfl, p, T.C_Ratio, dx, _, rfl, upd_same, T.cl_Ratio, T.n_Ratio__bottom, (by show 1 < 1000; decide), rfl, ?_⟩
    refine k3 _ (fun c o hc e => ?_) (by rw [upd_same, rf_new])
    rw [upd_ne hc, upd_ne hc, upd_ne (ne_of_none e hq)]
    exact e
theorem ok_ratio_of (T : TX K mg) : FnOk P w K mg base (L2.CX P w) 5 T.f_ratio_of T.d_ratio_of ["top", "bottom"] (spRatio T.C_Ratio T.C_TooMany) := by
  refine T.F_ratio_of.okX sc_ratio_of (fun vs H Q E h => ?_) (fun cdv A outer s H vs Q E hr h => ?_)
  · obtain ⟨a, b, rfl, _⟩ := h
    rfl
  · refine ⟨_, (pss_cons (ps_asg (pe_call (ok_lowest_terms T) (hr.mono (by decide)) (by rfl) T.g_lowest_terms T.F_lowest_terms.kp T.b_lowest_terms .nil passL (pa_cons (pv 0) (pa_cons (pv 1) pa_nil))) (pg_tup (by rfl) (pgs_cons (pg_name (i := 0) sc_ratio_of.nd rfl (Or.inl rfl)) (pgs_cons (pg_name (i := 1) sc_ratio_of.nd rfl (Or.inl rfl)) pgs_nil))))
    (pss_cons (ps_if (PW.pt (pw_or (pt_val (pe_call (ok_is_longer T) (hr.mono (by decide)) (by rfl) T.g_is_longer T.F_is_longer.kp T.b_is_longer .nil passL (pa_cons (pv 0) (pa_cons (pe_glob (v := .int 2000) rfl T.c_MAX_DIGITS ⟨_, rfl⟩) pa_nil)))) (pw_or1 (pt_val (pe_call (ok_is_longer T) (hr.mono (by decide)) (by rfl) T.g_is_longer T.F_is_longer.kp T.b_is_longer .nil passL (pa_cons (pv 1) (pa_cons (pe_glob (v := .int 2000) rfl T.c_MAX_DIGITS ⟨_, rfl⟩) pa_nil))))))) (pss_one (ps_raiseTooMany rfl T.x_TooMany hr (takes_of rfl rfl rfl rfl) (pa_cons (pe_glob (v := .int 2000) rfl T.c_MAX_DIGITS ⟨_, rfl⟩) pa_nil))) pss_nil)
    (pss_cons (ps_set (i := 2) sc_ratio_of.nd rfl (Or.inl rfl) (pe_make T.mk_Ratio (ok_Ratio___init__ T) (hr.mono (by decide)) (by rfl) T.g_Ratio T.b_Ratio___init___2 T.v_Ratio___init___2 passL (pa_cons pe_int pa_nil)))
    (pss_cons (ps_fld (pv 2) (pv 0) rfl)
    (pss_cons (ps_fld (pv 2) (pv 1) rfl)
    (pss_one (ps_ret (pv 2)))))))), ?_⟩
    obtain ⟨a, b, rfl, b0, ha, hb, kE, k⟩ := h
    refine ⟨_, rfl, _, rfl, a, b, rfl, b0, ha, hb, fun q hq => ?_⟩
    have e0 : Ext H (upd H q (.tup [.int (lowT a b), .int (lowB a b)])) := Ext.new hq
    refine ⟨q, _, rfl, SqT.of upd_same, rfl, _, _, rfl, _, _, rfl, rfl, ?_⟩
    refine ⟨_, rfl, _, _, rfl, .inr ⟨rfl, _, rfl, ?_⟩⟩
    cases m1 : many (lowT a b) with
    | true =>
      rw [m1] at kE
      refine iteT (iteT ?_)
      exact ⟨_, rfl, fun d hd => kE rfl d _ (e0.trans (Ext.new hd)) upd_same⟩
    | false =>
      refine iteF ?_
      refine ⟨_, rfl, _, _, rfl, .inr ⟨rfl, _, rfl, ?_⟩⟩
      rw [m1] at kE k
      cases m2 : many (lowB a b) with
      | true =>
        rw [m2] at kE
        refine iteT ?_
        exact ⟨_, rfl, fun d hd => kE rfl d _ (e0.trans (Ext.new hd)) upd_same⟩
      | false =>
        rw [m2] at k
        refine iteF ?_
        intro x dx nx ndx nex
        refine ⟨x, dx, 0, 1, rfl, upd_same, (by decide +kernel), (by decide +kernel), (by decide), fun H' e1 hx => ⟨rfl, ?_⟩⟩
        refine ⟨_, rfl, _, rfl, x, T.C_Ratio, dx, _, rfl, hx, T.cl_Ratio, T.n_Ratio__top, (by show 2 < 1000; decide), ?_⟩
        refine ⟨_, rfl, _, rfl, x, T.C_Ratio, dx, _, rfl, upd_same, T.cl_Ratio, T.n_Ratio__bottom, (by rw [rf_put_top]; show 2 < 1000; decide), ?_⟩
        refine ⟨_, rfl, k rfl x _ (fun c o e => ?_) ⟨dx, by rw [upd_same, rf_put_top, rf_put_bottom]⟩⟩
        have n1 : c ≠ x := ne_of_none (e0 _ _ e) nx
        rw [upd_ne n1, upd_ne n1]
        refine e1 _ _ n1 ?_
        rw [upd_ne n1, upd_ne (ne_of_none (e0 _ _ e) ndx)]
        exact e0 _ _ e
theorem ok_Ratio___add__ (T : TX K mg) : FnOk P w K mg base (L2.CX P w) 6 T.f_Ratio___add__ T.d_Ratio___add__ ["self", "other"] (spTwo T.C_Ratio T.C_TooMany (fun a b => a + b)) := by
  refine T.F_Ratio___add__.okX sc_Ratio___add__ (fun vs H Q E h => ?_) (fun cdv A outer s H vs Q E hr h => ?_)
  · obtain ⟨p, q, a, b, rfl, _⟩ := h
    rfl
  · refine ⟨_, (pss_cons (ps_if (pt_not (pt_val (pe_callB (id := "isinstance") (r := rIsi K) call_isi (by rfl) T.n_isinstance (by decide +kernel) (pa_cons (pv 1) (pa_cons (pe_glob (v := .ref T.C_Ratio) rfl T.g_Ratio rfl) pa_nil))))) (pss_one ps_no) pss_nil)
    (pss_one (ps_ret (pe_callS (ok_ratio_of T) (hr.mono (by decide)) (by rfl) T.g_ratio_of T.F_ratio_of.kp T.b_ratio_of (fun σ => passAt (takes_of rfl rfl rfl rfl) σ) (pa_cons (pe_op op_add (pe_op op_mulW (pe_fld (pv 0) rfl) (pe_fld (pv 1) rfl)) (pe_op op_mulW (pe_fld (pv 1) rfl) (pe_fld (pv 0) rfl))) (pa_cons (pe_op op_mulW (pe_fld (pv 0) rfl) (pe_fld (pv 1) rfl)) pa_nil)))))), ?_⟩
    obtain ⟨p, q, a, b, rfl, ⟨dx, hp⟩, ⟨dy, hq⟩, ba, bb, kE, k⟩ := h
    obtain ⟨a1, a2⟩ := big_of ba
    obtain ⟨b1, b2⟩ := big_of bb
    have l := add_low a b
    have z : big (a + b) = (many _ || many _) := rfl
    rw [z, ← l.1, ← l.2] at kE k
    refine ⟨_, rfl, _, _, _, _, _, rfl, .own _, .base (T.tc_Ratio.ty hq), T.kit_Ratio, _, rfl, iteF ?_⟩
    refine ⟨_, rfl, p, T.C_Ratio, dx, _, _, rfl, hp, T.cl_Ratio, T.n_Ratio__top, rf_top _ _, _, rfl, q, T.C_Ratio, dy, _, _, rfl, hq, T.cl_Ratio, T.n_Ratio__bottom, rf_bottom _ _, _, _, rfl, rfl, cm_many a1 b2, _, rfl, q, T.C_Ratio, dy, _, _, rfl, hq, T.cl_Ratio, T.n_Ratio__top, rf_top _ _, _, rfl, p, T.C_Ratio, dx, _, _, rfl, hp, T.cl_Ratio, T.n_Ratio__bottom, rf_bottom _ _, _, _, rfl, rfl, cm_many b1 a2, _, _, rfl, rfl, _, rfl, p, T.C_Ratio, dx, _, _, rfl, hp, T.cl_Ratio, T.n_Ratio__bottom, rf_bottom _ _, _, rfl, q, T.C_Ratio, dy, _, _, rfl, hq, T.cl_Ratio, T.n_Ratio__bottom, rf_bottom _ _, _, _, rfl, rfl, cm_many a2 b2, ?_⟩
    refine ⟨_, _, rfl, Int.mul_ne_zero (den_ne a) (den_ne b), w_add (w_mul a1 b2) (w_mul b1 a2), w_up (w_mul a2 b2), kE, fun h r H' e x => k h r H' e ?_⟩
    show RatAt _ _ _ _ _
    rw [← l.1, ← l.2]
    exact x
theorem ok_Ratio___sub__ (T : TX K mg) : FnOk P w K mg base (L2.CX P w) 6 T.f_Ratio___sub__ T.d_Ratio___sub__ ["self", "other"] (spTwo T.C_Ratio T.C_TooMany (fun a b => a - b)) := by
  refine T.F_Ratio___sub__.okX sc_Ratio___sub__ (fun vs H Q E h => ?_) (fun cdv A outer s H vs Q E hr h => ?_)
  · obtain ⟨p, q, a, b, rfl, _⟩ := h
    rfl
  · refine ⟨_, (pss_cons (ps_if (pt_not (pt_val (pe_callB (id := "isinstance") (r := rIsi K) call_isi (by rfl) T.n_isinstance (by decide +kernel) (pa_cons (pv 1) (pa_cons (pe_glob (v := .ref T.C_Ratio) rfl T.g_Ratio rfl) pa_nil))))) (pss_one ps_no) pss_nil)
    (pss_one (ps_ret (pe_callS (ok_ratio_of T) (hr.mono (by decide)) (by rfl) T.g_ratio_of T.F_ratio_of.kp T.b_ratio_of (fun σ => passAt (takes_of rfl rfl rfl rfl) σ) (pa_cons (pe_op op_sub (pe_op op_mulW (pe_fld (pv 0) rfl) (pe_fld (pv 1) rfl)) (pe_op op_mulW (pe_fld (pv 1) rfl) (pe_fld (pv 0) rfl))) (pa_cons (pe_op op_mulW (pe_fld (pv 0) rfl) (pe_fld (pv 1) rfl)) pa_nil)))))), ?_⟩
    obtain ⟨p, q, a, b, rfl, ⟨dx, hp⟩, ⟨dy, hq⟩, ba, bb, kE, k⟩ := h
    obtain ⟨a1, a2⟩ := big_of ba
    obtain ⟨b1, b2⟩ := big_of bb
    have l := sub_low a b
    have z : big (a - b) = (many _ || many _) := rfl
    rw [z, ← l.1, ← l.2] at kE k
    refine ⟨_, rfl, _, _, _, _, _, rfl, .own _, .base (T.tc_Ratio.ty hq), T.kit_Ratio, _, rfl, iteF ?_⟩
    refine ⟨_, rfl, p, T.C_Ratio, dx, _, _, rfl, hp, T.cl_Ratio, T.n_Ratio__top, rf_top _ _, _, rfl, q, T.C_Ratio, dy, _, _, rfl, hq, T.cl_Ratio, T.n_Ratio__bottom, rf_bottom _ _, _, _, rfl, rfl, cm_many a1 b2, _, rfl, q, T.C_Ratio, dy, _, _, rfl, hq, T.cl_Ratio, T.n_Ratio__top, rf_top _ _, _, rfl, p, T.C_Ratio, dx, _, _, rfl, hp, T.cl_Ratio, T.n_Ratio__bottom, rf_bottom _ _, _, _, rfl, rfl, cm_many b1 a2, _, _, rfl, rfl, _, rfl, p, T.C_Ratio, dx, _, _, rfl, hp, T.cl_Ratio, T.n_Ratio__bottom, rf_bottom _ _, _, rfl, q, T.C_Ratio, dy, _, _, rfl, hq, T.cl_Ratio, T.n_Ratio__bottom, rf_bottom _ _, _, _, rfl, rfl, cm_many a2 b2, ?_⟩
    refine ⟨_, _, rfl, Int.mul_ne_zero (den_ne a) (den_ne b), w_sub (w_mul a1 b2) (w_mul b1 a2), w_up (w_mul a2 b2), kE, fun h r H' e x => k h r H' e ?_⟩
    show RatAt _ _ _ _ _
    rw [← l.1, ← l.2]
    exact x
theorem ok_Ratio___mul__ (T : TX K mg) : FnOk P w K mg base (L2.CX P w) 6 T.f_Ratio___mul__ T.d_Ratio___mul__ ["self", "other"] (spTwo T.C_Ratio T.C_TooMany (fun a b => a * b)) := by
  refine T.F_Ratio___mul__.okX sc_Ratio___mul__ (fun vs H Q E h => ?_) (fun cdv A outer s H vs Q E hr h => ?_)
  · obtain ⟨p, q, a, b, rfl, _⟩ := h
    rfl
  · refine ⟨_, (pss_cons (ps_if (pt_not (pt_val (pe_callB (id := "isinstance") (r := rIsi K) call_isi (by rfl) T.n_isinstance (by decide +kernel) (pa_cons (pv 1) (pa_cons (pe_glob (v := .ref T.C_Ratio) rfl T.g_Ratio rfl) pa_nil))))) (pss_one ps_no) pss_nil)
    (pss_one (ps_ret (pe_callS (ok_ratio_of T) (hr.mono (by decide)) (by rfl) T.g_ratio_of T.F_ratio_of.kp T.b_ratio_of (fun σ => passAt (takes_of rfl rfl rfl rfl) σ) (pa_cons (pe_op op_mulW (pe_fld (pv 0) rfl) (pe_fld (pv 1) rfl)) (pa_cons (pe_op op_mulW (pe_fld (pv 0) rfl) (pe_fld (pv 1) rfl)) pa_nil)))))), ?_⟩
    obtain ⟨p, q, a, b, rfl, ⟨dx, hp⟩, ⟨dy, hq⟩, ba, bb, kE, k⟩ := h
    obtain ⟨a1, a2⟩ := big_of ba
    obtain ⟨b1, b2⟩ := big_of bb
    have l := mul_low a b
    have z : big (a * b) = (many _ || many _) := rfl
    rw [z, ← l.1, ← l.2] at kE k
    refine ⟨_, rfl, _, _, _, _, _, rfl, .own _, .base (T.tc_Ratio.ty hq), T.kit_Ratio, _, rfl, iteF ?_⟩
    refine ⟨_, rfl, p, T.C_Ratio, dx, _, _, rfl, hp, T.cl_Ratio, T.n_Ratio__top, rf_top _ _, _, rfl, q, T.C_Ratio, dy, _, _, rfl, hq, T.cl_Ratio, T.n_Ratio__top, rf_top _ _, _, _, rfl, rfl, cm_many a1 b1, _, rfl, p, T.C_Ratio, dx, _, _, rfl, hp, T.cl_Ratio, T.n_Ratio__bottom, rf_bottom _ _, _, rfl, q, T.C_Ratio, dy, _, _, rfl, hq, T.cl_Ratio, T.n_Ratio__bottom, rf_bottom _ _, _, _, rfl, rfl, cm_many a2 b2, ?_⟩
    refine ⟨_, _, rfl, Int.mul_ne_zero (den_ne a) (den_ne b), w_up (w_mul a1 b1), w_up (w_mul a2 b2), kE, fun h r H' e x => k h r H' e ?_⟩
    show RatAt _ _ _ _ _
    rw [← l.1, ← l.2]
    exact x
theorem ok_Ratio_top (T : TX K mg) : FnOk P w K mg base (L2.CX P w) 1 T.f_Ratio_top T.d_Ratio_top ["self"] (spGet T.C_Ratio fun t b => .int t) := by
  refine T.F_Ratio_top.okX sc_Ratio_top (fun vs H Q E h => ?_) (fun cdv A outer s H vs Q E hr h => ?_)
  · obtain ⟨p, t, b, rfl, _⟩ := h
    rfl
  · refine ⟨_, (pss_one (ps_ret (pe_fld (pv 0) rfl))), ?_⟩
    obtain ⟨p, t, b, rfl, ⟨dx, hp⟩, k⟩ := h
    exact ⟨_, rfl, p, T.C_Ratio, dx, _, _, rfl, hp, T.cl_Ratio, T.n_Ratio__top, rf_top _ _, k⟩
theorem ok_Ratio_bottom (T : TX K mg) : FnOk P w K mg base (L2.CX P w) 1 T.f_Ratio_bottom T.d_Ratio_bottom ["self"] (spGet T.C_Ratio fun t b => .int b) := by
  refine T.F_Ratio_bottom.okX sc_Ratio_bottom (fun vs H Q E h => ?_) (fun cdv A outer s H vs Q E hr h => ?_)
  · obtain ⟨p, t, b, rfl, _⟩ := h
    rfl
  · refine ⟨_, (pss_one (ps_ret (pe_fld (pv 0) rfl))), ?_⟩
    obtain ⟨p, t, b, rfl, ⟨dx, hp⟩, k⟩ := h
    exact ⟨_, rfl, p, T.C_Ratio, dx, _, _, rfl, hp, T.cl_Ratio, T.n_Ratio__bottom, rf_bottom _ _, k⟩
theorem ok_Ratio___neg__ (T : TX K mg) : FnOk P w K mg base (L2.CX P w) 6 T.f_Ratio___neg__ T.d_Ratio___neg__ ["self"] (spOne T.C_Ratio (fun a => -a)) := by
  refine T.F_Ratio___neg__.okX sc_Ratio___neg__ (fun vs H Q E h => ?_) (fun cdv A outer s H vs Q E hr h => ?_)
  · obtain ⟨p, a, rfl, _⟩ := h
    rfl
  · refine ⟨_, (pss_one (ps_ret (pe_call (ok_ratio_of T) (hr.mono (by decide)) (by rfl) T.g_ratio_of T.F_ratio_of.kp T.b_ratio_of .nil passL (pa_cons (pe_un un_neg (pe_fld (pv 0) rfl)) (pa_cons (pe_fld (pv 0) rfl) pa_nil))))), ?_⟩
    obtain ⟨p, a, rfl, ⟨dx, hp⟩, ba, k⟩ := h
    obtain ⟨a1, a2⟩ := big_of ba
    have l := neg_low a
    have m := big_neg a
    refine ⟨_, rfl, p, T.C_Ratio, dx, _, _, rfl, hp, T.cl_Ratio, T.n_Ratio__top, rf_top _ _, _, rfl, _, rfl, p, T.C_Ratio, dx, _, _, rfl, hp, T.cl_Ratio, T.n_Ratio__bottom, rf_bottom _ _, _, _, rfl, den_ne a, (by rw [Int.natAbs_neg]; exact Nat.lt_of_lt_of_le (few_many a1) (Nat.pow_le_pow_right (by decide) (by decide))), Nat.lt_of_lt_of_le (few_many a2) (Nat.pow_le_pow_right (by decide) (by decide)), (fun z => ?_), fun _ r H' e x => k r H' e ?_⟩
    · rw [l.1, l.2] at z
      rw [ba] at m
      have z2 : big (-a) = true := z
      rw [m] at z2
      cases z2
    · show RatAt _ _ _ _ _
      rw [← l.1, ← l.2]
      exact x
theorem ok_Ratio___abs__ (T : TX K mg) : FnOk P w K mg base (L2.CX P w) 6 T.f_Ratio___abs__ T.d_Ratio___abs__ ["self"] (spOne T.C_Ratio qabs) := by
  refine T.F_Ratio___abs__.okX sc_Ratio___abs__ (fun vs H Q E h => ?_) (fun cdv A outer s H vs Q E hr h => ?_)
  · obtain ⟨p, a, rfl, _⟩ := h
    rfl
  · refine ⟨_, (pss_one (ps_ret (pe_call (ok_ratio_of T) (hr.mono (by decide)) (by rfl) T.g_ratio_of T.F_ratio_of.kp T.b_ratio_of .nil passL (pa_cons (pe_callB call_abs (by rfl) T.n_abs (by decide +kernel) (pa_cons (pe_fld (pv 0) rfl) pa_nil)) (pa_cons (pe_fld (pv 0) rfl) pa_nil))))), ?_⟩
    obtain ⟨p, a, rfl, ⟨dx, hp⟩, ba, k⟩ := h
    obtain ⟨a1, a2⟩ := big_of ba
    have l := abs_low a
    have m := big_abs a
    refine ⟨_, rfl, p, T.C_Ratio, dx, _, _, rfl, hp, T.cl_Ratio, T.n_Ratio__top, rf_top _ _, _, rfl, ?_⟩
    rw [abs_if]
    refine ⟨_, rfl, p, T.C_Ratio, dx, _, _, rfl, hp, T.cl_Ratio, T.n_Ratio__bottom, rf_bottom _ _, _, _, rfl, den_ne a, (by rw [Int.natAbs_natCast]; exact Nat.lt_of_lt_of_le (few_many a1) (Nat.pow_le_pow_right (by decide) (by decide))), Nat.lt_of_lt_of_le (few_many a2) (Nat.pow_le_pow_right (by decide) (by decide)), (fun z => ?_), fun _ r H' e x => k r H' e ?_⟩
    · rw [l.1, l.2] at z
      rw [ba] at m
      have z2 : big (qabs a) = true := z
      rw [m] at z2
      cases z2
    · show RatAt _ _ _ _ _
      rw [← l.1, ← l.2]
      exact x
theorem ok_Ratio___bool__ (T : TX K mg) : FnOk P w K mg base (L2.CX P w) 1 T.f_Ratio___bool__ T.d_Ratio___bool__ ["self"] (spTrue T.C_Ratio) := by
  refine T.F_Ratio___bool__.okX sc_Ratio___bool__ (fun vs H Q E h => ?_) (fun cdv A outer s H vs Q E hr h => ?_)
  · obtain ⟨p, a, rfl, _⟩ := h
    rfl
  · refine ⟨_, (pss_one (ps_ret (pe_callTy call_bool1 (by rfl) T.n_bool (by decide +kernel) (pa_cons (pe_fld (pv 0) rfl) pa_nil)))), ?_⟩
    obtain ⟨p, a, rfl, ⟨dx, hp⟩, k⟩ := h
    refine ⟨_, rfl, p, T.C_Ratio, dx, _, _, rfl, hp, T.cl_Ratio, T.n_Ratio__top, rf_top _ _, .inl ⟨_, rfl, ?_⟩⟩
    have e : (a.num != 0) = decide (a ≠ 0) := by
      by_cases z : a = 0
      · subst z
        rfl
      · rw [decide_eq_true z]
        simpa using num_ne z
    rw [← e] at k
    exact k
theorem ok_Ratio___eq__ (T : TX K mg) : FnOk P w K mg base (L2.CX P w) 1 T.f_Ratio___eq__ T.d_Ratio___eq__ ["self", "other"] (spEq T.C_Ratio) := by
  refine T.F_Ratio___eq__.okX sc_Ratio___eq__ (fun vs H Q E h => ?_) (fun cdv A outer s H vs Q E hr h => ?_)
  · obtain ⟨p, q, a, b, rfl, _⟩ := h
    rfl
  · refine ⟨_, (pss_one (ps_ret (pe_and (pe_callB (id := "isinstance") (r := rIsi K) call_isi (by rfl) T.n_isinstance (by decide +kernel) (pa_cons (pv 1) (pa_cons (pe_glob (v := .ref T.C_Ratio) rfl T.g_Ratio rfl) pa_nil))) (pe_and (pe_cmpR op_eq (pe_fld (pv 0) rfl) (pe_fld (pv 1) rfl) (nomark _)) (pe_one (pe_cmpR op_eq (pe_fld (pv 0) rfl) (pe_fld (pv 1) rfl) (nomark _))))))), ?_⟩
    obtain ⟨p, q, a, b, rfl, ⟨dx, hp⟩, ⟨dy, hq⟩, k⟩ := h
    rw [← eq_q] at k
    refine ⟨_, rfl, _, _, _, _, _, rfl, .own _, .base (T.tc_Ratio.ty hq), T.kit_Ratio, _, rfl, iteT ?_⟩
    refine ⟨_, rfl, p, T.C_Ratio, dx, _, _, rfl, hp, T.cl_Ratio, T.n_Ratio__top, rf_top _ _, _, rfl, q, T.C_Ratio, dy, _, _, rfl, hq, T.cl_Ratio, T.n_Ratio__top, rf_top _ _, rfl, _, rfl, ?_⟩
    rw [dec_int]
    by_cases c1 : a.num = b.num
    · rw [decide_eq_true c1, Bool.true_and] at k
      refine if_true_of (beq_iff_eq.mpr c1) ?_
      refine ⟨_, rfl, p, T.C_Ratio, dx, _, _, rfl, hp, T.cl_Ratio, T.n_Ratio__bottom, rf_bottom _ _, _, rfl, q, T.C_Ratio, dy, _, _, rfl, hq, T.cl_Ratio, T.n_Ratio__bottom, rf_bottom _ _, rfl, ?_⟩
      rw [dec_int]
      exact k
    · rw [decide_eq_false c1, Bool.false_and] at k
      refine if_false_of (by simpa using c1) ?_
      exact k
theorem ok_Ratio_is_less (T : TX K mg) : FnOk P w K mg base (L2.CX P w) 1 T.f_Ratio_is_less T.d_Ratio_is_less ["self", "other"] (spLess T.C_Ratio) := by
  refine T.F_Ratio_is_less.okX sc_Ratio_is_less (fun vs H Q E h => ?_) (fun cdv A outer s H vs Q E hr h => ?_)
  · obtain ⟨p, q, a, b, rfl, _⟩ := h
    rfl
  · refine ⟨_, (pss_cons (ps_if (pt_not (pt_val (pe_callB (id := "isinstance") (r := rIsi K) call_isi (by rfl) T.n_isinstance (by decide +kernel) (pa_cons (pv 1) (pa_cons (pe_glob (v := .ref T.C_Ratio) rfl T.g_Ratio rfl) pa_nil))))) (pss_one (ps_raise rfl (takes_of rfl rfl rfl rfl) (pmk_own PySem.F.excBase_ValueError T.x_InvalidRatio T.g_InvalidRatio T.k_InvalidRatio (raises_own T.bx_InvalidRatio T.tx_InvalidRatio) (by rfl)))) pss_nil)
    (pss_one (ps_ret (pe_cmpR op_lt (pe_op op_mulW (pe_fld (pv 0) rfl) (pe_fld (pv 1) rfl)) (pe_op op_mulW (pe_fld (pv 1) rfl) (pe_fld (pv 0) rfl)) (nomark _))))), ?_⟩
    obtain ⟨p, q, a, b, rfl, ⟨dx, hp⟩, ⟨dy, hq⟩, ba, bb, k⟩ := h
    obtain ⟨a1, a2⟩ := big_of ba
    obtain ⟨b1, b2⟩ := big_of bb
    refine ⟨_, rfl, _, _, _, _, _, rfl, .own _, .base (T.tc_Ratio.ty hq), T.kit_Ratio, _, rfl, iteF ?_⟩
    refine ⟨_, rfl, p, T.C_Ratio, dx, _, _, rfl, hp, T.cl_Ratio, T.n_Ratio__top, rf_top _ _, _, rfl, q, T.C_Ratio, dy, _, _, rfl, hq, T.cl_Ratio, T.n_Ratio__bottom, rf_bottom _ _, _, _, rfl, rfl, cm_many a1 b2, _, rfl, q, T.C_Ratio, dy, _, _, rfl, hq, T.cl_Ratio, T.n_Ratio__top, rf_top _ _, _, rfl, p, T.C_Ratio, dx, _, _, rfl, hp, T.cl_Ratio, T.n_Ratio__bottom, rf_bottom _ _, _, _, rfl, rfl, cm_many b1 a2, ?_⟩
    refine ⟨_, _, rfl, rfl, ?_⟩
    rw [show decide (a < b) = decide (a.num * b.den < b.num * a.den) from decide_eq_decide.mpr (Rat.lt_iff a b)] at k
    exact k
theorem ok_Ratio_over (T : TX K mg) : FnOk P w K mg base (L2.CX P w) 6 T.f_Ratio_over T.d_Ratio_over ["self", "other"] (spOver K T.C_Ratio T.C_TooMany T.C_InvalidRatio) := by
  refine T.F_Ratio_over.okX sc_Ratio_over (fun vs H Q E h => ?_) (fun cdv A outer s H vs Q E hr h => ?_)
  · obtain ⟨p, y, a, rfl, _⟩ := h
    rfl
  · refine ⟨_, (pss_cons (ps_if (pt_not (pt_val (pe_callB (id := "isinstance") (r := rIsi K) call_isi (by rfl) T.n_isinstance (by decide +kernel) (pa_cons (pv 1) (pa_cons (pe_glob (v := .ref T.C_Ratio) rfl T.g_Ratio rfl) pa_nil))))) (pss_one (ps_raise rfl (takes_of rfl rfl rfl rfl) (pmk_own PySem.F.excBase_ValueError T.x_InvalidRatio T.g_InvalidRatio T.k_InvalidRatio (raises_own T.bx_InvalidRatio T.tx_InvalidRatio) (by rfl)))) pss_nil)
    (pss_cons (ps_if (pt_cmpR op_eq (pe_fld (pv 1) rfl) pe_int (nomark _)) (pss_one (ps_raiseB rfl (takes_of rfl rfl rfl rfl) exb_ZeroDivisionError (by rfl) T.n_ZeroDivisionError boot_ZeroDivisionError)) pss_nil)
    (pss_one (ps_ret (pe_callS (ok_ratio_of T) (hr.mono (by decide)) (by rfl) T.g_ratio_of T.F_ratio_of.kp T.b_ratio_of (fun σ => passAt (takes_of rfl rfl rfl rfl) σ) (pa_cons (pe_op op_mulW (pe_fld (pv 0) rfl) (pe_fld (pv 1) rfl)) (pa_cons (pe_op op_mulW (pe_fld (pv 0) rfl) (pe_fld (pv 1) rfl)) pa_nil))))))), ?_⟩
    obtain ⟨p, y, a, rfl, ⟨dx, hp⟩, ba, k⟩ := h
    obtain ⟨a1, a2⟩ := big_of ba
    rcases k with ⟨q, b, rfl, ⟨dy, hq⟩, bb, k0, kE, k⟩ | ⟨ty, hy, e, k⟩
    · obtain ⟨b1, b2⟩ := big_of bb
      refine ⟨_, rfl, _, _, _, _, _, rfl, .own _, .base (T.tc_Ratio.ty hq), T.kit_Ratio, _, rfl, iteF ?_⟩
      refine ⟨_, rfl, q, T.C_Ratio, dy, _, _, rfl, hq, T.cl_Ratio, T.n_Ratio__top, rf_top _ _, rfl, _, rfl, ?_⟩
      rw [dec_int]
      by_cases b0 : b = 0
      · refine if_true_of (beq_iff_eq.mpr (by rw [b0] <;> rfl)) ?_
        exact k0 b0
      · refine if_false_of (by simpa using num_ne b0) ?_
        have l := div_low a b b0
        have z : big (a / b) = (many _ || many _) := rfl
        rw [z, ← l.1, ← l.2] at kE k
        refine ⟨_, rfl, p, T.C_Ratio, dx, _, _, rfl, hp, T.cl_Ratio, T.n_Ratio__top, rf_top _ _, _, rfl, q, T.C_Ratio, dy, _, _, rfl, hq, T.cl_Ratio, T.n_Ratio__bottom, rf_bottom _ _, _, _, rfl, rfl, cm_many a1 b2, _, rfl, p, T.C_Ratio, dx, _, _, rfl, hp, T.cl_Ratio, T.n_Ratio__bottom, rf_bottom _ _, _, rfl, q, T.C_Ratio, dy, _, _, rfl, hq, T.cl_Ratio, T.n_Ratio__top, rf_top _ _, _, _, rfl, rfl, cm_many a2 b1, ?_⟩
        refine ⟨_, _, rfl, Int.mul_ne_zero (den_ne a) (num_ne b0), w_up (w_mul a1 b2), w_up (w_mul a2 b1), kE b0, fun h r H' e x => k b0 h r H' e ?_⟩
        show RatAt _ _ _ _ _
        rw [← l.1, ← l.2]
        exact x
    · refine ⟨_, rfl, _, _, _, _, _, rfl, .own _, hy, e, _, rfl, iteT ?_⟩
      exact k
end
end K01

namespace K01
open PySem PySem.Spec PyProof.Rows L2 L3

/-! ### the urn and what is drawn -/
def UrnAt (H : Hp) (u : Addr) : Prop := ∃ a b c : Int, H u = some (.lst [.int a, .int b, .int c])
theorem Ext1.trans {p : Addr} {H H1 H2 : Hp} (a : Ext1 p H H1) (b : Ext1 p H1 H2) : Ext1 p H H2 := fun c o n h => b c o n (a c o n h)
theorem Ext1.rfl' {p : Addr} {H : Hp} : Ext1 p H H := fun _ _ _ h => h
theorem Ext.one {p : Addr} {H H1 : Hp} (e : Ext H H1) : Ext1 p H H1 := fun c o _ h => e c o h
theorem Ext1.at {p : Addr} {H : Hp} {o : HO} : Ext1 p H (upd H p o) := fun c u n e => by
  rw [upd_ne n]
  exact e
theorem Ext.rfl' {H : Hp} : Ext H H := fun _ _ h => h
theorem UrnAt.ext {H H' : Hp} {u : Addr} (h : UrnAt H u) (e : Ext H H') : UrnAt H' u := h.elim fun a ⟨b, c, h⟩ => ⟨a, b, c, e _ _ h⟩
theorem rd_one {p q : Addr} {H H' : Hp} {o : HO} (h : L2.Rd H p o) (n : p ≠ q) (e : Ext1 q H H') : L2.Rd H' p o := h.elim (fun h => .inl (e _ _ n h)) fun ⟨x, h⟩ => .inr ⟨x, e _ _ n h⟩
theorem sql_one {K : PySem.W.Frag} {p q : Addr} {H H' : Hp} {xs : List V} (h : SqL K H p xs) (n : p ≠ q) (e : Ext1 q H H') : SqL K H' p xs := h.elim (fun h => .inl (rd_one h n e)) .inr
theorem sqt_one {K : PySem.W.Frag} {p q : Addr} {H H' : Hp} {xs : List V} (h : SqT K H p xs) (n : p ≠ q) (e : Ext1 q H H') : SqT K H' p xs := h.elim (fun h => .inl (rd_one h n e)) .inr
def spUrn (K : PySem.W.Frag) : Sp := fun vs H Q _ => ∃ (s : Addr) (ns : List Int) (i : Nat), vs = [.ref s, .int (i : Nat)] ∧ SqL K H s (ns.map V.int) ∧ ∀ u, H u = none → ∀ a b c : Int, Q (.ref u) (upd H u (.lst [.int a, .int b, .int c]))
def spDrawn : Sp := fun vs H Q _ => ∃ u m, vs = [.ref u, .int m] ∧ UrnAt H u ∧ 0 < m ∧ m < 1073741824 ∧ ∀ r H', 0 ≤ r → r < m → Ext1 u H H' → UrnAt H' u → Q (.int r) H'
def spOneOf (K : PySem.W.Frag) : Sp := fun vs H Q _ => ∃ u l xs, vs = [.ref u, .ref l] ∧ UrnAt H u ∧ SqL K H l xs ∧ l ≠ u ∧ 0 < xs.length ∧ xs.length < 1073741824 ∧ ∀ v ∈ xs, ∀ H', Ext1 u H H' → UrnAt H' u → Q v H'
def spDivisor : Sp := fun vs H Q _ => ∃ a b : Nat, vs = [.int (a : Nat), .int (b : Nat)] ∧ Q (.int ((Nat.gcd a b : Nat) : Int)) H
def spPower : Sp := fun vs H Q _ => ∃ n : Int, vs = [.int 10, .int n] ∧ 0 ≤ n ∧ n < 1000 ∧ Q (.int (10 ^ n.toNat)) H
def spWhole : Sp := fun vs H Q _ => ∃ u, vs = [.ref u] ∧ UrnAt H u ∧ ∀ v H', longer v = false → Ext1 u H H' → UrnAt H' u → Q (.int v) H'
theorem urn_sq {K : PySem.W.Frag} {H : Hp} {u : Addr} {xs : List V} (h : H u = some (.lst xs)) : SqL K H u xs := SqL.of h

theorem lg_lt {x : Int} {k : Nat} (hk : 0 < k) (h : x.natAbs < 2 ^ k) : x.natAbs.log2 < k := log_of hk h
theorem lg_mod {x m : Int} (h0 : 0 < m) (h1 : m < 2 ^ 64) : (x % m).natAbs.log2 < 64 := by
  have a := Int.emod_nonneg x (by omega : m ≠ 0)
  have b := Int.emod_lt_of_pos x h0
  exact log_of (by decide) (by omega)
theorem cm_one (x y : Int) : CMulW (x % 2305843009213693951) (y % 2305843009213693951) := by
  have a := lg_mod (x := x) (m := 2305843009213693951) (by decide) (by decide)
  have b := lg_mod (x := y) (m := 2305843009213693951) (by decide) (by decide)
  unfold CMulW
  omega
theorem cm_two (x y : Int) : CMulW (x % 1152921504606846883) (y % 1009 + 3) := by
  have a := lg_mod (x := x) (m := 1152921504606846883) (by decide) (by decide)
  have b : (y % 1009 + 3).natAbs.log2 < 64 := by
    have a := Int.emod_nonneg y (by decide : (1009 : Int) ≠ 0)
    have b := Int.emod_lt_of_pos y (by decide : (0 : Int) < 1009)
    exact log_of (by decide) (by omega)
  unfold CMulW
  omega
theorem cm_left (i j : Int) (h1 : -(2 ^ 64) < i) (h2 : i < 2 ^ 64) : CMul i j := .inl ⟨h1, h2⟩
theorem cm_right (i j : Int) (h1 : -(2 ^ 64) < j) (h2 : j < 2 ^ 64) : CMul i j := .inr ⟨h1, h2⟩
theorem cdw {i m : Int} (h0 : 0 < m) (h1 : m < 1073741824) : CDivW i m := ⟨h0, Nat.lt_trans (log_of (k := 64) (by decide) (by omega)) (by decide)⟩
theorem at_of {xs : List V} {r : Int} (h0 : 0 ≤ r) (h1 : r < ((xs.length : Nat) : Int)) : ∃ v, atI xs r = some v ∧ v ∈ xs := by
  obtain ⟨n, rfl⟩ := Int.eq_ofNat_of_zero_le h0
  have hn : n < xs.length := by omega
  exact ⟨xs[n], atI_nat (List.getElem?_eq_getElem hn), List.getElem_mem hn⟩
theorem ten_abs (i : Nat) : ((10 : Int) ^ i).natAbs = 10 ^ i := by rw [Int.natAbs_pow]; rfl
theorem cm_pow {i : Nat} (h : i < 1000) : CMulW (10 ^ i) 10 := by
  have a : ((10 : Int) ^ i).natAbs.log2 < 4 * i + 1 := by
    refine log_of (by omega) ?_
    rw [ten_abs]
    refine Nat.lt_of_le_of_lt (Nat.pow_le_pow_left (show 10 ≤ 2 ^ 4 by decide) i) ?_
    rw [← Nat.pow_mul]
    exact Nat.pow_lt_pow_right (by decide) (by omega)
  have b : (10 : Int).natAbs.log2 < 64 := log_of (by decide) (by decide)
  unfold CMulW
  omega
def msr (σ : L2.St) (_ : Hp) : Nat := match σ with
  | [_, some (.int b)] => b.toNat
  | _ => 0
theorem gcd_mod {a b : Nat} : ((a : Nat) : Int) % ((b : Nat) : Int) = ((a % b : Nat) : Int) := rfl
theorem low_is {a b : Int} : (if 0 < b then ((Nat.gcd a.natAbs b.natAbs : Nat) : Int) else -((Nat.gcd a.natAbs b.natAbs : Nat) : Int)) = shr a b ∨ b = 0 := by
  unfold shr
  by_cases c : b < 0
  · left; rw [if_neg (by omega), if_pos c]
  · by_cases d : b = 0
    · right; exact d
    · left; rw [if_pos (by omega), if_neg c]

theorem beq_no {a b : Int} (h : ¬ a = b) : (a == b) = false := by simpa using h
theorem beq_yes {a b : Int} (h : a = b) : (a == b) = true := by simpa using h
theorem few_of {n : Int} (h : n.natAbs < 10 ^ 60) : longer n = false := decide_eq_false (by omega)
theorem w_one {r s : Int} (h0 : 0 ≤ r) (h1 : r < 59) (s0 : 0 ≤ s) (s1 : s < 5) : longer (10 ^ r.toNat + s - 2) = false := by
  have a := ten_abs r.toNat
  have b : (10 : Nat) ^ r.toNat ≤ 10 ^ 58 := Nat.pow_le_pow_right (by decide) (by omega)
  refine few_of ?_
  omega
theorem w_two {f : Int} {i : Nat} (h : f.natAbs ≤ 11 ^ i) (hi : i < 40) : longer f = false ∧ f.natAbs.log2 < 200 := by
  have b : (11 : Nat) ^ i ≤ 11 ^ 40 := Nat.pow_le_pow_right (by decide) (by omega)
  have c : (11 : Nat) ^ 40 < 10 ^ 60 := by decide
  have d : (11 : Nat) ^ 40 < 2 ^ 200 := by decide
  exact ⟨few_of (by omega), log_of (by decide) (by omega)⟩
theorem w_lst {v : V} (h : v ∈ [V.int 2, .int 3, .int 5, .int 7, .int 2, .int 11]) : ∃ z : Int, v = .int z ∧ z.natAbs ≤ 11 := by
  simp only [List.mem_cons, List.not_mem_nil, or_false] at h
  rcases h with rfl | rfl | rfl | rfl | rfl | rfl <;> exact ⟨_, rfl, by decide⟩
theorem w_mulE {f z : Int} {i : Nat} (h : f.natAbs ≤ 11 ^ i) (hz : z.natAbs ≤ 11) : (f * z).natAbs ≤ 11 ^ (i + 1) := by
  rw [Int.natAbs_mul, Nat.pow_succ]
  exact Nat.mul_le_mul h hz
theorem w_cm {f z : Int} {i : Nat} (h : f.natAbs ≤ 11 ^ i) (hi : i < 40) (hz : z.natAbs ≤ 11) : CMulW f z := by
  have a := (w_two h hi).2
  have b : z.natAbs.log2 < 64 := log_of (by decide) (by omega)
  unfold CMulW
  omega
theorem urn_ne {H : Hp} {u p : Addr} (h : UrnAt H u) (hp : H p = none) : p ≠ u := by
  obtain ⟨a, b, c, h⟩ := h
  exact fun z => (ne_of_none h hp) z.symm
section
variable {P : Program} {w : World} {K : PySem.W.Frag} {mg : Str → Option Value} {base : Heap}
theorem ok__law_urn (T : TX K mg) : FnOk P w K mg base (L2.CX P w) 1 T.f__law_urn T.d__law_urn ["_law_script", "_law_turn"] (spUrn K) := by
  refine T.F__law_urn.okX sc__law_urn (fun vs H Q E h => ?_) (fun cdv A outer s H vs Q E hr h => ?_)
  · obtain ⟨s, ns, i, rfl, _⟩ := h
    rfl
  · refine ⟨_, (pss_cons (ps_set (i := 2) sc__law_urn.nd rfl (Or.inl rfl) (pe_ifExp (pt_cmpR op_lt (pv 1) (pe_callB call_len_seq (by rfl) T.n_len (by decide +kernel) (pa_cons (pv 0) pa_nil)) (nomark _)) (pe_callTy call_int1 (by rfl) T.n_int (by decide +kernel) (pa_cons (pe_ix ix_list (pv 0) (pv 1) (fun _ _ => rfl)) pa_nil)) (pe_op op_add (pe_op op_mul pe_int (pv 1)) pe_int)))
    (pss_cons (ps_set (i := 3) sc__law_urn.nd rfl (Or.inl rfl) (pe_op op_mod (pe_callB call_abs (by rfl) T.n_abs (by decide +kernel) (pa_cons (pv 2) pa_nil)) (pe_op op_powW (pe_op op_pow pe_int pe_int) pe_int)))
    (pss_one (ps_ret (pe_lst (pa_cons (pe_callB (call_max2 rfl) (by rfl) T.n_max (by decide +kernel) (pa_cons pe_int (pa_cons (pe_op op_sub (pv 3) (pe_op op_pow pe_int pe_int)) pa_nil))) (pa_cons (pe_op op_add (pe_op op_add (pe_op op_add (pe_op op_mul (pe_op op_mod (pv 3) pe_int) pe_int) (pe_op op_mul pe_int (pv 1))) (pe_op op_mul pe_int (pe_callTy call_int1 (by rfl) T.n_int (by decide +kernel) (pa_cons (pe_cmpR op_lt (pv 2) pe_int (nomark _)) pa_nil)))) pe_int) (pa_cons pe_int pa_nil)))))))), ?_⟩
    obtain ⟨l, ns, i, rfl, hs, k⟩ := h
    refine ⟨_, rfl, _, rfl, l, _, rfl, .inl hs, _, _, rfl, rfl, _, rfl, ite2 (fun c => ?_) (fun c => ?_)⟩
    · have c' := of_decide_eq_true c
      rw [List.length_map] at c'
      obtain ⟨v, e, hv⟩ := at_of (xs := ns.map V.int) (r := (i : Nat)) (by omega) (by rw [List.length_map]; exact c')
      obtain ⟨z, _, rfl⟩ := List.mem_map.mp hv
      refine ⟨_, rfl, _, rfl, l, _, _, _, rfl, rfl, hs, e, .inl ⟨_, rfl, ?_⟩⟩
      refine ⟨_, rfl, _, rfl, _, _, rfl, rfl, ⟨by decide, by decide, by decide⟩, _, _, rfl, rfl, ⟨by decide, by decide⟩, _, _, rfl, rfl, Int.pow_pos (Int.pow_pos (by decide)), ?_⟩
      refine ⟨_, rfl, _, _, rfl, rfl, ⟨by decide, by decide, by decide⟩, _, _, rfl, rfl, _, _, rfl, ?_⟩
      refine ⟨_, rfl, _, _, rfl, rfl, (by show (0 : Int) < _; decide), _, _, rfl, rfl, cm_right _ _ (by decide) (by decide), _, rfl, _, _, rfl, rfl, cm_left _ _ (by decide) (by decide), _, _, rfl, rfl, _, rfl, _, _, rfl, rfl, .inr ⟨_, rfl, ?_⟩⟩
      refine ⟨_, _, rfl, rfl, cm_left _ _ (by decide) (by decide), _, _, rfl, rfl, _, _, rfl, rfl, (by show 3 ≤ sizeLine; decide), fun u hu => k u hu _ _ _⟩
    · refine ⟨_, rfl, _, _, rfl, rfl, cm_left _ _ (by decide) (by decide), _, _, rfl, rfl, ?_⟩
      refine ⟨_, rfl, _, rfl, _, _, rfl, rfl, ⟨by decide, by decide, by decide⟩, _, _, rfl, rfl, ⟨by decide, by decide⟩, _, _, rfl, rfl, Int.pow_pos (Int.pow_pos (by decide)), ?_⟩
      refine ⟨_, rfl, _, _, rfl, rfl, ⟨by decide, by decide, by decide⟩, _, _, rfl, rfl, _, _, rfl, ?_⟩
      refine ⟨_, rfl, _, _, rfl, rfl, (by show (0 : Int) < _; decide), _, _, rfl, rfl, cm_right _ _ (by decide) (by decide), _, rfl, _, _, rfl, rfl, cm_left _ _ (by decide) (by decide), _, _, rfl, rfl, _, rfl, _, _, rfl, rfl, .inr ⟨_, rfl, ?_⟩⟩
      refine ⟨_, _, rfl, rfl, cm_left _ _ (by decide) (by decide), _, _, rfl, rfl, _, _, rfl, rfl, (by show 3 ≤ sizeLine; decide), fun u hu => k u hu _ _ _⟩
theorem ok__law_drawn (T : TX K mg) : FnOk P w K mg base (L2.CX P w) 1 T.f__law_drawn T.d__law_drawn ["_law_urn_here", "_law_many"] (spDrawn) := by
  refine T.F__law_drawn.okX sc__law_drawn (fun vs H Q E h => ?_) (fun cdv A outer s H vs Q E hr h => ?_)
  · obtain ⟨u, m, rfl, _⟩ := h
    rfl
  · refine ⟨_, (pss_cons (ps_if (pt_cmpR op_gt (pe_ix ix_list (pv 0) pe_int (fun _ _ => rfl)) pe_int (nomark _)) (pss_cons (ps_set (i := 2) sc__law_drawn.nd rfl (Or.inl rfl) (pe_op op_mod (pe_callTy call_int1 (by rfl) T.n_int (by decide +kernel) (pa_cons (pe_ix ix_list (pv 0) pe_int (fun _ _ => rfl)) pa_nil)) (pv 1)))
    (pss_cons (ps_asg (pe_op op_fdivW (pe_callTy call_int1 (by rfl) T.n_int (by decide +kernel) (pa_cons (pe_ix ix_list (pv 0) pe_int (fun _ _ => rfl)) pa_nil)) (pv 1)) (pg_sub (pv 0) pe_int set_list))
    (pss_one (ps_ret (pv 2))))) pss_nil)
    (pss_cons (ps_asg (pe_op op_add (pe_ix ix_list (pv 0) pe_int (fun _ _ => rfl)) pe_int) (pg_sub (pv 0) pe_int set_list))
    (pss_cons (ps_set (i := 3) sc__law_drawn.nd rfl (Or.inl rfl) (pe_op op_mod (pe_callTy call_int1 (by rfl) T.n_int (by decide +kernel) (pa_cons (pe_op op_add (pe_ix ix_list (pv 0) pe_int (fun _ _ => rfl)) (pe_op op_mul pe_int (pe_ix ix_list (pv 0) pe_int (fun _ _ => rfl)))) pa_nil)) pe_int))
    (pss_cons (ps_set (i := 4) sc__law_drawn.nd rfl (Or.inl rfl) (pe_op op_mod (pe_callTy call_int1 (by rfl) T.n_int (by decide +kernel) (pa_cons (pe_op op_add (pe_op op_add (pe_op op_mulW (pv 3) (pv 3)) (pe_op op_mul pe_int (pe_ix ix_list (pv 0) pe_int (fun _ _ => rfl)))) pe_int) pa_nil)) pe_int))
    (pss_one (ps_ret (pe_op op_mod (pe_callTy call_int1 (by rfl) T.n_int (by decide +kernel) (pa_cons (pe_op op_fdiv (pe_op op_mulW (pv 4) (pe_op op_add (pe_op op_mod (pv 3) pe_int) pe_int)) pe_int) pa_nil)) (pv 1)))))))), ?_⟩
    obtain ⟨u, m, rfl, ⟨a, b, c, hu⟩, m0, m1, k⟩ := h
    refine ⟨_, rfl, u, _, _, _, rfl, rfl, SqL.of hu, rfl, _, _, rfl, rfl, _, rfl, ite2 (fun q => ?_) (fun q => ?_)⟩
    · refine ⟨_, rfl, u, _, _, _, rfl, rfl, SqL.of hu, rfl, .inl ⟨_, rfl, _, rfl, _, _, rfl, rfl, m0, ?_⟩⟩
      refine ⟨_, rfl, u, _, _, _, rfl, rfl, SqL.of hu, rfl, .inl ⟨_, rfl, _, rfl, _, _, rfl, rfl, cdw m0 m1, ?_⟩⟩
      refine ⟨_, rfl, u, _, _, _, rfl, rfl, hu, rfl, ?_⟩
      exact ⟨_, rfl, k _ _ (Int.emod_nonneg _ (by omega)) (Int.emod_lt_of_pos _ m0) Ext1.at ⟨_, _, _, upd_same⟩⟩
    · refine ⟨_, rfl, u, _, _, _, rfl, rfl, SqL.of hu, rfl, _, _, rfl, rfl, ?_⟩
      refine ⟨_, rfl, u, _, _, _, rfl, rfl, hu, rfl, ?_⟩
      have h2 : ∀ z : Int, upd H u (.lst [V.int a, V.int b, V.int z]) u = some (.lst [V.int a, V.int b, V.int z]) := fun z => upd_same
      refine ⟨_, rfl, u, _, _, _, rfl, rfl, SqL.of (h2 _), rfl, _, rfl, u, _, _, _, rfl, rfl, SqL.of (h2 _), rfl, ?_⟩
      refine ⟨_, _, rfl, rfl, cm_left _ _ (by decide) (by decide), _, _, rfl, rfl, .inl ⟨_, rfl, _, _, rfl, rfl, (by show (0 : Int) < _; decide), ?_⟩⟩
      refine ⟨_, rfl, _, rfl, _, _, rfl, rfl, cm_one _ _, _, rfl, u, _, _, _, rfl, rfl, SqL.of (h2 _), rfl, _, _, rfl, rfl, cm_left _ _ (by decide) (by decide), _, _, rfl, rfl, _, _, rfl, rfl, .inl ⟨_, rfl, _, _, rfl, rfl, (by show (0 : Int) < _; decide), ?_⟩⟩
      refine ⟨_, rfl, _, rfl, _, _, rfl, rfl, (by show (0 : Int) < _; decide), _, _, rfl, rfl, _, _, rfl, rfl, cm_two _ _, _, _, rfl, rfl, ⟨by decide, by decide⟩, .inl ⟨_, rfl, _, rfl, _, _, rfl, rfl, m0, ?_⟩⟩
      exact k _ _ (Int.emod_nonneg _ (by omega)) (Int.emod_lt_of_pos _ m0) Ext1.at ⟨_, _, _, upd_same⟩
theorem ok__law_one_of (T : TX K mg) : FnOk P w K mg base (L2.CX P w) 2 T.f__law_one_of T.d__law_one_of ["_law_urn_here", "_law_items"] (spOneOf K) := by
  refine T.F__law_one_of.okX sc__law_one_of (fun vs H Q E h => ?_) (fun cdv A outer s H vs Q E hr h => ?_)
  · obtain ⟨u, l, xs, rfl, _⟩ := h
    rfl
  · refine ⟨_, (pss_one (ps_ret (pe_ix ix_list (pv 1) (pe_call (ok__law_drawn T) (hr.mono (by decide)) (by rfl) T.g__law_drawn T.F__law_drawn.kp T.b__law_drawn .nil passL (pa_cons (pv 0) (pa_cons (pe_callB call_len_seq (by rfl) T.n_len (by decide +kernel) (pa_cons (pv 1) pa_nil)) pa_nil))) (fun _ _ => rfl)))), ?_⟩
    obtain ⟨u, l, xs, rfl, hu, hl, n, l0, l1, k⟩ := h
    refine ⟨_, rfl, _, rfl, _, rfl, l, _, rfl, .inl hl, u, _, rfl, hu, (by omega), (by omega), fun r H' r0 r1 e hu' => ?_⟩
    obtain ⟨v, hv, hm⟩ := at_of r0 r1
    exact ⟨l, _, _, _, rfl, rfl, sql_one hl n e, hv, k v hm H' e hu'⟩
theorem ok__law_divisor (T : TX K mg) : FnOk P w K mg base (L2.CX P w) 1 T.f__law_divisor T.d__law_divisor ["_law_one", "_law_other"] (spDivisor) := by
  refine T.F__law_divisor.okX sc__law_divisor (fun vs H Q E h => ?_) (fun cdv A outer s H vs Q E hr h => ?_)
  · obtain ⟨a, b, rfl, _⟩ := h
    rfl
  · refine ⟨_, (pss_cons (ps_while PassesOwn.leaving (pt_cmpR op_gt (pv 1) pe_int (nomark _)) (pss_one (ps_par (i := 0) (j := 1) (by rfl) sc__law_divisor.nd rfl rfl (by decide) rfl rfl (pa_cons (pv 1) (pa_cons (pe_op op_mod (pe_callTy call_int1 (by rfl) T.n_int (by decide +kernel) (pa_cons (pv 0) pa_nil)) (pv 1)) pa_nil)) (by rfl))))
    (pss_one (ps_ret (pv 0)))), ?_⟩
    obtain ⟨a, b, rfl, k⟩ := h
    refine while_by (fun σ H' => H' = H ∧ ∃ x y : Nat, σ = [some (V.int (x : Nat)), some (V.int (y : Nat))] ∧ Nat.gcd x y = Nat.gcd a b) msr ⟨rfl, a, b, rfl, rfl⟩ ?_ ?_
    · rintro σ H' ⟨rfl, x, y, rfl, e⟩
      refine ⟨_, rfl, _, _, rfl, rfl, _, rfl, ite2 (fun c => ?_) (fun c => ?_)⟩
      · have c' := of_decide_eq_true c
        refine ⟨_, rfl, _, rfl, .inl ⟨_, rfl, _, rfl, _, _, rfl, rfl, c', _, _, rfl, ⟨rfl, y, x % y, rfl, ?_⟩, ?_⟩⟩
        · rw [← e, Nat.gcd_comm x y, Nat.gcd_rec y x, Nat.gcd_comm]
        · show ((x : Int) % (y : Int)).toNat < ((y : Nat) : Int).toNat
          have := Nat.mod_lt x (show 0 < y by omega)
          rw [gcd_mod]
          omega
      · have c' : ¬ ((0 : Int) < (y : Nat)) := fun z => c (decide_eq_true z)
        have y0 : y = 0 := by omega
        subst y0
        rw [Nat.gcd_zero_right] at e
        subst e
        exact ⟨_, rfl, k⟩
    · intro σ H1 Q1 Q2 hq h
      obtain ⟨v, e, i, j, e1, e2, c, e3, q⟩ := h
      exact ⟨v, e, i, j, e1, e2, c, e3, hq _ _ q⟩
theorem ok__law_lowest (T : TX K mg) : FnOk P w K mg base (L2.CX P w) 2 T.f__law_lowest T.d__law_lowest ["_law_top", "_law_bottom"] (spLow) := by
  refine T.F__law_lowest.okX sc__law_lowest (fun vs H Q E h => ?_) (fun cdv A outer s H vs Q E hr h => ?_)
  · obtain ⟨a, b, rfl, _⟩ := h
    rfl
  · refine ⟨_, (pss_cons (ps_set (i := 2) sc__law_lowest.nd rfl (Or.inl rfl) (pe_call (ok__law_divisor T) (hr.mono (by decide)) (by rfl) T.g__law_divisor T.F__law_divisor.kp T.b__law_divisor .nil passL (pa_cons (pe_callB call_abs (by rfl) T.n_abs (by decide +kernel) (pa_cons (pv 0) pa_nil)) (pa_cons (pe_callB call_abs (by rfl) T.n_abs (by decide +kernel) (pa_cons (pv 1) pa_nil)) pa_nil))))
    (pss_cons (ps_set (i := 2) sc__law_lowest.nd rfl (Or.inl rfl) (pe_ifExp (pt_cmpR op_gt (pv 1) pe_int (nomark _)) (pv 2) (pe_un un_neg (pv 2))))
    (pss_one (ps_ret (pe_tup (pa_cons (pe_op op_fdivX (pe_callTy call_int1 (by rfl) T.n_int (by decide +kernel) (pa_cons (pv 0) pa_nil)) (pv 2)) (pa_cons (pe_op op_fdivX (pe_callTy call_int1 (by rfl) T.n_int (by decide +kernel) (pa_cons (pv 1) pa_nil)) (pv 2)) pa_nil))))))), ?_⟩
    obtain ⟨a, b, rfl, hb, ha, hz, k⟩ := h
    refine ⟨_, rfl, _, rfl, _, rfl, _, rfl, a.natAbs, b.natAbs, ?_, ?_⟩
    · rw [abs_if, abs_if]
      rfl
    · have lw := (low_is (a := a) (b := b)).resolve_right hb
      refine ⟨_, rfl, _, _, rfl, rfl, _, rfl, ite2 (fun c => ?_) (fun c => ?_)⟩
      · rw [if_pos (of_decide_eq_true c)] at lw
        rw [lw]
        refine ⟨_, rfl, ?_⟩
        exact ⟨_, rfl, .inl ⟨_, rfl, _, rfl, _, _, rfl, rfl, cd_low hb ha, _, rfl, .inl ⟨_, rfl, _, rfl, _, _, rfl, rfl, cd_low hb hz, (by show 2 ≤ sizeLine; decide), k⟩⟩⟩
      · rw [if_neg (fun z => c (decide_eq_true z))] at lw
        refine ⟨_, rfl, _, rfl, ?_⟩
        show gName 2 (V.int (-((Nat.gcd a.natAbs b.natAbs : Nat) : Int))) _ _ _
        rw [lw]
        exact ⟨_, rfl, .inl ⟨_, rfl, _, rfl, _, _, rfl, rfl, cd_low hb ha, _, rfl, .inl ⟨_, rfl, _, rfl, _, _, rfl, rfl, cd_low hb hz, (by show 2 ≤ sizeLine; decide), k⟩⟩⟩
theorem ok__law_power (T : TX K mg) : FnOk P w K mg base (L2.CX P w) 1 T.f__law_power T.d__law_power ["_law_base", "_law_times"] (spPower) := by
  refine T.F__law_power.okX sc__law_power (fun vs H Q E h => ?_) (fun cdv A outer s H vs Q E hr h => ?_)
  · obtain ⟨n, rfl, _⟩ := h
    rfl
  · refine ⟨_, (pss_cons (ps_set (i := 2) sc__law_power.nd rfl (Or.inl rfl) pe_int)
    (pss_cons (ps_for PassesOwn.leaving rfl (pi_range1 (by rfl) T.n_range (pa_cons (pv 1) pa_nil)) (pg_name (i := 3) sc__law_power.nd rfl (Or.inl rfl)) (pss_one (ps_set (i := 2) sc__law_power.nd rfl (Or.inl rfl) (pe_op op_mulW (pv 2) (pv 0)))))
    (pss_one (ps_ret (pv 2))))), ?_⟩
    obtain ⟨n, rfl, n0, n1, k⟩ := h
    refine ⟨_, rfl, n, rfl, (by omega), (by omega), for_range (fun i σ H' => H' = H ∧ ∃ lap, σ = [some (V.int 10), some (V.int n), some (V.int (10 ^ i)), lap]) ⟨rfl, _, rfl⟩ ?_ ?_⟩
    · rintro i σ H' hi ⟨rfl, lap, rfl⟩
      exact ⟨_, rfl, _, rfl, _, _, rfl, rfl, cm_pow (by omega), rfl, _, rfl⟩
    · rintro σ H' ⟨rfl, lap, rfl⟩
      exact ⟨_, rfl, k⟩
theorem ok__law_whole (T : TX K mg) : FnOk P w K mg base (L2.CX P w) 3 T.f__law_whole T.d__law_whole ["_law_urn_here"] (spWhole) := by
  refine T.F__law_whole.okX sc__law_whole (fun vs H Q E h => ?_) (fun cdv A outer s H vs Q E hr h => ?_)
  · obtain ⟨u, rfl, _⟩ := h
    rfl
  · refine ⟨_, (pss_cons (ps_set (i := 1) sc__law_whole.nd rfl (Or.inl rfl) (pe_call (ok__law_drawn T) (hr.mono (by decide)) (by rfl) T.g__law_drawn T.F__law_drawn.kp T.b__law_drawn .nil passL (pa_cons (pv 0) (pa_cons pe_int pa_nil))))
    (pss_cons (ps_if (pt_cmpR op_eq (pv 1) pe_int (nomark _)) (pss_one (ps_ret (pe_call (ok__law_one_of T) (hr.mono (by decide)) (by rfl) T.g__law_one_of T.F__law_one_of.kp T.b__law_one_of .nil passL (pa_cons (pv 0) (pa_cons (pe_lst (pa_cons pe_int (pa_cons pe_int (pa_cons (pe_un un_neg pe_int) (pa_cons (pe_op op_sub (pe_op op_pow pe_int pe_int) pe_int) (pa_cons (pe_op op_sub pe_int (pe_op op_pow pe_int pe_int)) (pa_cons (pe_op op_pow pe_int pe_int) (pa_cons (pe_un un_neg (pe_op op_pow pe_int pe_int)) pa_nil)))))))) pa_nil))))) pss_nil)
    (pss_cons (ps_if (pt_cmpR op_eq (pv 1) pe_int (nomark _)) (pss_one (ps_ret (pe_op op_sub (pe_op op_add (pe_call (ok__law_power T) (hr.mono (by decide)) (by rfl) T.g__law_power T.F__law_power.kp T.b__law_power .nil passL (pa_cons pe_int (pa_cons (pe_call (ok__law_drawn T) (hr.mono (by decide)) (by rfl) T.g__law_drawn T.F__law_drawn.kp T.b__law_drawn .nil passL (pa_cons (pv 0) (pa_cons pe_int pa_nil))) pa_nil))) (pe_call (ok__law_drawn T) (hr.mono (by decide)) (by rfl) T.g__law_drawn T.F__law_drawn.kp T.b__law_drawn .nil passL (pa_cons (pv 0) (pa_cons pe_int pa_nil)))) pe_int))) pss_nil)
    (pss_cons (ps_if (pt_cmpR op_eq (pv 1) pe_int (nomark _)) (pss_cons (ps_set (i := 2) sc__law_whole.nd rfl (Or.inl rfl) (pe_op op_sub pe_int (pe_op op_mul pe_int (pe_call (ok__law_drawn T) (hr.mono (by decide)) (by rfl) T.g__law_drawn T.F__law_drawn.kp T.b__law_drawn .nil passL (pa_cons (pv 0) (pa_cons pe_int pa_nil))))))
    (pss_cons (ps_for PassesOwn.leaving rfl (pi_range1 (by rfl) T.n_range (pa_cons (pe_call (ok__law_drawn T) (hr.mono (by decide)) (by rfl) T.g__law_drawn T.F__law_drawn.kp T.b__law_drawn .nil passL (pa_cons (pv 0) (pa_cons pe_int pa_nil))) pa_nil)) (pg_name (i := 3) sc__law_whole.nd rfl (Or.inl rfl)) (pss_one (ps_set (i := 2) sc__law_whole.nd rfl (Or.inl rfl) (pe_op op_mulW (pv 2) (pe_call (ok__law_one_of T) (hr.mono (by decide)) (by rfl) T.g__law_one_of T.F__law_one_of.kp T.b__law_one_of .nil passL (pa_cons (pv 0) (pa_cons (pe_lst (pa_cons pe_int (pa_cons pe_int (pa_cons pe_int (pa_cons pe_int (pa_cons pe_int (pa_cons pe_int pa_nil))))))) pa_nil)))))))
    (pss_one (ps_ret (pv 2))))) pss_nil)
    (pss_one (ps_ret (pe_op op_sub (pe_call (ok__law_drawn T) (hr.mono (by decide)) (by rfl) T.g__law_drawn T.F__law_drawn.kp T.b__law_drawn .nil passL (pa_cons (pv 0) (pa_cons pe_int pa_nil))) pe_int))))))), ?_⟩
    obtain ⟨u, rfl, hu, k⟩ := h
    refine ⟨_, rfl, u, 6, rfl, hu, (by decide), (by decide), fun r H1 r0 r1 e1 hu1 => ?_⟩
    refine ⟨_, rfl, rfl, _, rfl, ?_⟩
    rw [dec_int]
    by_cases c0 : r = 0
    · refine if_true_of (beq_yes c0) ?_
      refine ⟨_, rfl, _, rfl, _, _, rfl, rfl, ⟨by decide, by decide, by decide⟩, _, _, rfl, rfl, _, _, rfl, rfl, ⟨by decide, by decide, by decide⟩, _, _, rfl, rfl, _, _, rfl, rfl, ⟨by decide, by decide, by decide⟩, _, _, rfl, rfl, ⟨by decide, by decide, by decide⟩, _, rfl, (by show 7 ≤ sizeLine; decide), fun p hp => ?_⟩
      refine ⟨u, p, _, rfl, hu1.ext (Ext.new hp), SqL.of upd_same, urn_ne hu1 hp, (by show 0 < 7; decide), (by show 7 < 1073741824; decide), fun v hv H2 e2 hu2 => ?_⟩
      have e3 : Ext1 u H H2 := e1.trans ((Ext.new hp).one.trans e2)
      simp only [List.mem_cons, List.not_mem_nil, or_false] at hv
      rcases hv with rfl | rfl | rfl | rfl | rfl | rfl | rfl <;> exact k _ _ (by decide +kernel) e3 hu2
    · refine if_false_of (beq_no c0) ?_
      refine ⟨_, rfl, rfl, _, rfl, ?_⟩
      rw [dec_int]
      by_cases c1 : r = 1
      · refine if_true_of (beq_yes c1) ?_
        refine ⟨_, rfl, u, 59, rfl, hu1, (by decide), (by decide), fun r2 H2 p0 p1 e2 hu2 => ⟨r2, rfl, p0, (by omega), _, rfl, u, 5, rfl, hu2, (by decide), (by decide), fun r3 H3 q0 q1 e3 hu3 => ?_⟩⟩
        exact ⟨_, _, rfl, rfl, _, _, rfl, rfl, k _ _ (w_one p0 p1 q0 q1) (e1.trans (e2.trans e3)) hu3⟩
      · refine if_false_of (beq_no c1) ?_
        refine ⟨_, rfl, rfl, _, rfl, ?_⟩
        rw [dec_int]
        by_cases c2 : r = 2
        · refine if_true_of (beq_yes c2) ?_
          refine ⟨_, rfl, u, 2, rfl, hu1, (by decide), (by decide), fun r2 H2 p0 p1 e2 hu2 => ⟨_, _, rfl, rfl, cm_left _ _ (by decide) (by decide), _, _, rfl, rfl, ?_⟩⟩
          refine ⟨_, rfl, u, 40, rfl, hu2, (by decide), (by decide), fun r3 H3 q0 q1 e3 hu3 => ⟨r3, rfl, (by omega), (by omega), ?_⟩⟩
          refine for_range (fun i σ H' => ∃ f lap, σ = [some (V.ref u), some (V.int r), some (V.int f), lap] ∧ f.natAbs ≤ 11 ^ i ∧ Ext1 u H H' ∧ UrnAt H' u) ⟨_, _, rfl, ?_, e1.trans (e2.trans e3), hu3⟩ ?_ ?_
          · show (1 - 2 * r2).natAbs ≤ 1
            omega
          · rintro i σ H4 hi ⟨f, lap, rfl, hf, e4, hu4⟩
            refine ⟨_, rfl, _, rfl, (by show 6 ≤ sizeLine; decide), fun p hp => ?_⟩
            refine ⟨u, p, _, rfl, hu4.ext (Ext.new hp), SqL.of upd_same, urn_ne hu4 hp, (by show 0 < 6; decide), (by show 6 < 1073741824; decide), fun v hv H5 e5 hu5 => ?_⟩
            obtain ⟨z, rfl, hz⟩ := w_lst hv
            exact ⟨_, _, rfl, rfl, w_cm hf (by omega) hz, _, _, rfl, w_mulE hf hz, e4.trans ((Ext.new hp).one.trans e5), hu5⟩
          · rintro σ H4 ⟨f, lap, rfl, hf, e4, hu4⟩
            exact ⟨_, rfl, k _ _ (w_two hf (by omega)).1 e4 hu4⟩
        · refine if_false_of (beq_no c2) ?_
          refine ⟨_, rfl, u, 40, rfl, hu1, (by decide), (by decide), fun r2 H2 p0 p1 e2 hu2 => ⟨_, _, rfl, rfl, k _ _ (few_of ?_) (e1.trans e2) hu2⟩⟩
          omega
end
end K01

namespace K01
open PySem PySem.Spec PyProof.Rows L2 L3

/-! ### the deeds -/
inductive Dd where
  | add | sub | mul | over
def Dd.nm : Dd → Str
  | .add => "+"
  | .sub => "-"
  | .mul => "*"
  | .over => "over"
def Dd.fn : Dd → Rat → Rat → Rat
  | .add => fun a b => a + b
  | .sub => fun a b => a - b
  | .mul => fun a b => a * b
  | .over => fun a b => a / b
def Pr (a : Rat) : List V := [.int a.num, .int (a.den : Int)]
def spDue (K : PySem.W.Frag) : Sp := fun vs H Q _ => ∃ (o : Dd) (p q : Addr) (a b : Rat), vs = [.str o.nm, .ref p, .ref q] ∧ SqT K H p (Pr a) ∧ SqT K H q (Pr b) ∧ big a = false ∧ big b = false ∧
  ((o = .over ∧ b = 0) → Q (.str "zero") H) ∧ (¬ (o = .over ∧ b = 0) → big (o.fn a b) = true → ∀ H', Ext H H' → Q (.str "many") H') ∧
  (¬ (o = .over ∧ b = 0) → big (o.fn a b) = false → ∀ t H', Ext H H' → H t = none → H' t = some (.tup (Pr (o.fn a b))) → Q (.ref t) H')
def spWork (K : PySem.W.Frag) (C : Addr) : Sp := fun vs H Q _ => ∃ (o : Dd) (r : Addr) (y : V) (a : Rat), vs = [.str o.nm, .ref r, y] ∧ RatQ C H r a ∧ big a = false ∧
  ((∃ q b, y = .ref q ∧ RatQ C H q b ∧ big b = false ∧ ((o = .over ∧ b = 0) → ∀ H', Ext H H' → Q (.str "zero") H') ∧ (¬ (o = .over ∧ b = 0) → big (o.fn a b) = true → ∀ H', Ext H H' → Q (.str "many") H') ∧
    (¬ (o = .over ∧ b = 0) → big (o.fn a b) = false → ∀ t H', Ext H H' → RatQ C H' t (o.fn a b) → Q (.ref t) H')) ∨
   (o = .over ∧ (∃ t, TyX K H y t ∧ PySem.W.kitOne K t (.ref C) = some false) ∧ ∀ H', Ext H H' → Q (.str "ratio") H'))

theorem seq_asg {te : TE} {g : TG} {u : TS} {D : Ends} {σ : L2.St} {H : Hp} (P : V → Hp → Prop) (h1 : ∀ Q : VK, (∀ x H1, P x H1 → Q x H1) → te σ H Q) (h2 : ∀ x H1, P x H1 → g x σ H1 fun σ' H' => u D σ' H') : tSeq (tAsg te g) u D σ H := h1 _ h2
theorem seq_ifF {c : TT} {t u : TS} {D : Ends} {σ : L2.St} {H : Hp} (P : Hp → Prop) (h1 : ∀ Q : Bool → Hp → Prop, (∀ H1, P H1 → Q false H1) → c σ H Q) (h2 : ∀ H1, P H1 → u D σ H1) : tSeq (tIfS c t tNext) u D σ H := by
  refine h1 _ fun H1 p => ?_
  show if false = true then _ else _
  exact iteF (h2 H1 p)
theorem if_both {c : Bool} {A B : Prop} (h1 : c = true → A) (h2 : c = false → B) : if c = true then A else B := by
  cases c with
  | true => exact iteT (h1 rfl)
  | false => exact iteF (h2 rfl)
theorem rf_over (t b : Int) : (rf t b).lookup ("over" : Str) = none := (lk_past (by decide +kernel)).trans ((lk_past (by decide +kernel)).trans rfl)
theorem seq_any {t u : TS} {D : Ends} {σ : L2.St} {H : Hp} (P : L2.St → Hp → Prop) (h1 : ∀ D' : Ends, (∀ σ' H', P σ' H' → D'.nx σ' H') → t D' σ H) (h2 : ∀ σ' H', P σ' H' → u D σ' H') : tSeq t u D σ H := h1 _ h2
theorem max_big (q : Rat) : decide (((10 : Int) ^ ((50 : Int)).toNat) ^ ((40 : Int)).toNat ≤ (if ((q.den : Nat) : Int) > (if q.num < 0 then -q.num else q.num) then ((q.den : Nat) : Int) else (if q.num < 0 then -q.num else q.num))) = big q := by
  have e : ((10 : Int) ^ ((50 : Int)).toNat) ^ ((40 : Int)).toNat = ((10 ^ 2000 : Nat) : Int) := by decide +kernel
  rw [e, abs_if]
  unfold big many
  rw [Int.natAbs_natCast]
  generalize (10 : Nat) ^ 2000 = P
  by_cases c : P ≤ q.num.natAbs
  · rw [decide_eq_true c, Bool.true_or]
    exact decide_eq_true (by split <;> omega)
  · rw [decide_eq_false c, Bool.false_or]
    by_cases d : P ≤ q.den
    · rw [decide_eq_true d]
      exact decide_eq_true (by split <;> omega)
    · rw [decide_eq_false d]
      exact decide_eq_false (by split <;> omega)
section
variable {P : Program} {w : World} {K : PySem.W.Frag} {mg : Str → Option Value} {base : Heap}
theorem ok__law_due (T : TX K mg) : FnOk P w K mg base (L2.CX P w) 3 T.f__law_due T.d__law_due ["_law_sign", "_law_one", "_law_other"] (spDue K) := by
  refine T.F__law_due.okX sc__law_due (fun vs H Q E h => ?_) (fun cdv A outer s H vs Q E hr h => ?_)
  · obtain ⟨o, p, q, a, b, rfl, _⟩ := h
    rfl
  · refine ⟨_, (pss_cons (ps_if (PW.pt (pw_and (pt_cmpR op_eq (pv 0) pe_str (nomark _)) (pw_and1 (pt_cmpR op_eq (pe_ix ix_tup (pv 2) pe_int (fun _ _ => rfl)) pe_int (nomark _))))) (pss_one (ps_ret pe_str)) pss_nil)
    (pss_cons (ps_if (PW.pt (pw_or (pt_cmpR op_eq (pv 0) pe_str (nomark _)) (pw_or1 (pt_cmpR op_eq (pv 0) pe_str (nomark _))))) (pss_cons (ps_set (i := 3) sc__law_due.nd rfl (Or.inl rfl) (pe_ifExp (pt_cmpR op_eq (pv 0) pe_str (nomark _)) (pe_ix ix_tup (pv 2) pe_int (fun _ _ => rfl)) (pe_un un_neg (pe_ix ix_tup (pv 2) pe_int (fun _ _ => rfl)))))
    (pss_one (ps_set (i := 4) sc__law_due.nd rfl (Or.inl rfl) (pe_call (ok__law_lowest T) (hr.mono (by decide)) (by rfl) T.g__law_lowest T.F__law_lowest.kp T.b__law_lowest .nil passL (pa_cons (pe_op op_add (pe_op op_mulW (pe_ix ix_tup (pv 1) pe_int (fun _ _ => rfl)) (pe_ix ix_tup (pv 2) pe_int (fun _ _ => rfl))) (pe_op op_mulW (pv 3) (pe_ix ix_tup (pv 1) pe_int (fun _ _ => rfl)))) (pa_cons (pe_op op_mulW (pe_ix ix_tup (pv 1) pe_int (fun _ _ => rfl)) (pe_ix ix_tup (pv 2) pe_int (fun _ _ => rfl))) pa_nil)))))) (pss_one (ps_if (pt_cmpR op_eq (pv 0) pe_str (nomark _)) (pss_one (ps_set (i := 4) sc__law_due.nd rfl (Or.inl rfl) (pe_call (ok__law_lowest T) (hr.mono (by decide)) (by rfl) T.g__law_lowest T.F__law_lowest.kp T.b__law_lowest .nil passL (pa_cons (pe_op op_mulW (pe_ix ix_tup (pv 1) pe_int (fun _ _ => rfl)) (pe_ix ix_tup (pv 2) pe_int (fun _ _ => rfl))) (pa_cons (pe_op op_mulW (pe_ix ix_tup (pv 1) pe_int (fun _ _ => rfl)) (pe_ix ix_tup (pv 2) pe_int (fun _ _ => rfl))) pa_nil))))) (pss_one (ps_set (i := 4) sc__law_due.nd rfl (Or.inl rfl) (pe_call (ok__law_lowest T) (hr.mono (by decide)) (by rfl) T.g__law_lowest T.F__law_lowest.kp T.b__law_lowest .nil passL (pa_cons (pe_op op_mulW (pe_ix ix_tup (pv 1) pe_int (fun _ _ => rfl)) (pe_ix ix_tup (pv 2) pe_int (fun _ _ => rfl))) (pa_cons (pe_op op_mulW (pe_ix ix_tup (pv 1) pe_int (fun _ _ => rfl)) (pe_ix ix_tup (pv 2) pe_int (fun _ _ => rfl))) pa_nil))))))))
    (pss_one (ps_ret (pe_ifExp (pt_cmpR op_ge (pe_callB (call_max2 rfl) (by rfl) T.n_max (by decide +kernel) (pa_cons (pe_callB call_abs (by rfl) T.n_abs (by decide +kernel) (pa_cons (pe_ix ix_tup (pv 4) pe_int (fun _ _ => rfl)) pa_nil)) (pa_cons (pe_ix ix_tup (pv 4) pe_int (fun _ _ => rfl)) pa_nil))) (pe_op op_powW (pe_op op_pow pe_int pe_int) pe_int) (nomark _)) pe_str (pv 4)))))), ?_⟩
    obtain ⟨o, p, q, a, b, rfl, hp, hq, ba, bb, k0, k1, k2⟩ := h
    obtain ⟨a1, a2⟩ := big_of ba
    obtain ⟨b1, b2⟩ := big_of bb
    have dn := Int.mul_ne_zero (den_ne a) (den_ne b)
    cases o with
    | add =>
      have l := add_low a b
      refine seq_ifF (fun H1 => H = H1) (fun Q' hQ => ⟨_, rfl, rfl, _, rfl, if_false_of (by decide +kernel) (hQ _ rfl)⟩) ?_
      rintro _ rfl
      refine seq_any (fun σ' H' => ∃ tn t, σ' = [some (V.str Dd.add.nm), some (.ref p), some (.ref q), tn, some (.ref t)] ∧ Ext H H' ∧ H t = none ∧ H' t = some (.tup (Pr (a + b)))) (fun D' hD => ?_) ?_
      refine ⟨_, rfl, rfl, _, rfl, if_true_of (by decide +kernel) ?_⟩
      refine ⟨_, rfl, rfl, _, rfl, if_true_of (by decide +kernel) ⟨_, rfl, q, _, _, _, rfl, rfl, hq, rfl, ?_⟩⟩
      exact ⟨_, rfl, p, _, _, _, rfl, rfl, hp, rfl, _, rfl, q, _, _, _, rfl, rfl, hq, rfl, _, _, rfl, rfl, cm_many a1 b2, _, rfl, _, rfl, p, _, _, _, rfl, rfl, hp, rfl, _, _, rfl, rfl, cm_many b1 a2, _, _, rfl, rfl, _, rfl, p, _, _, _, rfl, rfl, hp, rfl, _, rfl, q, _, _, _, rfl, rfl, hq, rfl, _, _, rfl, rfl, cm_many a2 b2, _, _, rfl, dn, w_add (w_mul a1 b2) (w_mul b1 a2), w_up (w_mul a2 b2), fun t nt => hD _ _ ⟨_, t, rfl, Ext.new nt, nt, by rw [upd_same, l.1, l.2] <;> rfl⟩⟩
      rintro σ' H' ⟨tn, t, rfl, e, nt, ht⟩
      refine ⟨_, rfl, t, _, _, _, rfl, rfl, SqT.of ht, rfl, _, rfl, _, rfl, t, _, _, _, rfl, rfl, SqT.of ht, rfl, _, _, rfl, _, _, rfl, rfl, ⟨by decide, by decide, by decide⟩, _, _, rfl, rfl, ⟨by decide, by decide⟩, _, _, rfl, rfl, _, rfl, ?_⟩
      rw [max_big (a + b)]
      cases bg : big (a + b) with
      | true => exact iteT (k1 (fun z => nomatch z.1) bg H' e)
      | false => exact iteF ⟨_, rfl, k2 (fun z => nomatch z.1) bg t H' e nt ht⟩
    | sub =>
      have l := add_low a (-b)
      rw [(neg_q b).1, (neg_q b).2, ← Rat.sub_eq_add_neg] at l
      have b3 : many (-b.num) = false := by
        unfold many at b1 ⊢
        rw [Int.natAbs_neg]
        exact b1
      refine seq_ifF (fun H1 => H = H1) (fun Q' hQ => ⟨_, rfl, rfl, _, rfl, if_false_of (by decide +kernel) (hQ _ rfl)⟩) ?_
      rintro _ rfl
      refine seq_any (fun σ' H' => ∃ tn t, σ' = [some (V.str Dd.sub.nm), some (.ref p), some (.ref q), tn, some (.ref t)] ∧ Ext H H' ∧ H t = none ∧ H' t = some (.tup (Pr (a - b)))) (fun D' hD => ?_) ?_
      refine ⟨_, rfl, rfl, _, rfl, if_false_of (by decide +kernel) ⟨_, rfl, rfl, _, rfl, ?_⟩⟩
      refine if_true_of (by decide +kernel) ?_
      refine ⟨_, rfl, rfl, _, rfl, if_false_of (by decide +kernel) ⟨_, rfl, q, _, _, _, rfl, rfl, hq, rfl, _, rfl, ?_⟩⟩
      exact ⟨_, rfl, p, _, _, _, rfl, rfl, hp, rfl, _, rfl, q, _, _, _, rfl, rfl, hq, rfl, _, _, rfl, rfl, cm_many a1 b2, _, rfl, _, rfl, p, _, _, _, rfl, rfl, hp, rfl, _, _, rfl, rfl, cm_many b3 a2, _, _, rfl, rfl, _, rfl, p, _, _, _, rfl, rfl, hp, rfl, _, rfl, q, _, _, _, rfl, rfl, hq, rfl, _, _, rfl, rfl, cm_many a2 b2, _, _, rfl, dn, w_add (w_mul a1 b2) (w_mul b3 a2), w_up (w_mul a2 b2), fun t nt => hD _ _ ⟨_, t, rfl, Ext.new nt, nt, by rw [upd_same, l.1, l.2] <;> rfl⟩⟩
      rintro σ' H' ⟨tn, t, rfl, e, nt, ht⟩
      refine ⟨_, rfl, t, _, _, _, rfl, rfl, SqT.of ht, rfl, _, rfl, _, rfl, t, _, _, _, rfl, rfl, SqT.of ht, rfl, _, _, rfl, _, _, rfl, rfl, ⟨by decide, by decide, by decide⟩, _, _, rfl, rfl, ⟨by decide, by decide⟩, _, _, rfl, rfl, _, rfl, ?_⟩
      rw [max_big (a - b)]
      cases bg : big (a - b) with
      | true => exact iteT (k1 (fun z => nomatch z.1) bg H' e)
      | false => exact iteF ⟨_, rfl, k2 (fun z => nomatch z.1) bg t H' e nt ht⟩
    | mul =>
      have l := mul_low a b
      refine seq_ifF (fun H1 => H = H1) (fun Q' hQ => ⟨_, rfl, rfl, _, rfl, if_false_of (by decide +kernel) (hQ _ rfl)⟩) ?_
      rintro _ rfl
      refine seq_any (fun σ' H' => ∃ tn t, σ' = [some (V.str Dd.mul.nm), some (.ref p), some (.ref q), tn, some (.ref t)] ∧ Ext H H' ∧ H t = none ∧ H' t = some (.tup (Pr (a * b)))) (fun D' hD => ?_) ?_
      refine ⟨_, rfl, rfl, _, rfl, if_false_of (by decide +kernel) ⟨_, rfl, rfl, _, rfl, ?_⟩⟩
      refine if_false_of (by decide +kernel) ?_
      refine ⟨_, rfl, rfl, _, rfl, if_true_of (by decide +kernel) ?_⟩
      exact ⟨_, rfl, p, _, _, _, rfl, rfl, hp, rfl, _, rfl, q, _, _, _, rfl, rfl, hq, rfl, _, _, rfl, rfl, cm_many a1 b1, _, rfl, p, _, _, _, rfl, rfl, hp, rfl, _, rfl, q, _, _, _, rfl, rfl, hq, rfl, _, _, rfl, rfl, cm_many a2 b2, _, _, rfl, dn, w_up (w_mul a1 b1), w_up (w_mul a2 b2), fun t nt => hD _ _ ⟨_, t, rfl, Ext.new nt, nt, by rw [upd_same, l.1, l.2] <;> rfl⟩⟩
      rintro σ' H' ⟨tn, t, rfl, e, nt, ht⟩
      refine ⟨_, rfl, t, _, _, _, rfl, rfl, SqT.of ht, rfl, _, rfl, _, rfl, t, _, _, _, rfl, rfl, SqT.of ht, rfl, _, _, rfl, _, _, rfl, rfl, ⟨by decide, by decide, by decide⟩, _, _, rfl, rfl, ⟨by decide, by decide⟩, _, _, rfl, rfl, _, rfl, ?_⟩
      rw [max_big (a * b)]
      cases bg : big (a * b) with
      | true => exact iteT (k1 (fun z => nomatch z.1) bg H' e)
      | false => exact iteF ⟨_, rfl, k2 (fun z => nomatch z.1) bg t H' e nt ht⟩
    | over =>
      by_cases b0 : b = 0
      · refine ⟨_, rfl, rfl, _, rfl, if_true_of (by decide +kernel) ⟨_, rfl, q, _, _, _, rfl, rfl, hq, rfl, rfl, _, rfl, ?_⟩⟩
        refine if_true_of (by rw [b0]; decide +kernel) ?_
        exact k0 ⟨rfl, b0⟩
      · refine seq_ifF (fun H1 => H = H1) (fun Q' hQ => ⟨_, rfl, rfl, _, rfl, if_true_of (by decide +kernel) ⟨_, rfl, q, _, _, _, rfl, rfl, hq, rfl, rfl, _, rfl, ?_⟩⟩) ?_
        · rw [show decide (V.int b.num = V.int 0) = false by rw [dec_int]; exact beq_no (num_ne b0)]
          exact hQ _ rfl
        rintro _ rfl
        have l := div_low a b b0
        refine seq_any (fun σ' H' => ∃ tn t, σ' = [some (V.str Dd.over.nm), some (.ref p), some (.ref q), tn, some (.ref t)] ∧ Ext H H' ∧ H t = none ∧ H' t = some (.tup (Pr (a / b)))) (fun D' hD => ?_) ?_
        refine ⟨_, rfl, rfl, _, rfl, if_false_of (by decide +kernel) ⟨_, rfl, rfl, _, rfl, ?_⟩⟩
        refine if_false_of (by decide +kernel) ?_
        refine ⟨_, rfl, rfl, _, rfl, if_false_of (by decide +kernel) ?_⟩
        exact ⟨_, rfl, p, _, _, _, rfl, rfl, hp, rfl, _, rfl, q, _, _, _, rfl, rfl, hq, rfl, _, _, rfl, rfl, cm_many a1 b2, _, rfl, p, _, _, _, rfl, rfl, hp, rfl, _, rfl, q, _, _, _, rfl, rfl, hq, rfl, _, _, rfl, rfl, cm_many a2 b1, _, _, rfl, Int.mul_ne_zero (den_ne a) (num_ne b0), w_up (w_mul a1 b2), w_up (w_mul a2 b1), fun t nt => hD _ _ ⟨_, t, rfl, Ext.new nt, nt, by rw [upd_same, l.1, l.2] <;> rfl⟩⟩
        rintro σ' H' ⟨tn, t, rfl, e, nt, ht⟩
        refine ⟨_, rfl, t, _, _, _, rfl, rfl, SqT.of ht, rfl, _, rfl, _, rfl, t, _, _, _, rfl, rfl, SqT.of ht, rfl, _, _, rfl, _, _, rfl, rfl, ⟨by decide, by decide, by decide⟩, _, _, rfl, rfl, ⟨by decide, by decide⟩, _, _, rfl, rfl, _, rfl, ?_⟩
        rw [max_big (a / b)]
        cases bg : big (a / b) with
        | true => exact iteT (k1 (fun z => b0 z.2) bg H' e)
        | false => exact iteF ⟨_, rfl, k2 (fun z => b0 z.2) bg t H' e nt ht⟩
theorem ok__law_worked (T : TX K mg) : FnOk P w K mg base (L2.CX P w) 8 T.f__law_worked T.d__law_worked ["_law_sign", "_law_one", "_law_other"] (spWork K T.C_Ratio) := by
  refine T.F__law_worked.okX sc__law_worked (fun vs H Q E h => ?_) (fun cdv A outer s H vs Q E hr h => ?_)
  · obtain ⟨o, r, y, a, rfl, _⟩ := h
    rfl
  · refine ⟨_, pss_one (ps_tryE (X := cxOf (L2.CX P w) P w K mg base ["_law_sign", "_law_one", "_law_other", "e"] "_law_worked" (defScope s__law_worked) T.f__law_worked cdv A outer s H E) rfl rfl sc__law_worked.nd (fun W pn xe Ech tk hW => (pss_cons (ps_if (pt_cmpR op_eq (pv 0) pe_str (nomark _)) (pss_one (ps_ret (pe_op (op_ownAdd T.sf_Ratio T.tc_Ratio T.o_Ratio___add__ (ok_Ratio___add__ T) (hr.mono (by decide)) T.b_Ratio___add__ (passes_call (takes_len tk) hW)) (pv 1) (pv 2)))) pss_nil)
    (pss_cons (ps_if (pt_cmpR op_eq (pv 0) pe_str (nomark _)) (pss_one (ps_ret (pe_op (op_ownSub T.sf_Ratio T.tc_Ratio T.o_Ratio___sub__ (ok_Ratio___sub__ T) (hr.mono (by decide)) T.b_Ratio___sub__ (passes_call (takes_len tk) hW)) (pv 1) (pv 2)))) pss_nil)
    (pss_one (ps_ret (pe_ifExp (pt_cmpR op_eq (pv 0) pe_str (nomark _)) (pe_op (op_ownMul T.sf_Ratio T.tc_Ratio T.o_Ratio___mul__ (ok_Ratio___mul__ T) (hr.mono (by decide)) T.b_Ratio___mul__ (passes_call (takes_len tk) hW)) (pv 1) (pv 2)) (pe_meth (pv 1) T.cl_Ratio T.m_Ratio_over (ok_Ratio_over T) (hr.mono (by decide)) T.b_Ratio_over .nil (passes_call (takes_len tk) hW) (pa_cons (pv 2) pa_nil))))))))
      (.plain ⟨rfl, by decide, .inr ⟨T.n_ZeroDivisionError, boot_ZeroDivisionError, by decide⟩⟩ (fun a oe cls d pn hz hf => pss_one (ps_ret pe_str))
        (.named (i := 3) rfl rfl ⟨rfl, by decide, .inl T.x_TooMany.gC⟩ (fun a oe cls d pn hz hf => pss_one (ps_ret (pe_ifExp (pt_cmpR op_eq (pe_fldTooMany T.x_TooMany hz hf (pv 3)) pe_int (nomark _)) pe_str pe_str)))
          (.plain ⟨rfl, by decide, .inl T.g_InvalidRatio⟩ (fun a oe cls d pn hz hf => pss_one (ps_ret pe_str)) .nil)))), ?_⟩
    obtain ⟨o, r, y, a, rfl, hr1, ba, h⟩ := h
    obtain ⟨dx, hr2⟩ := id hr1
    refine ⟨fun cls d H' => (cls = .type "ZeroDivisionError" ∧ Q (.str "zero") H') ∨ (cls = .ref T.C_TooMany ∧ ∃ dd, d = some dd ∧ H' dd = some (.xd [("limit", .int 2000)]) ∧ Q (.str "many") H') ∨ (cls = .ref T.C_InvalidRatio ∧ Q (.str "ratio") H'), fun cls d σ' H' e ln => ?_, ?_⟩
    · rcases e with ⟨rfl, q⟩ | ⟨rfl, dd, rfl, hd, q⟩ | ⟨rfl, q⟩
      · exact ⟨true, T.zz, fun _ a ha => q, fun z => nomatch z⟩
      · refine ⟨false, T.zt, (fun z => nomatch z), fun _ => ⟨true, T.x_TooMany.te, fun _ a ha => ?_, fun z => nomatch z⟩⟩
        have e1 : (List.set σ' 3 (some (V.ref a)))[3]? = some (some (V.ref a)) := by
          have ln' : σ'.length = 4 := ln
          rw [List.getElem?_set_self (by omega)]
        exact ⟨_, e1, rfl, rfl, dd, _, rfl, hd, rfl, _, rfl, if_true_of (by decide +kernel) q⟩
      · exact ⟨false, T.zr, (fun z => nomatch z), fun _ => ⟨false, T.e_InvalidRatio_TooMany, (fun z => nomatch z), fun _ => ⟨true, T.e_InvalidRatio_InvalidRatio, fun _ a ha => q, fun z => nomatch z⟩⟩⟩
    · rcases h with ⟨q, b, rfl, hq1, bb, k0, k1, k2⟩ | ⟨rfl, ⟨t, ty, kt⟩, k⟩
      · obtain ⟨dy, hq2⟩ := id hq1
        cases o with
        | add => exact ⟨_, rfl, rfl, _, rfl, if_true_of (by decide +kernel) ⟨_, rfl, _, rfl, r, q, dx, dy, _, _, rfl, rfl, hr2, hq2, r, q, a, b, rfl, hr1, hq1, ba, bb, fun z d H' e hd => .inr (.inl ⟨rfl, d, rfl, hd, k1 (fun w => nomatch w.1) z H' e⟩), fun z x H' e hx => k2 (fun w => nomatch w.1) z x H' e hx⟩⟩
        | sub => exact ⟨_, rfl, rfl, _, rfl, if_false_of (by decide +kernel) ⟨_, rfl, rfl, _, rfl, if_true_of (by decide +kernel) ⟨_, rfl, _, rfl, r, q, dx, dy, _, _, rfl, rfl, hr2, hq2, r, q, a, b, rfl, hr1, hq1, ba, bb, fun z d H' e hd => .inr (.inl ⟨rfl, d, rfl, hd, k1 (fun w => nomatch w.1) z H' e⟩), fun z x H' e hx => k2 (fun w => nomatch w.1) z x H' e hx⟩⟩⟩
        | mul => exact ⟨_, rfl, rfl, _, rfl, if_false_of (by decide +kernel) ⟨_, rfl, rfl, _, rfl, if_false_of (by decide +kernel) ⟨_, rfl, rfl, _, rfl, if_true_of (by decide +kernel) ⟨_, rfl, _, rfl, r, q, dx, dy, _, _, rfl, rfl, hr2, hq2, r, q, a, b, rfl, hr1, hq1, ba, bb, fun z d H' e hd => .inr (.inl ⟨rfl, d, rfl, hd, k1 (fun w => nomatch w.1) z H' e⟩), fun z x H' e hx => k2 (fun w => nomatch w.1) z x H' e hx⟩⟩⟩⟩
        | over => exact ⟨_, rfl, rfl, _, rfl, if_false_of (by decide +kernel) ⟨_, rfl, rfl, _, rfl, if_false_of (by decide +kernel) ⟨_, rfl, rfl, _, rfl, if_false_of (by decide +kernel) ⟨_, rfl, r, dx, _, rfl, hr2, rf_over _ _, _, rfl, r, _, a, rfl, hr1, ba, .inl ⟨q, b, rfl, hq1, bb, fun z => .inl ⟨rfl, k0 ⟨rfl, z⟩ H Ext.rfl'⟩, fun z w d H' e hd => .inr (.inl ⟨rfl, d, rfl, hd, k1 (fun v => z v.2) w H' e⟩), fun z w x H' e hx => k2 (fun v => z v.2) w x H' e hx⟩⟩⟩⟩⟩
      · exact ⟨_, rfl, rfl, _, rfl, if_false_of (by decide +kernel) ⟨_, rfl, rfl, _, rfl, if_false_of (by decide +kernel) ⟨_, rfl, rfl, _, rfl, if_false_of (by decide +kernel) ⟨_, rfl, r, dx, _, rfl, hr2, rf_over _ _, _, rfl, r, _, a, rfl, hr1, ba, .inr ⟨t, ty, kt, .inr (.inr ⟨rfl, k H Ext.rfl'⟩)⟩⟩⟩⟩⟩
end
end K01

namespace K01
open PySem PySem.Spec PyProof.Rows L2 L3

/-! ### the chain -/
def spChain : Sp := fun vs H Q _ => ∃ u, vs = [.ref u] ∧ UrnAt H u ∧ ∀ H', Ext1 u H H' → UrnAt H' u → Q (.bl true) H'
theorem urn_ne' {H : Hp} {u p : Addr} (h : UrnAt H u) (hp : H p = none) : p ≠ u := urn_ne h hp
def Ent (C u p : Addr) (H : Hp) (e : Addr) : Prop := ∃ r q a dx, H e = some (.lst [.ref r, .ref q]) ∧ H r = some (.ins C dx (rf a.num a.den)) ∧ H q = some (.tup (Pr a)) ∧ big a = false ∧ (e ≠ u ∧ r ≠ u ∧ q ≠ u) ∧ e ≠ p ∧ r ≠ p ∧ q ≠ p
theorem Ent.two {C u p : Addr} {H H' : Hp} {e : Addr} (h : Ent C u p H e) (x : ∀ c o, c ≠ u → c ≠ p → H c = some o → H' c = some o) : Ent C u p H' e := by
  obtain ⟨r, q, a, dx, h1, h2, h3, h4, ⟨a1, a2, a3⟩, b1, b2, b3⟩ := h
  exact ⟨r, q, a, dx, x _ _ a1 b1 h1, x _ _ a2 b2 h2, x _ _ a3 b3 h3, h4, ⟨a1, a2, a3⟩, b1, b2, b3⟩
structure Sx (C u p : Addr) (H0 H : Hp) (es : List Addr) : Prop where
  one : Ext1 u H0 H
  urn : UrnAt H u
  lst : H p = some (.lst (es.map V.ref))
  ne : p ≠ u
  ent : ∀ e ∈ es, Ent C u p H e
theorem Sx.ext {C u p : Addr} {H0 H H' : Hp} {es : List Addr} (s : Sx C u p H0 H es) (e : Ext H H') : Sx C u p H0 H' es := ⟨s.one.trans e.one, s.urn.ext e, e _ _ s.lst, s.ne, fun x hx => (s.ent x hx).two fun c o _ _ h => e c o h⟩
theorem Sx.on {C u p : Addr} {H0 H H' : Hp} {es : List Addr} (s : Sx C u p H0 H es) (e : Ext1 u H H') (hu : UrnAt H' u) : Sx C u p H0 H' es := ⟨s.one.trans e, hu, e _ _ s.ne s.lst, s.ne, fun x hx => (s.ent x hx).two fun c o n _ h => e c o n h⟩
theorem Sx.push {C u p : Addr} {H0 H : Hp} {es : List Addr} (S : Sx C u p H0 H es) (hp : H0 p = none) {e r q dx : Addr} {a : Rat} (he : H e = none) (hr : H r = some (.ins C dx (rf a.num a.den))) (hq : H q = some (.tup (Pr a))) (ba : big a = false) :
    Sx C u p H0 (upd (upd H e (.lst [.ref r, .ref q])) p (.lst (es.map V.ref ++ [.ref e]))) (es ++ [e]) := by
  have xe := Ext.new (o := .lst [.ref r, .ref q]) he
  have S1 := S.ext xe
  have nep : e ≠ p := fun z => (ne_of_none S.lst he) z.symm
  obtain ⟨z1, z2, z3, hz⟩ := id S.urn
  have nru : r ≠ u := fun z => by rw [z, hz] at hr; cases hr
  have nqu : q ≠ u := fun z => by rw [z, hz] at hq; cases hq
  have nrp : r ≠ p := fun z => by rw [z, S.lst] at hr; cases hr
  have nqp : q ≠ p := fun z => by rw [z, S.lst] at hq; cases hq
  refine ⟨fun c o nc hc => ?_, ?_, ?_, S.ne, fun y hy => ?_⟩
  · rw [upd_ne (ne_of_none hc hp)]
    exact S1.one _ _ nc hc
  · obtain ⟨z1, z2, z3, hz⟩ := S1.urn
    exact ⟨z1, z2, z3, by rw [upd_ne (Ne.symm S.ne)]; exact hz⟩
  · rw [upd_same, List.map_append] <;> rfl
  · rcases List.mem_append.mp hy with hy | hy
    · exact (S1.ent y hy).two fun c o _ np h => by rw [upd_ne np]; exact h
    · obtain rfl : y = e := by simpa using hy
      exact ⟨r, q, a, dx, by rw [upd_ne nep, upd_same], by rw [upd_ne nrp]; exact xe _ _ hr, by rw [upd_ne nqp]; exact xe _ _ hq, ba, ⟨urn_ne S.urn he, nru, nqu⟩, nep, nrp, nqp⟩
theorem big_div {a b : Int} (h : b ≠ 0) (la : longer a = false) (lb : longer b = false) : big (Rat.divInt a b) = false := by
  have l := low_rat (n := a) h
  have m := low_le a b h
  unfold big
  rw [← l.1, ← l.2, many_of (Nat.lt_of_le_of_lt m.1 (short_of la (show 200 ≤ 200 by decide))) (by decide), many_of (Nat.lt_of_le_of_lt m.2 (short_of lb (show 200 ≤ 200 by decide))) (by decide)] <;> rfl
theorem mk_good {K : PySem.W.Frag} {C : Addr} {H : Hp} {Q : VK} {E : XK} {a b : Int} {x dx : Addr} (nx : H x = none) (ndx : H dx = none) (nex : dx ≠ x) (la : longer a = false) (lb : longer b = false) (b0 : b ≠ 0) (k : ∀ H2, Ext H H2 → RatQ C H2 x (Rat.divInt a b) → Q .non H2) :
    spInit K C [.ref x, .int a, .int b] (upd (upd H dx (.own x)) x (.ins C dx [])) Q E := by
  refine ⟨x, dx, a, b, rfl, upd_same, la, lb, b0, fun H' e1 hx => k H' (fun c o h => ?_) ?_⟩
  · have n1 := ne_of_none h nx
    refine e1 c o n1 ?_
    rw [upd_ne n1, upd_ne (ne_of_none h ndx)]
    exact h
  · have l := low_rat (n := a) b0
    show RatAt _ _ _ _ _
    rw [← l.1, ← l.2]
    exact ⟨dx, hx⟩
/-- no ratio -/
def Od (u : Addr) (H : Hp) (y : V) : Prop := y = .non ∨ (∃ b, y = .bl b) ∨ (∃ s, y = .str s) ∨ (∃ n, y = .int n) ∨ ∃ a o, y = .ref a ∧ a ≠ u ∧ H a = some o ∧ ((∃ xs, o = .tup xs) ∨ (∃ xs, o = .lst xs) ∨ (∃ k, o = .dK k))
theorem Od.ty {K : PySem.W.Frag} {mg : Str → Option Value} (T : TX K mg) {u : Addr} {H H' : Hp} {y : V} (h : Od u H y) (e : Ext1 u H H') : ∃ t, TyOf K H' y t ∧ PySem.W.kitOne K t (.ref T.C_Ratio) = some false := by
  rcases h with rfl | ⟨b, rfl⟩ | ⟨s, rfl⟩ | ⟨n, rfl⟩ | ⟨a, o, rfl, n, h, ⟨xs, rfl⟩ | ⟨xs, rfl⟩ | ⟨k, rfl⟩⟩
  · exact ⟨_, .non, T.kit_Ratio_NoneType⟩
  · exact ⟨_, .bl _, T.kit_Ratio_bool⟩
  · exact ⟨_, .str _, T.kit_Ratio_str⟩
  · exact ⟨_, .int _, T.kit_Ratio_int⟩
  · exact ⟨_, .tup (e _ _ n h), T.kit_Ratio_tuple⟩
  · exact ⟨_, .lst (e _ _ n h), T.kit_Ratio_list⟩
  · exact ⟨_, .dK (e _ _ n h), T.kit_Ratio_dict⟩
theorem last_at {es : List Addr} (h : 0 < es.length) : ∃ e ∈ es, atI (es.map V.ref) (-1) = some (.ref e) := by
  rcases List.eq_nil_or_concat es with z | ⟨l, e, z⟩
  · subst z
    simp at h
  · rw [List.concat_eq_append] at z
    subst z
    exact ⟨e, by simp, by rw [List.map_append]; exact atI_last _ _⟩
theorem of_mem {es : List Addr} {v : V} (h : v ∈ es.map V.ref) : ∃ e ∈ es, v = .ref e := by
  obtain ⟨e, he, z⟩ := List.mem_map.mp h
  exact ⟨e, he, z.symm⟩
theorem ne_tup {K : PySem.W.Frag} {H : Hp} {Q : VK} {p q : Addr} {xs : List V} {ds : List PyData} (hp : SqT K H p xs) (hq : SqT K H q xs) (hd : DpAll K H xs ds) (hc : (PyData.tuple ds).canLay0 = true) (hs : SeqAt.shaped (.tuple ds) = true) (k : Q (.bl false) H) : rNeD K (.ref p) (.ref q) H Q := by
  refine ⟨_, _, .tup hp hd, .tup hq hd, hs, hs, ?_⟩
  rw [SeqAt.eqv_refl _ hc]
  exact k
theorem pr_div {a b : Int} (h : b ≠ 0) : [V.int (lowT a b), V.int (lowB a b)] = Pr (Rat.divInt a b) := by
  have l := low_rat (n := a) h
  rw [l.1, l.2] <;> rfl
theorem if_two {c : Bool} {A B : Prop} (h1 : c = true → A) (h2 : c = false → B) : if c = true then A else B := by
  cases c with
  | true => exact iteT (h1 rfl)
  | false => exact iteF (h2 rfl)
section
variable {P : Program} {w : World} {K : PySem.W.Frag} {mg : Str → Option Value} {base : Heap}
theorem ok__law_chain_right (T : TX K mg) : FnOk P w K mg base (L2.CX P w) 9 T.f__law_chain_right T.d__law_chain_right ["_law_urn_here"] (spChain) := by
  refine T.F__law_chain_right.okX sc__law_chain_right (fun vs H Q E h => ?_) (fun cdv A outer s H vs Q E hr h => ?_)
  · obtain ⟨u, rfl, _⟩ := h
    rfl
  · refine ⟨_, (pss_cons (ps_set (i := 1) sc__law_chain_right.nd rfl (Or.inl rfl) (pe_lst pa_nil))
    (pss_cons (ps_for PassesOwn.leaving rfl (pi_range1 (by rfl) T.n_range (pa_cons pe_int pa_nil)) (pg_name (i := 2) sc__law_chain_right.nd rfl (Or.inl rfl)) (pss_cons (ps_par (i := 3) (j := 4) (by rfl) sc__law_chain_right.nd rfl rfl (by decide) rfl rfl (pa_cons (pe_call (ok__law_whole T) (hr.mono (by decide)) (by rfl) T.g__law_whole T.F__law_whole.kp T.b__law_whole .nil passL (pa_cons (pv 0) pa_nil)) (pa_cons (pe_call (ok__law_whole T) (hr.mono (by decide)) (by rfl) T.g__law_whole T.F__law_whole.kp T.b__law_whole .nil passL (pa_cons (pv 0) pa_nil)) pa_nil)) (by rfl))
    (pss_cons (ps_set (i := 4) sc__law_chain_right.nd rfl (Or.inl rfl) (pe_ifExp (pt_cmpR op_ne (pv 4) pe_int (nomark _)) (pv 4) pe_int))
    (pss_one (ps_expr (pe_bm PySem.F.plainAttrs_list PySem.F.slot_list_append PySem.F.type_list_append mt_append (pv 1) (pa_cons (pe_lst (pa_cons (pe_make T.mk_Ratio (ok_Ratio___init__ T) (hr.mono (by decide)) (by rfl) T.g_Ratio T.b_Ratio___init__ .nil passL (pa_cons (pv 3) (pa_cons (pv 4) pa_nil))) (pa_cons (pe_call (ok__law_lowest T) (hr.mono (by decide)) (by rfl) T.g__law_lowest T.F__law_lowest.kp T.b__law_lowest .nil passL (pa_cons (pv 3) (pa_cons (pv 4) pa_nil))) pa_nil))) pa_nil)))))))
    (pss_cons (ps_for PassesOwn.leaving rfl (pi_range1 (by rfl) T.n_range (pa_cons (pe_op op_add pe_int (pe_call (ok__law_drawn T) (hr.mono (by decide)) (by rfl) T.g__law_drawn T.F__law_drawn.kp T.b__law_drawn .nil passL (pa_cons (pv 0) (pa_cons pe_int pa_nil)))) pa_nil)) (pg_name (i := 2) sc__law_chain_right.nd rfl (Or.inl rfl)) (pss_cons (ps_set (i := 5) sc__law_chain_right.nd rfl (Or.inl rfl) (pe_call (ok__law_one_of T) (hr.mono (by decide)) (by rfl) T.g__law_one_of T.F__law_one_of.kp T.b__law_one_of .nil passL (pa_cons (pv 0) (pa_cons (pe_lst (pa_cons pe_str (pa_cons pe_str (pa_cons pe_str (pa_cons pe_str (pa_cons pe_str (pa_cons pe_str (pa_cons pe_str pa_nil)))))))) pa_nil))))
    (pss_cons (ps_set (i := 6) sc__law_chain_right.nd rfl (Or.inl rfl) (pe_ifExp (pt_cmpR op_eq (pe_call (ok__law_drawn T) (hr.mono (by decide)) (by rfl) T.g__law_drawn T.F__law_drawn.kp T.b__law_drawn .nil passL (pa_cons (pv 0) (pa_cons pe_int pa_nil))) pe_int (nomark _)) (pe_ix ix_list (pv 1) (pe_un un_neg pe_int) (fun _ _ => rfl)) (pe_call (ok__law_one_of T) (hr.mono (by decide)) (by rfl) T.g__law_one_of T.F__law_one_of.kp T.b__law_one_of .nil passL (pa_cons (pv 0) (pa_cons (pv 1) pa_nil)))))
    (pss_cons (ps_set (i := 7) sc__law_chain_right.nd rfl (Or.inl rfl) (pe_ifExp (pt_cmpR op_eq (pe_call (ok__law_drawn T) (hr.mono (by decide)) (by rfl) T.g__law_drawn T.F__law_drawn.kp T.b__law_drawn .nil passL (pa_cons (pv 0) (pa_cons pe_int pa_nil))) pe_int (nomark _)) (pv 6) (pe_call (ok__law_one_of T) (hr.mono (by decide)) (by rfl) T.g__law_one_of T.F__law_one_of.kp T.b__law_one_of .nil passL (pa_cons (pv 0) (pa_cons (pv 1) pa_nil)))))
    (pss_cons (ps_par (i := 8) (j := 9) (by rfl) sc__law_chain_right.nd rfl rfl (by decide) rfl rfl (pa_cons (pe_call (ok__law_due T) (hr.mono (by decide)) (by rfl) T.g__law_due T.F__law_due.kp T.b__law_due .nil passL (pa_cons (pv 5) (pa_cons (pe_ix ix_list (pv 6) pe_int (fun _ _ => rfl)) (pa_cons (pe_ix ix_list (pv 7) pe_int (fun _ _ => rfl)) pa_nil)))) (pa_cons (pe_call (ok__law_worked T) (hr.mono (by decide)) (by rfl) T.g__law_worked T.F__law_worked.kp T.b__law_worked .nil passL (pa_cons (pv 5) (pa_cons (pe_ix ix_list (pv 6) pe_int (fun _ _ => rfl)) (pa_cons (pe_ix ix_list (pv 7) pe_int (fun _ _ => rfl)) pa_nil)))) pa_nil)) (by rfl))
    (pss_one (ps_if (pt_val (pe_callB (id := "isinstance") (r := rIsi K) call_isi (by rfl) T.n_isinstance (by decide +kernel) (pa_cons (pv 8) (pa_cons (pe_bltn (v := .ty "str") (u := .type "str") rfl T.n_str (by decide +kernel) rfl) pa_nil)))) (pss_one (ps_if (pt_cmpR op_ne (pv 9) (pv 8) (nomark _)) (pss_one (ps_ret pe_bl)) pss_nil)) (pss_one (ps_if (PW.pt (pw_or (pt_val (pe_callB (id := "isinstance") (r := rIsi K) call_isi (by rfl) T.n_isinstance (by decide +kernel) (pa_cons (pv 9) (pa_cons (pe_bltn (v := .ty "str") (u := .type "str") rfl T.n_str (by decide +kernel) rfl) pa_nil)))) (pw_or1 (pt_cmpR (op_neD hr.units) (pe_tup (pa_cons (pe_prop (pv 9) T.cl_Ratio T.p_Ratio_top (ok_Ratio_top T) (hr.mono (by decide)) T.b_Ratio_top .nil passL (by rfl)) (pa_cons (pe_prop (pv 9) T.cl_Ratio T.p_Ratio_bottom (ok_Ratio_bottom T) (hr.mono (by decide)) T.b_Ratio_bottom .nil passL (by rfl)) pa_nil))) (pv 8) (nomark _))))) (pss_one (ps_ret pe_bl)) (pss_one (ps_expr (pe_bm PySem.F.plainAttrs_list PySem.F.slot_list_append PySem.F.type_list_append mt_append (pv 1) (pa_cons (pe_lst (pa_cons (pv 9) (pa_cons (pv 8) pa_nil))) pa_nil)))))))))))))
    (pss_cons (ps_par (i := 10) (j := 11) (by rfl) sc__law_chain_right.nd rfl rfl (by decide) rfl rfl (pa_cons (pe_call (ok__law_one_of T) (hr.mono (by decide)) (by rfl) T.g__law_one_of T.F__law_one_of.kp T.b__law_one_of .nil passL (pa_cons (pv 0) (pa_cons (pe_lst (pa_cons pe_int (pa_cons pe_int (pa_cons pe_non (pa_cons pe_str (pa_cons pe_bl (pa_cons (pe_tup (pa_cons pe_int pa_nil)) (pa_cons (pe_lst pa_nil) (pa_cons pe_dnewK pa_nil))))))))) pa_nil))) (pa_cons (pe_ix ix_list (pe_call (ok__law_one_of T) (hr.mono (by decide)) (by rfl) T.g__law_one_of T.F__law_one_of.kp T.b__law_one_of .nil passL (pa_cons (pv 0) (pa_cons (pv 1) pa_nil))) pe_int (fun _ _ => rfl)) pa_nil)) (by rfl))
    (pss_one (ps_ret (pe_cmpR op_eq (pe_call (ok__law_worked T) (hr.mono (by decide)) (by rfl) T.g__law_worked T.F__law_worked.kp T.b__law_worked .nil passL (pa_cons pe_str (pa_cons (pv 11) (pa_cons (pv 10) pa_nil)))) pe_str (nomark _)))))))), ?_⟩
    obtain ⟨u, rfl, hu, k⟩ := h
    refine ⟨(by show 0 ≤ sizeLine; decide), fun p hp => ?_⟩
    have hn : p ≠ u := urn_ne hu hp
    dsimp only
    refine seq_any (fun σ' H' => ∃ tn a b, σ' = [some (V.ref u), some (V.ref p), tn, a, b, none, none, none, none, none, none, none] ∧ ∃ es : List Addr, es.length = 3 ∧ Sx T.C_Ratio u p H H' es) (fun D' hD => ?_) ?_
    · refine ⟨3, rfl, (by decide), (by decide), ?_⟩
      refine for_range (fun i σ H' => ∃ tn a b, σ = [some (V.ref u), some (V.ref p), tn, a, b, none, none, none, none, none, none, none] ∧ ∃ es : List Addr, es.length = i ∧ Sx T.C_Ratio u p H H' es) ⟨_, _, _, rfl, [], rfl, ⟨(Ext.new hp).one, hu.ext (Ext.new hp), upd_same, hn, fun e h => by simp at h⟩⟩ ?_ (fun σ H' h => hD σ H' h)
      rintro i σ H1 hi ⟨tn, a, b, rfl, es, ln, S1⟩
      refine ⟨_, rfl, u, rfl, S1.urn, fun a H2 la e2 hu2 => ⟨_, rfl, u, rfl, hu2, fun b0 H3 lb e3 hu3 => ⟨_, _, rfl, ?_⟩⟩⟩
      have S3 := S1.on (e2.trans e3) hu3
      dsimp only
      refine seq_asg (fun x H4 => ∃ b, x = .int b ∧ b ≠ 0 ∧ longer b = false ∧ H3 = H4) (fun Q hQ => ?_) ?_
      · refine ⟨_, rfl, rfl, _, rfl, ?_⟩
        by_cases b00 : b0 = 0
        · exact if_false_of (by rw [dec_int, beq_yes b00] <;> rfl) (hQ _ _ ⟨3, rfl, by decide, by decide +kernel, rfl⟩)
        · exact if_true_of (by rw [dec_int, beq_no b00] <;> rfl) ⟨_, rfl, hQ _ _ ⟨b0, rfl, b00, lb, rfl⟩⟩
      · rintro x _ ⟨b, rfl, bn, lb', rfl⟩
        refine ⟨_, rfl, .inl ⟨rfl, _, SqL.of S3.lst⟩, _, rfl, _, rfl, fun r dx nx ndx nex => mk_good nx ndx nex la lb' bn fun H8 e8 r8 => ⟨rfl, _, rfl, _, rfl, a, b, rfl, bn, short_of la (by decide), short_of lb' (by decide), fun q hq => ⟨(by show 2 ≤ sizeLine; decide), fun e he => ?_⟩⟩⟩
        obtain ⟨dr, hr8⟩ := r8
        have S9 := (S3.ext e8).ext (Ext.new (o := .tup [.int (lowT a b), .int (lowB a b)]) hq)
        refine ⟨p, _, _, rfl, rfl, Ext.new he _ _ S9.lst, (by rw [List.length_map, ln]; exact Nat.lt_of_lt_of_le hi (by show 3 ≤ sizeLine; decide)), ?_⟩
        exact ⟨_, _, _, rfl, es ++ [e], (by rw [List.length_append, ln] <;> rfl), S9.push hp he (Ext.new hq _ _ hr8) (upd_same.trans (by rw [pr_div bn])) (big_div bn la lb')⟩
    · rintro σ' H1 ⟨tn, a, b, rfl, es, ln, S1⟩
      refine seq_any (fun σ' H' => ∃ x2 x3 x4 x5 x6 x7 x8 x9 x10 x11, σ' = [some (V.ref u), some (V.ref p), x2, x3, x4, x5, x6, x7, x8, x9, x10, x11] ∧ ∃ es : List Addr, 0 < es.length ∧ es.length ≤ 20 ∧ Sx T.C_Ratio u p H H' es) (fun D' hD => ?_) ?_
      · refine ⟨_, rfl, u, 9, rfl, S1.urn, (by decide), (by decide), fun r H2 r0 r1 e2 hu2 => ⟨_, _, rfl, rfl, _, rfl, (by omega), (by omega), ?_⟩⟩
        refine for_range (fun i σ H' => ∃ x2 x3 x4 x5 x6 x7 x8 x9 x10 x11, σ = [some (V.ref u), some (V.ref p), x2, x3, x4, x5, x6, x7, x8, x9, x10, x11] ∧ ∃ es : List Addr, 0 < es.length ∧ es.length ≤ 3 + i ∧ Sx T.C_Ratio u p H H' es) ⟨_, _, _, _, _, _, _, _, _, _, rfl, es, by omega, by omega, S1.on e2 hu2⟩ ?_ (fun σ H' ⟨x2, x3, x4, x5, x6, x7, x8, x9, x10, x11, e, es, l0, l1, S⟩ => hD _ _ ⟨x2, x3, x4, x5, x6, x7, x8, x9, x10, x11, e, es, l0, by omega, S⟩)
        rintro i σ H3 hi ⟨x2, x3, x4, x5, x6, x7, x8, x9, x10, x11, rfl, es, l0, l1, S3⟩
        have hi' : i < (4 + r).toNat := hi
        have lm : (es.map V.ref).length = es.length := List.length_map ..
        refine seq_asg (fun x H4 => (∃ o : Dd, x = .str o.nm) ∧ Sx T.C_Ratio u p H H4 es) (fun Q hQ => ?_) ?_
        · refine ⟨_, rfl, (by show 7 ≤ sizeLine; decide), fun l hl => ⟨u, l, _, rfl, S3.urn.ext (Ext.new hl), SqL.of upd_same, urn_ne S3.urn hl, (by show 0 < 7; decide), (by show 7 < 1073741824; decide), fun v hv H5 e5 hu5 => hQ _ _ ⟨?_, (S3.ext (Ext.new hl)).on e5 hu5⟩⟩⟩
          simp only [List.mem_cons, List.not_mem_nil, or_false] at hv
          rcases hv with rfl | rfl | rfl | rfl | rfl | rfl | rfl
          · exact ⟨.add, rfl⟩
          · exact ⟨.sub, rfl⟩
          · exact ⟨.mul, rfl⟩
          · exact ⟨.over, rfl⟩
          · exact ⟨.mul, rfl⟩
          · exact ⟨.add, rfl⟩
          · exact ⟨.over, rfl⟩
        rintro x H4 ⟨⟨o, rfl⟩, S4⟩
        dsimp only [gName]
        refine seq_asg (fun x H5 => (∃ e ∈ es, x = .ref e) ∧ Sx T.C_Ratio u p H H5 es) (fun Q hQ => ?_) ?_
        · refine ⟨_, rfl, u, 2, rfl, S4.urn, (by decide), (by decide), fun r5 H5 _ _ e5 hu5 => ⟨rfl, _, rfl, if_two (fun _ => ?_) (fun _ => ?_)⟩⟩
          · obtain ⟨e, he, ha⟩ := last_at l0
            have S5 := S4.on e5 hu5
            exact ⟨_, rfl, _, rfl, p, _, _, _, rfl, rfl, SqL.of S5.lst, ha, hQ _ _ ⟨⟨e, he, rfl⟩, S5⟩⟩
          · have S5 := S4.on e5 hu5
            exact ⟨_, rfl, _, rfl, u, p, _, rfl, S5.urn, SqL.of S5.lst, S5.ne, (by omega), (by omega), fun v hv H6 e6 hu6 => hQ _ _ ⟨of_mem hv, S5.on e6 hu6⟩⟩
        rintro x H5 ⟨⟨e1, he1, rfl⟩, S5⟩
        dsimp only [gName]
        refine seq_asg (fun x H5 => (∃ e ∈ es, x = .ref e) ∧ Sx T.C_Ratio u p H H5 es) (fun Q hQ => ?_) ?_
        · refine ⟨_, rfl, u, 3, rfl, S5.urn, (by decide), (by decide), fun r5 H6 _ _ e6 hu6 => ⟨rfl, _, rfl, if_two (fun _ => ?_) (fun _ => ?_)⟩⟩
          · exact ⟨_, rfl, hQ _ _ ⟨⟨e1, he1, rfl⟩, S5.on e6 hu6⟩⟩
          · have S6 := S5.on e6 hu6
            exact ⟨_, rfl, _, rfl, u, p, _, rfl, S6.urn, SqL.of S6.lst, S6.ne, (by omega), (by omega), fun v hv H7 e7 hu7 => hQ _ _ ⟨of_mem hv, S6.on e7 hu7⟩⟩
        rintro x H6 ⟨⟨e2', he2, rfl⟩, S6⟩
        obtain ⟨r1', q1, a1, d1, h11, h12, h13, ba1, _⟩ := S6.ent e1 he1
        obtain ⟨r2', q2, a2, d2, h21, h22, h23, ba2, _⟩ := S6.ent e2' he2
        have fin : ∀ H9, Sx T.C_Ratio u p H H9 es → ∃ es' : List Addr, 0 < es'.length ∧ es'.length ≤ 3 + (i + 1) ∧ Sx T.C_Ratio u p H H9 es' := fun H9 S9 => ⟨es, l0, by omega, S9⟩
        refine ⟨_, rfl, _, rfl, e1, _, _, _, rfl, rfl, SqL.of h11, rfl, _, rfl, e2', _, _, _, rfl, rfl, SqL.of h21, rfl, o, q1, q2, a1, a2, rfl, SqT.of h13, SqT.of h23, ba1, ba2, fun z => ?_, fun z bg H7 e7 => ?_, fun z bg t H7 e7 nt ht => ?_⟩
        · refine ⟨_, rfl, _, rfl, e1, _, _, _, rfl, rfl, SqL.of h11, rfl, _, rfl, e2', _, _, _, rfl, rfl, SqL.of h21, rfl, o, r1', .ref r2', a1, rfl, ⟨d1, h12⟩, ba1, .inl ⟨r2', a2, rfl, ⟨d2, h22⟩, ba2, fun _ H8 e8 => ?_, fun z2 => absurd z z2, fun z2 => absurd z z2⟩⟩
          refine ⟨_, _, rfl, _, rfl, _, _, _, _, _, rfl, .ty _, .base (.str _), kit_ty (r := true) (by decide +kernel), _, rfl, iteT ?_⟩
          exact ⟨_, rfl, _, rfl, rfl, _, rfl, if_false_of (by decide +kernel) ⟨_, _, _, _, _, _, _, _, _, _, rfl, fin _ (S6.ext e8)⟩⟩
        · refine ⟨_, rfl, _, rfl, e1, _, _, _, rfl, rfl, SqL.of (e7 _ _ h11), rfl, _, rfl, e2', _, _, _, rfl, rfl, SqL.of (e7 _ _ h21), rfl, o, r1', .ref r2', a1, rfl, ⟨d1, e7 _ _ h12⟩, ba1, .inl ⟨r2', a2, rfl, ⟨d2, e7 _ _ h22⟩, ba2, fun z2 => absurd z2 z, fun _ _ H8 e8 => ?_, fun _ b2 => absurd (bg.symm.trans b2) (by decide)⟩⟩
          refine ⟨_, _, rfl, _, rfl, _, _, _, _, _, rfl, .ty _, .base (.str _), kit_ty (r := true) (by decide +kernel), _, rfl, iteT ?_⟩
          exact ⟨_, rfl, _, rfl, rfl, _, rfl, if_false_of (by decide +kernel) ⟨_, _, _, _, _, _, _, _, _, _, rfl, fin _ ((S6.ext e7).ext e8)⟩⟩
        · refine ⟨_, rfl, _, rfl, e1, _, _, _, rfl, rfl, SqL.of (e7 _ _ h11), rfl, _, rfl, e2', _, _, _, rfl, rfl, SqL.of (e7 _ _ h21), rfl, o, r1', .ref r2', a1, rfl, ⟨d1, e7 _ _ h12⟩, ba1, .inl ⟨r2', a2, rfl, ⟨d2, e7 _ _ h22⟩, ba2, fun z2 => absurd z2 z, fun _ b2 => absurd (bg.symm.trans b2) (by decide), fun _ _ x H8 e8 rx => ?_⟩⟩
          obtain ⟨dx, hx⟩ := id rx
          have ht8 := e8 _ _ ht
          refine ⟨_, _, rfl, _, rfl, _, _, _, _, _, rfl, .ty _, .base (.tup ht8), kit_ty (r := false) (by decide +kernel), _, rfl, iteF ?_⟩
          refine ⟨_, rfl, _, _, _, _, _, rfl, .ty _, .base (T.tc_Ratio.ty hx), T.itk_Ratio_str, _, rfl, iteF ?_⟩
          refine ⟨_, rfl, x, dx, _, rfl, hx, x, _, _, rfl, rx, _, rfl, x, dx, _, rfl, hx, x, _, _, rfl, rx, (by show 2 ≤ sizeLine; decide), fun tt htt => ?_⟩
          have xt := Ext.new (o := .tup (Pr (o.fn a1 a2))) htt
          refine ⟨_, rfl, ne_tup (xs := Pr (o.fn a1 a2)) (SqT.of upd_same) (SqT.of (xt _ _ ht8)) (.cons (.int _) (.cons (.int _) .nil)) rfl rfl ⟨_, rfl, iteF ?_⟩⟩
          have S9 := ((S6.ext e7).ext e8).ext xt
          refine ⟨_, rfl, .inl ⟨rfl, _, SqL.of S9.lst⟩, _, rfl, _, rfl, (by show 2 ≤ sizeLine; decide), fun e he => ⟨p, _, _, rfl, rfl, Ext.new he _ _ S9.lst, Nat.lt_of_le_of_lt (show (es.map V.ref).length ≤ 20 by omega) (by decide), ?_⟩⟩
          exact ⟨_, _, _, _, _, _, _, _, _, _, rfl, es ++ [e], (by rw [List.length_append]; omega), (by rw [List.length_append, List.length_singleton]; omega), S9.push hp he (xt _ _ hx) (xt _ _ ht8) bg⟩
      · rintro σ' H2 ⟨x2, x3, x4, x5, x6, x7, x8, x9, x10, x11, rfl, es, l0, l1, S2⟩
        have lm : (es.map V.ref).length = es.length := List.length_map ..
        refine ⟨_, rfl, (by show 1 ≤ sizeLine; decide), fun ap hap => ⟨(by show 0 ≤ sizeLine; decide), fun lp hlp dp hdp => ⟨(by show 8 ≤ sizeLine; decide), fun l hl => ?_⟩⟩⟩
        have y1 := Ext.new (o := .tup [.int 1]) hap
        have y2 := Ext.new (o := .lst []) hlp
        have y3 := Ext.new (o := .dK []) hdp
        have y4 := Ext.new (o := .lst [.int 1, .int 0, .non, .str "1", .bl true, .ref ap, .ref lp, .ref dp]) hl
        have S3 := ((S2.ext y1).ext y2).ext y3
        refine ⟨u, l, _, rfl, (S3.ext y4).urn, SqL.of upd_same, urn_ne S3.urn hl, (by show 0 < 8; decide), (by show 8 < 1073741824; decide), fun v hv H6 e6 hu6 => ?_⟩
        have ov : Od u _ v := (show Od u (upd (upd (upd (upd H2 ap (.tup [.int 1])) lp (.lst [])) dp (.dK [])) l (.lst [.int 1, .int 0, .non, .str "1", .bl true, .ref ap, .ref lp, .ref dp])) v from by
          simp only [List.mem_cons, List.not_mem_nil, or_false] at hv
          rcases hv with rfl | rfl | rfl | rfl | rfl | rfl | rfl | rfl
          · exact .inr (.inr (.inr (.inl ⟨_, rfl⟩)))
          · exact .inr (.inr (.inr (.inl ⟨_, rfl⟩)))
          · exact .inl rfl
          · exact .inr (.inr (.inl ⟨_, rfl⟩))
          · exact .inr (.inl ⟨_, rfl⟩)
          · exact .inr (.inr (.inr (.inr ⟨_, _, rfl, urn_ne S2.urn hap, y4 _ _ (y3 _ _ (y2 _ _ upd_same)), .inl ⟨_, rfl⟩⟩)))
          · exact .inr (.inr (.inr (.inr ⟨_, _, rfl, urn_ne (S2.ext y1).urn hlp, y4 _ _ (y3 _ _ upd_same), .inr (.inl ⟨_, rfl⟩)⟩)))
          · exact .inr (.inr (.inr (.inr ⟨_, _, rfl, urn_ne ((S2.ext y1).ext y2).urn hdp, y4 _ _ upd_same, .inr (.inr ⟨_, rfl⟩)⟩))))
        have S6 := (S3.ext y4).on e6 hu6
        refine ⟨_, rfl, _, rfl, u, p, _, rfl, S6.urn, SqL.of S6.lst, S6.ne, (by omega), (by omega), fun v2 hv2 H7 e7 hu7 => ?_⟩
        have S7 := S6.on e7 hu7
        obtain ⟨e, he, rfl⟩ := of_mem hv2
        obtain ⟨r1', q1, a1, d1, h11, h12, h13, ba1, _⟩ := S7.ent e he
        refine ⟨e, _, _, _, rfl, rfl, SqL.of h11, rfl, _, _, rfl, ?_⟩
        obtain ⟨t, ty, kt⟩ := ov.ty T (e6.trans e7)
        refine ⟨_, rfl, _, rfl, .over, r1', v, a1, rfl, ⟨d1, h12⟩, ba1, .inr ⟨rfl, ⟨t, .base ty, kt⟩, fun H' x => ⟨rfl, ?_⟩⟩⟩
        have e0 : decide (V.str (Str.ofString "ratio") = V.str (Str.ofString "ratio")) = true := by decide +kernel
        show Q (.bl (decide (V.str (Str.ofString "ratio") = V.str (Str.ofString "ratio")))) H'
        rw [e0]
        exact k H' (S7.ext x).one (S7.ext x).urn
end
end K01

namespace K01
open PySem PySem.Spec PyProof.Rows L2 L3

/-! ### sizes -/
def Sz (q : Rat) (k : Nat) : Prop := q.num.natAbs < 2 ^ k ∧ q.den < 2 ^ k
theorem Sz.big {q : Rat} {k : Nat} (h : Sz q k) (hk : k ≤ 6000) : big q = false := by
  unfold K01.big
  rw [many_of h.1 hk, many_of (n := (q.den : Int)) (by rw [Int.natAbs_natCast]; exact h.2) hk] <;> rfl
theorem sz_low {n m : Int} {q : Rat} {k : Nat} (h : lowT n m = q.num ∧ lowB n m = (q.den : Int)) (hm : m ≠ 0) (h1 : n.natAbs < 2 ^ k) (h2 : m.natAbs < 2 ^ k) : Sz q k := by
  have l := low_le n m hm
  rw [h.1, h.2, Int.natAbs_natCast] at l
  exact ⟨Nat.lt_of_le_of_lt l.1 h1, Nat.lt_of_le_of_lt l.2 h2⟩
theorem p_mul {x y : Int} {i j : Nat} (hx : x.natAbs < 2 ^ i) (hy : y.natAbs < 2 ^ j) : (x * y).natAbs < 2 ^ (i + j) := by
  rw [Int.natAbs_mul, Nat.pow_add]
  exact Nat.mul_lt_mul'' hx hy
theorem p_add {x y : Int} {k : Nat} (hx : x.natAbs < 2 ^ k) (hy : y.natAbs < 2 ^ k) : (x + y).natAbs < 2 ^ (k + 1) := by
  rw [Nat.pow_succ]
  generalize (2 : Nat) ^ k = P at *
  omega
theorem d_ab {a : Rat} {k : Nat} (h : Sz a k) : ((a.den : Nat) : Int).natAbs < 2 ^ k := by rw [Int.natAbs_natCast]; exact h.2
theorem up1 {n k : Nat} (h : n < 2 ^ k) : n < 2 ^ (k + 1) := Nat.lt_of_lt_of_le h (Nat.pow_le_pow_right (by decide) (by omega))
theorem sz_add {a b : Rat} {i j : Nat} (ha : Sz a i) (hb : Sz b j) : Sz (a + b) (i + j + 1) := by
  refine sz_low (add_low a b) (Int.mul_ne_zero (den_ne a) (den_ne b)) (p_add (p_mul ha.1 (d_ab hb)) ?_) (up1 (p_mul (d_ab ha) (d_ab hb)))
  rw [Nat.add_comm]
  exact p_mul hb.1 (d_ab ha)
theorem sz_neg {a : Rat} {i : Nat} (ha : Sz a i) : Sz (-a) i := by
  unfold Sz
  rw [(neg_q a).1, (neg_q a).2, Int.natAbs_neg]
  exact ha
theorem sz_abs {a : Rat} {i : Nat} (ha : Sz a i) : Sz (qabs a) i := by
  unfold Sz
  rw [(abs_q a).1, (abs_q a).2, Int.natAbs_natCast]
  exact ha
theorem sz_sub {a b : Rat} {i j : Nat} (ha : Sz a i) (hb : Sz b j) : Sz (a - b) (i + j + 1) := by
  rw [Rat.sub_eq_add_neg]
  exact sz_add ha (sz_neg hb)
theorem sz_mul {a b : Rat} {i j : Nat} (ha : Sz a i) (hb : Sz b j) : Sz (a * b) (i + j) := sz_low (mul_low a b) (Int.mul_ne_zero (den_ne a) (den_ne b)) (p_mul ha.1 hb.1) (p_mul (d_ab ha) (d_ab hb))
theorem sz_div {a b : Rat} {i j : Nat} (ha : Sz a i) (hb : Sz b j) (b0 : b ≠ 0) : Sz (a / b) (i + j) := sz_low (div_low a b b0) (Int.mul_ne_zero (den_ne a) (num_ne b0)) (p_mul ha.1 (d_ab hb)) (p_mul (d_ab ha) hb.1)
/-! ### what a term of ratios gives -/
def EvQ (C : Addr) (te : TE) (σ : L2.St) (H : Hp) (a : Rat) (k : Nat) : Prop := (Sz a k ∧ k ≤ 5000) ∧ ∀ H1, Ext H H1 → ∀ Q : VK, (∀ r H2, Ext H1 H2 → RatQ C H2 r a → Q (.ref r) H2) → te σ H1 Q
def EvB (te : TE) (σ : L2.St) (H : Hp) (v : Bool) : Prop := ∀ H1, Ext H H1 → ∀ Q : VK, (∀ H2, Ext H1 H2 → Q (.bl v) H2) → te σ H1 Q
def EvT (te : TT) (σ : L2.St) (H : Hp) (v : Bool) : Prop := ∀ H1, Ext H H1 → ∀ Q : Bool → Hp → Prop, (∀ H2, Ext H1 H2 → Q v H2) → te σ H1 Q
section
variable {C N R : Addr} {K : PySem.W.Frag} {σ : L2.St} {H : Hp} {ta tb : TE} {a b : Rat} {i j : Nat}
theorem ev_var {n : Nat} {r : Addr} (h : σ[n]? = some (some (V.ref r))) (hr : RatQ C H r a) (z : Sz a i) (hi : i ≤ 5000) : EvQ C (tVar n) σ H a i := ⟨⟨z, hi⟩, fun H1 e Q q => ⟨_, h, q r H1 Ext.rfl' (ratq_ext hr e)⟩⟩
theorem ev_two {f : Rat → Rat → Rat} {l : Nat} (x : EvQ C ta σ H a i) (y : EvQ C tb σ H b j) (z : Sz (f a b) l) (hl : l ≤ 5000) : EvQ C (tOp (rOwnB C (spTwo C N f) E0) ta tb) σ H (f a b) l := by
  refine ⟨⟨z, hl⟩, fun H1 e Q q => x.2 H1 e _ fun r H2 e2 hr => y.2 H2 (e.trans e2) _ fun s H3 e3 hs => ?_⟩
  have hr3 := ratq_ext hr e3
  obtain ⟨dx, h1⟩ := id hr3
  obtain ⟨dy, h2⟩ := id hs
  refine ⟨r, s, dx, dy, _, _, rfl, rfl, h1, h2, r, s, a, b, rfl, hr3, hs, x.1.1.big (by have := x.1.2; omega), y.1.1.big (by have := y.1.2; omega), fun w => ?_, fun _ t H4 e4 ht => q t H4 (e2.trans (e3.trans e4)) ht⟩
  rw [z.big (by omega)] at w
  cases w
theorem ev_add (x : EvQ C ta σ H a i) (y : EvQ C tb σ H b j) (hl : i + j + 1 ≤ 5000) : EvQ C (tOp (rOwnB C (spTwo C N fun a b => a + b) E0) ta tb) σ H (a + b) (i + j + 1) := ev_two x y (sz_add x.1.1 y.1.1) hl
theorem ev_sub (x : EvQ C ta σ H a i) (y : EvQ C tb σ H b j) (hl : i + j + 1 ≤ 5000) : EvQ C (tOp (rOwnB C (spTwo C N fun a b => a - b) E0) ta tb) σ H (a - b) (i + j + 1) := ev_two x y (sz_sub x.1.1 y.1.1) hl
theorem ev_mul (x : EvQ C ta σ H a i) (y : EvQ C tb σ H b j) (hl : i + j ≤ 5000) : EvQ C (tOp (rOwnB C (spTwo C N fun a b => a * b) E0) ta tb) σ H (a * b) (i + j) := ev_two x y (sz_mul x.1.1 y.1.1) hl
theorem ev_neg (x : EvQ C ta σ H a i) : EvQ C (tUn (rOwn1 C (spOne C fun a => -a) E0) ta) σ H (-a) i := by
  refine ⟨⟨sz_neg x.1.1, x.1.2⟩, fun H1 e Q q => x.2 H1 e _ fun r H2 e2 hr => ?_⟩
  obtain ⟨dx, h1⟩ := id hr
  exact ⟨r, dx, _, rfl, h1, r, a, rfl, hr, x.1.1.big (by have := x.1.2; omega), fun t H4 e4 ht => q t H4 (e2.trans e4) ht⟩
theorem ev_abs (x : EvQ C ta σ H a i) : EvQ C (tCB (fun xs H Q => ∃ x, xs = [x] ∧ rOwn1 C (spOne C qabs) E0 x H Q) (tCons ta tNil)) σ H (qabs a) i := by
  refine ⟨⟨sz_abs x.1.1, x.1.2⟩, fun H1 e Q q => x.2 H1 e _ fun r H2 e2 hr => ?_⟩
  obtain ⟨dx, h1⟩ := id hr
  exact ⟨_, rfl, r, dx, _, rfl, h1, r, a, rfl, hr, x.1.1.big (by have := x.1.2; omega), fun t H4 e4 ht => q t H4 (e2.trans e4) ht⟩
theorem ev_over (x : EvQ C ta σ H a i) (y : EvQ C tb σ H b j) (b0 : b ≠ 0) (hl : i + j ≤ 5000) : EvQ C (tMeth C "over" (spOver K C N R) [] E0 ta (tCons tb tNil)) σ H (a / b) (i + j) := by
  have z := sz_div x.1.1 y.1.1 b0
  refine ⟨⟨z, hl⟩, fun H1 e Q q => x.2 H1 e _ fun r H2 e2 hr => ?_⟩
  obtain ⟨dx, h1⟩ := id hr
  refine ⟨r, dx, _, rfl, h1, rf_over _ _, y.2 H2 (e.trans e2) _ fun s H3 e3 hs => ?_⟩
  refine ⟨r, .ref s, a, rfl, ratq_ext hr e3, x.1.1.big (by have := x.1.2; omega), .inl ⟨s, b, rfl, hs, y.1.1.big (by have := y.1.2; omega), fun w => absurd w b0, fun _ w => ?_, fun _ _ t H4 e4 ht => q t H4 (e2.trans (e3.trans e4)) ht⟩⟩
  rw [z.big (by omega)] at w
  cases w
theorem ev_less (x : EvQ C ta σ H a i) (y : EvQ C tb σ H b j) : EvB (tMeth C "is_less" (spLess C) [] E0 ta (tCons tb tNil)) σ H (decide (a < b)) := by
  refine fun H1 e Q q => x.2 H1 e _ fun r H2 e2 hr => ?_
  obtain ⟨dx, h1⟩ := id hr
  refine ⟨r, dx, _, rfl, h1, rf_is_less _ _, y.2 H2 (e.trans e2) _ fun s H3 e3 hs => ?_⟩
  exact ⟨r, s, a, b, rfl, ratq_ext hr e3, hs, x.1.1.big (by have := x.1.2; omega), y.1.1.big (by have := y.1.2; omega), q H3 (e2.trans e3)⟩
theorem ev_eq (T : L3.TyC K C) (nf : PySem.W.notFirst K C (.ref C) = true) (x : EvQ C ta σ H a i) (y : EvQ C tb σ H b j) : EvB (tOp (rOwn2 K C (spEq C) E0) ta tb) σ H (decide (a = b)) := by
  refine fun H1 e Q q => x.2 H1 e _ fun r H2 e2 hr => y.2 H2 (e.trans e2) _ fun s H3 e3 hs => ?_
  obtain ⟨dx, h1⟩ := id (ratq_ext hr e3)
  obtain ⟨dy, h2⟩ := id hs
  exact ⟨r, dx, _, _, rfl, h1, T.ty h2, nf, r, s, a, b, rfl, ratq_ext hr e3, hs, _, rfl, q H3 (e2.trans e3)⟩
theorem ev_ne (T : L3.TyC K C) (nf : PySem.W.notFirst K C (.ref C) = true) (x : EvQ C ta σ H a i) (y : EvQ C tb σ H b j) : EvB (tOp (fun x y H Q => rOwn2 K C (spEq C) E0 x y H fun v H' => ∃ b, v = V.bl b ∧ Q (V.bl !b) H') ta tb) σ H (!decide (a = b)) := by
  refine fun H1 e Q q => x.2 H1 e _ fun r H2 e2 hr => y.2 H2 (e.trans e2) _ fun s H3 e3 hs => ?_
  obtain ⟨dx, h1⟩ := id (ratq_ext hr e3)
  obtain ⟨dy, h2⟩ := id hs
  exact ⟨r, dx, _, _, rfl, h1, T.ty h2, nf, r, s, a, b, rfl, ratq_ext hr e3, hs, _, rfl, _, rfl, q H3 (e2.trans e3)⟩
theorem ev_beq {va vb : Bool} (x : EvB ta σ H va) (y : EvB tb σ H vb) : EvB (tOp rEq ta tb) σ H (va == vb) := fun H1 e Q q => x H1 e _ fun H2 e2 => y H2 (e.trans e2) _ fun H3 e3 => ⟨rfl, by rw [dec_bl]; exact q H3 (e2.trans e3)⟩
theorem ev_bne {va vb : Bool} (x : EvB ta σ H va) (y : EvB tb σ H vb) : EvB (tOp rNe ta tb) σ H (!(va == vb)) := fun H1 e Q q => x H1 e _ fun H2 e2 => y H2 (e.trans e2) _ fun H3 e3 => ⟨rfl, by rw [dec_bl]; exact q H3 (e2.trans e3)⟩
theorem et_of {v w : Bool} (x : EvB ta σ H v) (h : v = w) : EvT (tTest ta) σ H w := fun H1 e Q q => x H1 e _ fun H2 e2 => ⟨_, rfl, h ▸ q H2 e2⟩
theorem et_b {v w : Bool} (x : EvB ta σ H v) (h : v = w) : EvT (tB ta) σ H w := fun H1 e Q q => x H1 e _ fun H2 e2 => ⟨_, rfl, h ▸ q H2 e2⟩
theorem et_or {t u : TT} (x : EvT t σ H false) (y : EvT u σ H false) : EvT (tOr t u) σ H false := fun H1 e Q q => x H1 e _ fun H2 e2 => iteF (y H2 (e.trans e2) Q fun H3 e3 => q H3 (e2.trans e3))
theorem et_andF {t u : TT} (x : EvT t σ H false) : EvT (tAnd t u) σ H false := fun H1 e Q q => x H1 e _ fun H2 e2 => iteF (q H2 e2)
theorem et_andT {t u : TT} {v : Bool} (x : EvT t σ H true) (y : EvT u σ H v) : EvT (tAnd t u) σ H v := fun H1 e Q q => x H1 e _ fun H2 e2 => iteT (y H2 (e.trans e2) Q fun H3 e3 => q H3 (e2.trans e3))
theorem ev_true (x : EvQ C ta σ H a i) : EvB (tCB (fun xs H Q => ∃ x, xs = [x] ∧ rOwn1 C (spTrue C) E0 x H fun v H' => ∃ z, v = V.bl z ∧ Q (V.bl z) H') (tCons ta tNil)) σ H (decide (a ≠ 0)) := by
  refine fun H1 e Q q => x.2 H1 e _ fun r H2 e2 hr => ?_
  obtain ⟨dx, h1⟩ := id hr
  exact ⟨_, rfl, r, dx, _, rfl, h1, r, a, rfl, hr, _, rfl, q H2 e2⟩
theorem if_no {c : TT} {t u : TS} {D : Ends} (x : EvT c σ H false) (h : ∀ H2, Ext H H2 → u D σ H2) : tSeq (tIfS c t tNext) u D σ H := x H Ext.rfl' _ fun H2 e => iteF (h H2 e)
end
/-! ### the rules of a field -/
theorem qabs_eq (a : Rat) : qabs a = if a < 0 then -a else a := by
  unfold qabs
  have e : (a.num < 0) ↔ a < 0 := by
    rw [Rat.lt_iff]
    show a.num < 0 ↔ a.num * 1 < 0 * _
    omega
  by_cases c : a.num < 0
  · rw [if_pos c, if_pos (e.mp c)]
  · rw [if_neg c, if_neg (fun z => c (e.mpr z))]
theorem qabs_pos {a : Rat} (h : 0 ≤ a) : qabs a = a := by
  rw [qabs_eq, if_neg (Rat.not_lt.mpr h)]
theorem qabs_neg {a : Rat} (h : a ≤ 0) : qabs a = -a := by
  by_cases c : a < 0
  · rw [qabs_eq, if_pos c]
  · have z := Rat.le_antisymm h (Rat.not_lt.mp c)
    subst z
    rfl
theorem nn_neg {a : Rat} (h : a ≤ 0) : 0 ≤ -a := by
  have := Rat.neg_le_neg h
  rwa [Rat.neg_zero] at this
theorem np_neg {a : Rat} (h : 0 ≤ -a) : a ≤ 0 := by
  have := Rat.neg_le_neg h
  rwa [Rat.neg_zero, Rat.neg_neg] at this
theorem qabs_mul (a c : Rat) : qabs (a * c) = qabs a * qabs c := by
  rcases @Rat.le_total 0 a with ha | ha <;> rcases @Rat.le_total 0 c with hc | hc
  · rw [qabs_pos ha, qabs_pos hc, qabs_pos (Rat.mul_nonneg ha hc)]
  · have z : a * c ≤ 0 := np_neg (by rw [← Rat.mul_neg]; exact Rat.mul_nonneg ha (nn_neg hc))
    rw [qabs_pos ha, qabs_neg hc, qabs_neg z, Rat.mul_neg]
  · have z : a * c ≤ 0 := np_neg (by rw [← Rat.neg_mul]; exact Rat.mul_nonneg (nn_neg ha) hc)
    rw [qabs_neg ha, qabs_pos hc, qabs_neg z, Rat.neg_mul]
  · have z := Rat.mul_nonneg (nn_neg ha) (nn_neg hc)
    rw [Rat.neg_mul, Rat.mul_neg, Rat.neg_neg] at z
    rw [qabs_neg ha, qabs_neg hc, qabs_pos z, Rat.neg_mul, Rat.mul_neg, Rat.neg_neg]
theorem qabs_ne {a : Rat} (h : a ≠ 0) : qabs a ≠ 0 := fun z => by
  have e := (abs_q a).1
  rw [z] at e
  have : a.num = 0 := by
    have e' : (0 : Int) = ((a.num.natAbs : Nat) : Int) := e
    omega
  exact num_ne h this
theorem div_of {x y z : Rat} (h : y ≠ 0) (e : x * y = z) : x = z / y := by
  rw [← e, Rat.div_def, Rat.mul_assoc, Rat.mul_inv_cancel y h, Rat.mul_one]
theorem qabs_div {a b : Rat} (h : b ≠ 0) : qabs (a / b) = qabs a / qabs b := div_of (qabs_ne h) (by rw [← qabs_mul, Rat.div_mul_cancel h])
theorem le_qabs (a : Rat) : a ≤ qabs a := by
  rcases @Rat.le_total 0 a with h | h
  · rw [qabs_pos h]
    exact Rat.le_refl
  · rw [qabs_neg h]
    exact Rat.le_trans h (nn_neg h)
theorem neg_le_qabs (a : Rat) : -a ≤ qabs a := by
  rcases @Rat.le_total 0 a with h | h
  · rw [qabs_pos h]
    refine Rat.le_trans (np_neg ?_) h
    rw [Rat.neg_neg]
    exact h
  · rw [qabs_neg h]
    exact Rat.le_refl
theorem add_le {a b c d : Rat} (h : a ≤ b) (k : c ≤ d) : a + c ≤ b + d := Rat.le_trans (Rat.add_le_add_right.mpr h) (Rat.add_le_add_left.mpr k)
theorem qabs_tri (a c : Rat) : ¬ qabs a + qabs c < qabs (a + c) := by
  rw [Rat.not_lt]
  rcases @Rat.le_total 0 (a + c) with h | h
  · rw [qabs_pos h]
    exact add_le (le_qabs a) (le_qabs c)
  · rw [qabs_neg h, Rat.neg_add]
    exact add_le (neg_le_qabs a) (neg_le_qabs c)
theorem inv_two {b : Rat} : (1 : Rat) / (1 / b) = b := by
  rw [Rat.div_def, Rat.div_def, Rat.one_mul, Rat.one_mul, Rat.inv_inv]
theorem one_div_ne {b : Rat} (h : b ≠ 0) : (1 : Rat) / b ≠ 0 := fun z => by
  have e := Rat.div_mul_cancel (a := 1) h
  rw [z, Rat.zero_mul] at e
  exact absurd e (by decide)
theorem lt_pos {a b c : Rat} (h : 0 < c) : decide (a < b) = decide (a * c < b * c) := decide_eq_decide.mpr (Rat.mul_lt_mul_right h).symm
theorem lt_neg {a b c : Rat} (h : c < 0) : decide (a < b) = decide (b * c < a * c) := by
  have h' : 0 < -c := by
    have := Rat.neg_lt_neg h
    rwa [Rat.neg_zero] at this
  rw [lt_pos h', Rat.mul_neg, Rat.mul_neg]
  exact decide_eq_decide.mpr Rat.neg_lt_neg_iff
theorem lt_nil {a c : Rat} (h1 : ¬ 0 < c) (h2 : ¬ c < 0) : a * c = 0 := by
  have z := Rat.le_antisymm (Rat.not_lt.mp h1) (Rat.not_lt.mp h2)
  rw [z, Rat.mul_zero]
theorem lt_shift {a b c : Rat} : decide (a < b) = decide (a + c < b + c) := decide_eq_decide.mpr Rat.add_lt_add_right.symm
theorem lt_diff {a b : Rat} : decide (a < b) = decide (0 < b - a) := decide_eq_decide.mpr (Rat.lt_iff_sub_pos a b)
theorem add_none (a : Rat) : a + 0 = a := Rat.add_zero a
theorem nq {a b : Rat} (h : a = b) : (!decide (a = b)) = false := by subst h; simp
theorem nb {x y : Bool} (h : x = y) : (!(x == y)) = false := by subst h; cases x <;> rfl
theorem yb {x y : Bool} (h : x = y) : (x == y) = true := by subst h; cases x <;> rfl
theorem if_noE {c : TT} {t u : TS} {D : Ends} {σ : L2.St} {H0 H : Hp} (x : EvT c σ H0 false) (e0 : Ext H0 H) (h : ∀ H2, Ext H0 H2 → u D σ H2) : tSeq (tIfS c t tNext) u D σ H := x H e0 _ fun H2 e => iteF (h H2 (e0.trans e))
def spRules : Sp := fun vs H Q _ => ∃ u, vs = [.ref u] ∧ UrnAt H u ∧ ∀ H', Ext1 u H H' → UrnAt H' u → Q (.bl true) H'
section
variable {P : Program} {w : World} {K : PySem.W.Frag} {mg : Str → Option Value} {base : Heap}
theorem ok__law_rules_right (T : TX K mg) : FnOk P w K mg base (L2.CX P w) 9 T.f__law_rules_right T.d__law_rules_right ["_law_urn_here"] (spRules) := by
  refine T.F__law_rules_right.okX sc__law_rules_right (fun vs H Q E h => ?_) (fun cdv A outer s H vs Q E hr h => ?_)
  · obtain ⟨u, rfl, _⟩ := h
    rfl
  · refine ⟨_, (pss_cons (ps_setLc (i := 1) (own := [("_law_turn", 7)]) (g := gName 7) rfl sc__law_rules_right.nd rfl rfl rfl (pi_range1 (by rfl) T.n_range (pa_cons pe_int pa_nil)) (blkOk_by (N := ["_law_urn_here", "_law_some", "_law_a", "_law_b", "_law_c", "_law_none", "_law_one", "_law_turn"]) (sc := defScope s__law_rules_right) (by decide +kernel)) (fun _ _ _ _ _ => pg_name (i := 7) sc__law_rules_right.nd rfl (Or.inl rfl)) (fun _ _ _ _ _ => pts_nil) (fun _ _ _ _ _ => (pe_make T.mk_Ratio (ok_Ratio___init__ T) (hr.mono (by decide)) (by rfl) T.g_Ratio T.b_Ratio___init__ .nil passL (pa_cons (pe_op op_sub (pe_call (ok__law_drawn T) (hr.mono (by decide)) (by rfl) T.g__law_drawn T.F__law_drawn.kp T.b__law_drawn .nil passL (pa_cons (pv 0) (pa_cons pe_int pa_nil))) pe_int) (pa_cons (pe_op op_add pe_int (pe_call (ok__law_drawn T) (hr.mono (by decide)) (by rfl) T.g__law_drawn T.F__law_drawn.kp T.b__law_drawn .nil passL (pa_cons (pv 0) (pa_cons pe_int pa_nil)))) pa_nil)))))
    (pss_cons (ps_par3 (i := 2) (j := 3) (l := 4) (by rfl) sc__law_rules_right.nd rfl rfl rfl (by decide) (by decide) (by decide) rfl rfl rfl (pa_cons (pe_ix ix_list (pv 1) pe_int (fun _ _ => rfl)) (pa_cons (pe_ix ix_list (pv 1) pe_int (fun _ _ => rfl)) (pa_cons (pe_ix ix_list (pv 1) pe_int (fun _ _ => rfl)) pa_nil))) (by rfl))
    (pss_cons (ps_par (i := 5) (j := 6) (by rfl) sc__law_rules_right.nd rfl rfl (by decide) rfl rfl (pa_cons (pe_make T.mk_Ratio (ok_Ratio___init__ T) (hr.mono (by decide)) (by rfl) T.g_Ratio T.b_Ratio___init___2 T.v_Ratio___init___2 passL (pa_cons pe_int pa_nil)) (pa_cons (pe_make T.mk_Ratio (ok_Ratio___init__ T) (hr.mono (by decide)) (by rfl) T.g_Ratio T.b_Ratio___init___2 T.v_Ratio___init___2 passL (pa_cons pe_int pa_nil)) pa_nil)) (by rfl))
    (pss_cons (ps_if (PW.pt (pw_or (pt_cmpR (op_ownNe T.o_Ratio___eq__ T.ne_Ratio (ok_Ratio___eq__ T) (hr.mono (by decide)) T.b_Ratio___eq__ passL) (pe_op (op_ownAdd T.sf_Ratio T.tc_Ratio T.o_Ratio___add__ (ok_Ratio___add__ T) (hr.mono (by decide)) T.b_Ratio___add__ passL) (pv 2) (pv 3)) (pe_op (op_ownAdd T.sf_Ratio T.tc_Ratio T.o_Ratio___add__ (ok_Ratio___add__ T) (hr.mono (by decide)) T.b_Ratio___add__ passL) (pv 3) (pv 2)) (nomark _)) (pw_or (pt_cmpR (op_ownNe T.o_Ratio___eq__ T.ne_Ratio (ok_Ratio___eq__ T) (hr.mono (by decide)) T.b_Ratio___eq__ passL) (pe_op (op_ownAdd T.sf_Ratio T.tc_Ratio T.o_Ratio___add__ (ok_Ratio___add__ T) (hr.mono (by decide)) T.b_Ratio___add__ passL) (pe_op (op_ownAdd T.sf_Ratio T.tc_Ratio T.o_Ratio___add__ (ok_Ratio___add__ T) (hr.mono (by decide)) T.b_Ratio___add__ passL) (pv 2) (pv 3)) (pv 4)) (pe_op (op_ownAdd T.sf_Ratio T.tc_Ratio T.o_Ratio___add__ (ok_Ratio___add__ T) (hr.mono (by decide)) T.b_Ratio___add__ passL) (pv 2) (pe_op (op_ownAdd T.sf_Ratio T.tc_Ratio T.o_Ratio___add__ (ok_Ratio___add__ T) (hr.mono (by decide)) T.b_Ratio___add__ passL) (pv 3) (pv 4))) (nomark _)) (pw_or (pt_cmpR (op_ownNe T.o_Ratio___eq__ T.ne_Ratio (ok_Ratio___eq__ T) (hr.mono (by decide)) T.b_Ratio___eq__ passL) (pe_op (op_ownAdd T.sf_Ratio T.tc_Ratio T.o_Ratio___add__ (ok_Ratio___add__ T) (hr.mono (by decide)) T.b_Ratio___add__ passL) (pv 2) (pv 5)) (pv 2) (nomark _)) (pw_or (pt_cmpR (op_ownNe T.o_Ratio___eq__ T.ne_Ratio (ok_Ratio___eq__ T) (hr.mono (by decide)) T.b_Ratio___eq__ passL) (pe_op (op_ownAdd T.sf_Ratio T.tc_Ratio T.o_Ratio___add__ (ok_Ratio___add__ T) (hr.mono (by decide)) T.b_Ratio___add__ passL) (pv 2) (pe_un (un_ownNeg T.o_Ratio___neg__ (ok_Ratio___neg__ T) (hr.mono (by decide)) T.b_Ratio___neg__ passL) (pv 2))) (pv 5) (nomark _)) (pw_or1 (pt_cmpR (op_ownNe T.o_Ratio___eq__ T.ne_Ratio (ok_Ratio___eq__ T) (hr.mono (by decide)) T.b_Ratio___eq__ passL) (pe_op (op_ownSub T.sf_Ratio T.tc_Ratio T.o_Ratio___sub__ (ok_Ratio___sub__ T) (hr.mono (by decide)) T.b_Ratio___sub__ passL) (pv 2) (pv 3)) (pe_op (op_ownAdd T.sf_Ratio T.tc_Ratio T.o_Ratio___add__ (ok_Ratio___add__ T) (hr.mono (by decide)) T.b_Ratio___add__ passL) (pv 2) (pe_un (un_ownNeg T.o_Ratio___neg__ (ok_Ratio___neg__ T) (hr.mono (by decide)) T.b_Ratio___neg__ passL) (pv 3))) (nomark _)))))))) (pss_one (ps_ret pe_bl)) pss_nil)
    (pss_cons (ps_if (PW.pt (pw_or (pt_cmpR (op_ownNe T.o_Ratio___eq__ T.ne_Ratio (ok_Ratio___eq__ T) (hr.mono (by decide)) T.b_Ratio___eq__ passL) (pe_op (op_ownMul T.sf_Ratio T.tc_Ratio T.o_Ratio___mul__ (ok_Ratio___mul__ T) (hr.mono (by decide)) T.b_Ratio___mul__ passL) (pv 2) (pv 3)) (pe_op (op_ownMul T.sf_Ratio T.tc_Ratio T.o_Ratio___mul__ (ok_Ratio___mul__ T) (hr.mono (by decide)) T.b_Ratio___mul__ passL) (pv 3) (pv 2)) (nomark _)) (pw_or (pt_cmpR (op_ownNe T.o_Ratio___eq__ T.ne_Ratio (ok_Ratio___eq__ T) (hr.mono (by decide)) T.b_Ratio___eq__ passL) (pe_op (op_ownMul T.sf_Ratio T.tc_Ratio T.o_Ratio___mul__ (ok_Ratio___mul__ T) (hr.mono (by decide)) T.b_Ratio___mul__ passL) (pe_op (op_ownMul T.sf_Ratio T.tc_Ratio T.o_Ratio___mul__ (ok_Ratio___mul__ T) (hr.mono (by decide)) T.b_Ratio___mul__ passL) (pv 2) (pv 3)) (pv 4)) (pe_op (op_ownMul T.sf_Ratio T.tc_Ratio T.o_Ratio___mul__ (ok_Ratio___mul__ T) (hr.mono (by decide)) T.b_Ratio___mul__ passL) (pv 2) (pe_op (op_ownMul T.sf_Ratio T.tc_Ratio T.o_Ratio___mul__ (ok_Ratio___mul__ T) (hr.mono (by decide)) T.b_Ratio___mul__ passL) (pv 3) (pv 4))) (nomark _)) (pw_or (pt_cmpR (op_ownNe T.o_Ratio___eq__ T.ne_Ratio (ok_Ratio___eq__ T) (hr.mono (by decide)) T.b_Ratio___eq__ passL) (pe_op (op_ownMul T.sf_Ratio T.tc_Ratio T.o_Ratio___mul__ (ok_Ratio___mul__ T) (hr.mono (by decide)) T.b_Ratio___mul__ passL) (pv 2) (pv 6)) (pv 2) (nomark _)) (pw_or (pt_cmpR (op_ownNe T.o_Ratio___eq__ T.ne_Ratio (ok_Ratio___eq__ T) (hr.mono (by decide)) T.b_Ratio___eq__ passL) (pe_op (op_ownMul T.sf_Ratio T.tc_Ratio T.o_Ratio___mul__ (ok_Ratio___mul__ T) (hr.mono (by decide)) T.b_Ratio___mul__ passL) (pv 2) (pe_op (op_ownAdd T.sf_Ratio T.tc_Ratio T.o_Ratio___add__ (ok_Ratio___add__ T) (hr.mono (by decide)) T.b_Ratio___add__ passL) (pv 3) (pv 4))) (pe_op (op_ownAdd T.sf_Ratio T.tc_Ratio T.o_Ratio___add__ (ok_Ratio___add__ T) (hr.mono (by decide)) T.b_Ratio___add__ passL) (pe_op (op_ownMul T.sf_Ratio T.tc_Ratio T.o_Ratio___mul__ (ok_Ratio___mul__ T) (hr.mono (by decide)) T.b_Ratio___mul__ passL) (pv 2) (pv 3)) (pe_op (op_ownMul T.sf_Ratio T.tc_Ratio T.o_Ratio___mul__ (ok_Ratio___mul__ T) (hr.mono (by decide)) T.b_Ratio___mul__ passL) (pv 2) (pv 4))) (nomark _)) (pw_or1 (pt_cmpR (op_ownNe T.o_Ratio___eq__ T.ne_Ratio (ok_Ratio___eq__ T) (hr.mono (by decide)) T.b_Ratio___eq__ passL) (pe_un (un_ownNeg T.o_Ratio___neg__ (ok_Ratio___neg__ T) (hr.mono (by decide)) T.b_Ratio___neg__ passL) (pe_un (un_ownNeg T.o_Ratio___neg__ (ok_Ratio___neg__ T) (hr.mono (by decide)) T.b_Ratio___neg__ passL) (pv 2))) (pv 2) (nomark _)))))))) (pss_one (ps_ret pe_bl)) pss_nil)
    (pss_cons (ps_if (PW.pt (pw_and (pt_val (pe_callTy (call_ownBool T.o_Ratio___bool__ (ok_Ratio___bool__ T) (hr.mono (by decide)) T.b_Ratio___bool__ passL) (by rfl) T.n_bool (by decide +kernel) (pa_cons (pv 3) pa_nil))) (pw_and1 (PW.pt (pw_or (pt_cmpR (op_ownNe T.o_Ratio___eq__ T.ne_Ratio (ok_Ratio___eq__ T) (hr.mono (by decide)) T.b_Ratio___eq__ passL) (pe_op (op_ownMul T.sf_Ratio T.tc_Ratio T.o_Ratio___mul__ (ok_Ratio___mul__ T) (hr.mono (by decide)) T.b_Ratio___mul__ passL) (pe_meth (pv 2) T.cl_Ratio T.m_Ratio_over (ok_Ratio_over T) (hr.mono (by decide)) T.b_Ratio_over .nil passL (pa_cons (pv 3) pa_nil)) (pv 3)) (pv 2) (nomark _)) (pw_or (pt_cmpR (op_ownNe T.o_Ratio___eq__ T.ne_Ratio (ok_Ratio___eq__ T) (hr.mono (by decide)) T.b_Ratio___eq__ passL) (pe_meth (pv 6) T.cl_Ratio T.m_Ratio_over (ok_Ratio_over T) (hr.mono (by decide)) T.b_Ratio_over .nil passL (pa_cons (pe_meth (pv 6) T.cl_Ratio T.m_Ratio_over (ok_Ratio_over T) (hr.mono (by decide)) T.b_Ratio_over .nil passL (pa_cons (pv 3) pa_nil)) pa_nil)) (pv 3) (nomark _)) (pw_or1 (pt_cmpR (op_ownNe T.o_Ratio___eq__ T.ne_Ratio (ok_Ratio___eq__ T) (hr.mono (by decide)) T.b_Ratio___eq__ passL) (pe_callB (call_ownAbs T.o_Ratio___abs__ (ok_Ratio___abs__ T) (hr.mono (by decide)) T.b_Ratio___abs__ passL) (by rfl) T.n_abs (by decide +kernel) (pa_cons (pe_meth (pv 2) T.cl_Ratio T.m_Ratio_over (ok_Ratio_over T) (hr.mono (by decide)) T.b_Ratio_over .nil passL (pa_cons (pv 3) pa_nil)) pa_nil)) (pe_meth (pe_callB (call_ownAbs T.o_Ratio___abs__ (ok_Ratio___abs__ T) (hr.mono (by decide)) T.b_Ratio___abs__ passL) (by rfl) T.n_abs (by decide +kernel) (pa_cons (pv 2) pa_nil)) T.cl_Ratio T.m_Ratio_over (ok_Ratio_over T) (hr.mono (by decide)) T.b_Ratio_over .nil passL (pa_cons (pe_callB (call_ownAbs T.o_Ratio___abs__ (ok_Ratio___abs__ T) (hr.mono (by decide)) T.b_Ratio___abs__ passL) (by rfl) T.n_abs (by decide +kernel) (pa_cons (pv 3) pa_nil)) pa_nil)) (nomark _))))))))) (pss_one (ps_ret pe_bl)) pss_nil)
    (pss_cons (ps_if (PW.pt (pw_or (pt_cmpR op_ne (pe_meth (pv 2) T.cl_Ratio T.m_Ratio_is_less (ok_Ratio_is_less T) (hr.mono (by decide)) T.b_Ratio_is_less .nil passL (pa_cons (pv 3) pa_nil)) (pe_meth (pe_op (op_ownAdd T.sf_Ratio T.tc_Ratio T.o_Ratio___add__ (ok_Ratio___add__ T) (hr.mono (by decide)) T.b_Ratio___add__ passL) (pv 2) (pv 4)) T.cl_Ratio T.m_Ratio_is_less (ok_Ratio_is_less T) (hr.mono (by decide)) T.b_Ratio_is_less .nil passL (pa_cons (pe_op (op_ownAdd T.sf_Ratio T.tc_Ratio T.o_Ratio___add__ (ok_Ratio___add__ T) (hr.mono (by decide)) T.b_Ratio___add__ passL) (pv 3) (pv 4)) pa_nil)) (nomark _)) (pw_or (pt_cmpR op_ne (pe_meth (pv 2) T.cl_Ratio T.m_Ratio_is_less (ok_Ratio_is_less T) (hr.mono (by decide)) T.b_Ratio_is_less .nil passL (pa_cons (pv 3) pa_nil)) (pe_meth (pv 5) T.cl_Ratio T.m_Ratio_is_less (ok_Ratio_is_less T) (hr.mono (by decide)) T.b_Ratio_is_less .nil passL (pa_cons (pe_op (op_ownSub T.sf_Ratio T.tc_Ratio T.o_Ratio___sub__ (ok_Ratio___sub__ T) (hr.mono (by decide)) T.b_Ratio___sub__ passL) (pv 3) (pv 2)) pa_nil)) (nomark _)) (pw_or1 (pt_cmpR (op_ownNe T.o_Ratio___eq__ T.ne_Ratio (ok_Ratio___eq__ T) (hr.mono (by decide)) T.b_Ratio___eq__ passL) (pe_callB (call_ownAbs T.o_Ratio___abs__ (ok_Ratio___abs__ T) (hr.mono (by decide)) T.b_Ratio___abs__ passL) (by rfl) T.n_abs (by decide +kernel) (pa_cons (pe_op (op_ownMul T.sf_Ratio T.tc_Ratio T.o_Ratio___mul__ (ok_Ratio___mul__ T) (hr.mono (by decide)) T.b_Ratio___mul__ passL) (pv 2) (pv 4)) pa_nil)) (pe_op (op_ownMul T.sf_Ratio T.tc_Ratio T.o_Ratio___mul__ (ok_Ratio___mul__ T) (hr.mono (by decide)) T.b_Ratio___mul__ passL) (pe_callB (call_ownAbs T.o_Ratio___abs__ (ok_Ratio___abs__ T) (hr.mono (by decide)) T.b_Ratio___abs__ passL) (by rfl) T.n_abs (by decide +kernel) (pa_cons (pv 2) pa_nil)) (pe_callB (call_ownAbs T.o_Ratio___abs__ (ok_Ratio___abs__ T) (hr.mono (by decide)) T.b_Ratio___abs__ passL) (by rfl) T.n_abs (by decide +kernel) (pa_cons (pv 4) pa_nil))) (nomark _)))))) (pss_one (ps_ret pe_bl)) pss_nil)
    (pss_cons (ps_if (pt_val (pe_meth (pe_op (op_ownAdd T.sf_Ratio T.tc_Ratio T.o_Ratio___add__ (ok_Ratio___add__ T) (hr.mono (by decide)) T.b_Ratio___add__ passL) (pe_callB (call_ownAbs T.o_Ratio___abs__ (ok_Ratio___abs__ T) (hr.mono (by decide)) T.b_Ratio___abs__ passL) (by rfl) T.n_abs (by decide +kernel) (pa_cons (pv 2) pa_nil)) (pe_callB (call_ownAbs T.o_Ratio___abs__ (ok_Ratio___abs__ T) (hr.mono (by decide)) T.b_Ratio___abs__ passL) (by rfl) T.n_abs (by decide +kernel) (pa_cons (pv 4) pa_nil))) T.cl_Ratio T.m_Ratio_is_less (ok_Ratio_is_less T) (hr.mono (by decide)) T.b_Ratio_is_less .nil passL (pa_cons (pe_callB (call_ownAbs T.o_Ratio___abs__ (ok_Ratio___abs__ T) (hr.mono (by decide)) T.b_Ratio___abs__ passL) (by rfl) T.n_abs (by decide +kernel) (pa_cons (pe_op (op_ownAdd T.sf_Ratio T.tc_Ratio T.o_Ratio___add__ (ok_Ratio___add__ T) (hr.mono (by decide)) T.b_Ratio___add__ passL) (pv 2) (pv 4)) pa_nil)) pa_nil))) (pss_one (ps_ret pe_bl)) pss_nil)
    (pss_cons (ps_if (pt_val (pe_meth (pv 5) T.cl_Ratio T.m_Ratio_is_less (ok_Ratio_is_less T) (hr.mono (by decide)) T.b_Ratio_is_less .nil passL (pa_cons (pv 4) pa_nil))) (pss_one (ps_ret (pe_cmpR op_eq (pe_meth (pv 2) T.cl_Ratio T.m_Ratio_is_less (ok_Ratio_is_less T) (hr.mono (by decide)) T.b_Ratio_is_less .nil passL (pa_cons (pv 3) pa_nil)) (pe_meth (pe_op (op_ownMul T.sf_Ratio T.tc_Ratio T.o_Ratio___mul__ (ok_Ratio___mul__ T) (hr.mono (by decide)) T.b_Ratio___mul__ passL) (pv 2) (pv 4)) T.cl_Ratio T.m_Ratio_is_less (ok_Ratio_is_less T) (hr.mono (by decide)) T.b_Ratio_is_less .nil passL (pa_cons (pe_op (op_ownMul T.sf_Ratio T.tc_Ratio T.o_Ratio___mul__ (ok_Ratio___mul__ T) (hr.mono (by decide)) T.b_Ratio___mul__ passL) (pv 3) (pv 4)) pa_nil)) (nomark _)))) pss_nil)
    (pss_one (ps_ret (pe_ifExp (pt_val (pe_meth (pv 4) T.cl_Ratio T.m_Ratio_is_less (ok_Ratio_is_less T) (hr.mono (by decide)) T.b_Ratio_is_less .nil passL (pa_cons (pv 5) pa_nil))) (pe_cmpR op_eq (pe_meth (pv 2) T.cl_Ratio T.m_Ratio_is_less (ok_Ratio_is_less T) (hr.mono (by decide)) T.b_Ratio_is_less .nil passL (pa_cons (pv 3) pa_nil)) (pe_meth (pe_op (op_ownMul T.sf_Ratio T.tc_Ratio T.o_Ratio___mul__ (ok_Ratio___mul__ T) (hr.mono (by decide)) T.b_Ratio___mul__ passL) (pv 3) (pv 4)) T.cl_Ratio T.m_Ratio_is_less (ok_Ratio_is_less T) (hr.mono (by decide)) T.b_Ratio_is_less .nil passL (pa_cons (pe_op (op_ownMul T.sf_Ratio T.tc_Ratio T.o_Ratio___mul__ (ok_Ratio___mul__ T) (hr.mono (by decide)) T.b_Ratio___mul__ passL) (pv 2) (pv 4)) pa_nil)) (nomark _)) (pe_cmpR (op_ownEq T.o_Ratio___eq__ (ok_Ratio___eq__ T) (hr.mono (by decide)) T.b_Ratio___eq__ passL) (pe_op (op_ownMul T.sf_Ratio T.tc_Ratio T.o_Ratio___mul__ (ok_Ratio___mul__ T) (hr.mono (by decide)) T.b_Ratio___mul__ passL) (pv 2) (pv 4)) (pv 5) (nomark _)))))))))))))), ?_⟩
    obtain ⟨u, rfl, hu, k⟩ := h
    refine seq_asg (fun x H1 => ∃ D r1 r2 r3 a b c, x = .ref D ∧ H1 D = some (.lst [.ref r1, .ref r2, .ref r3]) ∧ (RatQ T.C_Ratio H1 r1 a ∧ RatQ T.C_Ratio H1 r2 b ∧ RatQ T.C_Ratio H1 r3 c) ∧ (Sz a 6 ∧ Sz b 6 ∧ Sz c 6) ∧ Ext1 u H H1 ∧ UrnAt H1 u) (fun Q hQ => ?_) ?_
    · refine ⟨3, rfl, (by decide), (by decide), fun D hD => ?_⟩
      have nD : D ≠ u := urn_ne hu hD
      refine lc_range (lo := 0) (n := 3) (fun i H' => ∃ rs : List Addr, rs.length = i ∧ H' D = some (.lst (rs.map V.ref)) ∧ Ext1 u H H' ∧ UrnAt H' u ∧ ∀ r ∈ rs, r ≠ u ∧ r ≠ D ∧ ∃ a, RatQ T.C_Ratio H' r a ∧ Sz a 6) ⟨[], rfl, upd_same, (Ext.new hD).one, hu.ext (Ext.new hD), fun r h => by simp at h⟩ ?_ ?_
      · rintro i H1 hi ⟨rs, ln, hl, e1, hu1, hr⟩
        refine ⟨rfl, ?_⟩
        refine ⟨_, rfl, u, 41, rfl, hu1, (by decide), (by decide), fun d H2 d0 d1 e2 hu2 => ⟨_, _, rfl, rfl, _, rfl, u, 12, rfl, hu2, (by decide), (by decide), fun e H3 f0 f1 e3 hu3 => ⟨_, _, rfl, rfl, fun x dx nx ndx nex => mk_good nx ndx nex (few_of (by omega)) (few_of (by omega)) (by omega) fun H4 e4 r4 => ⟨rfl, ?_⟩⟩⟩⟩
        have e14 : Ext1 u H1 H4 := e2.trans (e3.trans e4.one)
        have hl4 := e14 _ _ nD hl
        have nxD : x ≠ D := fun z => (ne_of_none ((e2.trans e3) _ _ nD hl) nx) z.symm
        refine ⟨_, hl4, (by rw [List.length_map, ln]; exact Nat.lt_of_lt_of_le hi (by show 3 ≤ sizeLine; decide)), rs ++ [x], (by rw [List.length_append, ln] <;> rfl), (by rw [upd_same, List.map_append] <;> rfl), fun c o nc hc => ?_, ?_, fun y hy => ?_⟩
        · rw [upd_ne (ne_of_none hc hD)]
          exact e14 _ _ nc (e1 _ _ nc hc)
        · obtain ⟨z1, z2, z3, hz⟩ := hu3.ext e4
          exact ⟨z1, z2, z3, by rw [upd_ne (Ne.symm nD)]; exact hz⟩
        · rcases List.mem_append.mp hy with hy | hy
          · obtain ⟨n1, n2, a, ⟨dd, ra⟩, sa⟩ := hr y hy
            exact ⟨n1, n2, a, ⟨dd, by rw [upd_ne n2]; exact e14 _ _ n1 ra⟩, sa⟩
          · obtain rfl : y = x := by simpa using hy
            obtain ⟨dd, r4⟩ := r4
            have l := low_rat (n := d - 20) (m := 1 + e) (by omega)
            exact ⟨urn_ne hu3 nx, nxD, _, ⟨dd, by rw [upd_ne nxD]; exact r4⟩, sz_low l (by omega) (by omega) (by omega)⟩
      · rintro H1 ⟨rs, ln, hl, e1, hu1, hr⟩
        obtain ⟨r1, r2, r3, rfl⟩ : ∃ r1 r2 r3, rs = [r1, r2, r3] := by
          match rs, ln with
          | [r1, r2, r3], _ => exact ⟨r1, r2, r3, rfl⟩
        obtain ⟨_, _, a, ra, sa⟩ := hr r1 (by simp)
        obtain ⟨_, _, b, rb, sb⟩ := hr r2 (by simp)
        obtain ⟨_, _, c, rc, sc⟩ := hr r3 (by simp)
        exact hQ _ _ ⟨D, r1, r2, r3, a, b, c, rfl, hl, ⟨ra, rb, rc⟩, ⟨sa, sb, sc⟩, e1, hu1⟩
    rintro x H1 ⟨D, r1, r2, r3, a, b, c, rfl, hl, ⟨ra, rb, rc⟩, ⟨sa, sb, sc⟩, e1, hu1⟩
    refine ⟨_, rfl, D, _, _, _, rfl, rfl, SqL.of hl, rfl, _, rfl, D, _, _, _, rfl, rfl, SqL.of hl, rfl, _, rfl, D, _, _, _, rfl, rfl, SqL.of hl, rfl, _, _, _, rfl, ?_⟩
    intro x0 dx0 nx0 ndx0 nex0
    refine mk_good nx0 ndx0 nex0 (a := 0) (b := 1) (by decide +kernel) (by decide +kernel) (by decide) fun H2 e2 r0 => ⟨rfl, ?_⟩
    intro y1 dx1 nx1 ndx1 nex1
    refine mk_good nx1 ndx1 nex1 (a := 1) (b := 1) (by decide +kernel) (by decide +kernel) (by decide) fun H3 e3 rr1 => ⟨rfl, _, _, rfl, ?_⟩
    rw [show Rat.divInt 0 1 = 0 by decide +kernel] at r0
    rw [show Rat.divInt 1 1 = 1 by decide +kernel] at rr1
    have e13 := e2.trans e3
    have va := ev_var (C := T.C_Ratio) (n := 2) (σ := [some (V.ref u), some (.ref D), some (.ref r1), some (.ref r2), some (.ref r3), some (.ref x0), some (.ref y1), none]) rfl (ratq_ext ra e13) sa (by decide)
    have vb := ev_var (C := T.C_Ratio) (n := 3) (σ := [some (V.ref u), some (.ref D), some (.ref r1), some (.ref r2), some (.ref r3), some (.ref x0), some (.ref y1), none]) rfl (ratq_ext rb e13) sb (by decide)
    have vc := ev_var (C := T.C_Ratio) (n := 4) (σ := [some (V.ref u), some (.ref D), some (.ref r1), some (.ref r2), some (.ref r3), some (.ref x0), some (.ref y1), none]) rfl (ratq_ext rc e13) sc (by decide)
    have vn := ev_var (C := T.C_Ratio) (n := 5) (σ := [some (V.ref u), some (.ref D), some (.ref r1), some (.ref r2), some (.ref r3), some (.ref x0), some (.ref y1), none]) (i := 6) rfl (ratq_ext r0 e3) ⟨by decide, by decide⟩ (by decide)
    have vo := ev_var (C := T.C_Ratio) (n := 6) (σ := [some (V.ref u), some (.ref D), some (.ref r1), some (.ref r2), some (.ref r3), some (.ref x0), some (.ref y1), none]) (i := 6) rfl rr1 ⟨by decide, by decide⟩ (by decide)
    have fin : ∀ H', Ext H3 H' → ∀ v, v = true → Q (.bl v) H' := fun H' e v hv => by
      subst hv
      exact k H' (e1.trans (e13.trans e).one) (hu1.ext (e13.trans e))
    refine if_noE (H0 := H3) (et_or (et_of (ev_ne T.tc_Ratio T.nf_Ratio (ev_add va vb (by decide)) (ev_add vb va (by decide))) (nq (Rat.add_comm _ _))) (et_or (et_of (ev_ne T.tc_Ratio T.nf_Ratio (ev_add (ev_add va vb (by decide)) vc (by decide)) (ev_add va (ev_add vb vc (by decide)) (by decide))) (nq (Rat.add_assoc _ _ _))) (et_or (et_of (ev_ne T.tc_Ratio T.nf_Ratio (ev_add va vn (by decide)) va) (nq (Rat.add_zero _))) (et_or (et_of (ev_ne T.tc_Ratio T.nf_Ratio (ev_add va (ev_neg va) (by decide)) vn) (nq (Rat.add_neg_cancel _))) (et_of (ev_ne T.tc_Ratio T.nf_Ratio (ev_sub va vb (by decide)) (ev_add va (ev_neg vb) (by decide))) (nq (Rat.sub_eq_add_neg _ _))))))) Ext.rfl' fun H4 e4 => ?_
    refine if_noE (H0 := H3) (et_or (et_of (ev_ne T.tc_Ratio T.nf_Ratio (ev_mul va vb (by decide)) (ev_mul vb va (by decide))) (nq (Rat.mul_comm _ _))) (et_or (et_of (ev_ne T.tc_Ratio T.nf_Ratio (ev_mul (ev_mul va vb (by decide)) vc (by decide)) (ev_mul va (ev_mul vb vc (by decide)) (by decide))) (nq (Rat.mul_assoc _ _ _))) (et_or (et_of (ev_ne T.tc_Ratio T.nf_Ratio (ev_mul va vo (by decide)) va) (nq (Rat.mul_one _))) (et_or (et_of (ev_ne T.tc_Ratio T.nf_Ratio (ev_mul va (ev_add vb vc (by decide)) (by decide)) (ev_add (ev_mul va vb (by decide)) (ev_mul va vc (by decide)) (by decide))) (nq (Rat.mul_add _ _ _))) (et_of (ev_ne T.tc_Ratio T.nf_Ratio (ev_neg (ev_neg va)) va) (nq (Rat.neg_neg _))))))) e4 fun H5 e5 => ?_
    refine if_noE (H0 := H3) ?_ e5 fun H6 e6 => ?_
    · by_cases b0 : b = 0
      · exact et_andF (et_b (ev_true vb) (by rw [b0]; decide +kernel))
      · exact et_andT (et_b (ev_true vb) (decide_eq_true b0)) (et_or (et_of (ev_ne T.tc_Ratio T.nf_Ratio (ev_mul (ev_over va vb b0 (by decide)) vb (by decide)) va) (nq (Rat.div_mul_cancel b0))) (et_or (et_of (ev_ne T.tc_Ratio T.nf_Ratio (ev_over vo (ev_over vo vb b0 (by decide)) (one_div_ne b0) (by decide)) vb) (nq inv_two)) (et_of (ev_ne T.tc_Ratio T.nf_Ratio (ev_abs (ev_over va vb b0 (by decide))) (ev_over (ev_abs va) (ev_abs vb) (qabs_ne b0) (by decide))) (nq (qabs_div b0)))))
    refine if_noE (H0 := H3) (et_or (et_of (ev_bne (ev_less va vb) (ev_less (ev_add va vc (by decide)) (ev_add vb vc (by decide)))) (nb lt_shift)) (et_or (et_of (ev_bne (ev_less va vb) (ev_less vn (ev_sub vb va (by decide)))) (nb lt_diff)) (et_of (ev_ne T.tc_Ratio T.nf_Ratio (ev_abs (ev_mul va vc (by decide))) (ev_mul (ev_abs va) (ev_abs vc) (by decide))) (nq (qabs_mul _ _))))) e6 fun H7 e7 => ?_
    refine if_noE (H0 := H3) (et_b (ev_less (ev_add (ev_abs va) (ev_abs vc) (by decide)) (ev_abs (ev_add va vc (by decide)))) (decide_eq_false (qabs_tri a c))) e7 fun H8 e8 => ?_
    refine (ev_less vn vc) H8 e8 _ fun H9 e9 => ⟨_, rfl, ?_⟩
    have e39 := e8.trans e9
    by_cases c0 : 0 < c
    · refine if_true_of (decide_eq_true c0) ?_
      exact (ev_beq (ev_less va vb) (ev_less (ev_mul va vc (by decide)) (ev_mul vb vc (by decide)))) H9 e39 _ fun Ha ea => fin _ (e39.trans ea) _ (yb (lt_pos c0))
    · refine if_false_of (decide_eq_false c0) ?_
      refine (ev_less vc vn) H9 e39 _ fun Ha ea => ⟨_, rfl, ?_⟩
      have e3a := e39.trans ea
      by_cases c1 : c < 0
      · refine if_true_of (decide_eq_true c1) ?_
        exact (ev_beq (ev_less va vb) (ev_less (ev_mul vb vc (by decide)) (ev_mul va vc (by decide)))) Ha e3a _ fun Hb eb => fin _ (e3a.trans eb) _ (yb (lt_neg c1))
      · refine if_false_of (decide_eq_false c1) ?_
        exact (ev_eq T.tc_Ratio T.nf_Ratio (ev_mul va vc (by decide)) vn) Ha e3a _ fun Hb eb => fin _ (e3a.trans eb) _ (decide_eq_true (lt_nil c0 c1))
end
end K01

namespace K01
open PySem PySem.Spec PyProof.Rows L2 L3

/-! ### the law -/
def spLaw (K : PySem.W.Frag) : Sp := fun vs H Q _ => ∃ (a : Addr) (ns : List Int), vs = [.ref a] ∧ SqL K H a (ns.map V.int) ∧ ns.length ≤ 63 ∧ ∀ H', Q (.bl true) H'
theorem sql_one' {K : PySem.W.Frag} {H H' : Hp} {a u : Addr} {xs : List V} (h : SqL K H a xs) (n : H u = none) (e : Ext1 u H H') : SqL K H' a xs := by
  rcases h with (h | ⟨o, h⟩) | h
  · exact .inl (.inl (e _ _ (ne_of_none h n) h))
  · exact .inl (.inr ⟨o, e _ _ (ne_of_none h n) h⟩)
  · exact .inr h
theorem eq_same {K : PySem.W.Frag} {H : Hp} {Q : VK} {p q : Addr} {xs : List V} {ds : List PyData} (hp : SqL K H p xs) (hq : SqL K H q xs) (hd : DpAll K H xs ds) (hc : (PyData.list ds).canLay0 = true) (hs : SeqAt.shaped (.list ds) = true) (k : Q (.bl true) H) : rEqD K (.ref p) (.ref q) H Q := by
  refine ⟨_, _, .lst hp hd, .lst hq hd, hs, hs, ?_⟩
  rw [SeqAt.eqv_refl _ hc]
  exact k
/-- powers of ten -/
def tp (n : Nat) : Rat := Rat.divInt ((10 : Int) ^ n) 1
theorem tp_mul (n m : Nat) : tp n * tp m = tp (n + m) := by
  unfold tp
  rw [Rat.divInt_mul_divInt, ← Int.pow_add] <;> rfl
theorem low_one (a : Int) : lowT a 1 = a ∧ lowB a 1 = 1 := low_eq (by decide) (by decide) (Nat.gcd_one_right _) rfl
theorem tp_num (n : Nat) : (tp n).num = 10 ^ n ∧ ((tp n).den : Int) = 1 := by
  have l := low_rat (n := (10 : Int) ^ n) (m := 1) (by decide)
  have o := low_one ((10 : Int) ^ n)
  exact ⟨l.1.symm.trans o.1, l.2.symm.trans o.2⟩
theorem tp_abs (n : Nat) : (tp n).num.natAbs = 10 ^ n := by
  rw [(tp_num n).1, Int.natAbs_pow] <;> rfl
theorem tp_small {n : Nat} (h : n < 2000) : big (tp n) = false := by
  unfold big many
  rw [tp_abs, (tp_num n).2, decide_eq_false (Nat.not_le.mpr (Nat.pow_lt_pow_right (by decide) h)), decide_eq_false (by decide +kernel)] <;> rfl
theorem tp_big {n : Nat} (h : 2000 ≤ n) : big (tp n) = true := by
  unfold big many
  rw [tp_abs, decide_eq_true (Nat.pow_le_pow_right (by decide) h)] <;> rfl
theorem tp_ne (n : Nat) : tp n ≠ 0 := fun z => by
  have e := tp_abs n
  rw [z] at e
  have : 0 < 10 ^ n := Nat.pow_pos (by decide)
  have e' : (0 : Nat) = 10 ^ n := e
  omega
def G9 : Rat := tp 1999 * Rat.divInt 9 1
theorem ten_is : Rat.divInt 10 1 = tp 1 := by decide +kernel
theorem one_is : Rat.divInt 1 1 = 1 := by decide +kernel
theorem one_small : big 1 = false := by decide +kernel
theorem nine_small : big (Rat.divInt 9 1) = false := by decide +kernel
theorem nine_ne : Rat.divInt 9 1 ≠ 0 := by decide +kernel
theorem g9_low : G9.num = 9 * 10 ^ 1999 ∧ (G9.den : Int) = 1 := by
  have e : G9 = Rat.divInt (10 ^ 1999 * 9) 1 := by
    unfold G9 tp
    rw [Rat.divInt_mul_divInt] <;> rfl
  have l := low_rat (n := (10 : Int) ^ 1999 * 9) (m := 1) (by decide)
  have o := low_one ((10 : Int) ^ 1999 * 9)
  rw [e]
  exact ⟨(l.1.symm.trans o.1).trans (Int.mul_comm _ _), l.2.symm.trans o.2⟩
theorem g9_small : big G9 = false := by
  unfold big many
  rw [g9_low.1, g9_low.2]
  decide +kernel
theorem g9_ne : G9 ≠ 0 := fun z => by
  have e := g9_low.1
  rw [z] at e
  exact absurd e (by decide +kernel)
theorem inv_low {q : Rat} {n : Int} (h : q.num = n) (hd : (q.den : Int) = 1) (hn : 0 < n) : (1 / q).num = 1 ∧ ((1 / q).den : Int) = n := by
  have q0 : q ≠ 0 := fun z => by
    rw [z] at h
    have : (0 : Int) = n := h
    omega
  have l := div_low 1 q q0
  have o : lowT 1 n = 1 ∧ lowB 1 n = n := low_eq (by omega) hn (by rw [show (1 : Int).natAbs = 1 from rfl]; exact Nat.gcd_one_left _) rfl
  have n1 : (1 : Rat).num * (1 : Int) = 1 := rfl
  have d1 : (((1 : Rat).den : Nat) : Int) * n = n := Int.one_mul n
  rw [h, hd, n1, d1] at l
  exact ⟨l.1.symm.trans o.1, l.2.symm.trans o.2⟩
theorem ig9_small : big (1 / G9) = false := by
  have l := inv_low g9_low.1 g9_low.2 (by decide +kernel)
  unfold big many
  rw [l.1, l.2]
  decide +kernel
theorem igt_small : big (1 / tp 1999) = false := by
  have l := inv_low (tp_num 1999).1 (tp_num 1999).2 (by decide +kernel)
  unfold big many
  rw [l.1, l.2]
  decide +kernel
theorem igt_sq : big (1 / tp 1999 * (1 / tp 1999)) = true := by
  have e : 1 / tp 1999 * (1 / tp 1999) = 1 / tp 3998 := by
    have h1 : 1 / tp 1999 * (1 / tp 1999) * (tp 1999 * tp 1999) = 1 := by
      rw [Rat.mul_assoc, ← Rat.mul_assoc (1 / tp 1999) (tp 1999), Rat.div_mul_cancel (tp_ne _), Rat.one_mul, Rat.div_mul_cancel (tp_ne _)]
    rw [tp_mul] at h1
    exact div_of (tp_ne _) h1
  have l := inv_low (tp_num 3998).1 (tp_num 3998).2 (by decide +kernel)
  rw [e]
  unfold big many
  rw [l.1, l.2]
  decide +kernel
theorem told_is : 1 / G9 = 1 / tp 1999 / Rat.divInt 9 1 := by
  refine div_of nine_ne ?_
  refine div_of (tp_ne _) ?_
  rw [Rat.mul_assoc, Rat.mul_comm (Rat.divInt 9 1)]
  exact Rat.div_mul_cancel g9_ne
section
variable {P : Program} {w : World} {K : PySem.W.Frag} {mg : Str → Option Value} {base : Heap}
theorem ok_law (T : TX K mg) : FnOk P w K mg base (L2.CX P w) 10 T.f_law T.d_law ["_law_script"] (spLaw K) := by
  refine T.F_law.okX sc_law (fun vs H Q E h => ?_) (fun cdv A outer s H vs Q E hr h => ?_)
  · obtain ⟨a, ns, rfl, _⟩ := h
    rfl
  · refine ⟨_, (pss_cons (ps_for PassesOwn.leaving rfl (pi_range1 (by rfl) T.n_range (pa_cons (pe_callB (call_max2 rfl) (by rfl) T.n_max (by decide +kernel) (pa_cons pe_int (pa_cons (pe_callB (call_min2 rfl) (by rfl) T.n_min (by decide +kernel) (pa_cons pe_int (pa_cons (pe_callB call_len_seq (by rfl) T.n_len (by decide +kernel) (pa_cons (pv 0) pa_nil)) pa_nil))) pa_nil))) pa_nil)) (pg_name (i := 1) sc_law.nd rfl (Or.inl rfl)) (pss_cons (ps_set (i := 2) sc_law.nd rfl (Or.inl rfl) (pe_call (ok__law_urn T) (hr.mono (by decide)) (by rfl) T.g__law_urn T.F__law_urn.kp T.b__law_urn .nil passL (pa_cons (pv 0) (pa_cons (pv 1) pa_nil))))
    (pss_one (ps_if (PW.pt (pw_or (pt_not (pt_val (pe_call (ok__law_rules_right T) (hr.mono (by decide)) (by rfl) T.g__law_rules_right T.F__law_rules_right.kp T.b__law_rules_right .nil passL (pa_cons (pv 2) pa_nil)))) (pw_or1 (pt_not (pt_val (pe_call (ok__law_chain_right T) (hr.mono (by decide)) (by rfl) T.g__law_chain_right T.F__law_chain_right.kp T.b__law_chain_right .nil passL (pa_cons (pv 2) pa_nil))))))) (pss_one (ps_ret pe_bl)) pss_nil))))
    (pss_cons (ps_set (i := 3) sc_law.nd rfl (Or.inl rfl) (pe_make T.mk_Ratio (ok_Ratio___init__ T) (hr.mono (by decide)) (by rfl) T.g_Ratio T.b_Ratio___init___2 T.v_Ratio___init___2 passL (pa_cons (pe_op op_pow pe_int pe_int) pa_nil)))
    (pss_cons (ps_for PassesOwn.leaving rfl (pi_range1 (by rfl) T.n_range (pa_cons pe_int pa_nil)) (pg_name (i := 4) sc_law.nd rfl (Or.inl rfl)) (pss_one (ps_set (i := 3) sc_law.nd rfl (Or.inl rfl) (pe_op (op_ownMul T.sf_Ratio T.tc_Ratio T.o_Ratio___mul__ (ok_Ratio___mul__ T) (hr.mono (by decide)) T.b_Ratio___mul__ passL) (pv 3) (pv 3)))))
    (pss_cons (ps_for PassesOwn.leaving rfl (pi_range1 (by rfl) T.n_range (pa_cons pe_int pa_nil)) (pg_name (i := 4) sc_law.nd rfl (Or.inl rfl)) (pss_one (ps_set (i := 3) sc_law.nd rfl (Or.inl rfl) (pe_op (op_ownMul T.sf_Ratio T.tc_Ratio T.o_Ratio___mul__ (ok_Ratio___mul__ T) (hr.mono (by decide)) T.b_Ratio___mul__ passL) (pv 3) (pe_make T.mk_Ratio (ok_Ratio___init__ T) (hr.mono (by decide)) (by rfl) T.g_Ratio T.b_Ratio___init___2 T.v_Ratio___init___2 passL (pa_cons (pe_op op_pow pe_int pe_int) pa_nil))))))
    (pss_cons (ps_set (i := 3) sc_law.nd rfl (Or.inl rfl) (pe_op (op_ownMul T.sf_Ratio T.tc_Ratio T.o_Ratio___mul__ (ok_Ratio___mul__ T) (hr.mono (by decide)) T.b_Ratio___mul__ passL) (pv 3) (pe_make T.mk_Ratio (ok_Ratio___init__ T) (hr.mono (by decide)) (by rfl) T.g_Ratio T.b_Ratio___init___2 T.v_Ratio___init___2 passL (pa_cons (pe_op op_pow pe_int pe_int) pa_nil))))
    (pss_cons (ps_set (i := 5) sc_law.nd rfl (Or.inl rfl) (pe_lst (pa_cons (pe_call (ok__law_worked T) (hr.mono (by decide)) (by rfl) T.g__law_worked T.F__law_worked.kp T.b__law_worked .nil passL (pa_cons pe_str (pa_cons (pv 3) (pa_cons (pv 3) pa_nil)))) (pa_cons (pe_call (ok__law_worked T) (hr.mono (by decide)) (by rfl) T.g__law_worked T.F__law_worked.kp T.b__law_worked .nil passL (pa_cons pe_str (pa_cons (pv 3) (pa_cons (pe_make T.mk_Ratio (ok_Ratio___init__ T) (hr.mono (by decide)) (by rfl) T.g_Ratio T.b_Ratio___init___2 T.v_Ratio___init___2 passL (pa_cons pe_int pa_nil)) pa_nil)))) (pa_cons (pe_call (ok__law_worked T) (hr.mono (by decide)) (by rfl) T.g__law_worked T.F__law_worked.kp T.b__law_worked .nil passL (pa_cons pe_str (pa_cons (pe_make T.mk_Ratio (ok_Ratio___init__ T) (hr.mono (by decide)) (by rfl) T.g_Ratio T.b_Ratio___init___2 T.v_Ratio___init___2 passL (pa_cons pe_int pa_nil)) (pa_cons (pe_op (op_ownMul T.sf_Ratio T.tc_Ratio T.o_Ratio___mul__ (ok_Ratio___mul__ T) (hr.mono (by decide)) T.b_Ratio___mul__ passL) (pv 3) (pe_make T.mk_Ratio (ok_Ratio___init__ T) (hr.mono (by decide)) (by rfl) T.g_Ratio T.b_Ratio___init___2 T.v_Ratio___init___2 passL (pa_cons pe_int pa_nil))) pa_nil)))) pa_nil)))))
    (pss_cons (ps_set (i := 6) sc_law.nd rfl (Or.inl rfl) (pe_meth (pe_make T.mk_Ratio (ok_Ratio___init__ T) (hr.mono (by decide)) (by rfl) T.g_Ratio T.b_Ratio___init___2 T.v_Ratio___init___2 passL (pa_cons pe_int pa_nil)) T.cl_Ratio T.m_Ratio_over (ok_Ratio_over T) (hr.mono (by decide)) T.b_Ratio_over .nil passL (pa_cons (pv 3) pa_nil)))
    (pss_one (ps_ret (pe_and (pe_cmpR (op_eqD hr.units) (pe_slice sl_list (pv 5) po_none (po_some pe_int)) (pe_lst (pa_cons pe_str (pa_cons pe_str pa_nil))) (nomark _)) (pe_and (pe_cmpR (op_ownEq T.o_Ratio___eq__ (ok_Ratio___eq__ T) (hr.mono (by decide)) T.b_Ratio___eq__ passL) (pe_ix ix_list (pv 5) pe_int (fun _ _ => rfl)) (pe_meth (pv 6) T.cl_Ratio T.m_Ratio_over (ok_Ratio_over T) (hr.mono (by decide)) T.b_Ratio_over .nil passL (pa_cons (pe_make T.mk_Ratio (ok_Ratio___init__ T) (hr.mono (by decide)) (by rfl) T.g_Ratio T.b_Ratio___init___2 T.v_Ratio___init___2 passL (pa_cons pe_int pa_nil)) pa_nil)) (nomark _)) (pe_and (pe_cmpR op_eq (pe_call (ok__law_worked T) (hr.mono (by decide)) (by rfl) T.g__law_worked T.F__law_worked.kp T.b__law_worked .nil passL (pa_cons pe_str (pa_cons (pv 6) (pa_cons (pv 6) pa_nil)))) pe_str (nomark _)) (pe_one (pe_cmpR (op_ownEq T.o_Ratio___eq__ (ok_Ratio___eq__ T) (hr.mono (by decide)) T.b_Ratio___eq__ passL) (pe_op (op_ownMul T.sf_Ratio T.tc_Ratio T.o_Ratio___mul__ (ok_Ratio___mul__ T) (hr.mono (by decide)) T.b_Ratio___mul__ passL) (pv 6) (pv 3)) (pe_make T.mk_Ratio (ok_Ratio___init__ T) (hr.mono (by decide)) (by rfl) T.g_Ratio T.b_Ratio___init___2 T.v_Ratio___init___2 passL (pa_cons pe_int pa_nil)) (nomark _))))))))))))))), ?_⟩
    obtain ⟨a, ns, rfl, hs, hl, k⟩ := h
    have hl' : (((ns.map V.int).length : Nat) : Int) ≤ 63 := by rw [List.length_map]; omega
    refine seq_any (fun σ' H' => ∃ x1 x2, σ' = [some (V.ref a), x1, x2, none, none, none, none]) (fun D' hD => ?_) ?_
    · refine ⟨_, rfl, a, _, rfl, .inl hs, _, _, rfl, _, _, rfl, _, rfl, (by split <;> split <;> omega), (by split <;> split <;> omega), ?_⟩
      refine for_range (fun i σ H' => ∃ x1 x2, σ = [some (V.ref a), x1, x2, none, none, none, none] ∧ SqL K H' a (ns.map V.int)) ⟨none, none, rfl, hs⟩ ?_ (fun σ H' ⟨x1, x2, e, _⟩ => hD _ _ ⟨x1, x2, e⟩)
      rintro i σ H1 hi ⟨x1, x2, rfl, hs1⟩
      refine ⟨_, rfl, _, rfl, a, ns, i, (by rw [Int.zero_add] <;> rfl), hs1, fun u hu x y z => ?_⟩
      refine ⟨_, rfl, u, rfl, ⟨x, y, z, upd_same⟩, fun H2 e2 hu2 => ⟨_, rfl, if_false_of rfl ?_⟩⟩
      refine ⟨_, rfl, u, rfl, hu2, fun H3 e3 hu3 => ⟨_, rfl, if_false_of rfl ?_⟩⟩
      exact ⟨_, _, rfl, sql_one' hs1 hu ((Ext.new hu).one.trans (e2.trans e3))⟩
    rintro σ' H1 ⟨x1, x2, rfl⟩
    refine seq_asg (fun x H2 => ∃ g, x = .ref g ∧ RatQ T.C_Ratio H2 g (tp 50)) (fun Q hQ => ?_) ?_
    · refine ⟨_, _, rfl, rfl, ⟨by decide, by decide, by decide⟩, fun g dx nx ndx nex => mk_good nx ndx nex (by decide +kernel) (by decide +kernel) (by decide) fun H2 e2 r2 => ⟨rfl, hQ _ _ ⟨g, rfl, r2⟩⟩⟩
    rintro x H2 ⟨g, rfl, r2⟩
    dsimp only [gName]
    refine seq_any (fun σ' H' => ∃ x1 x2 g x4, σ' = [some (V.ref a), x1, x2, some (.ref g), x4, none, none] ∧ RatQ T.C_Ratio H' g (tp 1600)) (fun D' hD => ?_) ?_
    · refine ⟨5, rfl, (by decide), (by decide), ?_⟩
      refine for_range (fun i σ H' => ∃ x1 x2 g x4, σ = [some (V.ref a), x1, x2, some (.ref g), x4, none, none] ∧ RatQ T.C_Ratio H' g (tp (50 * 2 ^ i))) ⟨_, _, _, _, rfl, r2⟩ ?_ (fun σ H' h => hD _ _ h)
      rintro i σ H3 hi ⟨x1, x2, g, x4, rfl, rg⟩
      obtain ⟨dg, hg⟩ := id rg
      have hi5 : i < 5 := hi
      have p1 : 2 ^ i ≤ 2 ^ 4 := Nat.pow_le_pow_right (by decide) (by omega)
      have s1 : big (tp (50 * 2 ^ i)) = false := tp_small (by omega)
      have s2 : big (tp (50 * 2 ^ i) * tp (50 * 2 ^ i)) = false := by
        rw [tp_mul]
        exact tp_small (by omega)
      refine ⟨_, rfl, _, rfl, g, g, dg, dg, _, _, rfl, rfl, hg, hg, g, g, _, _, rfl, rg, rg, s1, s1, (fun w => absurd (s2.symm.trans w) (by decide)), fun _ t H4 e4 rt => ?_⟩
      dsimp only at rt
      rw [tp_mul, show 50 * 2 ^ i + 50 * 2 ^ i = 50 * 2 ^ (i + 1) by rw [Nat.pow_succ]; omega] at rt
      exact ⟨_, _, t, _, rfl, rt⟩
    rintro σ' H3 ⟨x1, x2, g, x4, rfl, r3⟩
    refine seq_any (fun σ' H' => ∃ x1 x2 g x4, σ' = [some (V.ref a), x1, x2, some (.ref g), x4, none, none] ∧ RatQ T.C_Ratio H' g (tp 1954)) (fun D' hD => ?_) ?_
    · refine ⟨6, rfl, (by decide), (by decide), ?_⟩
      refine for_range (fun i σ H' => ∃ x1 x2 g x4, σ = [some (V.ref a), x1, x2, some (.ref g), x4, none, none] ∧ RatQ T.C_Ratio H' g (tp (1600 + 59 * i))) ⟨_, _, _, _, rfl, r3⟩ ?_ (fun σ H' h => hD _ _ h)
      rintro i σ H4 hi ⟨x1, x2, g, x4, rfl, rg⟩
      have hi6 : i < 6 := hi
      have s1 : big (tp (1600 + 59 * i)) = false := tp_small (by omega)
      have s2 : big (tp (1600 + 59 * i) * tp 59) = false := by
        rw [tp_mul]
        exact tp_small (by omega)
      refine ⟨_, rfl, _, _, rfl, rfl, ⟨by decide, by decide, by decide⟩, fun t dt nt ndt ndx => mk_good nt ndt ndx (by decide +kernel) (by decide +kernel) (by decide) fun H5 e5 r5 => ⟨rfl, ?_⟩⟩
      have rt : RatQ T.C_Ratio H5 t (tp 59) := r5
      obtain ⟨dg, hg⟩ := id (ratq_ext rg e5)
      obtain ⟨dt', ht⟩ := id rt
      refine ⟨g, t, dg, dt', _, _, rfl, rfl, hg, ht, g, t, _, _, rfl, ratq_ext rg e5, rt, s1, tp_small (by decide), (fun w => absurd (s2.symm.trans w) (by decide)), fun _ z H6 e6 rz => ?_⟩
      dsimp only at rz
      rw [tp_mul, show 1600 + 59 * i + 59 = 1600 + 59 * (i + 1) by omega] at rz
      exact ⟨_, _, z, _, rfl, rz⟩
    rintro σ' H4 ⟨x1, x2, g0, x4, rfl, r4⟩
    refine seq_asg (fun x H5 => ∃ g, x = .ref g ∧ RatQ T.C_Ratio H5 g (tp 1999)) (fun Q hQ => ?_) ?_
    · refine ⟨_, rfl, _, _, rfl, rfl, ⟨by decide, by decide, by decide⟩, fun t dt nt ndt ndx => mk_good nt ndt ndx (by decide +kernel) (by decide +kernel) (by decide) fun H5 e5 r5 => ⟨rfl, ?_⟩⟩
      have rt : RatQ T.C_Ratio H5 t (tp 45) := r5
      have s2 : big (tp 1954 * tp 45) = false := by
        rw [tp_mul]
        exact tp_small (by decide)
      obtain ⟨dg, hg⟩ := id (ratq_ext r4 e5)
      obtain ⟨dt', ht⟩ := id rt
      refine ⟨g0, t, dg, dt', _, _, rfl, rfl, hg, ht, g0, t, _, _, rfl, ratq_ext r4 e5, rt, tp_small (by decide), tp_small (by decide), (fun w => absurd (s2.symm.trans w) (by decide)), fun _ z H6 e6 rz => hQ _ _ ⟨z, rfl, ?_⟩⟩
      dsimp only at rz
      rw [tp_mul] at rz
      exact rz
    rintro x H5 ⟨g, rfl, rg⟩
    dsimp only [gName]
    have sg : big (tp 1999) = false := tp_small (by decide)
    have b1 : big (tp 1999 * tp 1999) = true := by
      rw [tp_mul]
      exact tp_big (by decide)
    have b2 : big (tp 1999 * tp 1) = true := by
      rw [tp_mul]
      exact tp_big (by decide)
    refine seq_asg (fun x H6 => ∃ l z, x = .ref l ∧ Ext H5 H6 ∧ H6 l = some (.lst [.str "many", .str "many", .ref z]) ∧ RatQ T.C_Ratio H6 z (1 / G9)) (fun Q hQ => ?_) ?_
    · refine ⟨_, rfl, _, rfl, .mul, g, .ref g, _, rfl, rg, sg, .inl ⟨g, _, rfl, rg, sg, (fun w => nomatch w.1), fun _ _ H6 e6 => ?_, fun _ w => absurd (b1.symm.trans w) (by decide)⟩⟩
      refine ⟨_, rfl, fun t dt nt ndt ndx => mk_good nt ndt ndx (a := 10) (b := 1) (by decide +kernel) (by decide +kernel) (by decide) fun H7 e7 r7 => ⟨rfl, ?_⟩⟩
      rw [ten_is] at r7
      have rg7 := ratq_ext (ratq_ext rg e6) e7
      refine ⟨.mul, g, .ref t, _, rfl, rg7, sg, .inl ⟨t, _, rfl, r7, tp_small (by decide), (fun w => nomatch w.1), fun _ _ H8 e8 => ?_, fun _ w => absurd (b2.symm.trans w) (by decide)⟩⟩
      intro v dv nv ndv nev
      refine mk_good nv ndv nev (a := 1) (b := 1) (by decide +kernel) (by decide +kernel) (by decide) fun H9 e9 r9 => ⟨rfl, ?_⟩
      rw [one_is] at r9
      refine ⟨_, rfl, fun t2 dt2 nt2 ndt2 ndx2 => mk_good nt2 ndt2 ndx2 (a := 9) (b := 1) (by decide +kernel) (by decide +kernel) (by decide) fun Ha ea ra => ⟨rfl, ?_⟩⟩
      have rga := ratq_ext (ratq_ext (ratq_ext rg7 e8) e9) ea
      obtain ⟨dg, hg⟩ := id rga
      obtain ⟨dt', ht⟩ := id ra
      refine ⟨g, t2, dg, dt', _, _, rfl, rfl, hg, ht, g, t2, _, _, rfl, rga, ra, sg, nine_small, (fun w => absurd (g9_small.symm.trans w) (by decide)), fun _ z Hb eb rz => ?_⟩
      refine ⟨.over, v, .ref z, 1, rfl, ratq_ext (ratq_ext r9 ea) eb, one_small, .inl ⟨z, G9, rfl, rz, g9_small, (fun w => absurd w.2 g9_ne), (fun _ w => absurd (ig9_small.symm.trans w) (by decide)), fun _ _ y Hc ec ry => ?_⟩⟩
      refine ⟨(by show 3 ≤ sizeLine; decide), fun l hl2 => hQ _ _ ⟨l, y, rfl, ?_, upd_same, ratq_ext ry (Ext.new hl2)⟩⟩
      exact (e6.trans (e7.trans (e8.trans (e9.trans (ea.trans (eb.trans ec)))))).trans (Ext.new hl2)
    rintro x H6 ⟨l, z, rfl, e6, hl6, rz⟩
    dsimp only [gName]
    have rg6 := ratq_ext rg e6
    refine seq_asg (fun x H7 => ∃ w, x = .ref w ∧ Ext H6 H7 ∧ RatQ T.C_Ratio H7 w (1 / tp 1999)) (fun Q hQ => ?_) ?_
    · intro v dv nv ndv nev
      refine mk_good nv ndv nev (a := 1) (b := 1) (by decide +kernel) (by decide +kernel) (by decide) fun H7 e7 r7 => ⟨rfl, ?_⟩
      rw [one_is] at r7
      obtain ⟨d7, h7⟩ := id r7
      refine ⟨v, d7, _, rfl, h7, rf_over _ _, _, rfl, v, .ref g, 1, rfl, r7, one_small, .inl ⟨g, tp 1999, rfl, ratq_ext rg6 e7, sg, (fun w => absurd w (tp_ne _)), (fun _ w => absurd (igt_small.symm.trans w) (by decide)), fun _ _ y H8 e8 ry => hQ _ _ ⟨y, rfl, e7.trans e8, ry⟩⟩⟩
    rintro x H7 ⟨w, rfl, e7, rw7⟩
    dsimp only [gName]
    have hl7 := e7 _ _ hl6
    have rz7 := ratq_ext rz e7
    have rg7 := ratq_ext rg6 e7
    refine ⟨_, rfl, _, rfl, l, _, rfl, SqL.of hl7, fun p1 hp1 => ⟨(by show 2 ≤ sizeLine; decide), fun p2 hp2 => ?_⟩⟩
    have x1 := Ext.new (o := .lst [.str "many", .str "many"]) hp1
    have x2' := Ext.new (o := .lst [.str "many", .str "many"]) hp2
    refine eq_same (xs := [.str "many", .str "many"]) (SqL.of (x2' _ _ upd_same)) (SqL.of upd_same) (.cons (.str _) (.cons (.str _) .nil)) (by decide +kernel) (by decide +kernel) ⟨_, rfl, iteT ?_⟩
    have x12 := x1.trans x2'
    have rw8 := ratq_ext rw7 x12
    have rz8 := ratq_ext rz7 x12
    have rg8 := ratq_ext rg7 x12
    obtain ⟨dw, hw⟩ := id rw8
    refine ⟨_, rfl, l, _, _, _, rfl, rfl, SqL.of (x12 _ _ hl7), rfl, _, rfl, w, dw, _, rfl, hw, rf_over _ _, fun t dt nt ndt ndx => mk_good nt ndt ndx (a := 9) (b := 1) (by decide +kernel) (by decide +kernel) (by decide) fun H9 e9 r9 => ⟨rfl, ?_⟩⟩
    have q9 : big (1 / tp 1999 / Rat.divInt 9 1) = false := by
      rw [← told_is]
      exact ig9_small
    refine ⟨w, .ref t, _, rfl, ratq_ext rw8 e9, igt_small, .inl ⟨t, _, rfl, r9, nine_small, (fun v => absurd v nine_ne), (fun _ v => absurd (q9.symm.trans v) (by decide)), fun _ _ y Ha ea ry => ?_⟩⟩
    have rza := ratq_ext (ratq_ext rz8 e9) ea
    obtain ⟨dz, hz⟩ := id rza
    obtain ⟨dy, hy⟩ := id ry
    refine ⟨z, dz, _, _, rfl, hz, T.tc_Ratio.ty hy, T.nf_Ratio, z, y, _, _, rfl, rza, ry, _, rfl, _, rfl, if_true_of (decide_eq_true told_is) ?_⟩
    have rwa := ratq_ext (ratq_ext rw8 e9) ea
    refine ⟨_, rfl, _, rfl, .mul, w, .ref w, _, rfl, rwa, igt_small, .inl ⟨w, _, rfl, rwa, igt_small, (fun v => nomatch v.1), fun _ _ Hb eb => ?_, fun _ v => absurd (igt_sq.symm.trans v) (by decide)⟩⟩
    refine ⟨rfl, _, rfl, if_true_of (by decide +kernel) ?_⟩
    have rwb := ratq_ext rwa eb
    have rgb := ratq_ext (ratq_ext (ratq_ext rg8 e9) ea) eb
    obtain ⟨dw2, hw2⟩ := id rwb
    obtain ⟨dg2, hg2⟩ := id rgb
    have e1 : 1 / tp 1999 * tp 1999 = 1 := Rat.div_mul_cancel (tp_ne _)
    have s1 : big (1 / tp 1999 * tp 1999) = false := by
      rw [e1]
      exact one_small
    refine ⟨_, rfl, _, rfl, w, g, dw2, dg2, _, _, rfl, rfl, hw2, hg2, w, g, _, _, rfl, rwb, rgb, igt_small, sg, (fun v => absurd (s1.symm.trans v) (by decide)), fun _ y2 Hc ec ry2 => ?_⟩
    intro v dv nv ndv nev
    refine mk_good nv ndv nev (a := 1) (b := 1) (by decide +kernel) (by decide +kernel) (by decide) fun Hd ed rd => ⟨rfl, ?_⟩
    rw [one_is] at rd
    have ry3 := ratq_ext ry2 ed
    obtain ⟨dy3, hy3⟩ := id ry3
    obtain ⟨dd, hdd⟩ := id rd
    refine ⟨y2, dy3, _, _, rfl, hy3, T.tc_Ratio.ty hdd, T.nf_Ratio, y2, v, _, _, rfl, ry3, rd, _, rfl, ?_⟩
    rw [decide_eq_true e1]
    exact k _
end
end K01

namespace K01
open PySem PySem.Spec PyProof.Rows L2 L3
section
variable {P : Program} {w : World} {K : PySem.W.Frag} {mg : Str → Option Value} {base : Heap}

theorem law_at {l : PySem.W.OpenLaw} {h : Heap} {fa : Addr} (T : TX K mg) (hfa : mg "law" = some (.ref fa)) : LamX.LawAtS l w K (L2.CX l.prog w) 10 63 "_law_script" mg fa h := by
  have e : fa = T.f_law := by
    have z := T.g_law
    rw [hfa] at z
    injection z with z
    injection z
  subst e
  obtain ⟨oc, od, kV, dc, pm, an, cdv, ct, osl, eD, lk, hcd⟩ := T.F_law.ex
  refine ⟨T.d_law, [], spLaw K, (fun p hp => by cases hp), (fun p hp => by cases hp), (fun p hp => by cases hp), fun s u => ?_, fun H a ns hn _ hH hS => ?_, fun base _ _ TB => ?_⟩
  · rw [eD]
    exact BindsTo.of_eq rfl
  · exact ⟨a, ns, rfl, hS, hn, fun _ => rfl⟩
  · exact ok_law T
theorem cx_no {H : Hp} {s s' : Shared} {e : Value} (z : L2.CX P w [] H s (fun _ _ _ => False) e s') : False := by
  obtain ⟨_, _, _, _, _, _, _, _, _, _, _, _, z⟩ := z
  exact z
end
end K01

open PySem PySem.W PyProof.Rows L2 in
set_option maxHeartbeats 0 in
theorem PySem.Challenge.cw_worthstead_k01_whole_rules_of_a_field_holds : PySem.Challenge.rw_worthstead_k01_whole_rules_of_a_field.Holds := by
  w_on; o_law; k_head; (case hw => w_witness2)
  k_fill
  refine LamX.walk_ofTs (CX := fun w => L2.CX PySem.Challenge.rw_worthstead_k01_whole_rules_of_a_field.prog w) (k := 10) (n := 63) (x := "_law_script") rfl (by decide) rfl ⟨rfl, by decide, by decide⟩ (fun w h Y => PySem.W.kIn_of Y) (fun w mg fa h Y KX G hfa => ?_) (fun w H s e s' z => K01.cx_no z)
  refine' Nonempty.elim (K01.mkT  KX G ?h0 ?h1 ?h2 ?h3 ?h4 ?h5 ?h6 ?h7 ?h8 ?h9 ?h10 ?h11 ?h12 ?h13 ?h14 ?h15 ?h16 ?h17 ?h18 ?h19 ?h20 ?h21 ?h22 ?h23 ?h24 ?h25 ?h26 ?h27 ?h28 ?h29 ?h30 ?h31 ?h32 ?h33 ?h34 ?h35 ?h36 ?h37 ?h38 ?h39 ?h40 ?h41 ?h42 ?h43 ?h44 ?h45 ?h46 ?h47 ?h48 ?h49 ?h50 ?h51 ?h52 ?h53 ?h54 ?h55 ?h56 ?h57 ?h58 ?h59 ?h60 ?h61 ?h62 ?h63 ?h64 ?h65 ?h66 ?h67 ?h68 ?h69 ?h70 ?h71 ?h72 ?h73 ?h74 ?h75 ?h76 ?h77 ?h78 ?h79 ?h80 ?h81 ?h82 ?h83 ?h84 ?h85 ?h86 ?h87 ?h88 ?h89 ?h90 ?h91 ?h92 ?h93 ?h94 ?h95 ?h96 ?h97 ?h98 ?h99 ?h100 ?h101 ?h102 ?h103 ?h104 ?h105 ?h106 ?h107 ?h108 ?h109 ?h110 ?h111 ?h112 ?h113 ?h114 ?h115 ?h116 ?h117 ?h118 ?h119 ?h120 ?h121 ?h122 ?h123 ?h124 ?h125 ?h126 ?h127 ?h128 ?h129 ?h130 ?h131 ?h132 ?h133 ?h134 ?h135 ?h136 ?h137 ?h138 ?h139 ?h140 ?h141 ?h142 ?h143 ?h144 ?h145 ?h146 ?h147 ?h148 ?h149 ?h150 ?h151 ?h152 ?h153 ?h154 ?h155 ?h156 ?h157 ?h158 ?h159 ?h160 ?h161 ?h162 ?h163 ?h164 ?h165 ?h166 ?h167 ?h168 ?h169 ?h170 ?h171 ?h172 ?h173 ?h174 ?h175 ?h176 ?h177 ?h178 ?h179 ?h180 ?h181 ?h182 ?h183 ?h184 ?h185 ?h186 ?h187 ?h188 ?h189 ?h190 ?h191 ?h192 ?h193 ?h194 ?h195 ?h196 ?h197 ?h198 ?h199 ?h200 ?h201 ?h202 ?h203 ?h204 ?h205 ?h206 ?h207 ?h208 ?h209 ?h210 ?h211 ?h212 ?h213 ?h214 ?h215 ?h216 ?h217 ?h218 ?h219 ?h220 ?h221 ?h222 ?h223 ?h224 ?h225 ?h226 ?h227) ?hrest
  (case h0 => k_is)
  (case h1 => kx_is)
  (case h2 => kx_is)
  (case h3 => k_is)
  (case h4 => k_is)
  (case h5 => k_is)
  (case h6 => k_is)
  (case h7 => k_is)
  (case h8 => k_is)
  (case h9 => k_is)
  (case h10 => k_is)
  (case h11 => k_is)
  (case h12 => k_is)
  (case h13 => k_is)
  (case h14 => k_is)
  (case h15 => k_is)
  (case h16 => k_is)
  (case h17 => k_is)
  (case h18 => kx_is)
  (case h19 => kx_is)
  (case h20 => k_is)
  (case h21 => k_is)
  (case h22 => k_is)
  (case h23 => k_is)
  (case h24 => k_is)
  (case h25 => k_is)
  (case h26 => k_is)
  (case h27 => k_is)
  (case h28 => k_is)
  (case h29 => k_is)
  (case h30 => k_is)
  (case h31 => k_is)
  (case h32 => k_is)
  (case h33 => k_is)
  (case h34 => k_is)
  (case h35 => k_exc)
  (case h36 => k_is)
  (case h37 => k_is)
  (case h38 => k_is)
  (case h39 => k_is)
  (case h40 => k_is)
  (case h41 => k_is)
  (case h42 => k_is)
  (case h43 => k_is)
  (case h44 => k_is)
  (case h45 => k_is)
  (case h46 => k_is)
  (case h47 => k_is)
  (case h48 => k_is)
  (case h49 => k_is)
  (case h50 => k_is)
  (case h51 => k_is)
  (case h52 => k_is)
  (case h53 => k_is)
  (case h54 => kit_is)
  (case h55 => k_is)
  (case h56 => kit_is)
  (case h57 => kit_is)
  (case h58 => k_is)
  (case h59 => kit_is)
  (case h60 => kit_is)
  (case h61 => k_is)
  (case h62 => kit_is)
  (case h63 => kit_is)
  (case h64 => k_is)
  (case h65 => kit_is)
  (case h66 => kit_is)
  (case h67 => k_is)
  (case h68 => kit_is)
  (case h69 => kit_is)
  (case h70 => k_is)
  (case h71 => kit_is)
  (case h72 => kit_is)
  (case h73 => k_is)
  (case h74 => kit_is)
  (case h75 => kit_is)
  (case h76 => k_is)
  (case h77 => k_is)
  (case h78 => k_is)
  (case h79 => k_is)
  (case h80 => k_is)
  (case h81 => k_is)
  (case h82 => k_is)
  (case h83 => k_is)
  (case h84 => k_is)
  (case h85 => k_is)
  (case h86 => k_is)
  (case h87 => k_is)
  (case h88 => k_is)
  (case h89 => k_is)
  (case h90 => k_is)
  (case h91 => k_is)
  (case h92 => k_is)
  (case h93 => k_is)
  (case h94 => k_is)
  (case h95 => k_is)
  (case h96 => k_is)
  (case h97 => k_is)
  (case h98 => k_is)
  (case h99 => k_is)
  (case h100 => k_is)
  (case h101 => k_is)
  (case h102 => k_is)
  (case h103 => k_is)
  (case h104 => k_is)
  (case h105 => k_is)
  (case h106 => k_is)
  (case h107 => k_is)
  (case h108 => k_is)
  (case h109 => k_is)
  (case h110 => k_is)
  (case h111 => k_is)
  (case h112 => k_is)
  (case h113 => k_is)
  (case h114 => k_is)
  (case h115 => k_is)
  (case h116 => k_is)
  (case h117 => k_is)
  (case h118 => k_is)
  (case h119 => k_is)
  (case h120 => k_is)
  (case h121 => k_is)
  (case h122 => k_is)
  (case h123 => k_is)
  (case h124 => k_is)
  (case h125 => k_is)
  (case h126 => k_is)
  (case h127 => k_is)
  (case h128 => k_is)
  (case h129 => k_is)
  (case h130 => k_is)
  (case h131 => k_is)
  (case h132 => k_is)
  (case h133 => k_is)
  (case h134 => k_is)
  (case h135 => k_is)
  (case h136 => k_is)
  (case h137 => k_is)
  (case h138 => k_is)
  (case h139 => k_is)
  (case h140 => k_is)
  (case h141 => k_is)
  (case h142 => k_is)
  (case h143 => k_is)
  (case h144 => k_is)
  (case h145 => k_is)
  (case h146 => k_is)
  (case h147 => k_is)
  (case h148 => k_is)
  (case h149 => k_is)
  (case h150 => k_is)
  (case h151 => k_is)
  (case h152 => k_is)
  (case h153 => k_is)
  (case h154 => k_is)
  (case h155 => k_is)
  (case h156 => k_is)
  (case h157 => k_is)
  (case h158 => k_is)
  (case h159 => k_is)
  (case h160 => k_is)
  (case h161 => k_is)
  (case h162 => k_is)
  (case h163 => k_is)
  (case h164 => k_is)
  (case h165 => k_is)
  (case h166 => k_is)
  (case h167 => k_is)
  (case h168 => k_is)
  (case h169 => k_is)
  (case h170 => k_is)
  (case h171 => k_is)
  (case h172 => k_is)
  (case h173 => k_is)
  (case h174 => k_is)
  (case h175 => k_is)
  (case h176 => k_is)
  (case h177 => k_is)
  (case h178 => k_is)
  (case h179 => k_is)
  (case h180 => k_is)
  (case h181 => k_is)
  (case h182 => k_is)
  (case h183 => k_is)
  (case h184 => k_is)
  (case h185 => k_is)
  (case h186 => k_is)
  (case h187 => k_is)
  (case h188 => k_is)
  (case h189 => k_is)
  (case h190 => k_is)
  (case h191 => k_is)
  (case h192 => k_is)
  (case h193 => k_is)
  (case h194 => k_is)
  (case h195 => k_is)
  (case h196 => k_is)
  (case h197 => k_is)
  (case h198 => k_is)
  (case h199 => k_is)
  (case h200 => k_is)
  (case h201 => k_is)
  (case h202 => k_is)
  (case h203 => k_is)
  (case h204 => k_is)
  (case h205 => k_is)
  (case h206 => k_is)
  (case h207 => k_is)
  (case h208 => k_is)
  (case h209 => k_is)
  (case h210 => k_is)
  (case h211 => k_is)
  (case h212 => k_is)
  (case h213 => k_is)
  (case h214 => k_is)
  (case h215 => k_is)
  (case h216 => k_is)
  (case h217 => k_is)
  (case h218 => k_is)
  (case h219 => k_is)
  (case h220 => k_is)
  (case h221 => k_is)
  (case h222 => k_is)
  (case h223 => k_is)
  (case h224 => k_is)
  (case h225 => kernel_rfl)
  (case h226 => kernel_rfl)
  (case h227 => kernel_rfl)
  (case hrest => intro T; exact K01.law_at T hfa)
