import PyProof.Rows.All
import Wide.All
import OpenK.AllK
import Wide.FinOn
import HandS.ForMost
import HandS.ForExc
import HandS.Property
import HandS.IsInst
import KE.KExcInit
import HandS.TryMany
import HandS.Wide
import HandS.WideBits
import HandS.Gcd
import HandS.FStr
import HandS.Defaults
import PyProof.StrBlock2
import PyProof.Rows.StrOr
import HandS.Lambda
import HandS.OwnEq
import PyProof.NeKinds
import HandS.EndTab
import HandS.ExcBuiltin
import HandS.Style
import HandS.Comp
import HandS.AnyAll
import HandS.Zip
import HandS.Remove
import HandS.TupAny
import HandS.TupMul
import KE.KExcLine
import PySem.Challenge.RW_worthstead_k03_sums_and_means
set_option Elab.async false
set_option linter.all false
set_option maxRecDepth 100000
set_option maxHeartbeats 4000000
namespace L3
open PySem PySem.Spec PyProof.Rows L2

/-- a special method of the class's own, at f -/
structure Own (K : PySem.W.Frag) (C : Addr) (m : Str) (f : Addr) : Prop where
  at_ : PySem.W.findIn K (.ref C) m = some (some (.ref f))
  fn : PySem.W.isFn K (.ref f) = true

section
variable {X : Cx} {CX : CXT} {k : Nat} {C f : Addr} {fd : FuncData} {ps : List Str} {sp : Sp} {E : XK} {pins : List (Addr × Obj)} {σ : L2.St} {H : Hp} {s : Shared}

theorem run_in {A : Around} {Q : VK} {us : List Value} {vs : List V} (F : FnOk X.prog X.w X.K X.mg X.base CX k f fd ps sp) (hr : Room k A) (e0 : Env0 X.prog X.w X.K X.mg X.base A X.stack s H) (hb : Binds X.K fd ps []) (hx : Passes CX X E)
    (I : Inv X pins σ H s) (r : Vals vs us) (h : sp vs H Q E) : wpAny (model X.prog X.w) A (call (.ref f) us) (EP X pins σ Q) X.xe s := by
  have hl : (us ++ []).length = ps.length := by rw [List.append_nil, ← r.length]; exact F.len _ _ _ _ h
  have hb2 := hb s us I.kIn hl
  rw [List.append_nil] at hb2
  refine wpAny_call (codeAny_mono (F.run A X.stack s H ⟨us, []⟩ us vs Q E hr e0 hb2 r h) fun r s' hq => ?_)
  cases r with
  | error e => exact hx pins σ H s e s' I hq
  | ok fl =>
    cases fl with
    | ret u => exact I.after hq
    | next => exact False.elim hq
    | brk => exact False.elim hq
    | cont => exact False.elim hq

/-- the promise of a special method at an instance of C -/
def rOwn1 (C : Addr) (sp : Sp) (E : XK) : V → Hp → VK → Prop := fun x H Q => ∃ a dx fs, x = .ref a ∧ H a = some (.ins C dx fs) ∧ sp [.ref a] H Q E

theorem un_ownNeg (o : Own X.K C "__neg__" f) (F : FnOk X.prog X.w X.K X.mg X.base CX k f fd ps sp) (hr : Room k X.A) (hb : Binds X.K fd ps []) (hx : Passes CX X E) : UnR X (unaryOp .USub) (rOwn1 C sp E) := by
  intro pins s σ H x v Q I rx h
  obtain ⟨a, dx, fs, rfl, ea, h⟩ := h
  cases (show v = Value.ref a from rx)
  obtain ⟨mA, O, _⟩ := ins_get I.hok ea
  obtain ⟨od, J, _⟩ := O.look
  obtain ⟨m, hF⟩ := I.fr
  exact PySem.W.ksp_neg hF I.ok.mod.kin J o.at_ o.fn (run_in (us := [.ref a]) (vs := [.ref a]) F hr I.env0 hb hx I (.cons rfl .nil) h)

theorem abs_K {prog : Program} {w : World} {A : Around} {E : Value → Shared → Prop} {s : Shared} {K : PySem.W.Frag} {x C f : Addr} {ox : Obj} {od : Option Obj} {Q : Value → Shared → Prop} (X : K.In s.heap) (I : PySem.W.InstAt s.heap x ox C od)
    (hs : PySem.W.findIn K (.ref C) "__abs__" = some (some (.ref f))) (hf : PySem.W.isFn K (.ref f) = true)
    (h : wpAny (model prog w) A.in1 (call (.ref f) [.ref x]) Q E s) : wpAny (model prog w) A (call (.builtin "abs") [.ref x]) Q E s := by
  refine Calls.call_function_entry kind_abs plain_abs entry_abs (args_abs _) ?_
  unfold Builtin.«abs»
  refine wpAny_bind (m := oneArg "abs" _) (wpAny_pure ?_)
  refine wpAny_bind (m := callSpecial? (.ref x) (Str.ofString "__abs__")) (PySem.W.special_fn X I hs (beq_iff_eq.mp hf) (wpAny_mono h (fun r s' hr => ?_) fun _ _ y => y))
  exact wpAny_pure ⟨_, rfl, hr⟩

theorem call_ownAbs (o : Own X.K C "__abs__" f) (F : FnOk X.prog X.w X.K X.mg X.base CX k f fd ps sp) (hr : Room (k + 1) X.A) (hb : Binds X.K fd ps []) (hx : Passes CX X E) : CallR X (.builtin "abs") (fun xs H Q => ∃ x, xs = [x] ∧ rOwn1 C sp E x H Q) := by
  intro pins s σ H xs us Q I r h
  obtain ⟨_, rfl, a, dx, fs, rfl, ea, h⟩ := h
  obtain ⟨u, rfl, rx⟩ := vals1 r
  cases (show u = Value.ref a from rx)
  obtain ⟨mA, O, _⟩ := ins_get I.hok ea
  obtain ⟨od, J, _⟩ := O.look
  exact abs_K I.kIn J o.at_ o.fn (run_in (us := [.ref a]) (vs := [.ref a]) F hr.in1 I.env0.in1 hb hx I (.cons rfl .nil) h)

/-- str(x) -/
theorem call_ownStr (o : Own X.K C "__str__" f) (F : FnOk X.prog X.w X.K X.mg X.base CX k f fd ps sp) (hr : Room (k + 2) X.A) (hb : Binds X.K fd ps []) (hx : Passes CX X E) :
    CallR X (.type "str") (fun xs H Q => ∃ x, xs = [x] ∧ rOwn1 C sp E x H (fun v H' => ∃ z, v = .str z ∧ Q (.str z) H')) := by
  intro pins s σ H xs us Q I r h
  obtain ⟨_, rfl, a, dx, fs, rfl, ea, h⟩ := h
  obtain ⟨u, rfl, rx⟩ := vals1 r
  cases (show u = Value.ref a from rx)
  obtain ⟨mA, O, _⟩ := ins_get I.hok ea
  obtain ⟨od, J, _⟩ := O.look
  refine PySem.W.kso_call hr.in1.in1.units0 I.kIn J o.at_ o.fn (wpAny_mono (run_in (us := [.ref a]) (vs := [.ref a]) F hr.in1.in1 I.env0.in1.in1 hb hx I (.cons rfl .nil) h) (fun u s' q => ?_) fun _ _ y => y)
  obtain ⟨v, H', I', rv, z, rfl, q⟩ := q
  obtain ⟨t, rfl⟩ := (show ∃ t, u = Value.str z t from rv)
  exact ⟨.str z, H', I', ⟨_, rfl⟩, q⟩

/-- truth of an instance by its own __bool__ -/
def rTruOwn (C : Addr) (sp : Sp) (E : XK) : V → Hp → (Bool → Hp → Prop) → Prop := fun x H Q => rOwn1 C sp E x H (fun v H' => ∃ b, v = .bl b ∧ Q b H')
theorem tru_own (o : Own X.K C "__bool__" f) (F : FnOk X.prog X.w X.K X.mg X.base CX k f fd ps sp) (hr : Room k X.A) (hb : Binds X.K fd ps []) (hx : Passes CX X E) : TruR X (rTruOwn C sp E) := by
  intro pins s σ H x v Q I rx h
  obtain ⟨a, dx, fs, rfl, ea, h⟩ := h
  cases (show v = Value.ref a from rx)
  obtain ⟨mA, O, _⟩ := ins_get I.hok ea
  obtain ⟨od, J, _⟩ := O.look
  obtain ⟨m, hF⟩ := I.fr
  refine PySem.W.truthy_K hF I.ok.mod.kin J o.at_ o.fn (wpAny_mono (run_in (us := [.ref a]) (vs := [.ref a]) F hr I.env0 hb hx I (.cons rfl .nil) h) (fun u s' q => ?_) fun _ _ y => y)
  obtain ⟨v, H', I', rv, z, rfl, q⟩ := q
  cases (show u = Value.bool z from rv)
  exact ⟨H', I', q⟩
/-- any expression whose test is its value's truth, by a TruR -/
theorem pt_tru {a : Expr} {ta : TE} {r : V → Hp → (Bool → Hp → Prop) → Prop} (ht : TruR X r) (ha : PE X a ta) (he : ∀ whole, isTrue a X.env whole = (do let v ← whole; standAt a.pos; holding [v] (truthy v))) :
    PT X a (fun σ H Q => ta σ H fun x H' => r x H' Q) := by
  refine ⟨fun pins s σ H Q I h => ?_⟩
  exact isTrue_plain (thn (ha.run pins s σ H _ I h) fun v s1 ⟨x, H1, I1, r1, q1⟩ => ht pins s1 σ H1 x v Q I1 r1 q1) (he _)

theorem looks_at {M : Model} {h : Heap} {a : Addr} {o : Obj} {c : Value} (ha : h.get? a = some o) (hc : o.cls = c) : PySem.W.Looks M h (typeOf (.ref a)) c := fun A Q E s k q => wpAny_typeOf_ref (k _ _ ha) (by rw [hc]; exact q)
theorem tyLooks {y : V} {u t : Value} (I : Inv X pins σ H s) (ry : RelV y u) (ty : TyOf X.K H y t) : PySem.W.Looks (model X.prog X.w) s.heap (typeOf u) t := by
  cases ty with
  | non => cases (show u = Value.none from ry); exact PySem.W.Looks.of_pure rfl
  | bl y => cases (show u = Value.bool y from ry); exact PySem.W.Looks.of_pure rfl
  | int i => obtain ⟨t, q⟩ := (show ∃ t, u = Value.int i t from ry); cases q; exact PySem.W.Looks.of_pure rfl
  | str y => obtain ⟨t, q⟩ := (show ∃ t, u = Value.str y t from ry); cases q; exact PySem.W.Looks.of_pure rfl
  | flt y => obtain ⟨t, q⟩ := (show ∃ t, u = Value.float y t from ry); cases q; exact PySem.W.Looks.of_pure rfl
  | @lst a xs ea =>
    cases (show u = Value.ref a from ry)
    obtain ⟨_, _, n, _, h1⟩ := (show ObjOk X.prog X.w H s.heap a (.lst xs) from I.hok a _ ea)
    exact looks_at h1 rfl
  | @frz a ob xs ea =>
    cases (show u = Value.ref a from ry)
    obtain ⟨_, _, _, n, _, h1⟩ := (show ObjOk X.prog X.w H s.heap a (.frz ob (.lst xs)) from I.hok a _ ea)
    exact looks_at h1 rfl
  | @tup a xs ea =>
    cases (show u = Value.ref a from ry)
    obtain ⟨_, _, _, p⟩ := (show ObjOk X.prog X.w H s.heap a (.tup xs) from I.hok a _ ea)
    obtain ⟨o, h1, h2, _⟩ := p
    exact looks_at h1 h2
  | @dK a kvs ea =>
    cases (show u = Value.ref a from ry)
    obtain ⟨_, _, vs, _, p⟩ := (show ObjOk X.prog X.w H s.heap a (.dK kvs) from I.hok a _ ea)
    obtain ⟨o, es, ep, h1, h2, _⟩ := p
    exact looks_at h1 h2.1
  | @dT a kvs ea =>
    cases (show u = Value.ref a from ry)
    obtain ⟨_, _, xs, _, o, es, ep, h1, h2, _⟩ := (show ObjOk X.prog X.w H s.heap a (.dT kvs) from I.hok a _ ea)
    exact looks_at h1 h2.1
  | @ins a C dx fs ea cl ha hn htk hm =>
    cases (show u = Value.ref a from ry)
    obtain ⟨mA, O, _⟩ := ins_get I.hok ea
    obtain ⟨od, J, _⟩ := O.look
    exact J.type

/-- a comparison, a call, .. by the class's own method of two, at an instance x of C and any y of a known type that is no class below C -/
def rOwn2 (K : PySem.W.Frag) (C : Addr) (sp : Sp) (E : XK) : R2 := fun x y H Q => ∃ a dx fs t, x = .ref a ∧ H a = some (.ins C dx fs) ∧ TyOf K H y t ∧ PySem.W.notFirst K C t = true ∧ sp [.ref a, y] H (fun v H' => ∃ b, v = .bl b ∧ Q (.bl b) H') E
theorem op_ownCmp {op : CmpOp} (o : Own X.K C (cmpInfo op).2.1 f) (F : FnOk X.prog X.w X.K X.mg X.base CX k f fd ps sp) (hr : Room k X.A) (hb : Binds X.K fd ps []) (hx : Passes CX X E)
    (hop : ∀ v u, compareOp op v u = richCompare op v u) : OpR X (compareOp op) (rOwn2 X.K C sp E) := by
  intro pins s σ H x y v u Q I rx ry h
  obtain ⟨a, dx, fs, t, rfl, ea, ty, nf, h⟩ := h
  cases (show v = Value.ref a from rx)
  obtain ⟨mA, O, _⟩ := ins_get I.hok ea
  obtain ⟨od, J, _⟩ := O.look
  obtain ⟨m, hF⟩ := I.fr
  rw [hop]
  refine PySem.W.cmp_K hr.units0 hF I.ok.mod.kin J (tyLooks I ry ty) nf o.at_ o.fn (wpAny_mono (run_in (us := [.ref a, u]) (vs := [.ref a, y]) F hr I.env0 hb hx I (.cons rfl (.cons ry .nil)) h) (fun u s' q => ?_) fun _ _ y => y)
  obtain ⟨v, H', I', rv, z, rfl, q⟩ := q
  cases (show u = Value.bool z from rv)
  exact ⟨.bl z, H', I', rfl, q⟩
theorem op_ownEq (o : Own X.K C "__eq__" f) (F : FnOk X.prog X.w X.K X.mg X.base CX k f fd ps sp) (hr : Room k X.A) (hb : Binds X.K fd ps []) (hx : Passes CX X E) : OpR X (compareOp .Eq) (rOwn2 X.K C sp E) :=
  op_ownCmp (op := .Eq) o F hr hb hx fun _ _ => rfl

theorem ifBoundB_K {M : Model} {A : Around} {E : Value → Shared → Prop} {s : Shared} {K : PySem.W.Frag} {x C : Addr} {ox : Obj} {od : Option Obj} {name : Str} {id : String} {args : List Value} {Q : Option Value → Shared → Prop} (X : K.In s.heap) (I : PySem.W.InstAt s.heap x ox C od) (hs : PySem.W.findIn K (.ref C) name = some (some (.builtin id)))
    (hb : ∀ self, bindSpecial (.builtin id) self = pure (.builtin id, [self])) (h : wpAny M A (call (.builtin id) (.ref x :: args)) (fun v => Q (some v)) E s) : wpAny M A (callSpecialIfBound? (.ref x) name args) Q E s := by
  simp only [callSpecialIfBound?, bindSpecialIfBound?]
  refine wpAny_holding (wpAny_bind (wpAny_bind (wpAny_bind (I.type.here ((PySem.W.looks_findIn X hs).here ?_)))))
  refine wpAny_bind (wpAny_askSetting (wpAny_ite ?_))
  have fin : wpAny M A (call (.builtin id) ([.ref x] ++ args) >>= fun v => pure (some v)) Q E s := wpAny_bind (wpAny_mono h (fun v s' h' => wpAny_pure h') fun _ _ h' => h')
  split
  · exact wpAny_bind ((PySem.W.Looks.of_pure (hb _)).here (wpAny_pure (by exact fin)))
  · exact wpAny_tryCatch (wpAny_bind ((PySem.W.Looks.of_pure (hb _)).here (wpAny_pure (by exact fin))))
theorem one_ne {prog : Program} {w : World} {A : Around} {E : Value → Shared → Prop} {s : Shared} {K : PySem.W.Frag} {x C f : Addr} {ox : Obj} {od : Option Obj} {b : Value} {Q : Value → Shared → Prop} (hu : A.units + 1 < cLine) (X : K.In s.heap) (I : PySem.W.InstAt s.heap x ox C od)
    (hs : PySem.W.findIn K (.ref C) "__eq__" = some (some (.ref f))) (hf : PySem.W.isFn K (.ref f) = true) (hne : PySem.W.findIn K (.ref C) "__ne__" = some (some (.builtin "object.__ne__"))) (hm : PySem.W.mroIn K C (.type "object") = some true)
    (h : wpAny (model prog w) A.in1 (call (.ref f) [.ref x, b]) (fun v s' => ∃ k, v = .bool k ∧ Q (.bool (!k)) s') E s) : wpAny (model prog w) A (tryCompare (.ref x) (cmpInfo .NotEq).2.1 b) (fun r s' => ∃ v, r = some v ∧ Q v s') E s := by
  unfold tryCompare
  refine wpAny_bind (ifBoundB_K X I hne PySem.F.slot_object_ne.bind (wpAny_call (codeAny_call_builtin PySem.F.slot_object_ne.plain PySem.F.entry_object_ne
    (PySem.W.check_slot (i := "object.__ne__") (owner := "object") (n := "__ne__") (by decide +kernel) (by decide +kernel) (I.type.andThen (PySem.W.looks_mroIn X hm)) (PySem.F.args_object_ne_2 _ _) ?_))))
  unfold Builtin.«object.__ne__»
  refine wpAny_bind (m := slotArgs "__ne__" 1 _) (wpAny_pure ?_)
  refine wpAny_bind (m := cRoomFor _ _) (wpAny_cRoomFor hu ?_)
  refine wpAny_bind (m := callSpecialIfBound? (.ref x) (Str.ofString "__eq__") _) (PySem.W.ifBound_K X I hs hf (wpAny_mono h (fun r s' hq => ?_) fun _ _ y => y))
  obtain ⟨k, rfl, q⟩ := hq
  dsimp only
  refine wpAny_bind (wpAny_truthy_bool ?_)
  exact wpAny_pure (wpAny_pure ⟨_, rfl, q⟩)

/-- != of an instance whose class has an own == and no own != -/
theorem ne_K {prog : Program} {w : World} {A : Around} {E : Value → Shared → Prop} {s : Shared} {K : PySem.W.Frag} {x C L f : Addr} {h₀ : Heap} {m : Str → Option Value} {ox : Obj} {od : Option Obj} {b tb : Value} {Q : Value → Shared → Prop} (hu : A.units + 1 < cLine) (F : Fr h₀ L s.heap m) (X₀ : K.In h₀) (I : PySem.W.InstAt s.heap x ox C od) (hb : PySem.W.Looks (model prog w) s.heap (typeOf b) tb) (hn : PySem.W.notFirst K C tb = true)
    (hs : PySem.W.findIn K (.ref C) "__eq__" = some (some (.ref f))) (hf : PySem.W.isFn K (.ref f) = true) (hne : PySem.W.findIn K (.ref C) "__ne__" = some (some (.builtin "object.__ne__"))) (hm : PySem.W.mroIn K C (.type "object") = some true)
    (h : wpAny (model prog w) A.in1 (call (.ref f) [.ref x, b]) (fun v s' => ∃ k, v = .bool k ∧ Q (.bool (!k)) s') E s) : wpAny (model prog w) A (richCompare .NotEq (.ref x) b) Q E s := by
  have X := X₀.keeps F.keep
  have one : wpAny (model prog w) A (tryCompare (.ref x) (cmpInfo .NotEq).2.1 b) (fun r s' => ∃ v, r = some v ∧ Q v s') E s := one_ne hu X I hs hf hne hm h
  unfold richCompare
  simp only [oneThing_ref]
  refine wpAny_holding (wpAny_bind (wpAny_cRoomFor (by omega) ?_))
  refine wpAny_bind (I.type.here (wpAny_bind (hb.here ?_)))
  split
  · rename_i q
    have e : PySem.W.subIn K tb (.ref C) = some false := by
      rcases Bool.or_eq_true_iff.mp hn with e | e
      · rw [beq_iff_eq.mp e] at q; simp at q
      · exact beq_iff_eq.mp e
    refine wpAny_bind ((PySem.W.looks_subIn X e).here ?_)
    simp only [Bool.false_eq_true, if_false]
    refine wpAny_bind (wpAny_mono one (fun r s' z => ?_) fun _ _ e => e)
    obtain ⟨v, rfl, hq⟩ := z
    exact wpAny_pure hq
  · refine wpAny_bind (wpAny_pure ?_)
    simp only [Bool.false_eq_true, if_false]
    refine wpAny_bind (wpAny_mono one (fun r s' z => ?_) fun _ _ e => e)
    obtain ⟨v, rfl, hq⟩ := z
    exact wpAny_pure hq
structure OwnNe (K : PySem.W.Frag) (C : Addr) : Prop where
  ne : PySem.W.findIn K (.ref C) "__ne__" = some (some (.builtin "object.__ne__"))
  mr : PySem.W.mroIn K C (.type "object") = some true
theorem op_ownNe (o : Own X.K C "__eq__" f) (on : OwnNe X.K C) (F : FnOk X.prog X.w X.K X.mg X.base CX k f fd ps sp) (hr : Room (k + 1) X.A) (hb : Binds X.K fd ps []) (hx : Passes CX X E) :
    OpR X (compareOp .NotEq) (fun x y H Q => rOwn2 X.K C sp E x y H (fun v H' => ∃ b, v = .bl b ∧ Q (.bl (!b)) H')) := by
  intro pins s σ H x y v u Q I rx ry h
  obtain ⟨a, dx, fs, t, rfl, ea, ty, nf, h⟩ := h
  cases (show v = Value.ref a from rx)
  obtain ⟨mA, O, _⟩ := ins_get I.hok ea
  obtain ⟨od, J, _⟩ := O.look
  obtain ⟨m, hF⟩ := I.fr
  show wpAny (model X.prog X.w) X.A (richCompare .NotEq (Value.ref a) u) _ _ _
  refine ne_K (by have := hr.un; omega) hF I.ok.mod.kin J (tyLooks I ry ty) nf o.at_ o.fn on.ne on.mr (wpAny_mono (run_in (us := [.ref a, u]) (vs := [.ref a, y]) F hr.in1 I.env0.in1 hb hx I (.cons rfl (.cons ry .nil)) h) (fun u s' q => ?_) fun _ _ y => y)
  obtain ⟨v, H', I', rv, z, rfl, b, hb, q⟩ := q
  cases hb
  cases (show u = Value.bool z from rv)
  exact ⟨z, rfl, .bl (!z), H', I', rfl, q⟩
end
end L3

/-! own exceptions, over any built-in error, whose __init__ keeps the one thing that it takes -/
namespace X1
open PySem PySem.W PySem.Calls PyProof.Rows Builtin Builtin.ObjectAttr
theorem osa_first {prog : Program} {w : World} {A : Around} {R : Result → Shared → Prop} {hp : Heap} {g : Array GenState} {d : Drawn} {t : Nat} {os : OsState} {K : Frag} {B : String} {bmB : List Value} {name : Str} {tk : Tok} {v : Value} {x C : Addr} {fv : Array Value}
    (SF : StoreFacts B bmB "object.__setattr__" "object") (X : K.In hp) (hx : hp.get? x = some { cls := .ref C, data := .fields fv }) (ho : excOver K C bmB = true) (hh : hasDictIn K C = true) (ha : findIn K (.ref C) name = some none)
    (hq : ∀ h' tk' dx, (∀ b o, b ≠ x → hp.get? b = some o → h'.get? b = some o) → hp.objs.size ≤ dx → dx ≠ x → h'.get? x = some { cls := .ref C, dict := some dx, data := .fields fv } →
      h'.Ns1 dx (fun y => if y = name then some v else none) → R (.ok (.ret .none)) ⟨h', g, d, tk', os⟩) :
    codeAny (model prog w) A (.call (.builtin "object.__setattr__") ⟨[.ref x, .str name tk, v], []⟩) R ⟨hp, g, d, t, os⟩ := by
  have hxs : x ≠ hp.objs.size := Nat.ne_of_lt (Heap.lt_size hx)
  obtain ⟨cd, hc, hd'⟩ := any_some hh
  have hcls : Looks (model prog w) hp (classData C) cd := looks_clsIn X hc
  refine osa_openX (s := ⟨hp, g, d, t, os⟩) (od := none) (r := none) SF X ⟨hx, rfl, rfl, trivial⟩ ho (by unfold takerIn; rw [ha]; rfl) fun b => ?_
  dsimp only
  obtain ⟨nm, bs, mro, ns, qn, hd, sn, sb, ab, col, del⟩ := cd
  dsimp only at hd'
  subst hd'
  unfold storeInOwnDict ownDictForStores
  repeat (first | with_reducible refine HandSPX.store_in_new ?_ ?_ | with_reducible refine wpAny_loadPart_at hx ?_ | with_reducible refine hcls.at ?_ | wp_step)
  · exact ⟨_, #[], _, (Heap.get?_update_ne _ _ _ _ hxs.symm).trans (Heap.get?_push_at rfl rfl), rfl, fun e he => absurd he (by simp), fun _ => rfl⟩
  · intro h' tk' hn' hs
    have hx₁ : (hp.push { cls := .type "dict", data := .dict #[] }).get? x = some { cls := .ref C, data := .fields fv } := Heap.get?_push_of_some _ hx
    refine hq h' tk' hp.objs.size (fun b o hb ho => ?_) (Nat.le_refl _) hxs.symm ?_ hn'
    · exact (hs.2 b (Nat.ne_of_lt (Heap.lt_size ho))).trans ((Heap.get?_update_ne _ _ _ _ hb).trans (Heap.get?_push_of_some _ ho))
    · exact (hs.2 x hxs).trans (Heap.get?_update_self _ hx₁ rfl)
theorem ldC {M : Model} {s : Shared} {name : Str} {scope : Scope} {L a : Addr} {cd : Value} {m : Str → Option Value} {x : Str} {pos : Pos} {v : Value} {Q : Value → Shared → Prop} {A : Around} {E : Value → Shared → Prop} (hn : s.heap.Ns L m) (hv : m x = some v) (h : Q v s)
    (hk : scope.kind = .function := by rfl) (hl : (envOfC name scope L a cd).kindOf x = some .local := by rfl) (hd : (x == ("__debug__" : Str)) = false := by decide) : wpAny M A (eval (.Name x pos) (envOfC name scope L a cd)) Q E s := wpAny_Name (wpAny_loadName_local hk hl hn hv h) hd
/-- what __init__ leaves of a new exception at x -/
structure InitEnd (f : Str) (h h' : Heap) (x C dx t1 : Addr) (v : Value) : Prop where
  keep : ∀ b o, b ≠ x → h.get? b = some o → h'.get? b = some o
  obj : h'.get? x = some { cls := .ref C, dict := some dx, data := .fields #[.ref t1, .none, .none, .none, .bool false, .none] }
  dbig : h.objs.size ≤ dx
  dne : dx ≠ x
  ns : h'.Ns1 dx (fun y => if y = f then some v else none)
/-- a made exception -/
structure Made (f : Str) (h h' : Heap) (e C d : Addr) (v : Value) : Prop where
  keep : ∀ b o, h.get? b = some o → h'.get? b = some o
  new : h.objs.size ≤ e
  obj : ∃ oe vs, h'.get? e = some oe ∧ oe.cls = .ref C ∧ oe.dict = some d ∧ oe.data = .fields vs ∧ vs[1]? = some .none
  dbig : h.objs.size ≤ d
  dne : d ≠ e
  ns : h'.Ns1 d (fun y => if y = f then some v else none)
end X1
namespace L3
open PySem PySem.Spec PyProof.Rows L2
theorem relO_one {g : Str} {v : V} {v' : Value} (r : RelV v v') (f : Str) : RelO (List.lookup f [((g : Str), v)]) (if f = g then some v' else none) := by
  by_cases hw : f = g
  · subst hw
    rw [if_pos rfl]
    have q : List.lookup f [((f : Str), v)] = some v := by simp [List.lookup]
    rw [q]
    exact r
  · rw [if_neg hw]
    have qw : (f == g) = false := by simpa using hw
    have q2 : List.lookup f [((g : Str), v)] = none := by simp [List.lookup, qw]
    rw [q2]
    trivial
/-- C(e): the error's own dict d is new and holds f -/
def tMkX (f : Str) (C : Addr) (ta : TA) : L2.St → Hp → XK → Prop := fun σ H Q => ta σ H fun vs H1 => ∃ v, vs = [v] ∧ ∀ d, H1 d = none → Q (.ref C) (some d) (upd H1 d (.xd [(f, v)]))
def tRaiseX (f : Str) (C : Addr) (W : WX) (ta : TA) : TS := fun _ σ H => tMkX f C ta σ H fun cls d H' => W cls d σ H'
def tFldX (f : Str) (C : Addr) (a : Addr) (cls : Value) (d : Option Addr) (te : TE) : TE := fun σ H Q => te σ H fun x H1 => x = .ref a ∧ cls = .ref C ∧ ∃ (dd : Addr) (v : V), d = some dd ∧ H1 dd = some (.xd [(f, v)]) ∧ Q v H1
section
variable {X : Cx} {C fI : Addr}
theorem mk_back {f : Str} {pins : List (Addr × Obj)} {σ : L2.St} {H1 : Hp} {Q : XK} {hp h' : Heap} {g : Array GenState} {dr : Drawn} {tk tk' : Nat} {os : OsState} {e d : Addr} {v : V} {v' : Value} (I1 : Inv X pins σ H1 ⟨hp, g, dr, tk, os⟩) (M : X1.Made f hp h' e C d v') (rv : RelV v v')
    (exC : PySem.W.subIn X.K (.ref C) (.type "BaseException") = some true) (tyC : PySem.W.typeIn X.K (.ref C) = some (.type "type")) (q : Q (.ref C) (some d) (upd H1 d (.xd [(f, v)]))) : MkP X pins σ Q (.ref e) ⟨h', g, dr, tk', os⟩ := by
  obtain ⟨oe, fv, hoe, hc, hd, hdat, h1⟩ := M.obj
  have hns := M.ns
  obtain ⟨G', g1, g2⟩ := restrict h' fun b => decide (b ≠ e)
  have gk : ∀ b, b ≠ e → G'.get? b = h'.get? b := fun b hb => g1 b (decide_eq_true hb)
  have ge : G'.get? e = none := g2 e (by simp)
  have old : ∀ b o, hp.get? b = some o → G'.get? b = some o := fun b o q => (gk b (Nat.ne_of_lt (Nat.lt_of_lt_of_le (Heap.lt_size q) M.new))).trans (M.keep b o q)
  have ob : ObjOk X.prog X.w (upd H1 d (.xd [(f, v)])) G' d (.xd [(f, v)]) := ⟨_, hns.at (fun o q => (gk d M.dne).trans q), fun y => relO_one rv y⟩
  have J : Inv X pins σ (upd H1 d (.xd [(f, v)])) ⟨G', g, dr, tk', os⟩ := I1.laid (t' := tk') old M.dbig ob
  refine ⟨e, oe, fv, ⟨G', g, dr, tk', os⟩, _, .ref C, some d, rfl, J, fun b o q => ?_, ge, hoe, ⟨hc, hd⟩, hdat, h1, ?_, rfl, I1.bare, raises_own exC tyC, q⟩
  · by_cases hb : b = e
    · have q' : G'.get? b = some o := q
      rw [hb, ge] at q'; cases q'
    · exact (gk b hb).symm.trans q
  · rw [upd_ne (Ne.symm M.dne)]
    exact I1.hok.fresh M.new
theorem fldX {f : Str} {a : Addr} {oe : Obj} {cls : Value} {d : Option Addr} {pn : List (Addr × Obj)} {e : Expr} {te : TE} {pos : Pos} (ga : PySem.W.findIn X.K (.ref C) "__getattribute__" = some (some (.builtin "BaseException.__getattribute__"))) (gg : PySem.W.findIn X.K (.ref C) "__getattr__" = some none)
    (exC : PySem.W.subIn X.K (.ref C) (.type "BaseException") = some true) (hdC : PySem.W.hasDictIn X.K C = true) (noN : PySem.W.findIn X.K (.ref C) f = some none) (hz : Zc cls d oe) (hf : ∃ vs, oe.data = .fields vs) (he : PE (X.suite a ((a, oe) :: pn)) e te)
    (hb : attributeBase e f X.env (eval e X.env) = eval e X.env) : PE (X.suite a ((a, oe) :: pn)) (.Attribute e f pos) (tFldX f C a cls d te) := by
  refine ⟨fun pins s σ H Q I h => ?_⟩
  refine attr_of hb (thn (he.run pins s σ H _ I h) fun u s1 hh => ?_)
  obtain ⟨x, H1, I1, rx, ex, ec, dd, v, ed, ea, q⟩ := hh
  subst ex
  obtain rfl : u = Value.ref a := rx
  subst ec
  subst ed
  obtain ⟨ha, _⟩ := I1.pin (a, oe) (List.mem_append_left _ List.mem_cons_self)
  obtain ⟨vs, hd⟩ := hf
  have hx : ObjOk X.prog X.w H1 s1.heap dd (.xd [(f, v)]) := I1.hok dd _ ea
  obtain ⟨mA, hns, hr⟩ := hx
  obtain ⟨od, ho, hl⟩ := lookIn_ns hns
  have l : List.lookup f [(f, v)] = some v := by simp [List.lookup]
  obtain ⟨u, hu, ru⟩ := RelO.some_of (v := v) (o := mA f) (by rw [← l]; exact hr f)
  have J : PySem.W.InstAt s1.heap a oe C (some od) := ⟨ha, hz.1, by unfold PySem.W.notCls; rw [hd] <;> rfl, by rw [hz.2]; exact ho⟩
  exact HandSPX.exc_get I1.kIn J ga gg exC (PySem.W.findObj_own hdC noN rfl (by rw [hl, hu])) (handed_of ru) ⟨v, H1, I1.tok _, ru, q⟩
end
end L3

namespace PySem
namespace XInvalidNumber
open PySem.W PySem.Calls PyProof.Rows PySem.HandSPX
def iA (p1 p2 : Pos) : Arguments := { posonlyargs := [], args := [{ arg := "self", annotation := none, pos := p1 }, { arg := "given", annotation := none, pos := p2 }], vararg := none, kwonlyargs := [], kw_defaults := [], kwarg := none, defaults := [] }
def iB (q1 q2 q3 q4 : Pos) : List Stmt := [.Assign [.Attribute (.Name "self" q1) "given" q2] (.Name "given" q3) q4]
def iS : Scope := { kind := .function, names := [(PySem.Str.ofString "self", .local), (PySem.Str.ofString "given", .local)], isGenerator := false, isCoroutine := false, more := [] }
structure Txt (K : Frag) (mg : Str → Option Value) (C fI : Addr) : Prop where
  gC : mg "InvalidNumber" = some (.ref C)
  ini : excInitIn K C [.type "IndexError", .type "LookupError", .type "Exception", .type "BaseException", .type "object"] "IndexError.__new__" = true
  ov : excOver K C [.type "IndexError", .type "LookupError", .type "Exception", .type "BaseException", .type "object"] = true
  sa : findIn K (.ref C) "__setattr__" = some (some (.builtin "object.__setattr__"))
  ga : findIn K (.ref C) "__getattribute__" = some (some (.builtin "BaseException.__getattribute__"))
  gg : findIn K (.ref C) "__getattr__" = some none
  noN : findIn K (.ref C) "given" = some none
  iC : findIn K (.ref C) "__init__" = some (some (.ref fI))
  tC : typeIn K (.ref fI) = some (.type "function")
  kC : keepIn K (.ref C) = true
  exC : subIn K (.ref C) (.type "BaseException") = some true
  tyC : typeIn K (.ref C) = some (.type "type")
  hdC : hasDictIn K C = true
  te : exmOne K (.ref C) (.ref C) = some true
  fn : ∃ (oc : Value) (od : Option Addr) (doc pm : Value) (an : Option Addr) (cdv ct : Value) (osl : Array (Option Value)) (p1 p2 q1 q2 q3 q4 : Pos),
    K.lookup fI = some ⟨oc, od, .func (fnOf "__init__" "InvalidNumber.__init__" (iA p1 p2) (iB q1 q2 q3 q4) iS .none .none doc pm an cdv ct), osl⟩ ∧ codeIn K cdv "InvalidNumber.__init__" = true
section
variable {prog : Program} {w : World} {A : Around} {E : Value → Shared → Prop} {R : Result → Shared → Prop} {s : Shared} {K : Frag} {mg : Str → Option Value} {C fI : Addr}
theorem init_run (T : Txt K mg C fI) {x t0 : Addr} {v : Value} (X : K.In s.heap) (hlim : s.heap.NoLimit) (hx : s.heap.get? x = some (excO C t0)) (hroom : A.depth < recursionLimit)
    (hq : ∀ h' tk dx, X1.InitEnd "given" s.heap h' x C dx t0 v → R (.ok (.ret .none)) { s with heap := h', toks := tk }) :
    codeAny (model prog w) A (.call (.ref fI) ⟨[.ref x, v], []⟩) R s := by
  obtain ⟨oc, od, doc, pm, an, cdv, ct, osl, p1, p2, q1, q2, q3, q4, ho, hcd⟩ := T.fn
  refine Att.call_fn (binds := [("self", .ref x), ("given", v)]) X hlim ho hcd hroom (BindsTo.of_eq (by first | rfl | with_unfolding_all rfl)) (by first | rfl | decide | with_unfolding_all rfl) (fun s₁ IC => ?_) rfl rfl rfl
  obtain ⟨h₁, tk₁, rfl⟩ := IC.toInCall.same
  have k : ∀ b o, s.heap.get? b = some o → h₁.get? b = some o := IC.toInCall.keep
  have hn := IC.toInCall.ns
  have X₁ : K.In h₁ := X.keeps k
  have hx₁ := k _ _ hx
  show wpAny _ _ (execs _ _) _ _ _
  refine wpAny_execs_cons (plainObj_wpAny_Assign_Attribute ?_)
  refine X1.ldC (v := v) hn (by first | rfl | with_unfolding_all rfl | kernel_rfl) (X1.ldC (v := .ref x) hn (by first | rfl | with_unfolding_all rfl | kernel_rfl) ?_)
  refine set_plain X₁ (ox := excO C t0) (od := none) ⟨hx₁, rfl, rfl, trivial⟩ T.sa ?_
  refine X1.osa_first PySem.F.store_IndexError X₁ hx₁ T.ov T.hdC T.noN (fun h₃ tk₃ dx k₃ dn dne hx₃ hn₃ => ?_)
  show wpAny _ _ (execs _ _) _ _ _
  have z : s.heap.objs.size < h₁.objs.size := hn.lt
  exact wpAny_execs_nil (hq h₃ tk₃ dx ⟨fun b o hb e => k₃ b o hb (k b o e), hx₃, Nat.le_of_lt (Nat.lt_of_lt_of_le z dn), dne, hn₃⟩)
theorem made (T : Txt K mg C fI) {v : Value} (X : K.In s.heap) (hlim : s.heap.NoLimit) (hroom : A.depth + 1 < recursionLimit)
    (hq : ∀ h' tk e d, X1.Made "given" s.heap h' e C d v → R (.ok (.ret (.ref e))) { s with heap := h', toks := tk }) :
    codeAny (model prog w) A (.call (.ref C) ⟨[v], []⟩) R s := by
  obtain ⟨nm, N, q, bs, bm, hdct, sn, sub, ab, col, dd, k0, k1, k2, k3, k5, hC, hbm⟩ := excInit_of X T.ini
  obtain ⟨hp, g, dr, tk, os⟩ := s
  have k : ∀ b o, hp.get? b = some o → ((hp.push (kdv_tup [v])).push (excO C hp.objs.size)).get? b = some o := fun b o e => Heap.get?_push_of_some _ (Heap.get?_push_of_some _ e)
  have hget : ((hp.push (kdv_tup [v])).push (excO C hp.objs.size)).get? (hp.objs.size + 1) = some (excO C hp.objs.size) := by heap_get
  refine call_own PySem.F.excBase_IndexError hbm hC (looks_findIn X T.iC) (fun self => bind_fn X self T.tC) (by rw [sizeLine_eq]; exact (by decide : 1 ≤ 16777216)) ?_
  refine init_run (s := ⟨(hp.push (kdv_tup [v])).push (excO C hp.objs.size), g, dr, tk, os⟩) T (X.keeps k) (hlim.keeps k) hget ?_ fun h' tk' dx ⟨k', hx, dn, dne, hns⟩ => ?_
  · show A.depth + 1 < recursionLimit
    exact hroom
  · have old : ∀ b o, hp.get? b = some o → h'.get? b = some o := fun b o e => k' b o (Nat.ne_of_lt (Nat.lt_succ_of_lt (Heap.lt_size e))) (k b o e)
    have z : hp.objs.size + 1 + 1 ≤ dx := by
      first
        | (simpa only [Heap.size_push] using dn)
        | exact dn
        | (have q := dn; rw [Heap.size_push, Heap.size_push] at q; exact q)
    exact ⟨rfl, hq h' tk' (hp.objs.size + 1) dx ⟨old, Nat.le_succ _, ⟨_, _, hx, rfl, rfl, rfl, rfl⟩, Nat.le_trans (Nat.le_trans (Nat.le_succ _) (Nat.le_succ _)) z, dne, hns⟩⟩
end
end XInvalidNumber
end PySem
namespace L3
open PySem PySem.Spec PyProof.Rows L2
section
variable {X : Cx} {C fI : Addr}
theorem pmk_InvalidNumber {a : Expr} {ta : TA} {p pos : Pos} {k : Nat} (T : PySem.XInvalidNumber.Txt X.K X.mg C fI) (hr : Room k X.A) (ha : PA X [a] ta) (hg : Gl X "InvalidNumber" := by rfl)
    (he : starEach (a :: []) X.env = (false, eval a X.env) :: starEach [] X.env := by rfl) (hpl : (backTo pos (starEach [] X.env)).any (·.1) = false := by rfl) :
    PMk X (.Call (.Name "InvalidNumber" p) [a] [] pos) (tMkX "given" C ta) := by
  intro pins s σ H Q I h
  refine wpAny_Call_Name_kw (ld_glob I hg T.gC ?_)
  refine PySem.W.callWith_K (h₀ := X.base) I.ok.mod.kin T.kC (thn (ha.run pos pins s σ H _ I h) fun us s1 hh => ?_) he hpl
  obtain ⟨vs, H1, I1, r1, v, ev, q1⟩ := hh
  subst ev
  refine ⟨I1.kIn, ?_⟩
  cases r1 with
  | cons rv rn =>
    rename_i v' us'
    cases rn
    show wpAny _ _ (call (.ref C) [v']) _ _ _
    have hlim := I1.nolimit
    obtain ⟨hp, g, dr, tk, os⟩ := s1
    refine wpAny_call (PySem.XInvalidNumber.made T I1.kIn hlim (by have := hr.dp; omega) fun h' tk' e d M => ?_)
    exact mk_back I1 M rv T.exC T.tyC (q1 d (I1.hok.fresh M.dbig))
theorem ps_raiseInvalidNumber {a : Expr} {ta : TA} {W : WX} {p pos pos2 : Pos} {k : Nat} (hc : X.calm = true) (T : PySem.XInvalidNumber.Txt X.K X.mg C fI) (hr : Room k X.A) (tk : Takes X W) (ha : PA X [a] ta) (hg : Gl X "InvalidNumber" := by rfl)
    (he : starEach (a :: []) X.env = (false, eval a X.env) :: starEach [] X.env := by rfl) (hpl : (backTo pos (starEach [] X.env)).any (·.1) = false := by rfl) :
    PS X (.Raise (some (.Call (.Name "InvalidNumber" p) [a] [] pos)) none pos2) (tRaiseX "given" C W ta) := ps_raise hc tk (pmk_InvalidNumber T hr ha hg he hpl)
theorem pe_fldInvalidNumber {a : Addr} {oe : Obj} {cls : Value} {d : Option Addr} {pn : List (Addr × Obj)} {e : Expr} {te : TE} {pos : Pos} (T : PySem.XInvalidNumber.Txt X.K X.mg C fI) (hz : Zc cls d oe) (hf : ∃ vs, oe.data = .fields vs) (he : PE (X.suite a ((a, oe) :: pn)) e te)
    (hb : attributeBase e "given" X.env (eval e X.env) = eval e X.env := by rfl) :
    PE (X.suite a ((a, oe) :: pn)) (.Attribute e "given" pos) (tFldX "given" C a cls d te) := fldX T.ga T.gg T.exC T.hdC T.noN hz hf he hb
end
end L3

namespace PySem
namespace XTooMany
open PySem.W PySem.Calls PyProof.Rows PySem.HandSPX
def iA (p1 p2 : Pos) : Arguments := { posonlyargs := [], args := [{ arg := "self", annotation := none, pos := p1 }, { arg := "limit", annotation := none, pos := p2 }], vararg := none, kwonlyargs := [], kw_defaults := [], kwarg := none, defaults := [] }
def iB (q1 q2 q3 q4 : Pos) : List Stmt := [.Assign [.Attribute (.Name "self" q1) "limit" q2] (.Name "limit" q3) q4]
def iS : Scope := { kind := .function, names := [(PySem.Str.ofString "self", .local), (PySem.Str.ofString "limit", .local)], isGenerator := false, isCoroutine := false, more := [] }
structure Txt (K : Frag) (mg : Str → Option Value) (C fI : Addr) : Prop where
  gC : mg "TooMany" = some (.ref C)
  ini : excInitIn K C [.type "OverflowError", .type "ArithmeticError", .type "Exception", .type "BaseException", .type "object"] "OverflowError.__new__" = true
  ov : excOver K C [.type "OverflowError", .type "ArithmeticError", .type "Exception", .type "BaseException", .type "object"] = true
  sa : findIn K (.ref C) "__setattr__" = some (some (.builtin "object.__setattr__"))
  ga : findIn K (.ref C) "__getattribute__" = some (some (.builtin "BaseException.__getattribute__"))
  gg : findIn K (.ref C) "__getattr__" = some none
  noN : findIn K (.ref C) "limit" = some none
  iC : findIn K (.ref C) "__init__" = some (some (.ref fI))
  tC : typeIn K (.ref fI) = some (.type "function")
  kC : keepIn K (.ref C) = true
  exC : subIn K (.ref C) (.type "BaseException") = some true
  tyC : typeIn K (.ref C) = some (.type "type")
  hdC : hasDictIn K C = true
  te : exmOne K (.ref C) (.ref C) = some true
  fn : ∃ (oc : Value) (od : Option Addr) (doc pm : Value) (an : Option Addr) (cdv ct : Value) (osl : Array (Option Value)) (p1 p2 q1 q2 q3 q4 : Pos),
    K.lookup fI = some ⟨oc, od, .func (fnOf "__init__" "TooMany.__init__" (iA p1 p2) (iB q1 q2 q3 q4) iS .none .none doc pm an cdv ct), osl⟩ ∧ codeIn K cdv "TooMany.__init__" = true
section
variable {prog : Program} {w : World} {A : Around} {E : Value → Shared → Prop} {R : Result → Shared → Prop} {s : Shared} {K : Frag} {mg : Str → Option Value} {C fI : Addr}
theorem init_run (T : Txt K mg C fI) {x t0 : Addr} {v : Value} (X : K.In s.heap) (hlim : s.heap.NoLimit) (hx : s.heap.get? x = some (excO C t0)) (hroom : A.depth < recursionLimit)
    (hq : ∀ h' tk dx, X1.InitEnd "limit" s.heap h' x C dx t0 v → R (.ok (.ret .none)) { s with heap := h', toks := tk }) :
    codeAny (model prog w) A (.call (.ref fI) ⟨[.ref x, v], []⟩) R s := by
  obtain ⟨oc, od, doc, pm, an, cdv, ct, osl, p1, p2, q1, q2, q3, q4, ho, hcd⟩ := T.fn
  refine Att.call_fn (binds := [("self", .ref x), ("limit", v)]) X hlim ho hcd hroom (BindsTo.of_eq (by first | rfl | with_unfolding_all rfl)) (by first | rfl | decide | with_unfolding_all rfl) (fun s₁ IC => ?_) rfl rfl rfl
  obtain ⟨h₁, tk₁, rfl⟩ := IC.toInCall.same
  have k : ∀ b o, s.heap.get? b = some o → h₁.get? b = some o := IC.toInCall.keep
  have hn := IC.toInCall.ns
  have X₁ : K.In h₁ := X.keeps k
  have hx₁ := k _ _ hx
  show wpAny _ _ (execs _ _) _ _ _
  refine wpAny_execs_cons (plainObj_wpAny_Assign_Attribute ?_)
  refine X1.ldC (v := v) hn (by first | rfl | with_unfolding_all rfl | kernel_rfl) (X1.ldC (v := .ref x) hn (by first | rfl | with_unfolding_all rfl | kernel_rfl) ?_)
  refine set_plain X₁ (ox := excO C t0) (od := none) ⟨hx₁, rfl, rfl, trivial⟩ T.sa ?_
  refine X1.osa_first PySem.F.store_OverflowError X₁ hx₁ T.ov T.hdC T.noN (fun h₃ tk₃ dx k₃ dn dne hx₃ hn₃ => ?_)
  show wpAny _ _ (execs _ _) _ _ _
  have z : s.heap.objs.size < h₁.objs.size := hn.lt
  exact wpAny_execs_nil (hq h₃ tk₃ dx ⟨fun b o hb e => k₃ b o hb (k b o e), hx₃, Nat.le_of_lt (Nat.lt_of_lt_of_le z dn), dne, hn₃⟩)
theorem made (T : Txt K mg C fI) {v : Value} (X : K.In s.heap) (hlim : s.heap.NoLimit) (hroom : A.depth + 1 < recursionLimit)
    (hq : ∀ h' tk e d, X1.Made "limit" s.heap h' e C d v → R (.ok (.ret (.ref e))) { s with heap := h', toks := tk }) :
    codeAny (model prog w) A (.call (.ref C) ⟨[v], []⟩) R s := by
  obtain ⟨nm, N, q, bs, bm, hdct, sn, sub, ab, col, dd, k0, k1, k2, k3, k5, hC, hbm⟩ := excInit_of X T.ini
  obtain ⟨hp, g, dr, tk, os⟩ := s
  have k : ∀ b o, hp.get? b = some o → ((hp.push (kdv_tup [v])).push (excO C hp.objs.size)).get? b = some o := fun b o e => Heap.get?_push_of_some _ (Heap.get?_push_of_some _ e)
  have hget : ((hp.push (kdv_tup [v])).push (excO C hp.objs.size)).get? (hp.objs.size + 1) = some (excO C hp.objs.size) := by heap_get
  refine call_own PySem.F.excBase_OverflowError hbm hC (looks_findIn X T.iC) (fun self => bind_fn X self T.tC) (by rw [sizeLine_eq]; exact (by decide : 1 ≤ 16777216)) ?_
  refine init_run (s := ⟨(hp.push (kdv_tup [v])).push (excO C hp.objs.size), g, dr, tk, os⟩) T (X.keeps k) (hlim.keeps k) hget ?_ fun h' tk' dx ⟨k', hx, dn, dne, hns⟩ => ?_
  · show A.depth + 1 < recursionLimit
    exact hroom
  · have old : ∀ b o, hp.get? b = some o → h'.get? b = some o := fun b o e => k' b o (Nat.ne_of_lt (Nat.lt_succ_of_lt (Heap.lt_size e))) (k b o e)
    have z : hp.objs.size + 1 + 1 ≤ dx := by
      first
        | (simpa only [Heap.size_push] using dn)
        | exact dn
        | (have q := dn; rw [Heap.size_push, Heap.size_push] at q; exact q)
    exact ⟨rfl, hq h' tk' (hp.objs.size + 1) dx ⟨old, Nat.le_succ _, ⟨_, _, hx, rfl, rfl, rfl, rfl⟩, Nat.le_trans (Nat.le_trans (Nat.le_succ _) (Nat.le_succ _)) z, dne, hns⟩⟩
end
end XTooMany
end PySem
namespace L3
open PySem PySem.Spec PyProof.Rows L2
section
variable {X : Cx} {C fI : Addr}
theorem pmk_TooMany {a : Expr} {ta : TA} {p pos : Pos} {k : Nat} (T : PySem.XTooMany.Txt X.K X.mg C fI) (hr : Room k X.A) (ha : PA X [a] ta) (hg : Gl X "TooMany" := by rfl)
    (he : starEach (a :: []) X.env = (false, eval a X.env) :: starEach [] X.env := by rfl) (hpl : (backTo pos (starEach [] X.env)).any (·.1) = false := by rfl) :
    PMk X (.Call (.Name "TooMany" p) [a] [] pos) (tMkX "limit" C ta) := by
  intro pins s σ H Q I h
  refine wpAny_Call_Name_kw (ld_glob I hg T.gC ?_)
  refine PySem.W.callWith_K (h₀ := X.base) I.ok.mod.kin T.kC (thn (ha.run pos pins s σ H _ I h) fun us s1 hh => ?_) he hpl
  obtain ⟨vs, H1, I1, r1, v, ev, q1⟩ := hh
  subst ev
  refine ⟨I1.kIn, ?_⟩
  cases r1 with
  | cons rv rn =>
    rename_i v' us'
    cases rn
    show wpAny _ _ (call (.ref C) [v']) _ _ _
    have hlim := I1.nolimit
    obtain ⟨hp, g, dr, tk, os⟩ := s1
    refine wpAny_call (PySem.XTooMany.made T I1.kIn hlim (by have := hr.dp; omega) fun h' tk' e d M => ?_)
    exact mk_back I1 M rv T.exC T.tyC (q1 d (I1.hok.fresh M.dbig))
theorem ps_raiseTooMany {a : Expr} {ta : TA} {W : WX} {p pos pos2 : Pos} {k : Nat} (hc : X.calm = true) (T : PySem.XTooMany.Txt X.K X.mg C fI) (hr : Room k X.A) (tk : Takes X W) (ha : PA X [a] ta) (hg : Gl X "TooMany" := by rfl)
    (he : starEach (a :: []) X.env = (false, eval a X.env) :: starEach [] X.env := by rfl) (hpl : (backTo pos (starEach [] X.env)).any (·.1) = false := by rfl) :
    PS X (.Raise (some (.Call (.Name "TooMany" p) [a] [] pos)) none pos2) (tRaiseX "limit" C W ta) := ps_raise hc tk (pmk_TooMany T hr ha hg he hpl)
theorem pe_fldTooMany {a : Addr} {oe : Obj} {cls : Value} {d : Option Addr} {pn : List (Addr × Obj)} {e : Expr} {te : TE} {pos : Pos} (T : PySem.XTooMany.Txt X.K X.mg C fI) (hz : Zc cls d oe) (hf : ∃ vs, oe.data = .fields vs) (he : PE (X.suite a ((a, oe) :: pn)) e te)
    (hb : attributeBase e "limit" X.env (eval e X.env) = eval e X.env := by rfl) :
    PE (X.suite a ((a, oe) :: pn)) (.Attribute e "limit" pos) (tFldX "limit" C a cls d te) := fldX T.ga T.gg T.exC T.hdC T.noN hz hf he hb
end
end L3

/-! several except clauses, with and without a name -/
namespace L3
open PySem PySem.Spec PyProof.Rows L2
abbrev Suite := Addr → Value → Option Addr → TS
def offAt (i : Nat) (D : Ends) : Ends := { nx := fun σ' H' => D.nx (σ'.set i none) H', rt := D.rt, bk := fun σ' H' => D.bk (σ'.set i none) H', ct := fun σ' H' => D.ct (σ'.set i none) H' }
def wMix (K : PySem.W.Frag) (Wout : WX) (D : Ends) : List (Value × Option Nat × Suite) → WX
  | [] => Wout
  | (c, none, ts) :: r => fun cls d σ H => ∃ b, PySem.W.exmOne K cls c = some b ∧ (b = true → ∀ a, H a = none → ts a cls d D σ H) ∧ (b = false → wMix K Wout D r cls d σ H)
  | (c, some i, ts) :: r => fun cls d σ H => ∃ b, PySem.W.exmOne K cls c = some b ∧ (b = true → ∀ a, H a = none → ts a cls d (offAt i D) (σ.set i (some (.ref a))) H) ∧ (b = false → wMix K Wout D r cls d σ H)
inductive Hds (X : Cx) : List ExceptHandler → List (Value × Option Nat × Suite) → Prop
  | nil : Hds X [] []
  | plain {x : Str} {c : Value} {ts : Suite} {b₀ : Stmt} {suite : List Stmt} {np p : Pos} {hds : List ExceptHandler} {l : List (Value × Option Nat × Suite)} (hc : Names X x c)
      (hsu : ∀ (a : Addr) (oe : Obj) (cls : Value) (d : Option Addr) (pn : List (Addr × Obj)), Zc cls d oe → (∃ vs, oe.data = .fields vs) → PSs (X.suite a ((a, oe) :: pn)) (b₀ :: suite) (ts a cls d)) (r : Hds X hds l) :
      Hds X (.ExceptHandler (some (.Name x np)) none (b₀ :: suite) p :: hds) ((c, none, ts) :: l)
  | named {x n : Str} {i : Nat} {c : Value} {ts : Suite} {b₀ : Stmt} {suite : List Stmt} {np p : Pos} {hds : List ExceptHandler} {l : List (Value × Option Nat × Suite)} (hi : X.N[i]? = some n) (hln : X.env.kindOf n = some .local) (hc : Names X x c)
      (hsu : ∀ (a : Addr) (oe : Obj) (cls : Value) (d : Option Addr) (pn : List (Addr × Obj)), Zc cls d oe → (∃ vs, oe.data = .fields vs) → PSs (X.suite a ((a, oe) :: pn)) (b₀ :: suite) (ts a cls d)) (r : Hds X hds l) :
      Hds X (.ExceptHandler (some (.Name x np)) (some n) (b₀ :: suite) p :: hds) ((c, some i, ts) :: l)

section
variable {X : Cx} {Wout : WX}
/-- an exception that has landed in the frame: what the clauses may use -/
structure Landed (X : Cx) (pins : List (Addr × Obj)) (σ : L2.St) (H : Hp) (B : Heap) (a : Addr) (cls : Value) (d : Option Addr) (sI s' : Shared) (h3 : Heap) : Prop where
  J : Inv X pins σ H sI
  nb : ∀ b o, sI.heap.get? b = some o → b ∉ frs X.stack → B.get? b = some o
  up : sI.heap.UpToSlots h3
  os : s'.os = sI.os
  ag : AllBare s'.gens
  na : H a = none
  fl : HandSPX.FlyingZ B (X.env :: X.outer) a (Zc cls d) h3
theorem Landed.inv {pins : List (Addr × Obj)} {σ : L2.St} {H : Hp} {B : Heap} {a : Addr} {cls : Value} {d : Option Addr} {sI s' : Shared} {h3 : Heap} (L : Landed X pins σ H B a cls d sI s' h3) : Inv X pins σ H { s' with heap := h3 } :=
  L.J.landed L.nb L.fl.1 L.up L.os L.ag
/-- the error's object is none of the frames -/
theorem Landed.apart {pins : List (Addr × Obj)} {σ : L2.St} {H : Hp} {B : Heap} {a : Addr} {cls : Value} {d : Option Addr} {sI s' : Shared} {h3 : Heap} (L : Landed X pins σ H B a cls d sI s' h3) (hf : X.env.frame = some X.env.locals) :
    ∃ oe vs, h3.get? a = some oe ∧ Zc cls d oe ∧ oe.data = .fields vs ∧ a ≠ X.env.locals ∧ a ∉ X.fs := by
  obtain ⟨oe, vs, he, hz, hd⟩ := L.fl.there
  have nfr : a ∉ frs (X.env :: X.outer) := fun hm => by
    obtain ⟨_, o', e', hnf⟩ := L.fl.2.2.1.mem hm
    rw [he] at e'; cases e'
    exact hnf _ hd
  refine ⟨oe, vs, he, hz, hd, fun z => nfr (List.mem_filterMap.mpr ⟨X.env, List.mem_cons_self, by rw [hf, z]⟩), fun hm => ?_⟩
  obtain ⟨e, he, q⟩ := List.mem_filterMap.mp hm
  exact nfr (List.mem_filterMap.mpr ⟨e, List.mem_cons_of_mem _ he, q⟩)
theorem handle_mix (hs : X.stack = X.env :: X.outer) (hf : X.env.frame = some X.env.locals) (hN : X.N.Nodup) (tk : Takes X Wout) (ok : X.Ok) {pins : List (Addr × Obj)} {σ : L2.St} {H : Hp} {B : Heap} {a : Addr} {cls : Value} {d : Option Addr} {sI s' : Shared} {h3 : Heap} {D : Ends}
    (L : Landed X pins σ H B a cls d sI s' h3) : ∀ {hds : List ExceptHandler} {l : List (Value × Option Nat × Suite)}, Hds X hds l → wMix X.K Wout D l cls d σ H →
    wpAny (model X.prog X.w) X.A (handleBy (.ref a) X.env hds) (SP X pins D) X.xe { s' with heap := h3 } := by
  obtain ⟨oe3, vs3, he3, hz3, hd3, nL, nF⟩ := L.apart hf
  have J3 := L.inv
  have S3 := J3.suite he3 hd3 L.na nL nF
  have LT : PySem.W.Looks (model X.prog X.w) h3 (typeOf (.ref a)) cls := fun A Q E s k q => wpAny_typeOf_ref (k _ _ he3) (by rw [hz3.1]; exact q)
  have test : ∀ {x : Str} {c : Value} {np : Pos}, Names X x c → ∀ {Q : Value → Shared → Prop} {E : Value → Shared → Prop}, Q c { s' with heap := h3 } → wpAny (model X.prog X.w) (X.A.mark (some (.ref a))) (eval (.Name x np) X.env) Q E { s' with heap := h3 } := fun {x c np} hc {Q E} q => by
    obtain ⟨hg, hdbg, hm | ⟨hm, hv, hnn⟩⟩ := hc
    · exact ld_glob (X := X.suite a ((a, oe3) :: (X.pn ++ pins))) S3 hg hm q hdbg
    · exact ld_blt (X := X.suite a ((a, oe3) :: (X.pn ++ pins))) S3 hg hm hv q hnn hdbg
  intro hds l hk
  induction hk with
  | nil =>
    intro w
    refine wpAny_handleBy_nil ?_
    obtain ⟨_, _, _, oe, vs, T, oT, _, he, _, hd, h1, _⟩ := id L.fl
    unfold PySem.passOn
    refine wpAny_bind (wpAny_field he hd h1 ?_)
    rw [if_neg (show ¬ ((Value.ref T == Value.none) = true) from by simp)]
    have fin : wpAny (model X.prog X.w) X.A (setFlight (.ref a) X.env.frame) (fun _ s4 => wpAny (model X.prog X.w) X.A (throw (.ref a) : Sem Flow) (SP X pins D) X.xe s4) X.xe { s' with heap := h3 } := by
      rw [hf]
      refine HandSPX.setFlight_upZ L.fl fun h4 hh4 up4 => wpAny_throw (tk _ _ ?_)
      exact ⟨a, B, sI, pins, σ, H, cls, d, rfl, L.J, L.nb, L.up.trans up4, .inr (.inr (by rw [hs]; exact hh4)), L.na, L.os, L.ag, w⟩
    first
      | exact wpAny_bind (wpAny_pure (wpAny_bind fin))
      | exact wpAny_bind fin
  | @plain x c ts b₀ suite np p hds2 l2 hc hsu r ih =>
    rintro ⟨b, hb1, hyes, hno⟩
    refine wpAny_handleBy_cons (codeAny_handlers_test ?_) (by intro q; cases q)
    refine test hc ((PySem.W.exm_one (M := model X.prog X.w) J3.kIn LT hb1).here ?_)
    cases b with
    | true =>
      refine codeAny_handlers_suite ?_
      refine HandSPX.lands_againZ L.fl fun h4 fl4 up4 => ?_
      have L4 : Landed X pins σ H B a cls d sI s' h4 := ⟨L.J, L.nb, L.up.trans up4, L.os, L.ag, L.na, fl4⟩
      obtain ⟨oe4, vs4, he4, hz4, hd4, _, _⟩ := L4.apart hf
      refine wpAny_mono ((hsu a oe4 cls d (X.pn ++ pins) hz4 ⟨_, hd4⟩).run [] _ _ H _ (L4.inv.suite he4 hd4 L.na nL nF) (hyes rfl a L.na)) (fun f s6 hsp => ?_) (fun _ _ z => False.elim z)
      cases f with
      | ret u => obtain ⟨v6, σ6, H6, S6, r6, q6⟩ := hsp; exact ⟨_, _, _, S6.unsuite ok, r6, q6⟩
      | next => obtain ⟨σ6, H6, S6, q6⟩ := hsp; exact ⟨_, _, S6.unsuite ok, q6⟩
      | brk => obtain ⟨σ6, H6, S6, q6⟩ := hsp; exact ⟨_, _, S6.unsuite ok, q6⟩
      | cont => obtain ⟨σ6, H6, S6, q6⟩ := hsp; exact ⟨_, _, S6.unsuite ok, q6⟩
    | false =>
      show wpAny _ X.A (handleBy (.ref a) X.env hds2) _ _ _
      exact ih (hno rfl)
  | @named x n i c ts b₀ suite np p hds2 l2 hi hln hc hsu r ih =>
    rintro ⟨b, hb1, hyes, hno⟩
    refine wpAny_handleBy_cons (codeAny_handlers_test ?_) (by intro q; cases q)
    refine test hc ((PySem.W.exm_one (M := model X.prog X.w) J3.kIn LT hb1).here ?_)
    cases b with
    | true =>
      refine codeAny_handlers_suite_as ?_
      refine HandSPX.lands_againZ L.fl fun h4 fl4 up4 => ?_
      have L4 : Landed X pins σ H B a cls d sI s' h4 := ⟨L.J, L.nb, L.up.trans up4, L.os, L.ag, L.na, fl4⟩
      obtain ⟨oe4, vs4, he4, hz4, hd4, _, _⟩ := L4.apart hf
      refine store_ok (X := X.suite a ((a, oe4) :: (X.pn ++ pins))) (v := .ref a) (L4.inv.suite he4 hd4 L.na nL nF) hN hi (.inl hln) rfl (fun s5 S5 => ?_) (.inr hln)
      refine wpAny_mono ((hsu a oe4 cls d (X.pn ++ pins) hz4 ⟨_, hd4⟩).run [] s5 _ H _ S5 (hyes rfl a L.na)) (fun f s6 hsp => ?_) (fun _ _ z => False.elim z)
      cases f with
      | ret u => obtain ⟨v6, σ6, H6, S6, r6, q6⟩ := hsp; exact gone_ok (S6.unsuite ok) hN hi hln fun s7 J7 => ⟨_, _, _, J7, r6, q6⟩
      | next => obtain ⟨σ6, H6, S6, q6⟩ := hsp; exact gone_ok (S6.unsuite ok) hN hi hln fun s7 J7 => ⟨_, _, J7, q6⟩
      | brk => obtain ⟨σ6, H6, S6, q6⟩ := hsp; exact gone_ok (S6.unsuite ok) hN hi hln fun s7 J7 => ⟨_, _, J7, q6⟩
      | cont => obtain ⟨σ6, H6, S6, q6⟩ := hsp; exact gone_ok (S6.unsuite ok) hN hi hln fun s7 J7 => ⟨_, _, J7, q6⟩
    | false =>
      show wpAny _ X.A (handleBy (.ref a) X.env hds2) _ _ _
      exact ih (hno rfl)
theorem ps_try_mix {body : List Stmt} {h₀ : ExceptHandler} {hds : List ExceptHandler} {l : List (Value × Option Nat × Suite)} {pos : Pos} {tb : WX → TS} (hs : X.stack = X.env :: X.outer) (hf : X.env.frame = some X.env.locals) (hN : X.N.Nodup) (tk : Takes X Wout)
    (hb : ∀ (W : WX) (pn : List (Addr × Obj)) (xe : Value → Shared → Prop), Takes (X.tr pn xe) W → PassesOwn (model X.prog X.w) X.A X.env xe → PSs (X.tr pn xe) body (tb W))
    (hh : Hds X (h₀ :: hds) l) : PS X (.Try body (h₀ :: hds) [] [] pos) (fun D σ H => tb (wMix X.K Wout D l) D σ H) := by
  refine ⟨fun pins s σ H D I h => ?_⟩
  have ok := I.ok
  have hfr : X.A.frames = some (X.env :: X.outer) := by rw [ok.frames, hs]
  refine wpAny_Try_except ?_
  refine wpAny_mono ((hb (wMix X.K Wout D l) (X.pn ++ pins) (fun e s₁ => wpAny (model X.prog X.w) X.A (noteFrame e X.env) (fun _ s₂ => wpAny (model X.prog X.w) X.A (setFlight e none) (fun _ s₃ =>
    wpAny (model X.prog X.w) X.A (handleBy e X.env (h₀ :: hds)) (SP X pins D) X.xe s₃) X.xe s₂) X.xe s₁) (fun u s' xx => ?_) PassesOwn.looking).run [] s σ H D (I.toTry _) h) (fun f s1 hsp => ?_) (fun e s1 he => he)
  · obtain ⟨a, B, sI, pins', σ', H', cls, d, rfl, J', nb, up, sky, na, os, ag, w⟩ := xx
    have sky' : Sky B (X.env :: X.outer) a (Zc cls d) X.env.locals s'.heap := by rw [← hs]; exact sky
    show wpAny (model X.prog X.w) X.A (noteFrame (.ref a) X.env) _ _ _
    refine Sky.land Zc.steady hfr hf sky' fun h3 fl3 up3 => ?_
    exact handle_mix hs hf hN tk ok (s' := s') ⟨J'.ofTry ok, nb, up.trans up3, os, ag, na, fl3⟩ hh w
  · cases f with
    | next => obtain ⟨σ', H', J', q⟩ := hsp; exact wpAny_execs_nil ⟨σ', H', J'.ofTry ok, q⟩
    | brk => obtain ⟨σ', H', J', q⟩ := hsp; exact ⟨σ', H', J'.ofTry ok, q⟩
    | cont => obtain ⟨σ', H', J', q⟩ := hsp; exact ⟨σ', H', J'.ofTry ok, q⟩
    | ret u => obtain ⟨v, σ', H', J', r, q⟩ := hsp; exact ⟨v, σ', H', J'.ofTry ok, r, q⟩
end
end L3

namespace L3
open PySem PySem.Spec PyProof.Rows L2
/-- what TyOf asks of an own class -/
structure TyC (K : PySem.W.Frag) (C : Addr) : Prop where
  cl : Cls K C
  t1 : PySem.W.findIn K (.ref C) "__class__" = some (some (.builtin "object.__class__"))
  t2 : PySem.W.specialIn K (.builtin "object.__class__") "__get__" = some (some (.builtin "getset_descriptor.__get__"))
  t3 : PySem.W.takesIn K (.builtin "object.__class__") = some true
  t4 : PySem.W.mroIn K C (.type "object") = some true
theorem TyC.ty {K : PySem.W.Frag} {C : Addr} (T : TyC K C) {H : Hp} {a dx : Addr} {fs : List (Str × V)} (h : H a = some (.ins C dx fs)) : TyOf K H (.ref a) (.ref C) := .ins h T.cl T.t1 T.t2 T.t3 T.t4
theorem exm_of {K : PySem.W.Frag} {A B : Addr} {b : Bool} (h1 : PySem.W.subIn K (.ref B) (.type "BaseException") = some true) (h2 : PySem.W.isClsIn K B = true) (h3 : PySem.W.typeIn K (.ref B) = some (.type "type")) (h4 : PySem.W.subIn K (.ref A) (.ref B) = some b) :
    PySem.W.exmOne K (.ref A) (.ref B) = some b := by
  have e1 : (PySem.W.subIn K (.ref B) (.type "BaseException") == some true) = true := by rw [h1] <;> rfl
  have e2 : ((PySem.W.clsIn K B).isSome && PySem.W.typeIn K (.ref B) == some (.type "type")) = true := by
    have h2' : (PySem.W.clsIn K B).isSome = true := h2
    rw [h2', h3] <;> rfl
  unfold PySem.W.exmOne
  rw [if_pos e1]
  show (if ((PySem.W.clsIn K B).isSome && PySem.W.typeIn K (.ref B) == some (.type "type")) = true then PySem.W.subIn K (.ref A) (.ref B) else none) = some b
  rw [if_pos e2]
  exact h4
theorem binds_full {K : PySem.W.Frag} {fd : FuncData} {ps : List Str} {dvs : List V} {j : Nat} (h : ∃ ds, Vals (dvs.drop j) ds ∧ Binds K fd ps ds) (hj : dvs.length ≤ j := by decide) : Binds K fd ps [] := by
  obtain ⟨ds, r, b⟩ := h
  rw [List.drop_of_length_le hj] at r
  cases r
  exact b
open Builtin in
theorem bool_K {prog : Program} {w : World} {A : Around} {E : Value → Shared → Prop} {s : Shared} {x : Value} {Q : Value → Shared → Prop}
    (h : wpAny (model prog w) A.in1.in1 (truthy x) (fun b s' => Q (.bool b) s') E s) : wpAny (model prog w) A (call (.type "bool") [x]) Q E s := by
  refine callType_codes (T := "bool") (Bi := Builtin.«object.__init__») (Q₁ := fun r s₁ => ∃ b, r = .bool b ∧ Q r s₁) PySem.F.called_bool (PySem.F.typeCall_bool_1 _) PySem.F.entry_object_init ?_ ?_
  · refine codeAny_of_tree ?_
    show wpAny _ A.in1.in1 (do checkBuiltinCall "bool.__new__" ⟨[.type "bool", x], []⟩; again (.builtin "bool.__new__" ⟨[.type "bool", x], []⟩)) _ _ s
    refine wpAny_bind (wpAny_of_eq (PySem.F.newCall_bool_1 _) (wpAny_pure ⟨plainId_quiet (by decide +kernel) _, codeAny_builtin PySem.F.entry_bool_new ?_⟩))
    rw [Around.under_plainId (by decide +kernel) _]
    obtain ⟨hp, g, d, tk, os⟩ := s
    have f1 := PySem.F.conv_sub_bool
    repeat (any_goals (first | assumption | (with_reducible refine wpAny_bind (wpAny_mono h (fun b s' hb => ?_) fun _ _ y => y)) | wp_step))
    exact ⟨b, rfl, hb⟩
  · rintro obj s₁ ⟨b, rfl, hq⟩
    exact ⟨PySem.typeIs_bool _ _, PySem.F.args_object_init_2 _ _, object_init_meets PySem.F.called_bool.init.lookup PySem.F.called_bool.made (by decide) prog w A.in1 _ s₁ ⟨PySem.typeIs_bool _ _, rfl, hq⟩⟩
section
variable {X : Cx}
/-- o.f as a target -/
def gFld (K : PySem.W.Frag) (to : TE) (f : Str) : TG := fun v σ H Q => to σ H fun x H1 => ∃ a C dx fs, x = .ref a ∧ H1 a = some (.ins C dx fs) ∧ Cls K C ∧ NoAttr K C f ∧ fs.length < 1000 ∧ Q σ (upd H1 a (.ins C dx (putF f v fs)))
theorem pg_fld {o : Expr} {f : Str} {pos : Pos} {to : TE} (ho : PE X o to)
    (ha : ∀ v, assign (.Attribute o f pos) X.env v = (do
      let ov ← holding [v] (eval o X.env)
      standAt pos.atName
      holding [v, ov] (setAttr ov f v)
      release [v, ov] []) := by intro _; rfl) : PG X (.Attribute o f pos) (gFld X.K to f) := by
  refine ⟨fun pins s σ H v u Q I r h => ?_⟩
  rw [ha]
  refine wpAny_bind (wpAny_holding (thn (ho.run pins s σ H _ I h) fun ov s1 ⟨x, H1, I1, r1, a, C, dx, fs, ex, ea, c, n, l, q1⟩ => ?_))
  subst ex
  obtain rfl : ov = Value.ref a := r1
  refine wpAny_bind (wpAny_standAt (wpAny_bind (wpAny_holding (setattr_ok I1 ea c n l r fun s3 I3 => ?_))))
  exact wpAny_release ⟨σ, _, I3, q1⟩
/-- // by any divisor but 0, below 2 ^ 9000 in size -/
def CDivS (_ j : Int) : Prop := j ≠ 0 ∧ j.natAbs.log2 < 9000
theorem op_fdivN2 : OpR X (binaryOp .FloorDiv) (rI CDivS fun i j => .int (i.fdiv j)) := opI fun i j _ _ _ _ _ hc q => floordiv_int hc.1 q (.inl (PyProof.noPylong_of_log2 hc.2))
def CPowW (i j : Int) : Prop := 0 ≤ j ∧ (Builtin.Int.intBits i : Int) * j ≤ 2 ^ 27
theorem op_powW : OpR X (binaryOp .Pow) (rI CPowW fun i j => .int (i ^ j.toNat)) := opI fun _ _ _ _ _ _ _ hc q => pow_int hc.1 hc.2 q
/-- bool(x), by a TruR one room deeper -/
theorem call_ownBool {CX : CXT} {k : Nat} {C f : Addr} {fd : FuncData} {ps : List Str} {sp : Sp} {E : XK} (o : Own X.K C "__bool__" f) (F : FnOk X.prog X.w X.K X.mg X.base CX k f fd ps sp) (hr : Room (k + 2) X.A) (hb : Binds X.K fd ps []) (hx : Passes CX X E) :
    CallR X (.type "bool") (fun xs H Q => ∃ x, xs = [x] ∧ rOwn1 C sp E x H (fun v H' => ∃ z, v = .bl z ∧ Q (.bl z) H')) := by
  intro pins s σ H xs us Q I r h
  obtain ⟨_, rfl, a, dx, fs, rfl, ea, h⟩ := h
  obtain ⟨u, rfl, rx⟩ := vals1 r
  cases (show u = Value.ref a from rx)
  obtain ⟨mA, O, _⟩ := ins_get I.hok ea
  obtain ⟨od, J, _⟩ := O.look
  obtain ⟨m, hF⟩ := I.fr
  refine bool_K (PySem.W.truthy_K hF I.ok.mod.kin J o.at_ o.fn (wpAny_mono (run_in (us := [.ref a]) (vs := [.ref a]) F hr.in1.in1 I.env0.in1.in1 hb hx I (.cons rfl .nil) h) (fun u s' q => ?_) fun _ _ y => y))
  obtain ⟨v, H', I', rv, z, rfl, q⟩ := q
  cases (show u = Value.bool z from rv)
  exact ⟨.bl z, H', I', rfl, q⟩
end
end L3

namespace L3
open PySem PySem.Spec PyProof.Rows L2
section
variable {X : Cx}
/-- not e as a value, by a TruR -/
theorem pe_notTru {a : Expr} {ta : TE} {r : V → Hp → (Bool → Hp → Prop) → Prop} {pos : Pos} (ht : TruR X r) (ha : PE X a ta) : PE X (.UnaryOp .Not a pos) (fun σ H Q => ta σ H fun x H' => r x H' fun c H2 => Q (.bl (!c)) H2) := by
  refine ⟨fun pins s σ H Q I h => ?_⟩
  refine UnaryOp_ (thn (ha.run pins s σ H _ I h) fun v s1 ⟨x, H1, I1, r1, q1⟩ => ?_)
  exact not_of (thn (ht pins s1 σ H1 x v _ I1 r1 q1) fun c s2 ⟨H2, I2, q2⟩ => ⟨.bl (!c), H2, I2, rfl, q2⟩)
/-- a text times a number -/
theorem op_rep_str : OpR X (binaryOp .Mult) (fun x y H Q => ∃ z n, x = .str z ∧ y = .int n ∧ PySem.MulOk z n ∧ Q (.str (PySem.Txt.mul z n)) H) := by
  intro pins s σ H x y v u Q I rx ry h
  obtain ⟨i, j, rfl, rfl, hz, q⟩ := h
  obtain ⟨t, rfl⟩ := rx
  obtain ⟨t', rfl⟩ := ry
  exact SB.mul hz (fun t' tk => ⟨.str (PySem.Txt.mul i j), H, I.tok _, ⟨_, rfl⟩, q⟩)
end
end L3

namespace L3
open PySem PySem.Spec PyProof.Rows L2
section
variable {X : Cx}
/-- str of an int of at most 4300 digits -/
theorem call_str_intD (hD : PySem.W.nsIn X.K cStatics "sys.int_max_str_digits" = some none) (hc : X.calm = true) : CallR X (.type "str") (fun xs H Q => ∃ i, xs = [.int i] ∧ i.natAbs < 10 ^ 4300 ∧ Q (.str (toString i)) H) := by
  intro pins s σ H xs us Q I r h
  obtain ⟨i, rfl, hz, q⟩ := h
  obtain ⟨u, rfl, t, rfl⟩ := vals1 r
  obtain ⟨mc, hn, _⟩ := I.nolimit
  refine str_of_int_or (I.ok.hd hc) ⟨mc, hn, PySem.W.ns_none_of I.kIn hn hD⟩ (fun _ => ⟨.str (toString i), H, I.tok _, ⟨_, rfl⟩, q⟩) (fun hge => ?_)
  exact absurd hz (Nat.not_lt.mpr hge)
/-- // by a divisor of any size, or of one so great that the other is not far greater -/
def CDivX (i j : Int) : Prop := j ≠ 0 ∧ (j.natAbs.log2 < 9000 ∨ i.natAbs.log2 ≤ j.natAbs.log2 + 4400)
theorem CDivX.ok {i j : Int} (h : CDivX i j) : Builtin.divisionGoesByPylong i j = false := by
  rcases h.2 with h2 | h2
  · exact PyProof.noPylong_of_log2 h2
  · have hj : (j == 0) = false := by simpa using h.1
    have k1 : (if (j == 0) = true then 0 else j.natAbs.log2 / 30 + 1) = j.natAbs.log2 / 30 + 1 := by rw [hj] <;> rfl
    have k2 : (if (i == 0) = true then 0 else i.natAbs.log2 / 30 + 1) ≤ j.natAbs.log2 / 30 + 1 + 150 := by
      split <;> omega
    show (decide ((if (j == 0) = true then 0 else j.natAbs.log2 / 30 + 1) > 300) && decide ((if (i == 0) = true then 0 else i.natAbs.log2 / 30 + 1) > (if (j == 0) = true then 0 else j.natAbs.log2 / 30 + 1) + 150)) = false
    rw [Bool.and_eq_false_iff]
    exact .inr (decide_eq_false (by omega))
theorem op_fdivX : OpR X (binaryOp .FloorDiv) (rI CDivX fun i j => .int (i.fdiv j)) := opI fun i j _ _ _ _ _ hc q => floordiv_int hc.1 q (.inl hc.ok)
variable {CX : CXT} {k : Nat} {C f : Addr} {fd : FuncData} {ps : List Str} {sp : Sp} {E : XK} {m : Str}
/-- two instances of the class, by the class's own method -/
def rOwnB (C : Addr) (sp : Sp) (E : XK) : R2 := fun x y H Q => ∃ a b dx dy fs gs, x = .ref a ∧ y = .ref b ∧ H a = some (.ins C dx fs) ∧ H b = some (.ins C dy gs) ∧ sp [.ref a, .ref b] H Q E
theorem op_ownBin {op : Operator} (hm : PySem.dunder op.info.2 = m) (sf : PySem.W.selfFirst X.K C = true) (ty : L3.TyC X.K C) (o : Own X.K C m f) (F : FnOk X.prog X.w X.K X.mg X.base CX k f fd ps sp) (hr : Room k X.A) (hb : Binds X.K fd ps []) (hx : Passes CX X E) :
    OpR X (binaryOp op) (rOwnB C sp E) := by
  intro pins s σ H x y v u Q I rx ry h
  obtain ⟨a, b, dx, dy, fs, gs, rfl, rfl, ea, eb, h⟩ := h
  cases (show v = Value.ref a from rx)
  cases (show u = Value.ref b from ry)
  obtain ⟨mA, O, _⟩ := ins_get I.hok ea
  obtain ⟨od, J, _⟩ := O.look
  obtain ⟨m', hF⟩ := I.fr
  subst hm
  refine PySem.W.binop_K hF I.ok.mod.kin J (tyLooks I ry (ty.ty eb)) sf o.at_ o.fn (wpAny_mono (run_in (us := [.ref a, .ref b]) (vs := [.ref a, .ref b]) F hr I.env0 hb hx I (.cons rfl (.cons rfl .nil)) h) (fun u s' q => ?_) fun _ _ y => y)
  obtain ⟨z, H', I', rz, q⟩ := q
  have key : ∀ w : Value, RelV z w → w ≠ .notImplemented := fun w r e => by
    subst e
    cases z <;> first | (cases r; done) | (obtain ⟨_, r⟩ := r; cases r)
  have e := key u rz
  cases u <;> first | exact (e rfl).elim | exact ⟨z, H', I', rz, q⟩
theorem op_ownAdd (sf : PySem.W.selfFirst X.K C = true) (ty : L3.TyC X.K C) (o : Own X.K C "__add__" f) (F : FnOk X.prog X.w X.K X.mg X.base CX k f fd ps sp) (hr : Room k X.A) (hb : Binds X.K fd ps []) (hx : Passes CX X E) : OpR X (binaryOp .Add) (rOwnB C sp E) := op_ownBin (by decide +kernel) sf ty o F hr hb hx
theorem op_ownSub (sf : PySem.W.selfFirst X.K C = true) (ty : L3.TyC X.K C) (o : Own X.K C "__sub__" f) (F : FnOk X.prog X.w X.K X.mg X.base CX k f fd ps sp) (hr : Room k X.A) (hb : Binds X.K fd ps []) (hx : Passes CX X E) : OpR X (binaryOp .Sub) (rOwnB C sp E) := op_ownBin (by decide +kernel) sf ty o F hr hb hx
theorem op_ownMul (sf : PySem.W.selfFirst X.K C = true) (ty : L3.TyC X.K C) (o : Own X.K C "__mul__" f) (F : FnOk X.prog X.w X.K X.mg X.base CX k f fd ps sp) (hr : Room k X.A) (hb : Binds X.K fd ps []) (hx : Passes CX X E) : OpR X (binaryOp .Mult) (rOwnB C sp E) := op_ownBin (by decide +kernel) sf ty o F hr hb hx
end
end L3

namespace L3
open PySem PySem.Spec PyProof.Rows L2
theorem takes_len {X : Cx} {W : WX} (t : Takes X W) : Takes X (fun c d σ H => σ.length = X.N.length → W c d σ H) := fun u s' ⟨a, B, sI, pins, σ, H, cls, d, e, I, nb, up, sky, na, os, ag, w⟩ =>
  t u s' ⟨a, B, sI, pins, σ, H, cls, d, e, I, nb, up, sky, na, os, ag, w I.len⟩
/-- try with its clauses, all that the body lets out told by one word -/
theorem ps_tryE {X : Cx} {t : XK → TS} {body : List Stmt} {h₀ : ExceptHandler} {hds : List ExceptHandler} {l : List (Value × Option Nat × Suite)} {pos : Pos} (hs : X.stack = X.env :: X.outer) (hf : X.env.frame = some X.env.locals) (hN : X.N.Nodup)
    (hb : ∀ (W : WX) (pn : List (Addr × Obj)) (xe : Value → Shared → Prop) (Ech : XK), Takes (X.tr pn xe) W → (∀ cls d σ' H', Ech cls d H' → σ'.length = X.N.length → W cls d σ' H') → PSs (X.tr pn xe) body (t Ech)) (hh : Hds X (h₀ :: hds) l) :
    PS X (.Try body (h₀ :: hds) [] [] pos) (fun D σ H => ∃ Ech : XK, (∀ cls d σ' H', Ech cls d H' → σ'.length = X.N.length → wMix X.K (fun _ _ _ _ => False) D l cls d σ' H') ∧ t Ech D σ H) :=
  ps_try_mix (Wout := fun _ _ _ _ => False) (tb := fun W D σ H => ∃ Ech : XK, (∀ cls d σ' H', Ech cls d H' → σ'.length = X.N.length → W cls d σ' H') ∧ t Ech D σ H) hs hf hN LamX.takes0
    (fun W pn xe tk _ => ⟨fun pins s σ H D I ⟨Ech, hW, h⟩ => (hb W pn xe Ech tk hW).run pins s σ H D I h⟩) hh
end L3

namespace L3
open PySem PySem.Spec PyProof.Rows L2
section
variable {X : Cx}
/-- a list of whatever items against one of another length -/
def rNeLen : R2 := fun x y H Q => ∃ a b xs ys, x = .ref a ∧ y = .ref b ∧ H a = some (.lst xs) ∧ H b = some (.lst ys) ∧ xs.length ≠ ys.length ∧ Q (.bl true) H
def rEqLen : R2 := fun x y H Q => ∃ a b xs ys, x = .ref a ∧ y = .ref b ∧ H a = some (.lst xs) ∧ H b = some (.lst ys) ∧ xs.length ≠ ys.length ∧ Q (.bl false) H
theorem op_neLen (hu : X.A.units < cLine) : OpR X (compareOp .NotEq) rNeLen := by
  intro pins s σ H x y v u Q I rx ry h
  obtain ⟨a, b, xs, ys, rfl, rfl, ea, eb, hl, q⟩ := h
  cases (show v = Value.ref a from rx)
  cases (show u = Value.ref b from ry)
  obtain ⟨_, us, n, r1, g1⟩ := (show ObjOk X.prog X.w H s.heap a (.lst xs) from I.hok a _ ea)
  obtain ⟨_, vs, m, r2, g2⟩ := (show ObjOk X.prog X.w H s.heap b (.lst ys) from I.hok b _ eb)
  have hne : (us.toArray.size != vs.toArray.size) = true := by
    rw [List.size_toArray, List.size_toArray, ← r1.length, ← r2.length]
    simpa using hl
  refine wpAny_richCompare_same_room (op := .NotEq) ⟨_, g1, rfl⟩ ⟨_, g2, rfl⟩ F.slot_list_ne (GQ.call_here F.slot_list_ne ⟨_, g1, rfl⟩ F.entry_list_ne (F.args_list_ne_2 _ _) ?_) hu
  exact SeqAt.list_ne_lengthsAt a b _ _ _ _ _ _ _ _ hne _ _ _ _ _ ⟨g1, g2, (fun z => nomatch z), .bl true, H, I, rfl, q⟩
theorem op_eqLen (hu : X.A.units < cLine) : OpR X (compareOp .Eq) rEqLen := by
  intro pins s σ H x y v u Q I rx ry h
  obtain ⟨a, b, xs, ys, rfl, rfl, ea, eb, hl, q⟩ := h
  cases (show v = Value.ref a from rx)
  cases (show u = Value.ref b from ry)
  obtain ⟨_, us, n, r1, g1⟩ := (show ObjOk X.prog X.w H s.heap a (.lst xs) from I.hok a _ ea)
  obtain ⟨_, vs, m, r2, g2⟩ := (show ObjOk X.prog X.w H s.heap b (.lst ys) from I.hok b _ eb)
  have hne : (us.toArray.size != vs.toArray.size) = true := by
    rw [List.size_toArray, List.size_toArray, ← r1.length, ← r2.length]
    simpa using hl
  refine wpAny_richCompare_same_room (op := .Eq) ⟨_, g1, rfl⟩ ⟨_, g2, rfl⟩ F.slot_list_eq (GQ.call_here F.slot_list_eq ⟨_, g1, rfl⟩ F.entry_list_eq (F.args_list_eq_2 _ _) ?_) hu
  exact SeqAt.list_eq_lengthsAt a b _ _ _ _ _ _ _ _ hne _ _ _ _ _ ⟨g1, g2, (fun z => nomatch z), .bl false, H, I, rfl, q⟩
/-- a tuple of whatever items against the empty one -/
def rNeTup0 : R2 := fun x y H Q => ∃ a b xs, x = .ref a ∧ y = .ref b ∧ H a = some (.tup xs) ∧ H b = some (.tup []) ∧ Q (.bl (!xs.isEmpty)) H
theorem op_neTup0 (hu : X.A.units < cLine) : OpR X (compareOp .NotEq) rNeTup0 := by
  intro pins s σ H x y v u Q I rx ry h
  obtain ⟨a, b, xs, rfl, rfl, ea, eb, q⟩ := h
  cases (show v = Value.ref a from rx)
  cases (show u = Value.ref b from ry)
  obtain ⟨us, r1, g1, z1⟩ := I.tuple (SqT.of ea)
  obtain ⟨vs, r2, g2, z2⟩ := I.tuple (SqT.of eb)
  cases r2
  obtain ⟨⟨cls, dd, data, sl⟩, ho, hc, n, hd⟩ := id g1
  obtain ⟨⟨cls2, dd2, data2, sl2⟩, ho2, hc2, n2, hd2⟩ := id g2
  simp only at hc hd hc2 hd2
  subst hc hd hc2 hd2
  refine wpAny_richCompare_same_room (op := .NotEq) ⟨_, ho, rfl⟩ ⟨_, ho2, rfl⟩ F.slot_tuple_ne (GQ.call_here F.slot_tuple_ne ⟨_, ho, rfl⟩ F.entry_tuple_ne (F.args_tuple_ne_2 _ _) ?_) hu
  refine SeqAt.tuple_neAt a b _ _ _ _ _ _ _ _ (fun _ => true) _ _ _ _ _ ⟨ho, ho2, fun j _ h2 => absurd h2 (Nat.not_lt_zero j), (fun z => nomatch z), .bl (!xs.isEmpty), H, I, ?_, q⟩
  have e : (!((List.range (min us.toArray.size ([] : List Value).toArray.size)).all (fun _ => true) && us.toArray.size == ([] : List Value).toArray.size)) = !xs.isEmpty := by
    cases r1 <;> simp
  show Value.bool _ = Value.bool _
  rw [e]
/-- .. against the empty list -/
def rNeNil (K : PySem.W.Frag) : R2 := fun x y H Q => ∃ a b xs, x = .ref a ∧ y = .ref b ∧ H a = some (.lst xs) ∧ H b = some (.lst []) ∧ Q (.bl (!xs.isEmpty)) H
def rEqNil (K : PySem.W.Frag) : R2 := fun x y H Q => ∃ a b xs, x = .ref a ∧ y = .ref b ∧ H a = some (.lst xs) ∧ H b = some (.lst []) ∧ Q (.bl xs.isEmpty) H
theorem op_neNil (hu : X.A.units + 64 < cLine) : OpR X (compareOp .NotEq) (rNeNil X.K) := by
  intro pins s σ H x y v u Q I rx ry h
  obtain ⟨a, b, xs, rfl, rfl, ea, eb, q⟩ := h
  cases xs with
  | nil => exact op_neD hu pins s σ H _ _ v u Q I rx ry ⟨_, _, .lst (SqL.of ea) .nil, .lst (SqL.of eb) .nil, rfl, rfl, q⟩
  | cons z zs => exact op_neLen (by omega) pins s σ H _ _ v u Q I rx ry ⟨a, b, _, _, rfl, rfl, ea, eb, (by simp), q⟩
theorem op_eqNil (hu : X.A.units + 64 < cLine) : OpR X (compareOp .Eq) (rEqNil X.K) := by
  intro pins s σ H x y v u Q I rx ry h
  obtain ⟨a, b, xs, rfl, rfl, ea, eb, q⟩ := h
  cases xs with
  | nil => exact op_eqD hu pins s σ H _ _ v u Q I rx ry ⟨_, _, .lst (SqL.of ea) .nil, .lst (SqL.of eb) .nil, rfl, rfl, q⟩
  | cons z zs => exact op_eqLen (by omega) pins s σ H _ _ v u Q I rx ry ⟨a, b, _, _, rfl, rfl, ea, eb, (by simp), q⟩
end
end L3

namespace K03
open PySem PySem.Spec PyProof.Rows L2 L3
def top (i : Nat) : Stmt := PySem.Challenge.pw_worthstead_k03_sums_and_means.main.body.getD i (.Pass ⟨0, 0, 0, 0⟩)
abbrev s_is_longer : Stmt := top 10
abbrev s_is_plain_int : Stmt := top 15
abbrev s_lowest_terms : Stmt := top 16
abbrev s_ratio_of : Stmt := top 17
abbrev s_is_ratio : Stmt := top 18
abbrev s_are_ratios : Stmt := top 19
abbrev s_sum_parts : Stmt := top 20
abbrev s_total : Stmt := top 21
abbrev s_mean : Stmt := top 22
abbrev s__law_urn : Stmt := top 24
abbrev s__law_drawn : Stmt := top 25
abbrev s__law_one_of : Stmt := top 26
abbrev s__law_divisor : Stmt := top 27
abbrev s__law_lowest : Stmt := top 28
abbrev s__law_power : Stmt := top 29
abbrev s__law_whole : Stmt := top 30
abbrev s__law_sum : Stmt := top 31
abbrev s__law_told : Stmt := top 32
abbrev s__law_mixed : Stmt := top 33
abbrev s__law_right : Stmt := top 34
abbrev s_law : Stmt := top 35
abbrev s_Ratio___init__ : Stmt := inClass (top 14) 0
abbrev s_Ratio_top : Stmt := inClass (top 14) 1
abbrev s_Ratio_bottom : Stmt := inClass (top 14) 2
abbrev s_Ratio___add__ : Stmt := inClass (top 14) 4
abbrev s_Ratio___mul__ : Stmt := inClass (top 14) 6
abbrev s_Ratio___neg__ : Stmt := inClass (top 14) 7
abbrev s_Ratio___eq__ : Stmt := inClass (top 14) 10
abbrev s_Ratio___str__ : Stmt := inClass (top 14) 11
abbrev s_Ratio_over : Stmt := inClass (top 14) 12
abbrev s_Ratio_is_less : Stmt := inClass (top 14) 13
theorem sc_is_longer : FnScope ["number", "digits", "bits"] ["number", "digits"] (defScope s_is_longer) := ⟨rfl, rfl, rfl, by decide +kernel, rfl, by decide +kernel, by decide +kernel⟩
theorem sc_is_plain_int : FnScope ["value"] ["value"] (defScope s_is_plain_int) := ⟨rfl, rfl, rfl, by decide +kernel, rfl, by decide +kernel, by decide +kernel⟩
theorem sc_lowest_terms : FnScope ["top", "bottom", "shared"] ["top", "bottom"] (defScope s_lowest_terms) := ⟨rfl, rfl, rfl, by decide +kernel, rfl, by decide +kernel, by decide +kernel⟩
theorem sc_ratio_of : FnScope ["top", "bottom", "made"] ["top", "bottom"] (defScope s_ratio_of) := ⟨rfl, rfl, rfl, by decide +kernel, rfl, by decide +kernel, by decide +kernel⟩
theorem sc_is_ratio : FnScope ["value"] ["value"] (defScope s_is_ratio) := ⟨rfl, rfl, rfl, by decide +kernel, rfl, by decide +kernel, by decide +kernel⟩
theorem sc_are_ratios : FnScope ["value", "one"] ["value"] (defScope s_are_ratios) := ⟨rfl, rfl, rfl, by decide +kernel, rfl, by decide +kernel, by decide +kernel⟩
theorem sc_sum_parts : FnScope ["ratios", "top", "bottom", "one", "shared"] ["ratios"] (defScope s_sum_parts) := ⟨rfl, rfl, rfl, by decide +kernel, rfl, by decide +kernel, by decide +kernel⟩
theorem sc_total : FnScope ["ratios", "top", "bottom"] ["ratios"] (defScope s_total) := ⟨rfl, rfl, rfl, by decide +kernel, rfl, by decide +kernel, by decide +kernel⟩
theorem sc_mean : FnScope ["ratios", "top", "bottom"] ["ratios"] (defScope s_mean) := ⟨rfl, rfl, rfl, by decide +kernel, rfl, by decide +kernel, by decide +kernel⟩
theorem sc__law_urn : FnScope ["_law_script", "_law_turn", "_law_cell", "_law_great"] ["_law_script", "_law_turn"] (defScope s__law_urn) := ⟨rfl, rfl, rfl, by decide +kernel, rfl, by decide +kernel, by decide +kernel⟩
theorem sc__law_drawn : FnScope ["_law_urn_here", "_law_many", "_law_found", "_law_one", "_law_two"] ["_law_urn_here", "_law_many"] (defScope s__law_drawn) := ⟨rfl, rfl, rfl, by decide +kernel, rfl, by decide +kernel, by decide +kernel⟩
theorem sc__law_one_of : FnScope ["_law_urn_here", "_law_items"] ["_law_urn_here", "_law_items"] (defScope s__law_one_of) := ⟨rfl, rfl, rfl, by decide +kernel, rfl, by decide +kernel, by decide +kernel⟩
theorem sc__law_divisor : FnScope ["_law_one", "_law_other"] ["_law_one", "_law_other"] (defScope s__law_divisor) := ⟨rfl, rfl, rfl, by decide +kernel, rfl, by decide +kernel, by decide +kernel⟩
theorem sc__law_lowest : FnScope ["_law_top", "_law_bottom", "_law_part"] ["_law_top", "_law_bottom"] (defScope s__law_lowest) := ⟨rfl, rfl, rfl, by decide +kernel, rfl, by decide +kernel, by decide +kernel⟩
theorem sc__law_power : FnScope ["_law_base", "_law_times", "_law_found", "_law_lap"] ["_law_base", "_law_times"] (defScope s__law_power) := ⟨rfl, rfl, rfl, by decide +kernel, rfl, by decide +kernel, by decide +kernel⟩
theorem sc__law_whole : FnScope ["_law_urn_here", "_law_way", "_law_found", "_law_lap"] ["_law_urn_here"] (defScope s__law_whole) := ⟨rfl, rfl, rfl, by decide +kernel, rfl, by decide +kernel, by decide +kernel⟩
theorem sc__law_sum : FnScope ["_law_pairs", "_law_top", "_law_bottom", "_law_pair"] ["_law_pairs"] (defScope s__law_sum) := ⟨rfl, rfl, rfl, by decide +kernel, rfl, by decide +kernel, by decide +kernel⟩
theorem sc__law_told : FnScope ["_law_call", "_law_found", "e"] ["_law_call"] (defScope s__law_told) := ⟨rfl, rfl, rfl, by decide +kernel, rfl, by decide +kernel, by decide +kernel⟩
theorem sc__law_mixed : FnScope ["_law_urn_here", "_law_items", "_law_left", "_law_found"] ["_law_urn_here", "_law_items"] (defScope s__law_mixed) := ⟨rfl, rfl, rfl, by decide +kernel, rfl, by decide +kernel, by decide +kernel⟩
theorem sc__law_right : FnScope ["_law_urn_here", "_law_rows", "_law_lap", "_law_top", "_law_bottom", "_law_pair", "_law_due", "_law_turned", "_law_at", "_law_middle", "_law_low", "_law_high", "_law_told_here", "_law_odd", "_law_ratios", "_law_row", "_law_one"] ["_law_urn_here"] (defScope s__law_right) := ⟨rfl, rfl, rfl, by decide +kernel, rfl, by decide +kernel, by decide +kernel⟩
theorem sc_law : FnScope ["_law_script", "_law_turn", "_law_lap", "_law_told_here", "_law_high", "_law_low"] ["_law_script"] (defScope s_law) := ⟨rfl, rfl, rfl, by decide +kernel, rfl, by decide +kernel, by decide +kernel⟩
theorem sc_Ratio___init__ : FnScope ["self", "top", "bottom"] ["self", "top", "bottom"] (defScope s_Ratio___init__) := ⟨rfl, rfl, rfl, by decide +kernel, rfl, by decide +kernel, by decide +kernel⟩
theorem sc_Ratio_top : FnScope ["self"] ["self"] (defScope s_Ratio_top) := ⟨rfl, rfl, rfl, by decide +kernel, rfl, by decide +kernel, by decide +kernel⟩
theorem sc_Ratio_bottom : FnScope ["self"] ["self"] (defScope s_Ratio_bottom) := ⟨rfl, rfl, rfl, by decide +kernel, rfl, by decide +kernel, by decide +kernel⟩
theorem sc_Ratio___add__ : FnScope ["self", "other"] ["self", "other"] (defScope s_Ratio___add__) := ⟨rfl, rfl, rfl, by decide +kernel, rfl, by decide +kernel, by decide +kernel⟩
theorem sc_Ratio___mul__ : FnScope ["self", "other"] ["self", "other"] (defScope s_Ratio___mul__) := ⟨rfl, rfl, rfl, by decide +kernel, rfl, by decide +kernel, by decide +kernel⟩
theorem sc_Ratio___neg__ : FnScope ["self"] ["self"] (defScope s_Ratio___neg__) := ⟨rfl, rfl, rfl, by decide +kernel, rfl, by decide +kernel, by decide +kernel⟩
theorem sc_Ratio___eq__ : FnScope ["self", "other"] ["self", "other"] (defScope s_Ratio___eq__) := ⟨rfl, rfl, rfl, by decide +kernel, rfl, by decide +kernel, by decide +kernel⟩
theorem sc_Ratio___str__ : FnScope ["self"] ["self"] (defScope s_Ratio___str__) := ⟨rfl, rfl, rfl, by decide +kernel, rfl, by decide +kernel, by decide +kernel⟩
theorem sc_Ratio_over : FnScope ["self", "other"] ["self", "other"] (defScope s_Ratio_over) := ⟨rfl, rfl, rfl, by decide +kernel, rfl, by decide +kernel, by decide +kernel⟩
theorem sc_Ratio_is_less : FnScope ["self", "other"] ["self", "other"] (defScope s_Ratio_is_less) := ⟨rfl, rfl, rfl, by decide +kernel, rfl, by decide +kernel, by decide +kernel⟩
structure TX (K : PySem.W.Frag) (mg : Str → Option Value) where
  C_InvalidNumber : Addr
  f_InvalidNumber___init__ : Addr
  x_InvalidNumber : PySem.XInvalidNumber.Txt K mg C_InvalidNumber f_InvalidNumber___init__
  g_InvalidNumber : mg "InvalidNumber" = some (.ref C_InvalidNumber)
  C_TooMany : Addr
  f_TooMany___init__ : Addr
  x_TooMany : PySem.XTooMany.Txt K mg C_TooMany f_TooMany___init__
  g_TooMany : mg "TooMany" = some (.ref C_TooMany)
  C_InvalidRatio : Addr
  g_InvalidRatio : mg "InvalidRatio" = some (.ref C_InvalidRatio)
  x_InvalidRatio : PySem.W.excIn K C_InvalidRatio [.type "ValueError", .type "Exception", .type "BaseException", .type "object"] "ValueError.__new__" = true
  k_InvalidRatio : PySem.W.keepIn K (.ref C_InvalidRatio) = true
  bx_InvalidRatio : PySem.W.subIn K (.ref C_InvalidRatio) (.type "BaseException") = some true
  tx_InvalidRatio : PySem.W.typeIn K (.ref C_InvalidRatio) = some (.type "type")
  e_InvalidRatio_InvalidRatio : PySem.W.exmOne K (.ref C_InvalidRatio) (.ref C_InvalidRatio) = some true
  e_TooMany_InvalidRatio : PySem.W.exmOne K (.ref C_TooMany) (.ref C_InvalidRatio) = some false
  C_Ratio : Addr
  g_Ratio : mg "Ratio" = some (.ref C_Ratio)
  cl_Ratio : Cls K C_Ratio
  n_Ratio__top : NoAttr K C_Ratio "_top"
  n_Ratio__bottom : NoAttr K C_Ratio "_bottom"
  tc_Ratio : L3.TyC K C_Ratio
  ne_Ratio : L3.OwnNe K C_Ratio
  kit_Ratio_NoneType : PySem.W.kitOne K (.type "NoneType") (.ref C_Ratio) = some false
  nf_Ratio_NoneType : PySem.W.notFirst K C_Ratio (.type "NoneType") = true
  itk_Ratio_NoneType : PySem.W.kitOne K (.ref C_Ratio) (.type "NoneType") = some false
  kit_Ratio_bool : PySem.W.kitOne K (.type "bool") (.ref C_Ratio) = some false
  nf_Ratio_bool : PySem.W.notFirst K C_Ratio (.type "bool") = true
  itk_Ratio_bool : PySem.W.kitOne K (.ref C_Ratio) (.type "bool") = some false
  kit_Ratio_int : PySem.W.kitOne K (.type "int") (.ref C_Ratio) = some false
  nf_Ratio_int : PySem.W.notFirst K C_Ratio (.type "int") = true
  itk_Ratio_int : PySem.W.kitOne K (.ref C_Ratio) (.type "int") = some false
  kit_Ratio_str : PySem.W.kitOne K (.type "str") (.ref C_Ratio) = some false
  nf_Ratio_str : PySem.W.notFirst K C_Ratio (.type "str") = true
  itk_Ratio_str : PySem.W.kitOne K (.ref C_Ratio) (.type "str") = some false
  kit_Ratio_list : PySem.W.kitOne K (.type "list") (.ref C_Ratio) = some false
  nf_Ratio_list : PySem.W.notFirst K C_Ratio (.type "list") = true
  itk_Ratio_list : PySem.W.kitOne K (.ref C_Ratio) (.type "list") = some false
  kit_Ratio_tuple : PySem.W.kitOne K (.type "tuple") (.ref C_Ratio) = some false
  nf_Ratio_tuple : PySem.W.notFirst K C_Ratio (.type "tuple") = true
  itk_Ratio_tuple : PySem.W.kitOne K (.ref C_Ratio) (.type "tuple") = some false
  kit_Ratio_dict : PySem.W.kitOne K (.type "dict") (.ref C_Ratio) = some false
  nf_Ratio_dict : PySem.W.notFirst K C_Ratio (.type "dict") = true
  itk_Ratio_dict : PySem.W.kitOne K (.ref C_Ratio) (.type "dict") = some false
  kit_Ratio : PySem.W.kitOne K (.ref C_Ratio) (.ref C_Ratio) = some true
  nf_Ratio : PySem.W.notFirst K C_Ratio (.ref C_Ratio) = true
  f_is_longer : Addr
  d_is_longer : FuncData
  F_is_longer : Fun K "is_longer" "is_longer" s_is_longer f_is_longer d_is_longer
  b_is_longer : Binds K d_is_longer ["number", "digits"] []
  g_is_longer : mg "is_longer" = some (.ref f_is_longer)
  f_is_plain_int : Addr
  d_is_plain_int : FuncData
  F_is_plain_int : Fun K "is_plain_int" "is_plain_int" s_is_plain_int f_is_plain_int d_is_plain_int
  b_is_plain_int : Binds K d_is_plain_int ["value"] []
  g_is_plain_int : mg "is_plain_int" = some (.ref f_is_plain_int)
  f_lowest_terms : Addr
  d_lowest_terms : FuncData
  F_lowest_terms : Fun K "lowest_terms" "lowest_terms" s_lowest_terms f_lowest_terms d_lowest_terms
  b_lowest_terms : Binds K d_lowest_terms ["top", "bottom"] []
  g_lowest_terms : mg "lowest_terms" = some (.ref f_lowest_terms)
  f_ratio_of : Addr
  d_ratio_of : FuncData
  F_ratio_of : Fun K "ratio_of" "ratio_of" s_ratio_of f_ratio_of d_ratio_of
  b_ratio_of : Binds K d_ratio_of ["top", "bottom"] []
  g_ratio_of : mg "ratio_of" = some (.ref f_ratio_of)
  f_is_ratio : Addr
  d_is_ratio : FuncData
  F_is_ratio : Fun K "is_ratio" "is_ratio" s_is_ratio f_is_ratio d_is_ratio
  b_is_ratio : Binds K d_is_ratio ["value"] []
  g_is_ratio : mg "is_ratio" = some (.ref f_is_ratio)
  f_are_ratios : Addr
  d_are_ratios : FuncData
  F_are_ratios : Fun K "are_ratios" "are_ratios" s_are_ratios f_are_ratios d_are_ratios
  b_are_ratios : Binds K d_are_ratios ["value"] []
  g_are_ratios : mg "are_ratios" = some (.ref f_are_ratios)
  f_sum_parts : Addr
  d_sum_parts : FuncData
  F_sum_parts : Fun K "sum_parts" "sum_parts" s_sum_parts f_sum_parts d_sum_parts
  b_sum_parts : Binds K d_sum_parts ["ratios"] []
  g_sum_parts : mg "sum_parts" = some (.ref f_sum_parts)
  f_total : Addr
  d_total : FuncData
  F_total : Fun K "total" "total" s_total f_total d_total
  b_total : Binds K d_total ["ratios"] []
  g_total : mg "total" = some (.ref f_total)
  f_mean : Addr
  d_mean : FuncData
  F_mean : Fun K "mean" "mean" s_mean f_mean d_mean
  b_mean : Binds K d_mean ["ratios"] []
  g_mean : mg "mean" = some (.ref f_mean)
  f__law_urn : Addr
  d__law_urn : FuncData
  F__law_urn : Fun K "_law_urn" "_law_urn" s__law_urn f__law_urn d__law_urn
  b__law_urn : Binds K d__law_urn ["_law_script", "_law_turn"] []
  g__law_urn : mg "_law_urn" = some (.ref f__law_urn)
  f__law_drawn : Addr
  d__law_drawn : FuncData
  F__law_drawn : Fun K "_law_drawn" "_law_drawn" s__law_drawn f__law_drawn d__law_drawn
  b__law_drawn : Binds K d__law_drawn ["_law_urn_here", "_law_many"] []
  g__law_drawn : mg "_law_drawn" = some (.ref f__law_drawn)
  f__law_one_of : Addr
  d__law_one_of : FuncData
  F__law_one_of : Fun K "_law_one_of" "_law_one_of" s__law_one_of f__law_one_of d__law_one_of
  b__law_one_of : Binds K d__law_one_of ["_law_urn_here", "_law_items"] []
  g__law_one_of : mg "_law_one_of" = some (.ref f__law_one_of)
  f__law_divisor : Addr
  d__law_divisor : FuncData
  F__law_divisor : Fun K "_law_divisor" "_law_divisor" s__law_divisor f__law_divisor d__law_divisor
  b__law_divisor : Binds K d__law_divisor ["_law_one", "_law_other"] []
  g__law_divisor : mg "_law_divisor" = some (.ref f__law_divisor)
  f__law_lowest : Addr
  d__law_lowest : FuncData
  F__law_lowest : Fun K "_law_lowest" "_law_lowest" s__law_lowest f__law_lowest d__law_lowest
  b__law_lowest : Binds K d__law_lowest ["_law_top", "_law_bottom"] []
  g__law_lowest : mg "_law_lowest" = some (.ref f__law_lowest)
  f__law_power : Addr
  d__law_power : FuncData
  F__law_power : Fun K "_law_power" "_law_power" s__law_power f__law_power d__law_power
  b__law_power : Binds K d__law_power ["_law_base", "_law_times"] []
  g__law_power : mg "_law_power" = some (.ref f__law_power)
  f__law_whole : Addr
  d__law_whole : FuncData
  F__law_whole : Fun K "_law_whole" "_law_whole" s__law_whole f__law_whole d__law_whole
  b__law_whole : Binds K d__law_whole ["_law_urn_here"] []
  g__law_whole : mg "_law_whole" = some (.ref f__law_whole)
  f__law_sum : Addr
  d__law_sum : FuncData
  F__law_sum : Fun K "_law_sum" "_law_sum" s__law_sum f__law_sum d__law_sum
  b__law_sum : Binds K d__law_sum ["_law_pairs"] []
  g__law_sum : mg "_law_sum" = some (.ref f__law_sum)
  f__law_told : Addr
  d__law_told : FuncData
  F__law_told : Fun K "_law_told" "_law_told" s__law_told f__law_told d__law_told
  b__law_told : Binds K d__law_told ["_law_call"] []
  g__law_told : mg "_law_told" = some (.ref f__law_told)
  f__law_mixed : Addr
  d__law_mixed : FuncData
  F__law_mixed : Fun K "_law_mixed" "_law_mixed" s__law_mixed f__law_mixed d__law_mixed
  b__law_mixed : Binds K d__law_mixed ["_law_urn_here", "_law_items"] []
  g__law_mixed : mg "_law_mixed" = some (.ref f__law_mixed)
  f__law_right : Addr
  d__law_right : FuncData
  cc__law_right : Addr
  tt__law_right : Addr
  tq__law_right : tt__law_right = 365
  lc__law_right : PySem.W.codeHdIn K cc__law_right tt__law_right = true
  ln__law_right : K.lookup tt__law_right = none
  lx__law_right : ∃ (oc : Value) (od : Option Addr) (kV dc pm : Value) (an : Option Addr) (ct : Value) (osl : Array (Option Value)), d__law_right = PySem.W.fnOf "_law_right" "_law_right" (defArgs s__law_right) (defBody s__law_right) (defScope s__law_right) .none kV dc pm an (.ref cc__law_right) ct ∧ K.lookup f__law_right = some ⟨oc, od, .func d__law_right, osl⟩ ∧ PySem.W.codeIn K (.ref cc__law_right) "_law_right" = true
  F__law_right : Fun K "_law_right" "_law_right" s__law_right f__law_right d__law_right
  b__law_right : Binds K d__law_right ["_law_urn_here"] []
  g__law_right : mg "_law_right" = some (.ref f__law_right)
  f_law : Addr
  d_law : FuncData
  cc_law : Addr
  tt_law : Addr
  tq_law : tt_law = 370
  lc_law : PySem.W.codeHdIn K cc_law tt_law = true
  ln_law : K.lookup tt_law = none
  lx_law : ∃ (oc : Value) (od : Option Addr) (kV dc pm : Value) (an : Option Addr) (ct : Value) (osl : Array (Option Value)), d_law = PySem.W.fnOf "law" "law" (defArgs s_law) (defBody s_law) (defScope s_law) .none kV dc pm an (.ref cc_law) ct ∧ K.lookup f_law = some ⟨oc, od, .func d_law, osl⟩ ∧ PySem.W.codeIn K (.ref cc_law) "law" = true
  F_law : Fun K "law" "law" s_law f_law d_law
  b_law : Binds K d_law ["_law_script"] []
  g_law : mg "law" = some (.ref f_law)
  f_Ratio___init__ : Addr
  d_Ratio___init__ : FuncData
  F_Ratio___init__ : FunD K "__init__" "Ratio.__init__" (defArgs s_Ratio___init__) (defBody s_Ratio___init__) (defScope s_Ratio___init__) [.int 1] [] f_Ratio___init__ d_Ratio___init__
  w_Ratio___init__ : List Value
  v_Ratio___init___2 : Vals [.int 1] w_Ratio___init__
  b_Ratio___init___2 : Binds K d_Ratio___init__ ["self", "top", "bottom"] w_Ratio___init__
  b_Ratio___init__ : Binds K d_Ratio___init__ ["self", "top", "bottom"] []
  f_Ratio_top : Addr
  d_Ratio_top : FuncData
  F_Ratio_top : Fun K "top" "Ratio.top" s_Ratio_top f_Ratio_top d_Ratio_top
  b_Ratio_top : Binds K d_Ratio_top ["self"] []
  pa_Ratio_top : Addr
  p_Ratio_top : PropOf K C_Ratio "top" pa_Ratio_top f_Ratio_top
  f_Ratio_bottom : Addr
  d_Ratio_bottom : FuncData
  F_Ratio_bottom : Fun K "bottom" "Ratio.bottom" s_Ratio_bottom f_Ratio_bottom d_Ratio_bottom
  b_Ratio_bottom : Binds K d_Ratio_bottom ["self"] []
  pa_Ratio_bottom : Addr
  p_Ratio_bottom : PropOf K C_Ratio "bottom" pa_Ratio_bottom f_Ratio_bottom
  f_Ratio___add__ : Addr
  d_Ratio___add__ : FuncData
  F_Ratio___add__ : Fun K "__add__" "Ratio.__add__" s_Ratio___add__ f_Ratio___add__ d_Ratio___add__
  b_Ratio___add__ : Binds K d_Ratio___add__ ["self", "other"] []
  o_Ratio___add__ : L3.Own K C_Ratio "__add__" f_Ratio___add__
  f_Ratio___mul__ : Addr
  d_Ratio___mul__ : FuncData
  F_Ratio___mul__ : Fun K "__mul__" "Ratio.__mul__" s_Ratio___mul__ f_Ratio___mul__ d_Ratio___mul__
  b_Ratio___mul__ : Binds K d_Ratio___mul__ ["self", "other"] []
  o_Ratio___mul__ : L3.Own K C_Ratio "__mul__" f_Ratio___mul__
  f_Ratio___neg__ : Addr
  d_Ratio___neg__ : FuncData
  F_Ratio___neg__ : Fun K "__neg__" "Ratio.__neg__" s_Ratio___neg__ f_Ratio___neg__ d_Ratio___neg__
  b_Ratio___neg__ : Binds K d_Ratio___neg__ ["self"] []
  o_Ratio___neg__ : L3.Own K C_Ratio "__neg__" f_Ratio___neg__
  f_Ratio___eq__ : Addr
  d_Ratio___eq__ : FuncData
  F_Ratio___eq__ : Fun K "__eq__" "Ratio.__eq__" s_Ratio___eq__ f_Ratio___eq__ d_Ratio___eq__
  b_Ratio___eq__ : Binds K d_Ratio___eq__ ["self", "other"] []
  o_Ratio___eq__ : L3.Own K C_Ratio "__eq__" f_Ratio___eq__
  f_Ratio___str__ : Addr
  d_Ratio___str__ : FuncData
  F_Ratio___str__ : Fun K "__str__" "Ratio.__str__" s_Ratio___str__ f_Ratio___str__ d_Ratio___str__
  b_Ratio___str__ : Binds K d_Ratio___str__ ["self"] []
  o_Ratio___str__ : L3.Own K C_Ratio "__str__" f_Ratio___str__
  f_Ratio_over : Addr
  d_Ratio_over : FuncData
  F_Ratio_over : Fun K "over" "Ratio.over" s_Ratio_over f_Ratio_over d_Ratio_over
  b_Ratio_over : Binds K d_Ratio_over ["self", "other"] []
  m_Ratio_over : Meth K C_Ratio "over" f_Ratio_over
  f_Ratio_is_less : Addr
  d_Ratio_is_less : FuncData
  F_Ratio_is_less : Fun K "is_less" "Ratio.is_less" s_Ratio_is_less f_Ratio_is_less d_Ratio_is_less
  b_Ratio_is_less : Binds K d_Ratio_is_less ["self", "other"] []
  m_Ratio_is_less : Meth K C_Ratio "is_less" f_Ratio_is_less
  mk_Ratio : Mk K C_Ratio f_Ratio___init__
  ct_FEWEST_BITS : Tok
  c_FEWEST_BITS : mg "FEWEST_BITS" = some (.int 3 ct_FEWEST_BITS)
  ct_MOST_BITS : Tok
  c_MOST_BITS : mg "MOST_BITS" = some (.int 4 ct_MOST_BITS)
  ct_MAX_FIGURES : Tok
  c_MAX_FIGURES : mg "MAX_FIGURES" = some (.int 60 ct_MAX_FIGURES)
  ct_MAX_DIGITS : Tok
  c_MAX_DIGITS : mg "MAX_DIGITS" = some (.int 2000 ct_MAX_DIGITS)
  n_isinstance : mg "isinstance" = none
  n_len : mg "len" = none
  n_str : mg "str" = none
  n_abs : mg "abs" = none
  n_int : mg "int" = none
  n_bool : mg "bool" = none
  n_max : mg "max" = none
  n_min : mg "min" = none
  n_range : mg "range" = none
  n_tuple : mg "tuple" = none
  n_list : mg "list" = none
  n_all : mg "all" = none
  n_ZeroDivisionError : mg "ZeroDivisionError" = none
  g_gcd : mg "gcd" = some (.builtin "math.gcd")
  sf_Ratio : PySem.W.selfFirst K C_Ratio = true
  dg : PySem.W.nsIn K cStatics "sys.int_max_str_digits" = some none
theorem mkT {K : PySem.W.Frag} {h : Heap} {mg : Str → Option Value} (X : K.In h) (G : h.Ns mainGlobals mg)
    {C_InvalidNumber f_InvalidNumber___init__ : Addr}
    {od_InvalidNumber___init__ an_InvalidNumber___init__ : Option Addr} {sl_InvalidNumber___init__ : Array (Option Value)} {oc_InvalidNumber___init__ dc_InvalidNumber___init__ pm_InvalidNumber___init__ cd_InvalidNumber___init__ ct_InvalidNumber___init__ : Value}
    {C_TooMany f_TooMany___init__ : Addr}
    {od_TooMany___init__ an_TooMany___init__ : Option Addr} {sl_TooMany___init__ : Array (Option Value)} {oc_TooMany___init__ dc_TooMany___init__ pm_TooMany___init__ cd_TooMany___init__ ct_TooMany___init__ : Value}
    {C_InvalidRatio : Addr}
    {C_Ratio : Addr}
    {f_is_longer : Addr}
    {od_is_longer an_is_longer : Option Addr} {sl_is_longer : Array (Option Value)} {oc_is_longer kV_is_longer dc_is_longer pm_is_longer cd_is_longer ct_is_longer : Value}
    {f_is_plain_int : Addr}
    {od_is_plain_int an_is_plain_int : Option Addr} {sl_is_plain_int : Array (Option Value)} {oc_is_plain_int kV_is_plain_int dc_is_plain_int pm_is_plain_int cd_is_plain_int ct_is_plain_int : Value}
    {f_lowest_terms : Addr}
    {od_lowest_terms an_lowest_terms : Option Addr} {sl_lowest_terms : Array (Option Value)} {oc_lowest_terms kV_lowest_terms dc_lowest_terms pm_lowest_terms cd_lowest_terms ct_lowest_terms : Value}
    {f_ratio_of : Addr}
    {od_ratio_of an_ratio_of : Option Addr} {sl_ratio_of : Array (Option Value)} {oc_ratio_of kV_ratio_of dc_ratio_of pm_ratio_of cd_ratio_of ct_ratio_of : Value}
    {f_is_ratio : Addr}
    {od_is_ratio an_is_ratio : Option Addr} {sl_is_ratio : Array (Option Value)} {oc_is_ratio kV_is_ratio dc_is_ratio pm_is_ratio cd_is_ratio ct_is_ratio : Value}
    {f_are_ratios : Addr}
    {od_are_ratios an_are_ratios : Option Addr} {sl_are_ratios : Array (Option Value)} {oc_are_ratios kV_are_ratios dc_are_ratios pm_are_ratios cd_are_ratios ct_are_ratios : Value}
    {f_sum_parts : Addr}
    {od_sum_parts an_sum_parts : Option Addr} {sl_sum_parts : Array (Option Value)} {oc_sum_parts kV_sum_parts dc_sum_parts pm_sum_parts cd_sum_parts ct_sum_parts : Value}
    {f_total : Addr}
    {od_total an_total : Option Addr} {sl_total : Array (Option Value)} {oc_total kV_total dc_total pm_total cd_total ct_total : Value}
    {f_mean : Addr}
    {od_mean an_mean : Option Addr} {sl_mean : Array (Option Value)} {oc_mean kV_mean dc_mean pm_mean cd_mean ct_mean : Value}
    {f__law_urn : Addr}
    {od__law_urn an__law_urn : Option Addr} {sl__law_urn : Array (Option Value)} {oc__law_urn kV__law_urn dc__law_urn pm__law_urn cd__law_urn ct__law_urn : Value}
    {f__law_drawn : Addr}
    {od__law_drawn an__law_drawn : Option Addr} {sl__law_drawn : Array (Option Value)} {oc__law_drawn kV__law_drawn dc__law_drawn pm__law_drawn cd__law_drawn ct__law_drawn : Value}
    {f__law_one_of : Addr}
    {od__law_one_of an__law_one_of : Option Addr} {sl__law_one_of : Array (Option Value)} {oc__law_one_of kV__law_one_of dc__law_one_of pm__law_one_of cd__law_one_of ct__law_one_of : Value}
    {f__law_divisor : Addr}
    {od__law_divisor an__law_divisor : Option Addr} {sl__law_divisor : Array (Option Value)} {oc__law_divisor kV__law_divisor dc__law_divisor pm__law_divisor cd__law_divisor ct__law_divisor : Value}
    {f__law_lowest : Addr}
    {od__law_lowest an__law_lowest : Option Addr} {sl__law_lowest : Array (Option Value)} {oc__law_lowest kV__law_lowest dc__law_lowest pm__law_lowest cd__law_lowest ct__law_lowest : Value}
    {f__law_power : Addr}
    {od__law_power an__law_power : Option Addr} {sl__law_power : Array (Option Value)} {oc__law_power kV__law_power dc__law_power pm__law_power cd__law_power ct__law_power : Value}
    {f__law_whole : Addr}
    {od__law_whole an__law_whole : Option Addr} {sl__law_whole : Array (Option Value)} {oc__law_whole kV__law_whole dc__law_whole pm__law_whole cd__law_whole ct__law_whole : Value}
    {f__law_sum : Addr}
    {od__law_sum an__law_sum : Option Addr} {sl__law_sum : Array (Option Value)} {oc__law_sum kV__law_sum dc__law_sum pm__law_sum cd__law_sum ct__law_sum : Value}
    {f__law_told : Addr}
    {od__law_told an__law_told : Option Addr} {sl__law_told : Array (Option Value)} {oc__law_told kV__law_told dc__law_told pm__law_told cd__law_told ct__law_told : Value}
    {f__law_mixed : Addr}
    {od__law_mixed an__law_mixed : Option Addr} {sl__law_mixed : Array (Option Value)} {oc__law_mixed kV__law_mixed dc__law_mixed pm__law_mixed cd__law_mixed ct__law_mixed : Value}
    {f__law_right : Addr}
    {od__law_right an__law_right : Option Addr} {sl__law_right : Array (Option Value)} {oc__law_right kV__law_right dc__law_right pm__law_right ct__law_right : Value}
    {cc__law_right : Addr}
    {f_law : Addr}
    {od_law an_law : Option Addr} {sl_law : Array (Option Value)} {oc_law kV_law dc_law pm_law ct_law : Value}
    {cc_law : Addr}
    {f_Ratio___init__ : Addr}
    {od_Ratio___init__ an_Ratio___init__ : Option Addr} {sl_Ratio___init__ : Array (Option Value)} {oc_Ratio___init__ kV_Ratio___init__ dc_Ratio___init__ pm_Ratio___init__ cd_Ratio___init__ ct_Ratio___init__ : Value}
    {dT_Ratio___init__ : Addr}
    {do_Ratio___init__ : Value} {dd_Ratio___init__ : Option Addr} {ds_Ratio___init__ : Array (Option Value)} {dn_Ratio___init__ : Nat} {dt_Ratio___init__ : Tok}
    {f_Ratio_top : Addr}
    {od_Ratio_top an_Ratio_top : Option Addr} {sl_Ratio_top : Array (Option Value)} {oc_Ratio_top kV_Ratio_top dc_Ratio_top pm_Ratio_top cd_Ratio_top ct_Ratio_top : Value}
    {pa_Ratio_top : Addr} {pr_Ratio_top : List Value}
    {f_Ratio_bottom : Addr}
    {od_Ratio_bottom an_Ratio_bottom : Option Addr} {sl_Ratio_bottom : Array (Option Value)} {oc_Ratio_bottom kV_Ratio_bottom dc_Ratio_bottom pm_Ratio_bottom cd_Ratio_bottom ct_Ratio_bottom : Value}
    {pa_Ratio_bottom : Addr} {pr_Ratio_bottom : List Value}
    {f_Ratio___add__ : Addr}
    {od_Ratio___add__ an_Ratio___add__ : Option Addr} {sl_Ratio___add__ : Array (Option Value)} {oc_Ratio___add__ kV_Ratio___add__ dc_Ratio___add__ pm_Ratio___add__ cd_Ratio___add__ ct_Ratio___add__ : Value}
    {f_Ratio___mul__ : Addr}
    {od_Ratio___mul__ an_Ratio___mul__ : Option Addr} {sl_Ratio___mul__ : Array (Option Value)} {oc_Ratio___mul__ kV_Ratio___mul__ dc_Ratio___mul__ pm_Ratio___mul__ cd_Ratio___mul__ ct_Ratio___mul__ : Value}
    {f_Ratio___neg__ : Addr}
    {od_Ratio___neg__ an_Ratio___neg__ : Option Addr} {sl_Ratio___neg__ : Array (Option Value)} {oc_Ratio___neg__ kV_Ratio___neg__ dc_Ratio___neg__ pm_Ratio___neg__ cd_Ratio___neg__ ct_Ratio___neg__ : Value}
    {f_Ratio___eq__ : Addr}
    {od_Ratio___eq__ an_Ratio___eq__ : Option Addr} {sl_Ratio___eq__ : Array (Option Value)} {oc_Ratio___eq__ kV_Ratio___eq__ dc_Ratio___eq__ pm_Ratio___eq__ cd_Ratio___eq__ ct_Ratio___eq__ : Value}
    {f_Ratio___str__ : Addr}
    {od_Ratio___str__ an_Ratio___str__ : Option Addr} {sl_Ratio___str__ : Array (Option Value)} {oc_Ratio___str__ kV_Ratio___str__ dc_Ratio___str__ pm_Ratio___str__ cd_Ratio___str__ ct_Ratio___str__ : Value}
    {f_Ratio_over : Addr}
    {od_Ratio_over an_Ratio_over : Option Addr} {sl_Ratio_over : Array (Option Value)} {oc_Ratio_over kV_Ratio_over dc_Ratio_over pm_Ratio_over cd_Ratio_over ct_Ratio_over : Value}
    {f_Ratio_is_less : Addr}
    {od_Ratio_is_less an_Ratio_is_less : Option Addr} {sl_Ratio_is_less : Array (Option Value)} {oc_Ratio_is_less kV_Ratio_is_less dc_Ratio_is_less pm_Ratio_is_less cd_Ratio_is_less ct_Ratio_is_less : Value}
    {ct0_FEWEST_BITS : Tok}
    {ct0_MOST_BITS : Tok}
    {ct0_MAX_FIGURES : Tok}
    {ct0_MAX_DIGITS : Tok}
    (xg_InvalidNumber : PySem.W.nsIn K mainGlobals "InvalidNumber" = some (some (.ref C_InvalidNumber)))
    (xi_InvalidNumber : PySem.W.excInitIn K C_InvalidNumber [.type "IndexError", .type "LookupError", .type "Exception", .type "BaseException", .type "object"] "IndexError.__new__" = true)
    (xo_InvalidNumber : PySem.W.excOver K C_InvalidNumber [.type "IndexError", .type "LookupError", .type "Exception", .type "BaseException", .type "object"] = true)
    (x1_InvalidNumber : PySem.W.findIn K (.ref C_InvalidNumber) "__setattr__" = some (some (.builtin "object.__setattr__")))
    (x2_InvalidNumber : PySem.W.findIn K (.ref C_InvalidNumber) "__getattribute__" = some (some (.builtin "BaseException.__getattribute__")))
    (x3_InvalidNumber : PySem.W.findIn K (.ref C_InvalidNumber) "__getattr__" = some none)
    (x4_InvalidNumber : PySem.W.findIn K (.ref C_InvalidNumber) "given" = some none)
    (x5_InvalidNumber : PySem.W.findIn K (.ref C_InvalidNumber) "__init__" = some (some (.ref f_InvalidNumber___init__)))
    (x6_InvalidNumber : PySem.W.typeIn K (.ref f_InvalidNumber___init__) = some (.type "function"))
    (x7_InvalidNumber : PySem.W.keepIn K (.ref C_InvalidNumber) = true)
    (x8_InvalidNumber : PySem.W.subIn K (.ref C_InvalidNumber) (.type "BaseException") = some true)
    (x9_InvalidNumber : PySem.W.typeIn K (.ref C_InvalidNumber) = some (.type "type"))
    (xa_InvalidNumber : PySem.W.hasDictIn K C_InvalidNumber = true)
    (xb_InvalidNumber : PySem.W.isClsIn K C_InvalidNumber = true)
    (xc_InvalidNumber : PySem.W.subIn K (.ref C_InvalidNumber) (.ref C_InvalidNumber) = some true)
    (xl_InvalidNumber : K.lookup f_InvalidNumber___init__ = some ⟨oc_InvalidNumber___init__, od_InvalidNumber___init__, .func (PySem.W.fnOf "__init__" "InvalidNumber.__init__" (PySem.XInvalidNumber.iA ⟨12, 17, 12, 21⟩ ⟨12, 23, 12, 28⟩) (PySem.XInvalidNumber.iB ⟨13, 8, 13, 12⟩ ⟨13, 8, 13, 18⟩ ⟨13, 21, 13, 26⟩ ⟨13, 8, 13, 26⟩) PySem.XInvalidNumber.iS .none .none dc_InvalidNumber___init__ pm_InvalidNumber___init__ an_InvalidNumber___init__ cd_InvalidNumber___init__ ct_InvalidNumber___init__), sl_InvalidNumber___init__⟩)
    (xd_InvalidNumber : PySem.W.codeIn K cd_InvalidNumber___init__ "InvalidNumber.__init__" = true)
    (xg_TooMany : PySem.W.nsIn K mainGlobals "TooMany" = some (some (.ref C_TooMany)))
    (xi_TooMany : PySem.W.excInitIn K C_TooMany [.type "OverflowError", .type "ArithmeticError", .type "Exception", .type "BaseException", .type "object"] "OverflowError.__new__" = true)
    (xo_TooMany : PySem.W.excOver K C_TooMany [.type "OverflowError", .type "ArithmeticError", .type "Exception", .type "BaseException", .type "object"] = true)
    (x1_TooMany : PySem.W.findIn K (.ref C_TooMany) "__setattr__" = some (some (.builtin "object.__setattr__")))
    (x2_TooMany : PySem.W.findIn K (.ref C_TooMany) "__getattribute__" = some (some (.builtin "BaseException.__getattribute__")))
    (x3_TooMany : PySem.W.findIn K (.ref C_TooMany) "__getattr__" = some none)
    (x4_TooMany : PySem.W.findIn K (.ref C_TooMany) "limit" = some none)
    (x5_TooMany : PySem.W.findIn K (.ref C_TooMany) "__init__" = some (some (.ref f_TooMany___init__)))
    (x6_TooMany : PySem.W.typeIn K (.ref f_TooMany___init__) = some (.type "function"))
    (x7_TooMany : PySem.W.keepIn K (.ref C_TooMany) = true)
    (x8_TooMany : PySem.W.subIn K (.ref C_TooMany) (.type "BaseException") = some true)
    (x9_TooMany : PySem.W.typeIn K (.ref C_TooMany) = some (.type "type"))
    (xa_TooMany : PySem.W.hasDictIn K C_TooMany = true)
    (xb_TooMany : PySem.W.isClsIn K C_TooMany = true)
    (xc_TooMany : PySem.W.subIn K (.ref C_TooMany) (.ref C_TooMany) = some true)
    (xl_TooMany : K.lookup f_TooMany___init__ = some ⟨oc_TooMany___init__, od_TooMany___init__, .func (PySem.W.fnOf "__init__" "TooMany.__init__" (PySem.XTooMany.iA ⟨16, 17, 16, 21⟩ ⟨16, 23, 16, 28⟩) (PySem.XTooMany.iB ⟨17, 8, 17, 12⟩ ⟨17, 8, 17, 18⟩ ⟨17, 21, 17, 26⟩ ⟨17, 8, 17, 26⟩) PySem.XTooMany.iS .none .none dc_TooMany___init__ pm_TooMany___init__ an_TooMany___init__ cd_TooMany___init__ ct_TooMany___init__), sl_TooMany___init__⟩)
    (xd_TooMany : PySem.W.codeIn K cd_TooMany___init__ "TooMany.__init__" = true)
    (xg_InvalidRatio : PySem.W.nsIn K mainGlobals "InvalidRatio" = some (some (.ref C_InvalidRatio)))
    (xe_InvalidRatio : PySem.W.excIn K C_InvalidRatio [.type "ValueError", .type "Exception", .type "BaseException", .type "object"] "ValueError.__new__" = true)
    (x7_InvalidRatio : PySem.W.keepIn K (.ref C_InvalidRatio) = true)
    (x8_InvalidRatio : PySem.W.subIn K (.ref C_InvalidRatio) (.type "BaseException") = some true)
    (x9_InvalidRatio : PySem.W.typeIn K (.ref C_InvalidRatio) = some (.type "type"))
    (xb_InvalidRatio : PySem.W.isClsIn K C_InvalidRatio = true)
    (sub_InvalidRatio_InvalidRatio : PySem.W.subIn K (.ref C_InvalidRatio) (.ref C_InvalidRatio) = some true)
    (sub_TooMany_InvalidRatio : PySem.W.subIn K (.ref C_TooMany) (.ref C_InvalidRatio) = some false)
    (ac_Ratio : PySem.W.nsIn K mainGlobals "Ratio" = some (some (.ref C_Ratio)))
    (pg_Ratio : PySem.W.plainGet K C_Ratio Str.empty = true)
    (hd_Ratio : PySem.W.hasDictIn K C_Ratio = true)
    (po_Ratio : PySem.W.plainOver K C_Ratio = true)
    (sa_Ratio : PySem.W.findIn K (.ref C_Ratio) "__setattr__" = some (some (.builtin "object.__setattr__")))
    (nA_Ratio__top : PySem.W.findIn K (.ref C_Ratio) "_top" = some none)
    (nA_Ratio__bottom : PySem.W.findIn K (.ref C_Ratio) "_bottom" = some none)
    (t1_Ratio : PySem.W.findIn K (.ref C_Ratio) "__class__" = some (some (.builtin "object.__class__")))
    (t2_Ratio : PySem.W.specialIn K (.builtin "object.__class__") "__get__" = some (some (.builtin "getset_descriptor.__get__")))
    (t3_Ratio : PySem.W.takesIn K (.builtin "object.__class__") = some true)
    (t4_Ratio : PySem.W.mroIn K C_Ratio (.type "object") = some true)
    (ne0_Ratio : PySem.W.findIn K (.ref C_Ratio) "__ne__" = some (some (.builtin "object.__ne__")))
    (kit_Ratio_NoneType : PySem.W.kitOne K (.type "NoneType") (.ref C_Ratio) = some false)
    (nf_Ratio_NoneType : PySem.W.notFirst K C_Ratio (.type "NoneType") = true)
    (itk_Ratio_NoneType : PySem.W.kitOne K (.ref C_Ratio) (.type "NoneType") = some false)
    (kit_Ratio_bool : PySem.W.kitOne K (.type "bool") (.ref C_Ratio) = some false)
    (nf_Ratio_bool : PySem.W.notFirst K C_Ratio (.type "bool") = true)
    (itk_Ratio_bool : PySem.W.kitOne K (.ref C_Ratio) (.type "bool") = some false)
    (kit_Ratio_int : PySem.W.kitOne K (.type "int") (.ref C_Ratio) = some false)
    (nf_Ratio_int : PySem.W.notFirst K C_Ratio (.type "int") = true)
    (itk_Ratio_int : PySem.W.kitOne K (.ref C_Ratio) (.type "int") = some false)
    (kit_Ratio_str : PySem.W.kitOne K (.type "str") (.ref C_Ratio) = some false)
    (nf_Ratio_str : PySem.W.notFirst K C_Ratio (.type "str") = true)
    (itk_Ratio_str : PySem.W.kitOne K (.ref C_Ratio) (.type "str") = some false)
    (kit_Ratio_list : PySem.W.kitOne K (.type "list") (.ref C_Ratio) = some false)
    (nf_Ratio_list : PySem.W.notFirst K C_Ratio (.type "list") = true)
    (itk_Ratio_list : PySem.W.kitOne K (.ref C_Ratio) (.type "list") = some false)
    (kit_Ratio_tuple : PySem.W.kitOne K (.type "tuple") (.ref C_Ratio) = some false)
    (nf_Ratio_tuple : PySem.W.notFirst K C_Ratio (.type "tuple") = true)
    (itk_Ratio_tuple : PySem.W.kitOne K (.ref C_Ratio) (.type "tuple") = some false)
    (kit_Ratio_dict : PySem.W.kitOne K (.type "dict") (.ref C_Ratio) = some false)
    (nf_Ratio_dict : PySem.W.notFirst K C_Ratio (.type "dict") = true)
    (itk_Ratio_dict : PySem.W.kitOne K (.ref C_Ratio) (.type "dict") = some false)
    (kit_Ratio : PySem.W.kitOne K (.ref C_Ratio) (.ref C_Ratio) = some true)
    (nf_Ratio : PySem.W.notFirst K C_Ratio (.ref C_Ratio) = true)
    (a_is_longer : PySem.W.nsIn K mainGlobals "is_longer" = some (some (.ref f_is_longer)))
    (l_is_longer : K.lookup f_is_longer = some ⟨oc_is_longer, od_is_longer, .func (PySem.W.fnOf "is_longer" "is_longer" (defArgs s_is_longer) (defBody s_is_longer) (defScope s_is_longer) .none kV_is_longer dc_is_longer pm_is_longer an_is_longer cd_is_longer ct_is_longer), sl_is_longer⟩)
    (c_is_longer : PySem.W.codeIn K cd_is_longer "is_longer" = true)
    (k_is_longer : PySem.W.keepIn K (.ref f_is_longer) = true)
    (a_is_plain_int : PySem.W.nsIn K mainGlobals "is_plain_int" = some (some (.ref f_is_plain_int)))
    (l_is_plain_int : K.lookup f_is_plain_int = some ⟨oc_is_plain_int, od_is_plain_int, .func (PySem.W.fnOf "is_plain_int" "is_plain_int" (defArgs s_is_plain_int) (defBody s_is_plain_int) (defScope s_is_plain_int) .none kV_is_plain_int dc_is_plain_int pm_is_plain_int an_is_plain_int cd_is_plain_int ct_is_plain_int), sl_is_plain_int⟩)
    (c_is_plain_int : PySem.W.codeIn K cd_is_plain_int "is_plain_int" = true)
    (k_is_plain_int : PySem.W.keepIn K (.ref f_is_plain_int) = true)
    (a_lowest_terms : PySem.W.nsIn K mainGlobals "lowest_terms" = some (some (.ref f_lowest_terms)))
    (l_lowest_terms : K.lookup f_lowest_terms = some ⟨oc_lowest_terms, od_lowest_terms, .func (PySem.W.fnOf "lowest_terms" "lowest_terms" (defArgs s_lowest_terms) (defBody s_lowest_terms) (defScope s_lowest_terms) .none kV_lowest_terms dc_lowest_terms pm_lowest_terms an_lowest_terms cd_lowest_terms ct_lowest_terms), sl_lowest_terms⟩)
    (c_lowest_terms : PySem.W.codeIn K cd_lowest_terms "lowest_terms" = true)
    (k_lowest_terms : PySem.W.keepIn K (.ref f_lowest_terms) = true)
    (a_ratio_of : PySem.W.nsIn K mainGlobals "ratio_of" = some (some (.ref f_ratio_of)))
    (l_ratio_of : K.lookup f_ratio_of = some ⟨oc_ratio_of, od_ratio_of, .func (PySem.W.fnOf "ratio_of" "ratio_of" (defArgs s_ratio_of) (defBody s_ratio_of) (defScope s_ratio_of) .none kV_ratio_of dc_ratio_of pm_ratio_of an_ratio_of cd_ratio_of ct_ratio_of), sl_ratio_of⟩)
    (c_ratio_of : PySem.W.codeIn K cd_ratio_of "ratio_of" = true)
    (k_ratio_of : PySem.W.keepIn K (.ref f_ratio_of) = true)
    (a_is_ratio : PySem.W.nsIn K mainGlobals "is_ratio" = some (some (.ref f_is_ratio)))
    (l_is_ratio : K.lookup f_is_ratio = some ⟨oc_is_ratio, od_is_ratio, .func (PySem.W.fnOf "is_ratio" "is_ratio" (defArgs s_is_ratio) (defBody s_is_ratio) (defScope s_is_ratio) .none kV_is_ratio dc_is_ratio pm_is_ratio an_is_ratio cd_is_ratio ct_is_ratio), sl_is_ratio⟩)
    (c_is_ratio : PySem.W.codeIn K cd_is_ratio "is_ratio" = true)
    (k_is_ratio : PySem.W.keepIn K (.ref f_is_ratio) = true)
    (a_are_ratios : PySem.W.nsIn K mainGlobals "are_ratios" = some (some (.ref f_are_ratios)))
    (l_are_ratios : K.lookup f_are_ratios = some ⟨oc_are_ratios, od_are_ratios, .func (PySem.W.fnOf "are_ratios" "are_ratios" (defArgs s_are_ratios) (defBody s_are_ratios) (defScope s_are_ratios) .none kV_are_ratios dc_are_ratios pm_are_ratios an_are_ratios cd_are_ratios ct_are_ratios), sl_are_ratios⟩)
    (c_are_ratios : PySem.W.codeIn K cd_are_ratios "are_ratios" = true)
    (k_are_ratios : PySem.W.keepIn K (.ref f_are_ratios) = true)
    (a_sum_parts : PySem.W.nsIn K mainGlobals "sum_parts" = some (some (.ref f_sum_parts)))
    (l_sum_parts : K.lookup f_sum_parts = some ⟨oc_sum_parts, od_sum_parts, .func (PySem.W.fnOf "sum_parts" "sum_parts" (defArgs s_sum_parts) (defBody s_sum_parts) (defScope s_sum_parts) .none kV_sum_parts dc_sum_parts pm_sum_parts an_sum_parts cd_sum_parts ct_sum_parts), sl_sum_parts⟩)
    (c_sum_parts : PySem.W.codeIn K cd_sum_parts "sum_parts" = true)
    (k_sum_parts : PySem.W.keepIn K (.ref f_sum_parts) = true)
    (a_total : PySem.W.nsIn K mainGlobals "total" = some (some (.ref f_total)))
    (l_total : K.lookup f_total = some ⟨oc_total, od_total, .func (PySem.W.fnOf "total" "total" (defArgs s_total) (defBody s_total) (defScope s_total) .none kV_total dc_total pm_total an_total cd_total ct_total), sl_total⟩)
    (c_total : PySem.W.codeIn K cd_total "total" = true)
    (k_total : PySem.W.keepIn K (.ref f_total) = true)
    (a_mean : PySem.W.nsIn K mainGlobals "mean" = some (some (.ref f_mean)))
    (l_mean : K.lookup f_mean = some ⟨oc_mean, od_mean, .func (PySem.W.fnOf "mean" "mean" (defArgs s_mean) (defBody s_mean) (defScope s_mean) .none kV_mean dc_mean pm_mean an_mean cd_mean ct_mean), sl_mean⟩)
    (c_mean : PySem.W.codeIn K cd_mean "mean" = true)
    (k_mean : PySem.W.keepIn K (.ref f_mean) = true)
    (a__law_urn : PySem.W.nsIn K mainGlobals "_law_urn" = some (some (.ref f__law_urn)))
    (l__law_urn : K.lookup f__law_urn = some ⟨oc__law_urn, od__law_urn, .func (PySem.W.fnOf "_law_urn" "_law_urn" (defArgs s__law_urn) (defBody s__law_urn) (defScope s__law_urn) .none kV__law_urn dc__law_urn pm__law_urn an__law_urn cd__law_urn ct__law_urn), sl__law_urn⟩)
    (c__law_urn : PySem.W.codeIn K cd__law_urn "_law_urn" = true)
    (k__law_urn : PySem.W.keepIn K (.ref f__law_urn) = true)
    (a__law_drawn : PySem.W.nsIn K mainGlobals "_law_drawn" = some (some (.ref f__law_drawn)))
    (l__law_drawn : K.lookup f__law_drawn = some ⟨oc__law_drawn, od__law_drawn, .func (PySem.W.fnOf "_law_drawn" "_law_drawn" (defArgs s__law_drawn) (defBody s__law_drawn) (defScope s__law_drawn) .none kV__law_drawn dc__law_drawn pm__law_drawn an__law_drawn cd__law_drawn ct__law_drawn), sl__law_drawn⟩)
    (c__law_drawn : PySem.W.codeIn K cd__law_drawn "_law_drawn" = true)
    (k__law_drawn : PySem.W.keepIn K (.ref f__law_drawn) = true)
    (a__law_one_of : PySem.W.nsIn K mainGlobals "_law_one_of" = some (some (.ref f__law_one_of)))
    (l__law_one_of : K.lookup f__law_one_of = some ⟨oc__law_one_of, od__law_one_of, .func (PySem.W.fnOf "_law_one_of" "_law_one_of" (defArgs s__law_one_of) (defBody s__law_one_of) (defScope s__law_one_of) .none kV__law_one_of dc__law_one_of pm__law_one_of an__law_one_of cd__law_one_of ct__law_one_of), sl__law_one_of⟩)
    (c__law_one_of : PySem.W.codeIn K cd__law_one_of "_law_one_of" = true)
    (k__law_one_of : PySem.W.keepIn K (.ref f__law_one_of) = true)
    (a__law_divisor : PySem.W.nsIn K mainGlobals "_law_divisor" = some (some (.ref f__law_divisor)))
    (l__law_divisor : K.lookup f__law_divisor = some ⟨oc__law_divisor, od__law_divisor, .func (PySem.W.fnOf "_law_divisor" "_law_divisor" (defArgs s__law_divisor) (defBody s__law_divisor) (defScope s__law_divisor) .none kV__law_divisor dc__law_divisor pm__law_divisor an__law_divisor cd__law_divisor ct__law_divisor), sl__law_divisor⟩)
    (c__law_divisor : PySem.W.codeIn K cd__law_divisor "_law_divisor" = true)
    (k__law_divisor : PySem.W.keepIn K (.ref f__law_divisor) = true)
    (a__law_lowest : PySem.W.nsIn K mainGlobals "_law_lowest" = some (some (.ref f__law_lowest)))
    (l__law_lowest : K.lookup f__law_lowest = some ⟨oc__law_lowest, od__law_lowest, .func (PySem.W.fnOf "_law_lowest" "_law_lowest" (defArgs s__law_lowest) (defBody s__law_lowest) (defScope s__law_lowest) .none kV__law_lowest dc__law_lowest pm__law_lowest an__law_lowest cd__law_lowest ct__law_lowest), sl__law_lowest⟩)
    (c__law_lowest : PySem.W.codeIn K cd__law_lowest "_law_lowest" = true)
    (k__law_lowest : PySem.W.keepIn K (.ref f__law_lowest) = true)
    (a__law_power : PySem.W.nsIn K mainGlobals "_law_power" = some (some (.ref f__law_power)))
    (l__law_power : K.lookup f__law_power = some ⟨oc__law_power, od__law_power, .func (PySem.W.fnOf "_law_power" "_law_power" (defArgs s__law_power) (defBody s__law_power) (defScope s__law_power) .none kV__law_power dc__law_power pm__law_power an__law_power cd__law_power ct__law_power), sl__law_power⟩)
    (c__law_power : PySem.W.codeIn K cd__law_power "_law_power" = true)
    (k__law_power : PySem.W.keepIn K (.ref f__law_power) = true)
    (a__law_whole : PySem.W.nsIn K mainGlobals "_law_whole" = some (some (.ref f__law_whole)))
    (l__law_whole : K.lookup f__law_whole = some ⟨oc__law_whole, od__law_whole, .func (PySem.W.fnOf "_law_whole" "_law_whole" (defArgs s__law_whole) (defBody s__law_whole) (defScope s__law_whole) .none kV__law_whole dc__law_whole pm__law_whole an__law_whole cd__law_whole ct__law_whole), sl__law_whole⟩)
    (c__law_whole : PySem.W.codeIn K cd__law_whole "_law_whole" = true)
    (k__law_whole : PySem.W.keepIn K (.ref f__law_whole) = true)
    (a__law_sum : PySem.W.nsIn K mainGlobals "_law_sum" = some (some (.ref f__law_sum)))
    (l__law_sum : K.lookup f__law_sum = some ⟨oc__law_sum, od__law_sum, .func (PySem.W.fnOf "_law_sum" "_law_sum" (defArgs s__law_sum) (defBody s__law_sum) (defScope s__law_sum) .none kV__law_sum dc__law_sum pm__law_sum an__law_sum cd__law_sum ct__law_sum), sl__law_sum⟩)
    (c__law_sum : PySem.W.codeIn K cd__law_sum "_law_sum" = true)
    (k__law_sum : PySem.W.keepIn K (.ref f__law_sum) = true)
    (a__law_told : PySem.W.nsIn K mainGlobals "_law_told" = some (some (.ref f__law_told)))
    (l__law_told : K.lookup f__law_told = some ⟨oc__law_told, od__law_told, .func (PySem.W.fnOf "_law_told" "_law_told" (defArgs s__law_told) (defBody s__law_told) (defScope s__law_told) .none kV__law_told dc__law_told pm__law_told an__law_told cd__law_told ct__law_told), sl__law_told⟩)
    (c__law_told : PySem.W.codeIn K cd__law_told "_law_told" = true)
    (k__law_told : PySem.W.keepIn K (.ref f__law_told) = true)
    (a__law_mixed : PySem.W.nsIn K mainGlobals "_law_mixed" = some (some (.ref f__law_mixed)))
    (l__law_mixed : K.lookup f__law_mixed = some ⟨oc__law_mixed, od__law_mixed, .func (PySem.W.fnOf "_law_mixed" "_law_mixed" (defArgs s__law_mixed) (defBody s__law_mixed) (defScope s__law_mixed) .none kV__law_mixed dc__law_mixed pm__law_mixed an__law_mixed cd__law_mixed ct__law_mixed), sl__law_mixed⟩)
    (c__law_mixed : PySem.W.codeIn K cd__law_mixed "_law_mixed" = true)
    (k__law_mixed : PySem.W.keepIn K (.ref f__law_mixed) = true)
    (a__law_right : PySem.W.nsIn K mainGlobals "_law_right" = some (some (.ref f__law_right)))
    (l__law_right : K.lookup f__law_right = some ⟨oc__law_right, od__law_right, .func (PySem.W.fnOf "_law_right" "_law_right" (defArgs s__law_right) (defBody s__law_right) (defScope s__law_right) .none kV__law_right dc__law_right pm__law_right an__law_right (.ref cc__law_right) ct__law_right), sl__law_right⟩)
    (c__law_right : PySem.W.codeIn K (.ref cc__law_right) "_law_right" = true)
    (k__law_right : PySem.W.keepIn K (.ref f__law_right) = true)
    (lc__law_right : PySem.W.codeHdIn K cc__law_right 365 = true)
    (ln__law_right : K.lookup 365 = none)
    (a_law : PySem.W.nsIn K mainGlobals "law" = some (some (.ref f_law)))
    (l_law : K.lookup f_law = some ⟨oc_law, od_law, .func (PySem.W.fnOf "law" "law" (defArgs s_law) (defBody s_law) (defScope s_law) .none kV_law dc_law pm_law an_law (.ref cc_law) ct_law), sl_law⟩)
    (c_law : PySem.W.codeIn K (.ref cc_law) "law" = true)
    (k_law : PySem.W.keepIn K (.ref f_law) = true)
    (lc_law : PySem.W.codeHdIn K cc_law 370 = true)
    (ln_law : K.lookup 370 = none)
    (a_Ratio___init__ : PySem.W.findIn K (.ref C_Ratio) "__init__" = some (some (.ref f_Ratio___init__)))
    (l_Ratio___init__ : K.lookup f_Ratio___init__ = some ⟨oc_Ratio___init__, od_Ratio___init__, .func (PySem.W.fnOf "__init__" "Ratio.__init__" (defArgs s_Ratio___init__) (defBody s_Ratio___init__) (defScope s_Ratio___init__) (.ref dT_Ratio___init__) kV_Ratio___init__ dc_Ratio___init__ pm_Ratio___init__ an_Ratio___init__ cd_Ratio___init__ ct_Ratio___init__), sl_Ratio___init__⟩)
    (c_Ratio___init__ : PySem.W.codeIn K cd_Ratio___init__ "Ratio.__init__" = true)
    (k_Ratio___init__ : PySem.W.keepIn K (.ref f_Ratio___init__) = true)
    (dl_Ratio___init__ : K.lookup dT_Ratio___init__ = some ⟨do_Ratio___init__, dd_Ratio___init__, .seq #[.int 1 dt_Ratio___init__] dn_Ratio___init__, ds_Ratio___init__⟩)
    (i_Ratio___init__ : PySem.W.isFn K (.ref f_Ratio___init__) = true)
    (a1_Ratio_top : PySem.W.findIn K (.ref C_Ratio) "top" = some (some (.ref pa_Ratio_top)))
    (a2_Ratio_top : PySem.W.specialIn K (.ref pa_Ratio_top) "__get__" = some (some (.builtin "property.__get__")))
    (a3_Ratio_top : PySem.W.takesIn K (.ref pa_Ratio_top) = some true)
    (a4_Ratio_top : PySem.W.recIn K pa_Ratio_top "property" = some (.ref f_Ratio_top :: pr_Ratio_top))
    (l_Ratio_top : K.lookup f_Ratio_top = some ⟨oc_Ratio_top, od_Ratio_top, .func (PySem.W.fnOf "top" "Ratio.top" (defArgs s_Ratio_top) (defBody s_Ratio_top) (defScope s_Ratio_top) .none kV_Ratio_top dc_Ratio_top pm_Ratio_top an_Ratio_top cd_Ratio_top ct_Ratio_top), sl_Ratio_top⟩)
    (c_Ratio_top : PySem.W.codeIn K cd_Ratio_top "Ratio.top" = true)
    (k_Ratio_top : PySem.W.keepIn K (.ref f_Ratio_top) = true)
    (a1_Ratio_bottom : PySem.W.findIn K (.ref C_Ratio) "bottom" = some (some (.ref pa_Ratio_bottom)))
    (a2_Ratio_bottom : PySem.W.specialIn K (.ref pa_Ratio_bottom) "__get__" = some (some (.builtin "property.__get__")))
    (a3_Ratio_bottom : PySem.W.takesIn K (.ref pa_Ratio_bottom) = some true)
    (a4_Ratio_bottom : PySem.W.recIn K pa_Ratio_bottom "property" = some (.ref f_Ratio_bottom :: pr_Ratio_bottom))
    (l_Ratio_bottom : K.lookup f_Ratio_bottom = some ⟨oc_Ratio_bottom, od_Ratio_bottom, .func (PySem.W.fnOf "bottom" "Ratio.bottom" (defArgs s_Ratio_bottom) (defBody s_Ratio_bottom) (defScope s_Ratio_bottom) .none kV_Ratio_bottom dc_Ratio_bottom pm_Ratio_bottom an_Ratio_bottom cd_Ratio_bottom ct_Ratio_bottom), sl_Ratio_bottom⟩)
    (c_Ratio_bottom : PySem.W.codeIn K cd_Ratio_bottom "Ratio.bottom" = true)
    (k_Ratio_bottom : PySem.W.keepIn K (.ref f_Ratio_bottom) = true)
    (a_Ratio___add__ : PySem.W.findIn K (.ref C_Ratio) "__add__" = some (some (.ref f_Ratio___add__)))
    (l_Ratio___add__ : K.lookup f_Ratio___add__ = some ⟨oc_Ratio___add__, od_Ratio___add__, .func (PySem.W.fnOf "__add__" "Ratio.__add__" (defArgs s_Ratio___add__) (defBody s_Ratio___add__) (defScope s_Ratio___add__) .none kV_Ratio___add__ dc_Ratio___add__ pm_Ratio___add__ an_Ratio___add__ cd_Ratio___add__ ct_Ratio___add__), sl_Ratio___add__⟩)
    (c_Ratio___add__ : PySem.W.codeIn K cd_Ratio___add__ "Ratio.__add__" = true)
    (k_Ratio___add__ : PySem.W.keepIn K (.ref f_Ratio___add__) = true)
    (i_Ratio___add__ : PySem.W.isFn K (.ref f_Ratio___add__) = true)
    (a_Ratio___mul__ : PySem.W.findIn K (.ref C_Ratio) "__mul__" = some (some (.ref f_Ratio___mul__)))
    (l_Ratio___mul__ : K.lookup f_Ratio___mul__ = some ⟨oc_Ratio___mul__, od_Ratio___mul__, .func (PySem.W.fnOf "__mul__" "Ratio.__mul__" (defArgs s_Ratio___mul__) (defBody s_Ratio___mul__) (defScope s_Ratio___mul__) .none kV_Ratio___mul__ dc_Ratio___mul__ pm_Ratio___mul__ an_Ratio___mul__ cd_Ratio___mul__ ct_Ratio___mul__), sl_Ratio___mul__⟩)
    (c_Ratio___mul__ : PySem.W.codeIn K cd_Ratio___mul__ "Ratio.__mul__" = true)
    (k_Ratio___mul__ : PySem.W.keepIn K (.ref f_Ratio___mul__) = true)
    (i_Ratio___mul__ : PySem.W.isFn K (.ref f_Ratio___mul__) = true)
    (a_Ratio___neg__ : PySem.W.findIn K (.ref C_Ratio) "__neg__" = some (some (.ref f_Ratio___neg__)))
    (l_Ratio___neg__ : K.lookup f_Ratio___neg__ = some ⟨oc_Ratio___neg__, od_Ratio___neg__, .func (PySem.W.fnOf "__neg__" "Ratio.__neg__" (defArgs s_Ratio___neg__) (defBody s_Ratio___neg__) (defScope s_Ratio___neg__) .none kV_Ratio___neg__ dc_Ratio___neg__ pm_Ratio___neg__ an_Ratio___neg__ cd_Ratio___neg__ ct_Ratio___neg__), sl_Ratio___neg__⟩)
    (c_Ratio___neg__ : PySem.W.codeIn K cd_Ratio___neg__ "Ratio.__neg__" = true)
    (k_Ratio___neg__ : PySem.W.keepIn K (.ref f_Ratio___neg__) = true)
    (i_Ratio___neg__ : PySem.W.isFn K (.ref f_Ratio___neg__) = true)
    (a_Ratio___eq__ : PySem.W.findIn K (.ref C_Ratio) "__eq__" = some (some (.ref f_Ratio___eq__)))
    (l_Ratio___eq__ : K.lookup f_Ratio___eq__ = some ⟨oc_Ratio___eq__, od_Ratio___eq__, .func (PySem.W.fnOf "__eq__" "Ratio.__eq__" (defArgs s_Ratio___eq__) (defBody s_Ratio___eq__) (defScope s_Ratio___eq__) .none kV_Ratio___eq__ dc_Ratio___eq__ pm_Ratio___eq__ an_Ratio___eq__ cd_Ratio___eq__ ct_Ratio___eq__), sl_Ratio___eq__⟩)
    (c_Ratio___eq__ : PySem.W.codeIn K cd_Ratio___eq__ "Ratio.__eq__" = true)
    (k_Ratio___eq__ : PySem.W.keepIn K (.ref f_Ratio___eq__) = true)
    (i_Ratio___eq__ : PySem.W.isFn K (.ref f_Ratio___eq__) = true)
    (a_Ratio___str__ : PySem.W.findIn K (.ref C_Ratio) "__str__" = some (some (.ref f_Ratio___str__)))
    (l_Ratio___str__ : K.lookup f_Ratio___str__ = some ⟨oc_Ratio___str__, od_Ratio___str__, .func (PySem.W.fnOf "__str__" "Ratio.__str__" (defArgs s_Ratio___str__) (defBody s_Ratio___str__) (defScope s_Ratio___str__) .none kV_Ratio___str__ dc_Ratio___str__ pm_Ratio___str__ an_Ratio___str__ cd_Ratio___str__ ct_Ratio___str__), sl_Ratio___str__⟩)
    (c_Ratio___str__ : PySem.W.codeIn K cd_Ratio___str__ "Ratio.__str__" = true)
    (k_Ratio___str__ : PySem.W.keepIn K (.ref f_Ratio___str__) = true)
    (i_Ratio___str__ : PySem.W.isFn K (.ref f_Ratio___str__) = true)
    (a_Ratio_over : PySem.W.findIn K (.ref C_Ratio) "over" = some (some (.ref f_Ratio_over)))
    (l_Ratio_over : K.lookup f_Ratio_over = some ⟨oc_Ratio_over, od_Ratio_over, .func (PySem.W.fnOf "over" "Ratio.over" (defArgs s_Ratio_over) (defBody s_Ratio_over) (defScope s_Ratio_over) .none kV_Ratio_over dc_Ratio_over pm_Ratio_over an_Ratio_over cd_Ratio_over ct_Ratio_over), sl_Ratio_over⟩)
    (c_Ratio_over : PySem.W.codeIn K cd_Ratio_over "Ratio.over" = true)
    (k_Ratio_over : PySem.W.keepIn K (.ref f_Ratio_over) = true)
    (i_Ratio_over : PySem.W.isFn K (.ref f_Ratio_over) = true)
    (a_Ratio_is_less : PySem.W.findIn K (.ref C_Ratio) "is_less" = some (some (.ref f_Ratio_is_less)))
    (l_Ratio_is_less : K.lookup f_Ratio_is_less = some ⟨oc_Ratio_is_less, od_Ratio_is_less, .func (PySem.W.fnOf "is_less" "Ratio.is_less" (defArgs s_Ratio_is_less) (defBody s_Ratio_is_less) (defScope s_Ratio_is_less) .none kV_Ratio_is_less dc_Ratio_is_less pm_Ratio_is_less an_Ratio_is_less cd_Ratio_is_less ct_Ratio_is_less), sl_Ratio_is_less⟩)
    (c_Ratio_is_less : PySem.W.codeIn K cd_Ratio_is_less "Ratio.is_less" = true)
    (k_Ratio_is_less : PySem.W.keepIn K (.ref f_Ratio_is_less) = true)
    (i_Ratio_is_less : PySem.W.isFn K (.ref f_Ratio_is_less) = true)
    (mk_Ratio : PySem.W.makesIn K C_Ratio = true)
    (kc_Ratio : PySem.W.keepIn K (.ref C_Ratio) = true)
    (ca_FEWEST_BITS : PySem.W.nsIn K mainGlobals "FEWEST_BITS" = some (some (.int 3 ct0_FEWEST_BITS)))
    (ca_MOST_BITS : PySem.W.nsIn K mainGlobals "MOST_BITS" = some (some (.int 4 ct0_MOST_BITS)))
    (ca_MAX_FIGURES : PySem.W.nsIn K mainGlobals "MAX_FIGURES" = some (some (.int 60 ct0_MAX_FIGURES)))
    (ca_MAX_DIGITS : PySem.W.nsIn K mainGlobals "MAX_DIGITS" = some (some (.int 2000 ct0_MAX_DIGITS)))
    (z_isinstance : PySem.W.nsIn K mainGlobals "isinstance" = some none)
    (z_len : PySem.W.nsIn K mainGlobals "len" = some none)
    (z_str : PySem.W.nsIn K mainGlobals "str" = some none)
    (z_abs : PySem.W.nsIn K mainGlobals "abs" = some none)
    (z_int : PySem.W.nsIn K mainGlobals "int" = some none)
    (z_bool : PySem.W.nsIn K mainGlobals "bool" = some none)
    (z_max : PySem.W.nsIn K mainGlobals "max" = some none)
    (z_min : PySem.W.nsIn K mainGlobals "min" = some none)
    (z_range : PySem.W.nsIn K mainGlobals "range" = some none)
    (z_tuple : PySem.W.nsIn K mainGlobals "tuple" = some none)
    (z_list : PySem.W.nsIn K mainGlobals "list" = some none)
    (z_all : PySem.W.nsIn K mainGlobals "all" = some none)
    (z_ZeroDivisionError : PySem.W.nsIn K mainGlobals "ZeroDivisionError" = some none)
    (lb_gcd : PySem.W.nsIn K mainGlobals "gcd" = some (some (.builtin "math.gcd")))
    (q_sf_Ratio : PySem.W.selfFirst K C_Ratio = true)
    (q_dg : PySem.W.nsIn K cStatics "sys.int_max_str_digits" = some none)
    : Nonempty (TX K mg) := ⟨{
    C_InvalidNumber := C_InvalidNumber,
    f_InvalidNumber___init__ := f_InvalidNumber___init__,
    x_InvalidNumber := ⟨PySem.W.mg_of X G xg_InvalidNumber, xi_InvalidNumber, xo_InvalidNumber, x1_InvalidNumber, x2_InvalidNumber, x3_InvalidNumber, x4_InvalidNumber, x5_InvalidNumber, x6_InvalidNumber, x7_InvalidNumber, x8_InvalidNumber, x9_InvalidNumber, xa_InvalidNumber, L3.exm_of x8_InvalidNumber xb_InvalidNumber x9_InvalidNumber xc_InvalidNumber, ⟨_, _, _, _, _, _, _, _, _, _, _, _, _, _, xl_InvalidNumber, xd_InvalidNumber⟩⟩,
    g_InvalidNumber := PySem.W.mg_of X G xg_InvalidNumber,
    C_TooMany := C_TooMany,
    f_TooMany___init__ := f_TooMany___init__,
    x_TooMany := ⟨PySem.W.mg_of X G xg_TooMany, xi_TooMany, xo_TooMany, x1_TooMany, x2_TooMany, x3_TooMany, x4_TooMany, x5_TooMany, x6_TooMany, x7_TooMany, x8_TooMany, x9_TooMany, xa_TooMany, L3.exm_of x8_TooMany xb_TooMany x9_TooMany xc_TooMany, ⟨_, _, _, _, _, _, _, _, _, _, _, _, _, _, xl_TooMany, xd_TooMany⟩⟩,
    g_TooMany := PySem.W.mg_of X G xg_TooMany,
    C_InvalidRatio := C_InvalidRatio,
    g_InvalidRatio := PySem.W.mg_of X G xg_InvalidRatio,
    x_InvalidRatio := xe_InvalidRatio,
    k_InvalidRatio := x7_InvalidRatio,
    bx_InvalidRatio := x8_InvalidRatio,
    tx_InvalidRatio := x9_InvalidRatio,
    e_InvalidRatio_InvalidRatio := L3.exm_of x8_InvalidRatio xb_InvalidRatio x9_InvalidRatio sub_InvalidRatio_InvalidRatio,
    e_TooMany_InvalidRatio := L3.exm_of x8_InvalidRatio xb_InvalidRatio x9_InvalidRatio sub_TooMany_InvalidRatio,
    C_Ratio := C_Ratio,
    g_Ratio := PySem.W.mg_of X G ac_Ratio,
    cl_Ratio := ⟨pg_Ratio, hd_Ratio, po_Ratio, sa_Ratio⟩,
    n_Ratio__top := nA_Ratio__top,
    n_Ratio__bottom := nA_Ratio__bottom,
    tc_Ratio := ⟨⟨pg_Ratio, hd_Ratio, po_Ratio, sa_Ratio⟩, t1_Ratio, t2_Ratio, t3_Ratio, t4_Ratio⟩,
    ne_Ratio := ⟨ne0_Ratio, t4_Ratio⟩,
    kit_Ratio_NoneType := kit_Ratio_NoneType,
    nf_Ratio_NoneType := nf_Ratio_NoneType,
    itk_Ratio_NoneType := itk_Ratio_NoneType,
    kit_Ratio_bool := kit_Ratio_bool,
    nf_Ratio_bool := nf_Ratio_bool,
    itk_Ratio_bool := itk_Ratio_bool,
    kit_Ratio_int := kit_Ratio_int,
    nf_Ratio_int := nf_Ratio_int,
    itk_Ratio_int := itk_Ratio_int,
    kit_Ratio_str := kit_Ratio_str,
    nf_Ratio_str := nf_Ratio_str,
    itk_Ratio_str := itk_Ratio_str,
    kit_Ratio_list := kit_Ratio_list,
    nf_Ratio_list := nf_Ratio_list,
    itk_Ratio_list := itk_Ratio_list,
    kit_Ratio_tuple := kit_Ratio_tuple,
    nf_Ratio_tuple := nf_Ratio_tuple,
    itk_Ratio_tuple := itk_Ratio_tuple,
    kit_Ratio_dict := kit_Ratio_dict,
    nf_Ratio_dict := nf_Ratio_dict,
    itk_Ratio_dict := itk_Ratio_dict,
    kit_Ratio := kit_Ratio,
    nf_Ratio := nf_Ratio,
    f_is_longer := f_is_longer,
    d_is_longer := PySem.W.fnOf "is_longer" "is_longer" (defArgs s_is_longer) (defBody s_is_longer) (defScope s_is_longer) .none kV_is_longer dc_is_longer pm_is_longer an_is_longer cd_is_longer ct_is_longer,
    F_is_longer := fun_mk (st := s_is_longer) l_is_longer c_is_longer k_is_longer,
    b_is_longer := (fun_mk (st := s_is_longer) l_is_longer c_is_longer k_is_longer).binds (ps := ["number", "digits"]) fun _ _ _ _ _ _ us hl => match us, hl with | [_, _], _ => rfl,
    g_is_longer := PySem.W.mg_of X G a_is_longer,
    f_is_plain_int := f_is_plain_int,
    d_is_plain_int := PySem.W.fnOf "is_plain_int" "is_plain_int" (defArgs s_is_plain_int) (defBody s_is_plain_int) (defScope s_is_plain_int) .none kV_is_plain_int dc_is_plain_int pm_is_plain_int an_is_plain_int cd_is_plain_int ct_is_plain_int,
    F_is_plain_int := fun_mk (st := s_is_plain_int) l_is_plain_int c_is_plain_int k_is_plain_int,
    b_is_plain_int := (fun_mk (st := s_is_plain_int) l_is_plain_int c_is_plain_int k_is_plain_int).binds (ps := ["value"]) fun _ _ _ _ _ _ us hl => match us, hl with | [_], _ => rfl,
    g_is_plain_int := PySem.W.mg_of X G a_is_plain_int,
    f_lowest_terms := f_lowest_terms,
    d_lowest_terms := PySem.W.fnOf "lowest_terms" "lowest_terms" (defArgs s_lowest_terms) (defBody s_lowest_terms) (defScope s_lowest_terms) .none kV_lowest_terms dc_lowest_terms pm_lowest_terms an_lowest_terms cd_lowest_terms ct_lowest_terms,
    F_lowest_terms := fun_mk (st := s_lowest_terms) l_lowest_terms c_lowest_terms k_lowest_terms,
    b_lowest_terms := (fun_mk (st := s_lowest_terms) l_lowest_terms c_lowest_terms k_lowest_terms).binds (ps := ["top", "bottom"]) fun _ _ _ _ _ _ us hl => match us, hl with | [_, _], _ => rfl,
    g_lowest_terms := PySem.W.mg_of X G a_lowest_terms,
    f_ratio_of := f_ratio_of,
    d_ratio_of := PySem.W.fnOf "ratio_of" "ratio_of" (defArgs s_ratio_of) (defBody s_ratio_of) (defScope s_ratio_of) .none kV_ratio_of dc_ratio_of pm_ratio_of an_ratio_of cd_ratio_of ct_ratio_of,
    F_ratio_of := fun_mk (st := s_ratio_of) l_ratio_of c_ratio_of k_ratio_of,
    b_ratio_of := (fun_mk (st := s_ratio_of) l_ratio_of c_ratio_of k_ratio_of).binds (ps := ["top", "bottom"]) fun _ _ _ _ _ _ us hl => match us, hl with | [_, _], _ => rfl,
    g_ratio_of := PySem.W.mg_of X G a_ratio_of,
    f_is_ratio := f_is_ratio,
    d_is_ratio := PySem.W.fnOf "is_ratio" "is_ratio" (defArgs s_is_ratio) (defBody s_is_ratio) (defScope s_is_ratio) .none kV_is_ratio dc_is_ratio pm_is_ratio an_is_ratio cd_is_ratio ct_is_ratio,
    F_is_ratio := fun_mk (st := s_is_ratio) l_is_ratio c_is_ratio k_is_ratio,
    b_is_ratio := (fun_mk (st := s_is_ratio) l_is_ratio c_is_ratio k_is_ratio).binds (ps := ["value"]) fun _ _ _ _ _ _ us hl => match us, hl with | [_], _ => rfl,
    g_is_ratio := PySem.W.mg_of X G a_is_ratio,
    f_are_ratios := f_are_ratios,
    d_are_ratios := PySem.W.fnOf "are_ratios" "are_ratios" (defArgs s_are_ratios) (defBody s_are_ratios) (defScope s_are_ratios) .none kV_are_ratios dc_are_ratios pm_are_ratios an_are_ratios cd_are_ratios ct_are_ratios,
    F_are_ratios := fun_mk (st := s_are_ratios) l_are_ratios c_are_ratios k_are_ratios,
    b_are_ratios := (fun_mk (st := s_are_ratios) l_are_ratios c_are_ratios k_are_ratios).binds (ps := ["value"]) fun _ _ _ _ _ _ us hl => match us, hl with | [_], _ => rfl,
    g_are_ratios := PySem.W.mg_of X G a_are_ratios,
    f_sum_parts := f_sum_parts,
    d_sum_parts := PySem.W.fnOf "sum_parts" "sum_parts" (defArgs s_sum_parts) (defBody s_sum_parts) (defScope s_sum_parts) .none kV_sum_parts dc_sum_parts pm_sum_parts an_sum_parts cd_sum_parts ct_sum_parts,
    F_sum_parts := fun_mk (st := s_sum_parts) l_sum_parts c_sum_parts k_sum_parts,
    b_sum_parts := (fun_mk (st := s_sum_parts) l_sum_parts c_sum_parts k_sum_parts).binds (ps := ["ratios"]) fun _ _ _ _ _ _ us hl => match us, hl with | [_], _ => rfl,
    g_sum_parts := PySem.W.mg_of X G a_sum_parts,
    f_total := f_total,
    d_total := PySem.W.fnOf "total" "total" (defArgs s_total) (defBody s_total) (defScope s_total) .none kV_total dc_total pm_total an_total cd_total ct_total,
    F_total := fun_mk (st := s_total) l_total c_total k_total,
    b_total := (fun_mk (st := s_total) l_total c_total k_total).binds (ps := ["ratios"]) fun _ _ _ _ _ _ us hl => match us, hl with | [_], _ => rfl,
    g_total := PySem.W.mg_of X G a_total,
    f_mean := f_mean,
    d_mean := PySem.W.fnOf "mean" "mean" (defArgs s_mean) (defBody s_mean) (defScope s_mean) .none kV_mean dc_mean pm_mean an_mean cd_mean ct_mean,
    F_mean := fun_mk (st := s_mean) l_mean c_mean k_mean,
    b_mean := (fun_mk (st := s_mean) l_mean c_mean k_mean).binds (ps := ["ratios"]) fun _ _ _ _ _ _ us hl => match us, hl with | [_], _ => rfl,
    g_mean := PySem.W.mg_of X G a_mean,
    f__law_urn := f__law_urn,
    d__law_urn := PySem.W.fnOf "_law_urn" "_law_urn" (defArgs s__law_urn) (defBody s__law_urn) (defScope s__law_urn) .none kV__law_urn dc__law_urn pm__law_urn an__law_urn cd__law_urn ct__law_urn,
    F__law_urn := fun_mk (st := s__law_urn) l__law_urn c__law_urn k__law_urn,
    b__law_urn := (fun_mk (st := s__law_urn) l__law_urn c__law_urn k__law_urn).binds (ps := ["_law_script", "_law_turn"]) fun _ _ _ _ _ _ us hl => match us, hl with | [_, _], _ => rfl,
    g__law_urn := PySem.W.mg_of X G a__law_urn,
    f__law_drawn := f__law_drawn,
    d__law_drawn := PySem.W.fnOf "_law_drawn" "_law_drawn" (defArgs s__law_drawn) (defBody s__law_drawn) (defScope s__law_drawn) .none kV__law_drawn dc__law_drawn pm__law_drawn an__law_drawn cd__law_drawn ct__law_drawn,
    F__law_drawn := fun_mk (st := s__law_drawn) l__law_drawn c__law_drawn k__law_drawn,
    b__law_drawn := (fun_mk (st := s__law_drawn) l__law_drawn c__law_drawn k__law_drawn).binds (ps := ["_law_urn_here", "_law_many"]) fun _ _ _ _ _ _ us hl => match us, hl with | [_, _], _ => rfl,
    g__law_drawn := PySem.W.mg_of X G a__law_drawn,
    f__law_one_of := f__law_one_of,
    d__law_one_of := PySem.W.fnOf "_law_one_of" "_law_one_of" (defArgs s__law_one_of) (defBody s__law_one_of) (defScope s__law_one_of) .none kV__law_one_of dc__law_one_of pm__law_one_of an__law_one_of cd__law_one_of ct__law_one_of,
    F__law_one_of := fun_mk (st := s__law_one_of) l__law_one_of c__law_one_of k__law_one_of,
    b__law_one_of := (fun_mk (st := s__law_one_of) l__law_one_of c__law_one_of k__law_one_of).binds (ps := ["_law_urn_here", "_law_items"]) fun _ _ _ _ _ _ us hl => match us, hl with | [_, _], _ => rfl,
    g__law_one_of := PySem.W.mg_of X G a__law_one_of,
    f__law_divisor := f__law_divisor,
    d__law_divisor := PySem.W.fnOf "_law_divisor" "_law_divisor" (defArgs s__law_divisor) (defBody s__law_divisor) (defScope s__law_divisor) .none kV__law_divisor dc__law_divisor pm__law_divisor an__law_divisor cd__law_divisor ct__law_divisor,
    F__law_divisor := fun_mk (st := s__law_divisor) l__law_divisor c__law_divisor k__law_divisor,
    b__law_divisor := (fun_mk (st := s__law_divisor) l__law_divisor c__law_divisor k__law_divisor).binds (ps := ["_law_one", "_law_other"]) fun _ _ _ _ _ _ us hl => match us, hl with | [_, _], _ => rfl,
    g__law_divisor := PySem.W.mg_of X G a__law_divisor,
    f__law_lowest := f__law_lowest,
    d__law_lowest := PySem.W.fnOf "_law_lowest" "_law_lowest" (defArgs s__law_lowest) (defBody s__law_lowest) (defScope s__law_lowest) .none kV__law_lowest dc__law_lowest pm__law_lowest an__law_lowest cd__law_lowest ct__law_lowest,
    F__law_lowest := fun_mk (st := s__law_lowest) l__law_lowest c__law_lowest k__law_lowest,
    b__law_lowest := (fun_mk (st := s__law_lowest) l__law_lowest c__law_lowest k__law_lowest).binds (ps := ["_law_top", "_law_bottom"]) fun _ _ _ _ _ _ us hl => match us, hl with | [_, _], _ => rfl,
    g__law_lowest := PySem.W.mg_of X G a__law_lowest,
    f__law_power := f__law_power,
    d__law_power := PySem.W.fnOf "_law_power" "_law_power" (defArgs s__law_power) (defBody s__law_power) (defScope s__law_power) .none kV__law_power dc__law_power pm__law_power an__law_power cd__law_power ct__law_power,
    F__law_power := fun_mk (st := s__law_power) l__law_power c__law_power k__law_power,
    b__law_power := (fun_mk (st := s__law_power) l__law_power c__law_power k__law_power).binds (ps := ["_law_base", "_law_times"]) fun _ _ _ _ _ _ us hl => match us, hl with | [_, _], _ => rfl,
    g__law_power := PySem.W.mg_of X G a__law_power,
    f__law_whole := f__law_whole,
    d__law_whole := PySem.W.fnOf "_law_whole" "_law_whole" (defArgs s__law_whole) (defBody s__law_whole) (defScope s__law_whole) .none kV__law_whole dc__law_whole pm__law_whole an__law_whole cd__law_whole ct__law_whole,
    F__law_whole := fun_mk (st := s__law_whole) l__law_whole c__law_whole k__law_whole,
    b__law_whole := (fun_mk (st := s__law_whole) l__law_whole c__law_whole k__law_whole).binds (ps := ["_law_urn_here"]) fun _ _ _ _ _ _ us hl => match us, hl with | [_], _ => rfl,
    g__law_whole := PySem.W.mg_of X G a__law_whole,
    f__law_sum := f__law_sum,
    d__law_sum := PySem.W.fnOf "_law_sum" "_law_sum" (defArgs s__law_sum) (defBody s__law_sum) (defScope s__law_sum) .none kV__law_sum dc__law_sum pm__law_sum an__law_sum cd__law_sum ct__law_sum,
    F__law_sum := fun_mk (st := s__law_sum) l__law_sum c__law_sum k__law_sum,
    b__law_sum := (fun_mk (st := s__law_sum) l__law_sum c__law_sum k__law_sum).binds (ps := ["_law_pairs"]) fun _ _ _ _ _ _ us hl => match us, hl with | [_], _ => rfl,
    g__law_sum := PySem.W.mg_of X G a__law_sum,
    f__law_told := f__law_told,
    d__law_told := PySem.W.fnOf "_law_told" "_law_told" (defArgs s__law_told) (defBody s__law_told) (defScope s__law_told) .none kV__law_told dc__law_told pm__law_told an__law_told cd__law_told ct__law_told,
    F__law_told := fun_mk (st := s__law_told) l__law_told c__law_told k__law_told,
    b__law_told := (fun_mk (st := s__law_told) l__law_told c__law_told k__law_told).binds (ps := ["_law_call"]) fun _ _ _ _ _ _ us hl => match us, hl with | [_], _ => rfl,
    g__law_told := PySem.W.mg_of X G a__law_told,
    f__law_mixed := f__law_mixed,
    d__law_mixed := PySem.W.fnOf "_law_mixed" "_law_mixed" (defArgs s__law_mixed) (defBody s__law_mixed) (defScope s__law_mixed) .none kV__law_mixed dc__law_mixed pm__law_mixed an__law_mixed cd__law_mixed ct__law_mixed,
    F__law_mixed := fun_mk (st := s__law_mixed) l__law_mixed c__law_mixed k__law_mixed,
    b__law_mixed := (fun_mk (st := s__law_mixed) l__law_mixed c__law_mixed k__law_mixed).binds (ps := ["_law_urn_here", "_law_items"]) fun _ _ _ _ _ _ us hl => match us, hl with | [_, _], _ => rfl,
    g__law_mixed := PySem.W.mg_of X G a__law_mixed,
    f__law_right := f__law_right,
    d__law_right := PySem.W.fnOf "_law_right" "_law_right" (defArgs s__law_right) (defBody s__law_right) (defScope s__law_right) .none kV__law_right dc__law_right pm__law_right an__law_right (.ref cc__law_right) ct__law_right,
    cc__law_right := cc__law_right,
    tt__law_right := 365,
    tq__law_right := rfl,
    lc__law_right := lc__law_right,
    ln__law_right := ln__law_right,
    lx__law_right := ⟨_, _, _, _, _, _, _, _, rfl, l__law_right, c__law_right⟩,
    F__law_right := fun_mk (st := s__law_right) l__law_right c__law_right k__law_right,
    b__law_right := (fun_mk (st := s__law_right) l__law_right c__law_right k__law_right).binds (ps := ["_law_urn_here"]) fun _ _ _ _ _ _ us hl => match us, hl with | [_], _ => rfl,
    g__law_right := PySem.W.mg_of X G a__law_right,
    f_law := f_law,
    d_law := PySem.W.fnOf "law" "law" (defArgs s_law) (defBody s_law) (defScope s_law) .none kV_law dc_law pm_law an_law (.ref cc_law) ct_law,
    cc_law := cc_law,
    tt_law := 370,
    tq_law := rfl,
    lc_law := lc_law,
    ln_law := ln_law,
    lx_law := ⟨_, _, _, _, _, _, _, _, rfl, l_law, c_law⟩,
    F_law := fun_mk (st := s_law) l_law c_law k_law,
    b_law := (fun_mk (st := s_law) l_law c_law k_law).binds (ps := ["_law_script"]) fun _ _ _ _ _ _ us hl => match us, hl with | [_], _ => rfl,
    g_law := PySem.W.mg_of X G a_law,
    f_Ratio___init__ := f_Ratio___init__,
    d_Ratio___init__ := PySem.W.fnOf "__init__" "Ratio.__init__" (defArgs s_Ratio___init__) (defBody s_Ratio___init__) (defScope s_Ratio___init__) (.ref dT_Ratio___init__) kV_Ratio___init__ dc_Ratio___init__ pm_Ratio___init__ an_Ratio___init__ cd_Ratio___init__ ct_Ratio___init__,
    F_Ratio___init__ := (⟨⟨_, _, _, _, _, _, _, _, _, _, rfl, l_Ratio___init__, c_Ratio___init__, .inr ⟨by simp, _, _, [.int 1 dt_Ratio___init__], _, rfl, dl_Ratio___init__, rfl, .cons ⟨_, rfl⟩ .nil⟩, .inl rfl⟩, k_Ratio___init__⟩ : FunD K "__init__" "Ratio.__init__" (defArgs s_Ratio___init__) (defBody s_Ratio___init__) (defScope s_Ratio___init__) [.int 1] [] f_Ratio___init__ (PySem.W.fnOf "__init__" "Ratio.__init__" (defArgs s_Ratio___init__) (defBody s_Ratio___init__) (defScope s_Ratio___init__) (.ref dT_Ratio___init__) kV_Ratio___init__ dc_Ratio___init__ pm_Ratio___init__ an_Ratio___init__ cd_Ratio___init__ ct_Ratio___init__)),
    w_Ratio___init__ := (Classical.choose (((⟨⟨_, _, _, _, _, _, _, _, _, _, rfl, l_Ratio___init__, c_Ratio___init__, .inr ⟨by simp, _, _, [.int 1 dt_Ratio___init__], _, rfl, dl_Ratio___init__, rfl, .cons ⟨_, rfl⟩ .nil⟩, .inl rfl⟩, k_Ratio___init__⟩ : FunD K "__init__" "Ratio.__init__" (defArgs s_Ratio___init__) (defBody s_Ratio___init__) (defScope s_Ratio___init__) [.int 1] [] f_Ratio___init__ (PySem.W.fnOf "__init__" "Ratio.__init__" (defArgs s_Ratio___init__) (defBody s_Ratio___init__) (defScope s_Ratio___init__) (.ref dT_Ratio___init__) kV_Ratio___init__ dc_Ratio___init__ pm_Ratio___init__ an_Ratio___init__ cd_Ratio___init__ ct_Ratio___init__))).binds1 2 0 (by simp) (by rfl) (fun T kV doc pm an cdv ct us its hu hi => match us, its, hu, hi with | [_, _], [_], _, _ => ⟨_, rfl, rfl⟩))),
    v_Ratio___init___2 := (Classical.choose_spec (((⟨⟨_, _, _, _, _, _, _, _, _, _, rfl, l_Ratio___init__, c_Ratio___init__, .inr ⟨by simp, _, _, [.int 1 dt_Ratio___init__], _, rfl, dl_Ratio___init__, rfl, .cons ⟨_, rfl⟩ .nil⟩, .inl rfl⟩, k_Ratio___init__⟩ : FunD K "__init__" "Ratio.__init__" (defArgs s_Ratio___init__) (defBody s_Ratio___init__) (defScope s_Ratio___init__) [.int 1] [] f_Ratio___init__ (PySem.W.fnOf "__init__" "Ratio.__init__" (defArgs s_Ratio___init__) (defBody s_Ratio___init__) (defScope s_Ratio___init__) (.ref dT_Ratio___init__) kV_Ratio___init__ dc_Ratio___init__ pm_Ratio___init__ an_Ratio___init__ cd_Ratio___init__ ct_Ratio___init__))).binds1 2 0 (by simp) (by rfl) (fun T kV doc pm an cdv ct us its hu hi => match us, its, hu, hi with | [_, _], [_], _, _ => ⟨_, rfl, rfl⟩))).1,
    b_Ratio___init___2 := (Classical.choose_spec (((⟨⟨_, _, _, _, _, _, _, _, _, _, rfl, l_Ratio___init__, c_Ratio___init__, .inr ⟨by simp, _, _, [.int 1 dt_Ratio___init__], _, rfl, dl_Ratio___init__, rfl, .cons ⟨_, rfl⟩ .nil⟩, .inl rfl⟩, k_Ratio___init__⟩ : FunD K "__init__" "Ratio.__init__" (defArgs s_Ratio___init__) (defBody s_Ratio___init__) (defScope s_Ratio___init__) [.int 1] [] f_Ratio___init__ (PySem.W.fnOf "__init__" "Ratio.__init__" (defArgs s_Ratio___init__) (defBody s_Ratio___init__) (defScope s_Ratio___init__) (.ref dT_Ratio___init__) kV_Ratio___init__ dc_Ratio___init__ pm_Ratio___init__ an_Ratio___init__ cd_Ratio___init__ ct_Ratio___init__))).binds1 2 0 (by simp) (by rfl) (fun T kV doc pm an cdv ct us its hu hi => match us, its, hu, hi with | [_, _], [_], _, _ => ⟨_, rfl, rfl⟩))).2,
    b_Ratio___init__ := L3.binds_full (((⟨⟨_, _, _, _, _, _, _, _, _, _, rfl, l_Ratio___init__, c_Ratio___init__, .inr ⟨by simp, _, _, [.int 1 dt_Ratio___init__], _, rfl, dl_Ratio___init__, rfl, .cons ⟨_, rfl⟩ .nil⟩, .inl rfl⟩, k_Ratio___init__⟩ : FunD K "__init__" "Ratio.__init__" (defArgs s_Ratio___init__) (defBody s_Ratio___init__) (defScope s_Ratio___init__) [.int 1] [] f_Ratio___init__ (PySem.W.fnOf "__init__" "Ratio.__init__" (defArgs s_Ratio___init__) (defBody s_Ratio___init__) (defScope s_Ratio___init__) (.ref dT_Ratio___init__) kV_Ratio___init__ dc_Ratio___init__ pm_Ratio___init__ an_Ratio___init__ cd_Ratio___init__ ct_Ratio___init__))).binds1 3 1 (by simp) (by rfl) (fun T kV doc pm an cdv ct us its hu hi => match us, its, hu, hi with | [_, _, _], [_], _, _ => ⟨_, rfl, rfl⟩)),
    f_Ratio_top := f_Ratio_top,
    d_Ratio_top := PySem.W.fnOf "top" "Ratio.top" (defArgs s_Ratio_top) (defBody s_Ratio_top) (defScope s_Ratio_top) .none kV_Ratio_top dc_Ratio_top pm_Ratio_top an_Ratio_top cd_Ratio_top ct_Ratio_top,
    F_Ratio_top := fun_mk (st := s_Ratio_top) l_Ratio_top c_Ratio_top k_Ratio_top,
    b_Ratio_top := (fun_mk (st := s_Ratio_top) l_Ratio_top c_Ratio_top k_Ratio_top).binds (ps := ["self"]) fun _ _ _ _ _ _ us hl => match us, hl with | [_], _ => rfl,
    pa_Ratio_top := pa_Ratio_top,
    p_Ratio_top := ⟨a1_Ratio_top, a2_Ratio_top, a3_Ratio_top, ⟨_, a4_Ratio_top⟩⟩,
    f_Ratio_bottom := f_Ratio_bottom,
    d_Ratio_bottom := PySem.W.fnOf "bottom" "Ratio.bottom" (defArgs s_Ratio_bottom) (defBody s_Ratio_bottom) (defScope s_Ratio_bottom) .none kV_Ratio_bottom dc_Ratio_bottom pm_Ratio_bottom an_Ratio_bottom cd_Ratio_bottom ct_Ratio_bottom,
    F_Ratio_bottom := fun_mk (st := s_Ratio_bottom) l_Ratio_bottom c_Ratio_bottom k_Ratio_bottom,
    b_Ratio_bottom := (fun_mk (st := s_Ratio_bottom) l_Ratio_bottom c_Ratio_bottom k_Ratio_bottom).binds (ps := ["self"]) fun _ _ _ _ _ _ us hl => match us, hl with | [_], _ => rfl,
    pa_Ratio_bottom := pa_Ratio_bottom,
    p_Ratio_bottom := ⟨a1_Ratio_bottom, a2_Ratio_bottom, a3_Ratio_bottom, ⟨_, a4_Ratio_bottom⟩⟩,
    f_Ratio___add__ := f_Ratio___add__,
    d_Ratio___add__ := PySem.W.fnOf "__add__" "Ratio.__add__" (defArgs s_Ratio___add__) (defBody s_Ratio___add__) (defScope s_Ratio___add__) .none kV_Ratio___add__ dc_Ratio___add__ pm_Ratio___add__ an_Ratio___add__ cd_Ratio___add__ ct_Ratio___add__,
    F_Ratio___add__ := fun_mk (st := s_Ratio___add__) l_Ratio___add__ c_Ratio___add__ k_Ratio___add__,
    b_Ratio___add__ := (fun_mk (st := s_Ratio___add__) l_Ratio___add__ c_Ratio___add__ k_Ratio___add__).binds (ps := ["self", "other"]) fun _ _ _ _ _ _ us hl => match us, hl with | [_, _], _ => rfl,
    o_Ratio___add__ := ⟨a_Ratio___add__, i_Ratio___add__⟩,
    f_Ratio___mul__ := f_Ratio___mul__,
    d_Ratio___mul__ := PySem.W.fnOf "__mul__" "Ratio.__mul__" (defArgs s_Ratio___mul__) (defBody s_Ratio___mul__) (defScope s_Ratio___mul__) .none kV_Ratio___mul__ dc_Ratio___mul__ pm_Ratio___mul__ an_Ratio___mul__ cd_Ratio___mul__ ct_Ratio___mul__,
    F_Ratio___mul__ := fun_mk (st := s_Ratio___mul__) l_Ratio___mul__ c_Ratio___mul__ k_Ratio___mul__,
    b_Ratio___mul__ := (fun_mk (st := s_Ratio___mul__) l_Ratio___mul__ c_Ratio___mul__ k_Ratio___mul__).binds (ps := ["self", "other"]) fun _ _ _ _ _ _ us hl => match us, hl with | [_, _], _ => rfl,
    o_Ratio___mul__ := ⟨a_Ratio___mul__, i_Ratio___mul__⟩,
    f_Ratio___neg__ := f_Ratio___neg__,
    d_Ratio___neg__ := PySem.W.fnOf "__neg__" "Ratio.__neg__" (defArgs s_Ratio___neg__) (defBody s_Ratio___neg__) (defScope s_Ratio___neg__) .none kV_Ratio___neg__ dc_Ratio___neg__ pm_Ratio___neg__ an_Ratio___neg__ cd_Ratio___neg__ ct_Ratio___neg__,
    F_Ratio___neg__ := fun_mk (st := s_Ratio___neg__) l_Ratio___neg__ c_Ratio___neg__ k_Ratio___neg__,
    b_Ratio___neg__ := (fun_mk (st := s_Ratio___neg__) l_Ratio___neg__ c_Ratio___neg__ k_Ratio___neg__).binds (ps := ["self"]) fun _ _ _ _ _ _ us hl => match us, hl with | [_], _ => rfl,
    o_Ratio___neg__ := ⟨a_Ratio___neg__, i_Ratio___neg__⟩,
    f_Ratio___eq__ := f_Ratio___eq__,
    d_Ratio___eq__ := PySem.W.fnOf "__eq__" "Ratio.__eq__" (defArgs s_Ratio___eq__) (defBody s_Ratio___eq__) (defScope s_Ratio___eq__) .none kV_Ratio___eq__ dc_Ratio___eq__ pm_Ratio___eq__ an_Ratio___eq__ cd_Ratio___eq__ ct_Ratio___eq__,
    F_Ratio___eq__ := fun_mk (st := s_Ratio___eq__) l_Ratio___eq__ c_Ratio___eq__ k_Ratio___eq__,
    b_Ratio___eq__ := (fun_mk (st := s_Ratio___eq__) l_Ratio___eq__ c_Ratio___eq__ k_Ratio___eq__).binds (ps := ["self", "other"]) fun _ _ _ _ _ _ us hl => match us, hl with | [_, _], _ => rfl,
    o_Ratio___eq__ := ⟨a_Ratio___eq__, i_Ratio___eq__⟩,
    f_Ratio___str__ := f_Ratio___str__,
    d_Ratio___str__ := PySem.W.fnOf "__str__" "Ratio.__str__" (defArgs s_Ratio___str__) (defBody s_Ratio___str__) (defScope s_Ratio___str__) .none kV_Ratio___str__ dc_Ratio___str__ pm_Ratio___str__ an_Ratio___str__ cd_Ratio___str__ ct_Ratio___str__,
    F_Ratio___str__ := fun_mk (st := s_Ratio___str__) l_Ratio___str__ c_Ratio___str__ k_Ratio___str__,
    b_Ratio___str__ := (fun_mk (st := s_Ratio___str__) l_Ratio___str__ c_Ratio___str__ k_Ratio___str__).binds (ps := ["self"]) fun _ _ _ _ _ _ us hl => match us, hl with | [_], _ => rfl,
    o_Ratio___str__ := ⟨a_Ratio___str__, i_Ratio___str__⟩,
    f_Ratio_over := f_Ratio_over,
    d_Ratio_over := PySem.W.fnOf "over" "Ratio.over" (defArgs s_Ratio_over) (defBody s_Ratio_over) (defScope s_Ratio_over) .none kV_Ratio_over dc_Ratio_over pm_Ratio_over an_Ratio_over cd_Ratio_over ct_Ratio_over,
    F_Ratio_over := fun_mk (st := s_Ratio_over) l_Ratio_over c_Ratio_over k_Ratio_over,
    b_Ratio_over := (fun_mk (st := s_Ratio_over) l_Ratio_over c_Ratio_over k_Ratio_over).binds (ps := ["self", "other"]) fun _ _ _ _ _ _ us hl => match us, hl with | [_, _], _ => rfl,
    m_Ratio_over := ⟨a_Ratio_over, i_Ratio_over, k_Ratio_over⟩,
    f_Ratio_is_less := f_Ratio_is_less,
    d_Ratio_is_less := PySem.W.fnOf "is_less" "Ratio.is_less" (defArgs s_Ratio_is_less) (defBody s_Ratio_is_less) (defScope s_Ratio_is_less) .none kV_Ratio_is_less dc_Ratio_is_less pm_Ratio_is_less an_Ratio_is_less cd_Ratio_is_less ct_Ratio_is_less,
    F_Ratio_is_less := fun_mk (st := s_Ratio_is_less) l_Ratio_is_less c_Ratio_is_less k_Ratio_is_less,
    b_Ratio_is_less := (fun_mk (st := s_Ratio_is_less) l_Ratio_is_less c_Ratio_is_less k_Ratio_is_less).binds (ps := ["self", "other"]) fun _ _ _ _ _ _ us hl => match us, hl with | [_, _], _ => rfl,
    m_Ratio_is_less := ⟨a_Ratio_is_less, i_Ratio_is_less, k_Ratio_is_less⟩,
    mk_Ratio := ⟨mk_Ratio, a_Ratio___init__, i_Ratio___init__, kc_Ratio⟩,
    ct_FEWEST_BITS := ct0_FEWEST_BITS,
    c_FEWEST_BITS := PySem.W.mg_of X G ca_FEWEST_BITS,
    ct_MOST_BITS := ct0_MOST_BITS,
    c_MOST_BITS := PySem.W.mg_of X G ca_MOST_BITS,
    ct_MAX_FIGURES := ct0_MAX_FIGURES,
    c_MAX_FIGURES := PySem.W.mg_of X G ca_MAX_FIGURES,
    ct_MAX_DIGITS := ct0_MAX_DIGITS,
    c_MAX_DIGITS := PySem.W.mg_of X G ca_MAX_DIGITS,
    n_isinstance := PySem.W.mg_none_of X G z_isinstance,
    n_len := PySem.W.mg_none_of X G z_len,
    n_str := PySem.W.mg_none_of X G z_str,
    n_abs := PySem.W.mg_none_of X G z_abs,
    n_int := PySem.W.mg_none_of X G z_int,
    n_bool := PySem.W.mg_none_of X G z_bool,
    n_max := PySem.W.mg_none_of X G z_max,
    n_min := PySem.W.mg_none_of X G z_min,
    n_range := PySem.W.mg_none_of X G z_range,
    n_tuple := PySem.W.mg_none_of X G z_tuple,
    n_list := PySem.W.mg_none_of X G z_list,
    n_all := PySem.W.mg_none_of X G z_all,
    n_ZeroDivisionError := PySem.W.mg_none_of X G z_ZeroDivisionError,
    g_gcd := PySem.W.mg_of X G lb_gcd,
    sf_Ratio := q_sf_Ratio,
    dg := q_dg }⟩
end K03

namespace K03
open PySem PySem.Spec PyProof.Rows L2 L3
theorem if_true_of {c : Bool} {A B : Prop} (hc : c = true) (h : A) : if c = true then A else B := by
  rw [if_pos hc]
  exact h
theorem if_false_of {c : Bool} {A B : Prop} (hc : c = false) (h : B) : if c = true then A else B := by
  rw [hc, if_neg Bool.false_ne_true]
  exact h
/-! ### numbers and their sizes -/
theorem bits_le {n : Int} {k : Nat} : Builtin.Int.intBits n ≤ k ↔ n.natAbs < 2 ^ k := by
  unfold Builtin.Int.intBits
  split
  · rename_i h
    have e : n.natAbs = 0 := by first | simpa using h | omega
    rw [e]
    exact ⟨fun _ => Nat.two_pow_pos k, fun _ => Nat.zero_le _⟩
  · rename_i h
    have e : n.natAbs ≠ 0 := by first | simpa using h | omega
    rw [← Nat.log2_lt e]
    omega
theorem len_nat (m : Nat) : (Str.ofString (toString ((m : Nat) : Int))).length = (Nat.toDigits 10 m).length := by
  have h := congrArg List.length (PySem.W.KIN.signs_num m)
  rw [List.length_map] at h
  rw [← h]
  rfl
theorem len_le {m k : Nat} (hk : 0 < k) : (Str.ofString (toString ((m : Nat) : Int))).length ≤ k ↔ m < 10 ^ k := by
  rw [len_nat, Nat.length_toDigits_le_iff (by decide) hk]
def longer (n : Int) : Bool := decide (10 ^ 60 ≤ n.natAbs)
theorem abs_if (n : Int) : (if n < 0 then -n else n) = ((n.natAbs : Nat) : Int) := by split <;> omega
theorem short_of {n : Int} {k : Nat} (h : longer n = false) (hk : 200 ≤ k) : n.natAbs < 2 ^ k := by
  have h' := of_decide_eq_false h
  have : (10 : Nat) ^ 60 ≤ 2 ^ 200 := by decide
  exact Nat.lt_of_lt_of_le (by omega : n.natAbs < 2 ^ 200) (Nat.pow_le_pow_right (by decide) hk)
theorem longer_few {n : Int} (h : Builtin.Int.intBits n ≤ 180) : longer n = false := by
  rw [bits_le] at h
  have : (2 : Nat) ^ 180 ≤ 10 ^ 60 := by decide
  exact decide_eq_false (by omega)
theorem longer_most {n : Int} (h : ¬ Builtin.Int.intBits n ≤ 240) : longer n = true := by
  rw [bits_le] at h
  have : (10 : Nat) ^ 60 ≤ 2 ^ 240 := by decide
  exact decide_eq_true (by omega)
theorem longer_text {n : Int} : decide ((60 : Int) < ((Str.ofString (toString ((n.natAbs : Nat) : Int))).length : Nat)) = longer n := by
  have h := @len_le n.natAbs 60 (by decide)
  unfold longer
  by_cases c : n.natAbs < 10 ^ 60
  · have := h.mpr c
    rw [decide_eq_false (by omega), decide_eq_false (by omega)]
  · have h2 : ¬ (Str.ofString (toString ((n.natAbs : Nat) : Int))).length ≤ 60 := fun q => c (h.mp q)
    rw [decide_eq_true (by omega), decide_eq_true (by omega)]
theorem log_of {n : Nat} {k : Nat} (hk : 0 < k) (h : n < 2 ^ k) : n.log2 < k := by
  by_cases e : n = 0
  · subst e; exact hk
  · exact (Nat.log2_lt e).mpr h
end K03
namespace K03
open PySem PySem.Spec PyProof.Rows L2 L3
/-! ### lowest terms -/
/-- the divisor that both terms are divided by: its sign is that of the bottom -/
def shr (a b : Int) : Int := if b < 0 then -((Nat.gcd a.natAbs b.natAbs : Nat) : Int) else ((Nat.gcd a.natAbs b.natAbs : Nat) : Int)
def lowT (a b : Int) : Int := a.fdiv (shr a b)
def lowB (a b : Int) : Int := b.fdiv (shr a b)
theorem shr_ne {a b : Int} (h : b ≠ 0) : shr a b ≠ 0 := by
  have : Nat.gcd a.natAbs b.natAbs ≠ 0 := fun z => h (by have := Nat.eq_zero_of_gcd_eq_zero_right z; omega)
  unfold shr
  split <;> omega
theorem shr_abs (a b : Int) : (shr a b).natAbs = Nat.gcd a.natAbs b.natAbs := by
  unfold shr
  split <;> omega
theorem shr_dvd_left (a b : Int) : shr a b ∣ a := by
  rw [← Int.natAbs_dvd_natAbs, shr_abs]
  exact Nat.gcd_dvd_left _ _
theorem shr_dvd_right (a b : Int) : shr a b ∣ b := by
  rw [← Int.natAbs_dvd_natAbs, shr_abs]
  exact Nat.gcd_dvd_right _ _
theorem lowT_mul (a b : Int) : lowT a b * shr a b = a := by
  unfold lowT
  rw [Int.fdiv_eq_ediv_of_dvd (shr_dvd_left a b)]
  exact Int.ediv_mul_cancel (shr_dvd_left a b)
theorem lowB_mul (a b : Int) : lowB a b * shr a b = b := by
  unfold lowB
  rw [Int.fdiv_eq_ediv_of_dvd (shr_dvd_right a b)]
  exact Int.ediv_mul_cancel (shr_dvd_right a b)
theorem lowB_pos {a b : Int} (h : b ≠ 0) : 0 < lowB a b := by
  have e := lowB_mul a b
  have g : 0 < Nat.gcd a.natAbs b.natAbs := by
    have : Nat.gcd a.natAbs b.natAbs ≠ 0 := fun z => h (by have := Nat.eq_zero_of_gcd_eq_zero_right z; omega)
    omega
  by_cases c : b < 0
  · have s : shr a b = -((Nat.gcd a.natAbs b.natAbs : Nat) : Int) := if_pos c
    have sn : shr a b < 0 := by omega
    refine Decidable.byContradiction fun z => ?_
    have := Int.mul_nonneg_of_nonpos_of_nonpos (Int.not_lt.mp z) (Int.le_of_lt sn)
    omega
  · have s : shr a b = ((Nat.gcd a.natAbs b.natAbs : Nat) : Int) := if_neg c
    have sn : 0 < shr a b := by omega
    refine Decidable.byContradiction fun z => ?_
    have q : lowB a b * shr a b ≤ 0 := Int.mul_nonpos_of_nonpos_of_nonneg (Int.not_lt.mp z) (Int.le_of_lt sn)
    have b0 : b = 0 := by omega
    exact h b0
theorem low_cop {a b : Int} (h : b ≠ 0) : Nat.gcd (lowT a b).natAbs (lowB a b).natAbs = 1 := by
  have g : 0 < Nat.gcd a.natAbs b.natAbs := by
    have : Nat.gcd a.natAbs b.natAbs ≠ 0 := fun z => h (by have := Nat.eq_zero_of_gcd_eq_zero_right z; omega)
    omega
  have e1 := congrArg Int.natAbs (lowT_mul a b)
  have e2 := congrArg Int.natAbs (lowB_mul a b)
  rw [Int.natAbs_mul, shr_abs] at e1 e2
  have e3 : Nat.gcd ((lowT a b).natAbs * Nat.gcd a.natAbs b.natAbs) ((lowB a b).natAbs * Nat.gcd a.natAbs b.natAbs) = Nat.gcd a.natAbs b.natAbs := by rw [e1, e2]
  rw [Nat.gcd_mul_right] at e3
  exact Nat.eq_of_mul_eq_mul_right g (by rw [e3, Nat.one_mul])
theorem low_le (a b : Int) (h : b ≠ 0) : (lowT a b).natAbs ≤ a.natAbs ∧ (lowB a b).natAbs ≤ b.natAbs := by
  have e1 := congrArg Int.natAbs (lowT_mul a b)
  have e2 := congrArg Int.natAbs (lowB_mul a b)
  rw [Int.natAbs_mul, shr_abs] at e1 e2
  have g : 0 < Nat.gcd a.natAbs b.natAbs := by
    have : Nat.gcd a.natAbs b.natAbs ≠ 0 := fun z => h (by have := Nat.eq_zero_of_gcd_eq_zero_right z; omega)
    omega
  exact ⟨by rw [← e1]; exact Nat.le_mul_of_pos_right _ g, by rw [← e2]; exact Nat.le_mul_of_pos_right _ g⟩
/-- lowest terms are the only coprime pair over a positive bottom with this value -/
theorem low_eq {a b t u : Int} (h : b ≠ 0) (hu : 0 < u) (hc : Nat.gcd t.natAbs u.natAbs = 1) (e : a * u = t * b) : lowT a b = t ∧ lowB a b = u := by
  have h1 := lowT_mul a b
  have h2 := lowB_mul a b
  have p := lowB_pos (a := a) h
  have c := low_cop (a := a) h
  have s := shr_ne (a := a) h
  have k : lowT a b * u = t * lowB a b := by
    have : (lowT a b * u) * shr a b = (t * lowB a b) * shr a b := by
      rw [Int.mul_right_comm, h1, e, Int.mul_assoc, h2]
    exact Int.eq_of_mul_eq_mul_right s this
  have kn := congrArg Int.natAbs k
  rw [Int.natAbs_mul, Int.natAbs_mul] at kn
  have d1 : u.natAbs ∣ (lowB a b).natAbs := by
    have : u.natAbs ∣ t.natAbs * (lowB a b).natAbs := ⟨(lowT a b).natAbs, by rw [← kn, Nat.mul_comm]⟩
    exact Nat.Coprime.dvd_of_dvd_mul_left (Nat.Coprime.symm hc) this
  have d2 : (lowB a b).natAbs ∣ u.natAbs := by
    have : (lowB a b).natAbs ∣ (lowT a b).natAbs * u.natAbs := ⟨t.natAbs, by rw [kn, Nat.mul_comm]⟩
    exact Nat.Coprime.dvd_of_dvd_mul_left (Nat.Coprime.symm c) this
  have eu : lowB a b = u := by
    have := Nat.dvd_antisymm d2 d1
    omega
  refine ⟨?_, eu⟩
  rw [eu] at k
  exact Int.eq_of_mul_eq_mul_right (by omega) k
theorem tl_le {a : Int} (h : a.natAbs.log2 < 1920) : (Str.ofString (toString a)).length ≤ 1921 := by
  have e := int_text_length_le (k := 1920) (by decide) h
  rw [PySem.ofString_length]; omega
theorem sz_num {a : Int} (h : a.natAbs.log2 < 1920) : (Str.empty ++ Str.ofString (toString a)).length ≤ sizeLine := by
  have e := tl_le h
  rw [PySem.Str.length_append, sizeLine_eq, show Str.empty.length = 0 from rfl]; omega
theorem sz_bar {a : Int} (h : a.natAbs.log2 < 1920) : (Str.empty ++ Str.ofString (toString a) ++ ("/" : Str)).length ≤ sizeLine := by
  have e := tl_le h
  rw [PySem.Str.length_append, PySem.Str.length_append, sizeLine_eq, show Str.empty.length = 0 from rfl, show ("/" : Str).length = 1 from rfl]; omega
theorem sz_all {a b : Int} (h : a.natAbs.log2 < 1920) (h2 : b.natAbs.log2 < 1920) : (Str.empty ++ Str.ofString (toString a) ++ ("/" : Str) ++ Str.ofString (toString b)).length ≤ sizeLine := by
  have e := tl_le h
  have e2 := tl_le h2
  rw [PySem.Str.length_append, PySem.Str.length_append, PySem.Str.length_append, sizeLine_eq, show Str.empty.length = 0 from rfl, show ("/" : Str).length = 1 from rfl]; omega
/-! ### numbers of two thousand digits -/
def many (n : Int) : Bool := decide (10 ^ 2000 ≤ n.natAbs)
theorem many_few {n : Int} (h : Builtin.Int.intBits n ≤ 6000) : many n = false := by
  rw [bits_le] at h
  have : (2 : Nat) ^ 6000 ≤ 10 ^ 2000 := by decide +kernel
  exact decide_eq_false (Nat.not_le.mpr (Nat.lt_of_lt_of_le h this))
theorem many_most {n : Int} (h : ¬ Builtin.Int.intBits n ≤ 8000) : many n = true := by
  rw [bits_le] at h
  have : (10 : Nat) ^ 2000 ≤ 2 ^ 8000 := by decide +kernel
  exact decide_eq_true (Nat.le_trans this (Nat.not_lt.mp h))
theorem many_text {n : Int} : decide ((2000 : Int) < ((Str.ofString (toString ((n.natAbs : Nat) : Int))).length : Nat)) = many n := by
  have h := @len_le n.natAbs 2000 (by decide)
  unfold many
  by_cases c : n.natAbs < 10 ^ 2000
  · have := h.mpr c
    rw [decide_eq_false (by omega), decide_eq_false (Nat.not_le.mpr c)]
  · have h2 : ¬ (Str.ofString (toString ((n.natAbs : Nat) : Int))).length ≤ 2000 := fun q => c (h.mp q)
    rw [decide_eq_true (by omega), decide_eq_true (Nat.not_lt.mp c)]
theorem few_many {n : Int} (h : many n = false) : n.natAbs < 2 ^ 6650 := by
  have h' := of_decide_eq_false h
  have : (10 : Nat) ^ 2000 ≤ 2 ^ 6650 := by decide +kernel
  exact Nat.lt_of_lt_of_le (Nat.not_le.mp h') this
theorem many_of {n : Int} {k : Nat} (h : n.natAbs < 2 ^ k) (hk : k ≤ 6000) : many n = false := by
  have : (2 : Nat) ^ 6000 ≤ 10 ^ 2000 := by decide +kernel
  exact decide_eq_false (Nat.not_le.mpr (Nat.lt_of_lt_of_le (Nat.lt_of_lt_of_le h (Nat.pow_le_pow_right (by decide) hk)) this))
/-! ### the rational numbers -/
theorem low_rat {n m : Int} (h : m ≠ 0) : lowT n m = (Rat.divInt n m).num ∧ lowB n m = ((Rat.divInt n m).den : Int) := by
  have hd : ((Rat.divInt n m).den : Int) ≠ 0 := by have := (Rat.divInt n m).den_pos; omega
  refine low_eq h (by have := (Rat.divInt n m).den_pos; omega) (by rw [Int.natAbs_natCast]; exact (Rat.divInt n m).reduced) ?_
  have e : Rat.divInt n m = Rat.divInt (Rat.divInt n m).num (Rat.divInt n m).den := (Rat.num_divInt_den _).symm
  exact (Rat.divInt_eq_divInt_iff h hd).mp e
theorem den_ne (q : Rat) : ((q.den : Nat) : Int) ≠ 0 := by have := q.den_pos; omega
def big (q : Rat) : Bool := many q.num || many (q.den : Int)
theorem add_low (a b : Rat) : lowT (a.num * b.den + b.num * a.den) (a.den * b.den) = (a + b).num ∧ lowB (a.num * b.den + b.num * a.den) (a.den * b.den) = ((a + b).den : Int) := by
  have h := low_rat (n := a.num * b.den + b.num * a.den) (m := (a.den : Int) * b.den) (Int.mul_ne_zero (den_ne a) (den_ne b))
  have e : Rat.divInt (a.num * b.den + b.num * a.den) ((a.den : Int) * b.den) = a + b := by
    rw [← Rat.divInt_add_divInt _ _ (den_ne a) (den_ne b), Rat.num_divInt_den, Rat.num_divInt_den]
  rw [e] at h
  exact h
theorem neg_q (a : Rat) : (-a).num = -a.num ∧ (-a).den = a.den := ⟨Rat.neg_num a, rfl⟩
theorem sub_low (a b : Rat) : lowT (a.num * b.den - b.num * a.den) (a.den * b.den) = (a - b).num ∧ lowB (a.num * b.den - b.num * a.den) (a.den * b.den) = ((a - b).den : Int) := by
  have h := add_low a (-b)
  rw [(neg_q b).1, (neg_q b).2, Int.neg_mul, ← Int.sub_eq_add_neg, ← Rat.sub_eq_add_neg] at h
  exact h
theorem mul_low (a b : Rat) : lowT (a.num * b.num) (a.den * b.den) = (a * b).num ∧ lowB (a.num * b.num) (a.den * b.den) = ((a * b).den : Int) := by
  have h := low_rat (n := a.num * b.num) (m := (a.den : Int) * b.den) (Int.mul_ne_zero (den_ne a) (den_ne b))
  have e : Rat.divInt (a.num * b.num) ((a.den : Int) * b.den) = a * b := by
    rw [← Rat.divInt_mul_divInt, Rat.num_divInt_den, Rat.num_divInt_den]
  rw [e] at h
  exact h
theorem num_ne {b : Rat} (h : b ≠ 0) : b.num ≠ 0 := fun z => h (Rat.num_eq_zero.mp z)
theorem div_low (a b : Rat) (h : b ≠ 0) : lowT (a.num * b.den) (a.den * b.num) = (a / b).num ∧ lowB (a.num * b.den) (a.den * b.num) = ((a / b).den : Int) := by
  have h := low_rat (n := a.num * b.den) (m := (a.den : Int) * b.num) (Int.mul_ne_zero (den_ne a) (num_ne h))
  have e : Rat.divInt (a.num * b.den) ((a.den : Int) * b.num) = a / b := by
    rw [← Rat.divInt_mul_divInt, Rat.num_divInt_den, Rat.div_def]
    have e2 : Rat.divInt (b.den : Int) b.num = b⁻¹ := by
      rw [← Rat.inv_divInt, Rat.num_divInt_den]
    rw [e2]
  rw [e] at h
  exact h
theorem eq_q (a b : Rat) : (decide (a.num = b.num) && decide ((a.den : Int) = b.den)) = decide (a = b) := by
  by_cases h : a = b
  · subst h
    simp
  · rw [decide_eq_false h]
    by_cases h1 : a.num = b.num
    · by_cases h2 : a.den = b.den
      · exact absurd (Rat.ext h1 h2) h
      · rw [decide_eq_false (show ¬ (a.den : Int) = b.den by omega), Bool.and_false]
    · rw [decide_eq_false h1, Bool.false_and]
def qabs (a : Rat) : Rat := if a.num < 0 then -a else a
theorem abs_q (a : Rat) : (qabs a).num = ((a.num.natAbs : Nat) : Int) ∧ (qabs a).den = a.den := by
  unfold qabs
  split
  · rw [(neg_q a).1, (neg_q a).2]
    exact ⟨by omega, rfl⟩
  · exact ⟨by omega, rfl⟩
theorem lo_self (n : Int) (d : Nat) (hd : d ≠ 0) (hc : n.natAbs.Coprime d) : lowT n d = n ∧ lowB n d = d := low_eq (by omega) (by omega) (by rw [Int.natAbs_natCast]; exact hc) rfl
theorem neg_low (a : Rat) : lowT (-a.num) a.den = (-a).num ∧ lowB (-a.num) a.den = ((-a).den : Int) := by
  have h := lo_self (-a).num (-a).den (-a).den_nz (-a).reduced
  rw [(neg_q a).1, (neg_q a).2] at h
  rw [(neg_q a).1, (neg_q a).2]
  exact h
theorem abs_low (a : Rat) : lowT ((a.num.natAbs : Nat) : Int) a.den = (qabs a).num ∧ lowB ((a.num.natAbs : Nat) : Int) a.den = ((qabs a).den : Int) := by
  have h := lo_self (qabs a).num (qabs a).den (qabs a).den_nz (qabs a).reduced
  rw [(abs_q a).1, (abs_q a).2] at h
  rw [(abs_q a).1, (abs_q a).2]
  exact h
theorem big_neg (a : Rat) : big (-a) = big a := by
  unfold big many
  rw [(neg_q a).1, (neg_q a).2, Int.natAbs_neg]
theorem big_abs (a : Rat) : big (qabs a) = big a := by
  unfold big many
  rw [(abs_q a).1, (abs_q a).2, Int.natAbs_natCast]
theorem big_of {a : Rat} (h : big a = false) : many a.num = false ∧ many (a.den : Int) = false := by
  unfold big at h
  cases h1 : many a.num <;> cases h2 : many (a.den : Int) <;> simp [h1, h2] at h ⊢
theorem w_mul {x y : Int} (hx : many x = false) (hy : many y = false) : (x * y).natAbs < 2 ^ 13300 := by
  have a := few_many hx
  have b := few_many hy
  rw [Int.natAbs_mul, show 13300 = 6650 + 6650 from rfl, Nat.pow_add]
  exact Nat.mul_lt_mul'' a b
theorem w_up {x : Int} (h : x.natAbs < 2 ^ 13300) : x.natAbs < 2 ^ 13400 := Nat.lt_of_lt_of_le h (Nat.pow_le_pow_right (by decide) (by decide))
theorem w_add {x y : Int} (hx : x.natAbs < 2 ^ 13300) (hy : y.natAbs < 2 ^ 13300) : (x + y).natAbs < 2 ^ 13400 := by
  have e : (2 : Nat) ^ 13301 = 2 ^ 13300 * 2 := Nat.pow_succ _ _
  have l : (2 : Nat) ^ 13301 ≤ 2 ^ 13400 := Nat.pow_le_pow_right (by decide) (by decide)
  generalize (2 : Nat) ^ 13300 = P at *
  omega
theorem w_sub {x y : Int} (hx : x.natAbs < 2 ^ 13300) (hy : y.natAbs < 2 ^ 13300) : (x - y).natAbs < 2 ^ 13400 := by
  rw [Int.sub_eq_add_neg]
  exact w_add hx (by rw [Int.natAbs_neg]; exact hy)
theorem cm_many {x y : Int} (hx : many x = false) (hy : many y = false) : CMulW x y := by
  have a := log_of (by decide) (few_many hx)
  have b := log_of (by decide) (few_many hy)
  unfold CMulW
  omega
theorem log_le {n k : Nat} (h : n < 2 ^ k) : n.log2 ≤ k := by
  by_cases e : k = 0
  · subst e
    have : n = 0 := by simpa using h
    subst this
    decide
  · exact Nat.le_of_lt (log_of (by omega) h)
/-- both terms by what they share -/
theorem cd_low {a b z : Int} (hb : b ≠ 0) (h : z.natAbs < 2 ^ 13400) : CDivX z (shr a b) := by
  refine ⟨shr_ne hb, ?_⟩
  have l := log_le h
  by_cases c : (shr a b).natAbs.log2 < 9000
  · exact .inl c
  · exact .inr (by omega)
end K03

namespace K03
open PySem PySem.Spec PyProof.Rows L2 L3

/-! ### what a ratio is in the heap -/
def rf (t b : Int) : List (Str × V) := [("_top", .int t), ("_bottom", .int b)]
theorem tb_ : ¬ (("_top" : Str) = "_bottom") := by decide +kernel
theorem lk_here {k : Str} {v : V} {r : List (Str × V)} : List.lookup k ((k, v) :: r) = some v := by
  have e : (k == k) = true := beq_self_eq_true k
  simp only [List.lookup, e]
theorem lk_past {k g : Str} {v : V} {r : List (Str × V)} (h : (k == g) = false) : List.lookup k ((g, v) :: r) = List.lookup k r := by
  simp only [List.lookup, h]
theorem rf_top (t b : Int) : (rf t b).lookup ("_top" : Str) = some (.int t) := lk_here
theorem rf_bottom (t b : Int) : (rf t b).lookup ("_bottom" : Str) = some (.int b) := (lk_past (by decide +kernel)).trans lk_here
theorem rf_is_less (t b : Int) : (rf t b).lookup ("is_less" : Str) = none := (lk_past (by decide +kernel)).trans ((lk_past (by decide +kernel)).trans rfl)
theorem rf_new (t b : Int) : putF "_bottom" (.int b) (putF "_top" (.int t) []) = rf t b := if_neg tb_
theorem rf_put_top (t b y : Int) : putF "_top" (.int y) (rf t b) = rf y b := if_pos rfl
theorem rf_put_bottom (t b y : Int) : putF "_bottom" (.int y) (rf t b) = rf t y := by
  show (if ("_top" : Str) = "_bottom" then _ else (("_top" : Str), V.int t) :: (if ("_bottom" : Str) = "_bottom" then [(("_bottom" : Str), V.int y)] else _)) = rf t y
  rw [if_neg tb_, if_pos rfl]
  rfl
def RatAt (C : Addr) (H : Hp) (a : Addr) (t b : Int) : Prop := ∃ dx, H a = some (.ins C dx (rf t b))
def Ext (H H' : Hp) : Prop := ∀ a o, H a = some o → H' a = some o
theorem RatAt.ext {C : Addr} {H H' : Hp} {a : Addr} {t b : Int} (r : RatAt C H a t b) (e : Ext H H') : RatAt C H' a t b := r.elim fun dx h => ⟨dx, e _ _ h⟩
theorem Ext.trans {H H1 H2 : Hp} (a : Ext H H1) (b : Ext H1 H2) : Ext H H2 := fun c o h => b c o (a c o h)
theorem Ext.new {H : Hp} {p : Addr} {o : HO} (h : H p = none) : Ext H (upd H p o) := fun a u e => by
  rw [upd_ne (ne_of_none e h)]
  exact e
theorem Ext.free {H H' : Hp} (e : Ext H H') {l : Addr} (h : H' l = none) : H l = none := by
  cases q : H l with
  | none => rfl
  | some o =>
    rw [e l o q] at h
    cases h
/-! ### which values are whole numbers of at most sixty digits -/
def NonInt (K : PySem.W.Frag) (H : Hp) (x : V) : Prop := ∃ t, TyOf K H x t ∧ PySem.W.kitOne K t (.type "int") = some false
def Kn (K : PySem.W.Frag) (H : Hp) (x : V) : Prop := (∃ n, x = .int n) ∨ (∃ b, x = .bl b) ∨ NonInt K H x
def plainV : V → Bool
  | .int n => !longer n
  | _ => false
theorem plain_non {K : PySem.W.Frag} {H : Hp} {x : V} (h : NonInt K H x) : plainV x = false := by
  obtain ⟨t, ty, e⟩ := h
  cases ty with
  | int i => rw [show PySem.W.kitOne K (.type "int") (.type "int") = some true from rfl] at e; cases e
  | _ => rfl
theorem Kn.ext {K : PySem.W.Frag} {H H' : Hp} {x : V} (h : Kn K H x) (e : Ext H H') : Kn K H' x := by
  rcases h with h | h | ⟨t, ty, q⟩
  · exact .inl h
  · exact .inr (.inl h)
  · refine .inr (.inr ⟨t, ?_, q⟩)
    clear q
    cases ty with
    | non => exact .non
    | bl x => exact .bl x
    | int i => exact .int i
    | str x => exact .str x
    | flt x => exact .flt x
    | lst h => exact .lst (e _ _ h)
    | frz h => exact .frz (e _ _ h)
    | tup h => exact .tup (e _ _ h)
    | dK h => exact .dK (e _ _ h)
    | dT h => exact .dT (e _ _ h)
    | ins h a b c d f => exact .ins (e _ _ h) a b c d f
/-! ### the promises -/
def RatQ (C : Addr) (H : Hp) (r : Addr) (q : Rat) : Prop := RatAt C H r q.num q.den
def spLonger : Sp := fun vs H Q _ => ∃ n d : Int, vs = [.int n, .int d] ∧ ((d = 60 ∧ Q (.bl (longer n)) H) ∨ (d = 2000 ∧ Q (.bl (many n)) H))
def spPlain (K : PySem.W.Frag) : Sp := fun vs H Q _ => ∃ x, vs = [x] ∧ Kn K H x ∧ Q (.bl (plainV x)) H
def spLow : Sp := fun vs H Q _ => ∃ a b : Int, vs = [.int a, .int b] ∧ b ≠ 0 ∧ a.natAbs < 2 ^ 13400 ∧ b.natAbs < 2 ^ 13400 ∧ ∀ p, H p = none → Q (.ref p) (upd H p (.tup [.int (lowT a b), .int (lowB a b)]))
def Ext1 (p : Addr) (H H' : Hp) : Prop := ∀ c o, c ≠ p → H c = some o → H' c = some o
def spInit (K : PySem.W.Frag) (C : Addr) : Sp := fun vs H Q _ => ∃ (p dx : Addr) (a b : Int), vs = [.ref p, .int a, .int b] ∧ H p = some (.ins C dx []) ∧ longer a = false ∧ longer b = false ∧ b ≠ 0 ∧ ∀ H', Ext1 p H H' → H' p = some (.ins C dx (rf (lowT a b) (lowB a b))) → Q .non H'
def spRatio (C N : Addr) : Sp := fun vs H Q E => ∃ a b : Int, vs = [.int a, .int b] ∧ b ≠ 0 ∧ a.natAbs < 2 ^ 13400 ∧ b.natAbs < 2 ^ 13400 ∧
  ((many (lowT a b) || many (lowB a b)) = true → ∀ d H', Ext H H' → H' d = some (.xd [("limit", .int 2000)]) → E (.ref N) (some d) H') ∧
  ((many (lowT a b) || many (lowB a b)) = false → ∀ r H', Ext H H' → RatAt C H' r (lowT a b) (lowB a b) → Q (.ref r) H')
def spGet (C : Addr) (f : Int → Int → V) : Sp := fun vs H Q _ => ∃ p t b, vs = [.ref p] ∧ RatAt C H p t b ∧ Q (f t b) H
def spOne (C : Addr) (f : Rat → Rat) : Sp := fun vs H Q _ => ∃ p a, vs = [.ref p] ∧ RatQ C H p a ∧ big a = false ∧ ∀ r H', Ext H H' → RatQ C H' r (f a) → Q (.ref r) H'
def spTwo (C N : Addr) (f : Rat → Rat → Rat) : Sp := fun vs H Q E => ∃ p q a b, vs = [.ref p, .ref q] ∧ RatQ C H p a ∧ RatQ C H q b ∧ big a = false ∧ big b = false ∧
  (big (f a b) = true → ∀ d H', Ext H H' → H' d = some (.xd [("limit", .int 2000)]) → E (.ref N) (some d) H') ∧
  (big (f a b) = false → ∀ r H', Ext H H' → RatQ C H' r (f a b) → Q (.ref r) H')
def spOver (K : PySem.W.Frag) (C N R : Addr) : Sp := fun vs H Q E => ∃ p y a, vs = [.ref p, y] ∧ RatQ C H p a ∧ big a = false ∧
  ((∃ q b, y = .ref q ∧ RatQ C H q b ∧ big b = false ∧ (b = 0 → E (.type "ZeroDivisionError") none H) ∧
    (b ≠ 0 → big (a / b) = true → ∀ d H', Ext H H' → H' d = some (.xd [("limit", .int 2000)]) → E (.ref N) (some d) H') ∧
    (b ≠ 0 → big (a / b) = false → ∀ r H', Ext H H' → RatQ C H' r (a / b) → Q (.ref r) H')) ∨
   (∃ t, TyX K H y t ∧ PySem.W.kitOne K t (.ref C) = some false ∧ E (.ref R) none H))
def spEq (C : Addr) : Sp := fun vs H Q _ => ∃ p q a b, vs = [.ref p, .ref q] ∧ RatQ C H p a ∧ RatQ C H q b ∧ Q (.bl (decide (a = b))) H
def spLess (C : Addr) : Sp := fun vs H Q _ => ∃ p q a b, vs = [.ref p, .ref q] ∧ RatQ C H p a ∧ RatQ C H q b ∧ big a = false ∧ big b = false ∧ Q (.bl (decide (a < b))) H
def spTrue (C : Addr) : Sp := fun vs H Q _ => ∃ p a, vs = [.ref p] ∧ RatQ C H p a ∧ Q (.bl (decide (a ≠ 0))) H
theorem ps_no {X : Cx} {st : Stmt} : PS X st (fun _ _ _ => False) := ⟨fun _ _ _ _ _ _ h => h.elim⟩
theorem ratq_ext {C : Addr} {H H' : Hp} {r : Addr} {q : Rat} (h : RatQ C H r q) (e : Ext H H') : RatQ C H' r q := RatAt.ext h e
section
variable {P : Program} {w : World} {K : PySem.W.Frag} {mg : Str → Option Value} {base : Heap}
theorem ok_is_longer (T : TX K mg) : FnOk P w K mg base (L2.CX P w) 1 T.f_is_longer T.d_is_longer ["number", "digits"] (spLonger) := by
  refine T.F_is_longer.okX sc_is_longer (fun vs H Q E h => ?_) (fun cdv A outer s H vs Q E hr h => ?_)
  · obtain ⟨n, d, rfl, _⟩ := h
    rfl
  · refine ⟨_, (pss_cons (ps_set (i := 2) sc_is_longer.nd rfl (Or.inl rfl) (pe_bits (pv 0)))
    (pss_cons (ps_if (pt_cmpR op_le (pv 2) (pe_op op_mulW (pe_glob (v := .int 3) rfl T.c_FEWEST_BITS ⟨_, rfl⟩) (pv 1)) (nomark _)) (pss_one (ps_ret pe_bl)) pss_nil)
    (pss_one (ps_ret (pe_or (pe_cmpR op_gt (pv 2) (pe_op op_mulW (pe_glob (v := .int 4) rfl T.c_MOST_BITS ⟨_, rfl⟩) (pv 1)) (nomark _)) (pe_one (pe_cmpR op_gt (pe_callB call_len_str (by rfl) T.n_len (by decide +kernel) (pa_cons (pe_callTy (call_str_intD T.dg rfl) (by rfl) T.n_str (by decide +kernel) (pa_cons (pe_callB call_abs (by rfl) T.n_abs (by decide +kernel) (pa_cons (pv 0) pa_nil)) pa_nil)) pa_nil)) (pv 1) (nomark _)))))))), ?_⟩
    obtain ⟨n, d, rfl, h⟩ := h
    refine ⟨_, rfl, _, rfl, ?_⟩
    rcases h with ⟨rfl, k⟩ | ⟨rfl, k⟩
    · refine ⟨_, rfl, _, rfl, _, _, rfl, rfl, (by unfold CMulW; decide), _, _, rfl, rfl, _, rfl, ?_⟩
      refine ite2 (fun c => ?_) (fun c => ?_)
      · have c' := of_decide_eq_true c
        rw [longer_few (by omega)] at k
        exact k
      · refine ⟨_, rfl, _, rfl, _, _, rfl, rfl, (by unfold CMulW; decide), _, _, rfl, rfl, _, rfl, ?_⟩
        refine ite2 (fun c2 => ?_) (fun c2 => ?_)
        · have c' := of_decide_eq_true c2
          rw [longer_most (by omega)] at k
          exact k
        · have c' : ¬ ((4 : Int) * 60 < (Builtin.Int.intBits n : Nat)) := fun z => c2 (decide_eq_true z)
          have hb : n.natAbs < 2 ^ 240 := bits_le.mp (by omega)
          have h10 : n.natAbs < 10 ^ 4300 := Nat.lt_of_lt_of_le hb (by decide +kernel)
          refine ⟨_, rfl, _, rfl, ?_⟩
          rw [abs_if]
          refine ⟨_, rfl, h10, ?_⟩
          refine ⟨_, rfl, int_text_fits10 h10, ?_⟩
          refine ⟨_, rfl, _, _, rfl, rfl, ?_⟩
          show Q (.bl (decide ((60 : Int) < _))) H
          rw [longer_text]
          exact k
    · refine ⟨_, rfl, _, rfl, _, _, rfl, rfl, (by unfold CMulW; decide), _, _, rfl, rfl, _, rfl, ?_⟩
      refine ite2 (fun c => ?_) (fun c => ?_)
      · have c' := of_decide_eq_true c
        rw [many_few (by omega)] at k
        exact k
      · refine ⟨_, rfl, _, rfl, _, _, rfl, rfl, (by unfold CMulW; decide), _, _, rfl, rfl, _, rfl, ?_⟩
        refine ite2 (fun c2 => ?_) (fun c2 => ?_)
        · have c' := of_decide_eq_true c2
          rw [many_most (by omega)] at k
          exact k
        · have c' : ¬ ((4 : Int) * 2000 < (Builtin.Int.intBits n : Nat)) := fun z => c2 (decide_eq_true z)
          have hb : n.natAbs < 2 ^ 8000 := bits_le.mp (by omega)
          have h10 : n.natAbs < 10 ^ 4300 := Nat.lt_of_lt_of_le hb (by decide +kernel)
          refine ⟨_, rfl, _, rfl, ?_⟩
          rw [abs_if]
          refine ⟨_, rfl, h10, ?_⟩
          refine ⟨_, rfl, int_text_fits10 h10, ?_⟩
          refine ⟨_, rfl, _, _, rfl, rfl, ?_⟩
          show Q (.bl (decide ((2000 : Int) < _))) H
          rw [many_text]
          exact k
theorem ok_is_plain_int (T : TX K mg) : FnOk P w K mg base (L2.CX P w) 2 T.f_is_plain_int T.d_is_plain_int ["value"] (spPlain K) := by
  refine T.F_is_plain_int.okX sc_is_plain_int (fun vs H Q E h => ?_) (fun cdv A outer s H vs Q E hr h => ?_)
  · obtain ⟨x, rfl, _⟩ := h
    rfl
  · refine ⟨_, (pss_one (ps_ret (pe_and (pe_callB (id := "isinstance") (r := rIsi K) call_isi (by rfl) T.n_isinstance (by decide +kernel) (pa_cons (pv 0) (pa_cons (pe_bltn (v := .ty "int") (u := .type "int") rfl T.n_int (by decide +kernel) rfl) pa_nil))) (pe_and (pe_not (pe_callB (id := "isinstance") (r := rIsi K) call_isi (by rfl) T.n_isinstance (by decide +kernel) (pa_cons (pv 0) (pa_cons (pe_bltn (v := .ty "bool") (u := .type "bool") rfl T.n_bool (by decide +kernel) rfl) pa_nil)))) (pe_one (pe_not (pe_call (ok_is_longer T) (hr.mono (by decide)) (by rfl) T.g_is_longer T.F_is_longer.kp T.b_is_longer .nil passL (pa_cons (pv 0) (pa_cons (pe_glob (v := .int 60) rfl T.c_MAX_FIGURES ⟨_, rfl⟩) pa_nil))))))))), ?_⟩
    obtain ⟨x, rfl, hk, k⟩ := h
    rcases hk with ⟨n, rfl⟩ | ⟨b, rfl⟩ | hn
    · refine ⟨_, rfl, _, _, _, _, _, rfl, .ty _, .base (.int n), kit_ty (r := true) (by decide +kernel), _, rfl, iteT ?_⟩
      refine ⟨_, rfl, _, _, _, _, _, rfl, .ty _, .base (.int n), kit_ty (r := false) (by decide +kernel), _, rfl, _, rfl, iteT ?_⟩
      exact ⟨_, rfl, n, 60, rfl, .inl ⟨rfl, _, rfl, k⟩⟩
    · refine ⟨_, rfl, _, _, _, _, _, rfl, .ty _, .base (.bl b), kit_ty (r := true) (by decide +kernel), _, rfl, iteT ?_⟩
      refine ⟨_, rfl, _, _, _, _, _, rfl, .ty _, .base (.bl b), kit_ty (r := true) (by decide +kernel), _, rfl, _, rfl, iteF ?_⟩
      exact k
    · rw [plain_non hn] at k
      obtain ⟨t, ty, e⟩ := hn
      refine ⟨_, rfl, _, _, _, _, _, rfl, .ty _, .base ty, e, _, rfl, iteF ?_⟩
      exact k
theorem ok_lowest_terms (T : TX K mg) : FnOk P w K mg base (L2.CX P w) 1 T.f_lowest_terms T.d_lowest_terms ["top", "bottom"] (spLow) := by
  refine T.F_lowest_terms.okX sc_lowest_terms (fun vs H Q E h => ?_) (fun cdv A outer s H vs Q E hr h => ?_)
  · obtain ⟨a, b, rfl, _⟩ := h
    rfl
  · refine ⟨_, (pss_cons (ps_set (i := 2) sc_lowest_terms.nd rfl (Or.inl rfl) (pe_callBfun cr_gcd (by rfl) T.g_gcd (pa_cons (pv 0) (pa_cons (pv 1) pa_nil))))
    (pss_cons (ps_if (pt_cmpR op_lt (pv 1) pe_int (nomark _)) (pss_one (ps_set (i := 2) sc_lowest_terms.nd rfl (Or.inl rfl) (pe_un un_neg (pv 2)))) pss_nil)
    (pss_one (ps_ret (pe_tup (pa_cons (pe_op op_fdivX (pv 0) (pv 2)) (pa_cons (pe_op op_fdivX (pv 1) (pv 2)) pa_nil))))))), ?_⟩
    obtain ⟨a, b, rfl, hb, ha, hz, k⟩ := h
    refine ⟨_, rfl, _, rfl, _, _, rfl, ?_⟩
    refine ⟨_, rfl, _, _, rfl, rfl, _, rfl, ?_⟩
    have fin : ∀ z, z = shr a b → tRet (tTup (tCons (tOp (rI CDivX fun i j => .int (i.fdiv j)) (tVar 0) (tVar 2)) (tCons (tOp (rI CDivX fun i j => .int (i.fdiv j)) (tVar 1) (tVar 2)) tNil))) { nx := fun _ H' => Q .non H', rt := Q } [some (.int a), some (.int b), some (.int z)] H := by
      rintro z rfl
      exact ⟨_, rfl, _, rfl, _, _, rfl, rfl, cd_low hb ha, _, rfl, _, rfl, _, _, rfl, rfl, cd_low hb hz, (by show 2 ≤ sizeLine; decide), k⟩
    refine ite2 (fun c => ?_) (fun c => ?_)
    · refine ⟨_, rfl, _, rfl, fin _ ?_⟩
      exact (if_pos (of_decide_eq_true c)).symm
    · refine fin _ ?_
      exact (if_neg (fun z => c (decide_eq_true z))).symm
theorem ok_Ratio___init__ (T : TX K mg) : FnOk P w K mg base (L2.CX P w) 3 T.f_Ratio___init__ T.d_Ratio___init__ ["self", "top", "bottom"] (spInit K T.C_Ratio) := by
  refine FunD.ok (CX := L2.CX P w) T.F_Ratio___init__ sc_Ratio___init__ (fun vs H Q E h => ?_) (fun cdv A outer s H vs Q E hr h => ?_)
  · obtain ⟨p, dx, a, b, rfl, _⟩ := h
    rfl
  · refine ⟨_, (pss_cons (ps_if (pt_not (pt_val (pe_call (ok_is_plain_int T) (hr.mono (by decide)) (by rfl) T.g_is_plain_int T.F_is_plain_int.kp T.b_is_plain_int .nil passL (pa_cons (pv 1) pa_nil)))) (pss_one (ps_raiseInvalidNumber rfl T.x_InvalidNumber hr (takes_of rfl rfl rfl rfl) (pa_cons (pv 1) pa_nil))) pss_nil)
    (pss_cons (ps_if (PW.pt (pw_or (pt_not (pt_val (pe_call (ok_is_plain_int T) (hr.mono (by decide)) (by rfl) T.g_is_plain_int T.F_is_plain_int.kp T.b_is_plain_int .nil passL (pa_cons (pv 2) pa_nil)))) (pw_or1 (pt_cmpR op_eq (pv 2) pe_int (nomark _))))) (pss_one (ps_raiseInvalidNumber rfl T.x_InvalidNumber hr (takes_of rfl rfl rfl rfl) (pa_cons (pv 2) pa_nil))) pss_nil)
    (pss_one (ps_asg (pe_call (ok_lowest_terms T) (hr.mono (by decide)) (by rfl) T.g_lowest_terms T.F_lowest_terms.kp T.b_lowest_terms .nil passL (pa_cons (pv 1) (pa_cons (pv 2) pa_nil))) (pg_tup (by rfl) (pgs_cons (pg_fld (pv 0)) (pgs_cons (pg_fld (pv 0)) pgs_nil))))))), ?_⟩
    obtain ⟨p, dx, a, b, rfl, hp, la, lb, b0, k3⟩ := h
    have px : plainV (.int a) = true := by simp [plainV, la]
    have py : plainV (.int b) = true := by simp [plainV, lb]
    refine ⟨_, rfl, _, rfl, .inl ⟨a, rfl⟩, _, rfl, if_false_of (by rw [px] <;> rfl) ?_⟩
    refine ⟨_, rfl, _, rfl, .inl ⟨b, rfl⟩, _, rfl, if_false_of (by rw [py] <;> rfl) ?_⟩
    refine ⟨_, rfl, rfl, _, rfl, ?_⟩
    refine if_false_of (decide_eq_false (fun z => b0 (V.int.inj z))) ?_
    refine ⟨_, rfl, _, rfl, a, b, rfl, b0, short_of la (by decide), short_of lb (by decide), fun q hq => ?_⟩
    have npq : p ≠ q := ne_of_none hp hq
    refine ⟨q, _, rfl, SqT.of upd_same, rfl, _, _, rfl, _, rfl, p, T.C_Ratio, dx, [], rfl, (by rw [upd_ne npq]; exact hp), T.cl_Ratio, T.n_Ratio__top, (by show 0 < 1000; decide), ?_⟩
    refine ⟨_, _, rfl, _, rfl, p, T.C_Ratio, dx, _, rfl, upd_same, T.cl_Ratio, T.n_Ratio__bottom, (by show 1 < 1000; decide), rfl, ?_⟩
    refine k3 _ (fun c o hc e => ?_) (by rw [upd_same, rf_new])
    rw [upd_ne hc, upd_ne hc, upd_ne (ne_of_none e hq)]
    exact e
theorem ok_ratio_of (T : TX K mg) : FnOk P w K mg base (L2.CX P w) 5 T.f_ratio_of T.d_ratio_of ["top", "bottom"] (spRatio T.C_Ratio T.C_TooMany) := by
  refine T.F_ratio_of.okX sc_ratio_of (fun vs H Q E h => ?_) (fun cdv A outer s H vs Q E hr h => ?_)
  · obtain ⟨a, b, rfl, _⟩ := h
    rfl
  · refine ⟨_, (pss_cons (ps_asg (pe_call (ok_lowest_terms T) (hr.mono (by decide)) (by rfl) T.g_lowest_terms T.F_lowest_terms.kp T.b_lowest_terms .nil passL (pa_cons (pv 0) (pa_cons (pv 1) pa_nil))) (pg_tup (by rfl) (pgs_cons (pg_name (i := 0) sc_ratio_of.nd rfl (Or.inl rfl)) (pgs_cons (pg_name (i := 1) sc_ratio_of.nd rfl (Or.inl rfl)) pgs_nil))))
    (pss_cons (ps_if (PW.pt (pw_or (pt_val (pe_call (ok_is_longer T) (hr.mono (by decide)) (by rfl) T.g_is_longer T.F_is_longer.kp T.b_is_longer .nil passL (pa_cons (pv 0) (pa_cons (pe_glob (v := .int 2000) rfl T.c_MAX_DIGITS ⟨_, rfl⟩) pa_nil)))) (pw_or1 (pt_val (pe_call (ok_is_longer T) (hr.mono (by decide)) (by rfl) T.g_is_longer T.F_is_longer.kp T.b_is_longer .nil passL (pa_cons (pv 1) (pa_cons (pe_glob (v := .int 2000) rfl T.c_MAX_DIGITS ⟨_, rfl⟩) pa_nil))))))) (pss_one (ps_raiseTooMany rfl T.x_TooMany hr (takes_of rfl rfl rfl rfl) (pa_cons (pe_glob (v := .int 2000) rfl T.c_MAX_DIGITS ⟨_, rfl⟩) pa_nil))) pss_nil)
    (pss_cons (ps_set (i := 2) sc_ratio_of.nd rfl (Or.inl rfl) (pe_make T.mk_Ratio (ok_Ratio___init__ T) (hr.mono (by decide)) (by rfl) T.g_Ratio T.b_Ratio___init___2 T.v_Ratio___init___2 passL (pa_cons pe_int pa_nil)))
    (pss_cons (ps_fld (pv 2) (pv 0) rfl)
    (pss_cons (ps_fld (pv 2) (pv 1) rfl)
    (pss_one (ps_ret (pv 2)))))))), ?_⟩
    obtain ⟨a, b, rfl, b0, ha, hb, kE, k⟩ := h
    refine ⟨_, rfl, _, rfl, a, b, rfl, b0, ha, hb, fun q hq => ?_⟩
    have e0 : Ext H (upd H q (.tup [.int (lowT a b), .int (lowB a b)])) := Ext.new hq
    refine ⟨q, _, rfl, SqT.of upd_same, rfl, _, _, rfl, _, _, rfl, rfl, ?_⟩
    refine ⟨_, rfl, _, _, rfl, .inr ⟨rfl, _, rfl, ?_⟩⟩
    cases m1 : many (lowT a b) with
    | true =>
      rw [m1] at kE
      refine iteT (iteT ?_)
      exact ⟨_, rfl, fun d hd => kE rfl d _ (e0.trans (Ext.new hd)) upd_same⟩
    | false =>
      refine iteF ?_
      refine ⟨_, rfl, _, _, rfl, .inr ⟨rfl, _, rfl, ?_⟩⟩
      rw [m1] at kE k
      cases m2 : many (lowB a b) with
      | true =>
        rw [m2] at kE
        refine iteT ?_
        exact ⟨_, rfl, fun d hd => kE rfl d _ (e0.trans (Ext.new hd)) upd_same⟩
      | false =>
        rw [m2] at k
        refine iteF ?_
        intro x dx nx ndx nex
        refine ⟨x, dx, 0, 1, rfl, upd_same, (by decide +kernel), (by decide +kernel), (by decide), fun H' e1 hx => ⟨rfl, ?_⟩⟩
        refine ⟨_, rfl, _, rfl, x, T.C_Ratio, dx, _, rfl, hx, T.cl_Ratio, T.n_Ratio__top, (by show 2 < 1000; decide), ?_⟩
        refine ⟨_, rfl, _, rfl, x, T.C_Ratio, dx, _, rfl, upd_same, T.cl_Ratio, T.n_Ratio__bottom, (by rw [rf_put_top]; show 2 < 1000; decide), ?_⟩
        refine ⟨_, rfl, k rfl x _ (fun c o e => ?_) ⟨dx, by rw [upd_same, rf_put_top, rf_put_bottom]⟩⟩
        have n1 : c ≠ x := ne_of_none (e0 _ _ e) nx
        rw [upd_ne n1, upd_ne n1]
        refine e1 _ _ n1 ?_
        rw [upd_ne n1, upd_ne (ne_of_none (e0 _ _ e) ndx)]
        exact e0 _ _ e
theorem ok_Ratio___add__ (T : TX K mg) : FnOk P w K mg base (L2.CX P w) 6 T.f_Ratio___add__ T.d_Ratio___add__ ["self", "other"] (spTwo T.C_Ratio T.C_TooMany (fun a b => a + b)) := by
  refine T.F_Ratio___add__.okX sc_Ratio___add__ (fun vs H Q E h => ?_) (fun cdv A outer s H vs Q E hr h => ?_)
  · obtain ⟨p, q, a, b, rfl, _⟩ := h
    rfl
  · refine ⟨_, (pss_cons (ps_if (pt_not (pt_val (pe_callB (id := "isinstance") (r := rIsi K) call_isi (by rfl) T.n_isinstance (by decide +kernel) (pa_cons (pv 1) (pa_cons (pe_glob (v := .ref T.C_Ratio) rfl T.g_Ratio rfl) pa_nil))))) (pss_one ps_no) pss_nil)
    (pss_one (ps_ret (pe_callS (ok_ratio_of T) (hr.mono (by decide)) (by rfl) T.g_ratio_of T.F_ratio_of.kp T.b_ratio_of (fun σ => passAt (takes_of rfl rfl rfl rfl) σ) (pa_cons (pe_op op_add (pe_op op_mulW (pe_fld (pv 0) rfl) (pe_fld (pv 1) rfl)) (pe_op op_mulW (pe_fld (pv 1) rfl) (pe_fld (pv 0) rfl))) (pa_cons (pe_op op_mulW (pe_fld (pv 0) rfl) (pe_fld (pv 1) rfl)) pa_nil)))))), ?_⟩
    obtain ⟨p, q, a, b, rfl, ⟨dx, hp⟩, ⟨dy, hq⟩, ba, bb, kE, k⟩ := h
    obtain ⟨a1, a2⟩ := big_of ba
    obtain ⟨b1, b2⟩ := big_of bb
    have l := add_low a b
    have z : big (a + b) = (many _ || many _) := rfl
    rw [z, ← l.1, ← l.2] at kE k
    refine ⟨_, rfl, _, _, _, _, _, rfl, .own _, .base (T.tc_Ratio.ty hq), T.kit_Ratio, _, rfl, iteF ?_⟩
    refine ⟨_, rfl, p, T.C_Ratio, dx, _, _, rfl, hp, T.cl_Ratio, T.n_Ratio__top, rf_top _ _, _, rfl, q, T.C_Ratio, dy, _, _, rfl, hq, T.cl_Ratio, T.n_Ratio__bottom, rf_bottom _ _, _, _, rfl, rfl, cm_many a1 b2, _, rfl, q, T.C_Ratio, dy, _, _, rfl, hq, T.cl_Ratio, T.n_Ratio__top, rf_top _ _, _, rfl, p, T.C_Ratio, dx, _, _, rfl, hp, T.cl_Ratio, T.n_Ratio__bottom, rf_bottom _ _, _, _, rfl, rfl, cm_many b1 a2, _, _, rfl, rfl, _, rfl, p, T.C_Ratio, dx, _, _, rfl, hp, T.cl_Ratio, T.n_Ratio__bottom, rf_bottom _ _, _, rfl, q, T.C_Ratio, dy, _, _, rfl, hq, T.cl_Ratio, T.n_Ratio__bottom, rf_bottom _ _, _, _, rfl, rfl, cm_many a2 b2, ?_⟩
    refine ⟨_, _, rfl, Int.mul_ne_zero (den_ne a) (den_ne b), w_add (w_mul a1 b2) (w_mul b1 a2), w_up (w_mul a2 b2), kE, fun h r H' e x => k h r H' e ?_⟩
    show RatAt _ _ _ _ _
    rw [← l.1, ← l.2]
    exact x
theorem ok_Ratio___mul__ (T : TX K mg) : FnOk P w K mg base (L2.CX P w) 6 T.f_Ratio___mul__ T.d_Ratio___mul__ ["self", "other"] (spTwo T.C_Ratio T.C_TooMany (fun a b => a * b)) := by
  refine T.F_Ratio___mul__.okX sc_Ratio___mul__ (fun vs H Q E h => ?_) (fun cdv A outer s H vs Q E hr h => ?_)
  · obtain ⟨p, q, a, b, rfl, _⟩ := h
    rfl
  · refine ⟨_, (pss_cons (ps_if (pt_not (pt_val (pe_callB (id := "isinstance") (r := rIsi K) call_isi (by rfl) T.n_isinstance (by decide +kernel) (pa_cons (pv 1) (pa_cons (pe_glob (v := .ref T.C_Ratio) rfl T.g_Ratio rfl) pa_nil))))) (pss_one ps_no) pss_nil)
    (pss_one (ps_ret (pe_callS (ok_ratio_of T) (hr.mono (by decide)) (by rfl) T.g_ratio_of T.F_ratio_of.kp T.b_ratio_of (fun σ => passAt (takes_of rfl rfl rfl rfl) σ) (pa_cons (pe_op op_mulW (pe_fld (pv 0) rfl) (pe_fld (pv 1) rfl)) (pa_cons (pe_op op_mulW (pe_fld (pv 0) rfl) (pe_fld (pv 1) rfl)) pa_nil)))))), ?_⟩
    obtain ⟨p, q, a, b, rfl, ⟨dx, hp⟩, ⟨dy, hq⟩, ba, bb, kE, k⟩ := h
    obtain ⟨a1, a2⟩ := big_of ba
    obtain ⟨b1, b2⟩ := big_of bb
    have l := mul_low a b
    have z : big (a * b) = (many _ || many _) := rfl
    rw [z, ← l.1, ← l.2] at kE k
    refine ⟨_, rfl, _, _, _, _, _, rfl, .own _, .base (T.tc_Ratio.ty hq), T.kit_Ratio, _, rfl, iteF ?_⟩
    refine ⟨_, rfl, p, T.C_Ratio, dx, _, _, rfl, hp, T.cl_Ratio, T.n_Ratio__top, rf_top _ _, _, rfl, q, T.C_Ratio, dy, _, _, rfl, hq, T.cl_Ratio, T.n_Ratio__top, rf_top _ _, _, _, rfl, rfl, cm_many a1 b1, _, rfl, p, T.C_Ratio, dx, _, _, rfl, hp, T.cl_Ratio, T.n_Ratio__bottom, rf_bottom _ _, _, rfl, q, T.C_Ratio, dy, _, _, rfl, hq, T.cl_Ratio, T.n_Ratio__bottom, rf_bottom _ _, _, _, rfl, rfl, cm_many a2 b2, ?_⟩
    refine ⟨_, _, rfl, Int.mul_ne_zero (den_ne a) (den_ne b), w_up (w_mul a1 b1), w_up (w_mul a2 b2), kE, fun h r H' e x => k h r H' e ?_⟩
    show RatAt _ _ _ _ _
    rw [← l.1, ← l.2]
    exact x
theorem ok_Ratio_top (T : TX K mg) : FnOk P w K mg base (L2.CX P w) 1 T.f_Ratio_top T.d_Ratio_top ["self"] (spGet T.C_Ratio fun t b => .int t) := by
  refine T.F_Ratio_top.okX sc_Ratio_top (fun vs H Q E h => ?_) (fun cdv A outer s H vs Q E hr h => ?_)
  · obtain ⟨p, t, b, rfl, _⟩ := h
    rfl
  · refine ⟨_, (pss_one (ps_ret (pe_fld (pv 0) rfl))), ?_⟩
    obtain ⟨p, t, b, rfl, ⟨dx, hp⟩, k⟩ := h
    exact ⟨_, rfl, p, T.C_Ratio, dx, _, _, rfl, hp, T.cl_Ratio, T.n_Ratio__top, rf_top _ _, k⟩
theorem ok_Ratio_bottom (T : TX K mg) : FnOk P w K mg base (L2.CX P w) 1 T.f_Ratio_bottom T.d_Ratio_bottom ["self"] (spGet T.C_Ratio fun t b => .int b) := by
  refine T.F_Ratio_bottom.okX sc_Ratio_bottom (fun vs H Q E h => ?_) (fun cdv A outer s H vs Q E hr h => ?_)
  · obtain ⟨p, t, b, rfl, _⟩ := h
    rfl
  · refine ⟨_, (pss_one (ps_ret (pe_fld (pv 0) rfl))), ?_⟩
    obtain ⟨p, t, b, rfl, ⟨dx, hp⟩, k⟩ := h
    exact ⟨_, rfl, p, T.C_Ratio, dx, _, _, rfl, hp, T.cl_Ratio, T.n_Ratio__bottom, rf_bottom _ _, k⟩
theorem ok_Ratio___neg__ (T : TX K mg) : FnOk P w K mg base (L2.CX P w) 6 T.f_Ratio___neg__ T.d_Ratio___neg__ ["self"] (spOne T.C_Ratio (fun a => -a)) := by
  refine T.F_Ratio___neg__.okX sc_Ratio___neg__ (fun vs H Q E h => ?_) (fun cdv A outer s H vs Q E hr h => ?_)
  · obtain ⟨p, a, rfl, _⟩ := h
    rfl
  · refine ⟨_, (pss_one (ps_ret (pe_call (ok_ratio_of T) (hr.mono (by decide)) (by rfl) T.g_ratio_of T.F_ratio_of.kp T.b_ratio_of .nil passL (pa_cons (pe_un un_neg (pe_fld (pv 0) rfl)) (pa_cons (pe_fld (pv 0) rfl) pa_nil))))), ?_⟩
    obtain ⟨p, a, rfl, ⟨dx, hp⟩, ba, k⟩ := h
    obtain ⟨a1, a2⟩ := big_of ba
    have l := neg_low a
    have m := big_neg a
    refine ⟨_, rfl, p, T.C_Ratio, dx, _, _, rfl, hp, T.cl_Ratio, T.n_Ratio__top, rf_top _ _, _, rfl, _, rfl, p, T.C_Ratio, dx, _, _, rfl, hp, T.cl_Ratio, T.n_Ratio__bottom, rf_bottom _ _, _, _, rfl, den_ne a, (by rw [Int.natAbs_neg]; exact Nat.lt_of_lt_of_le (few_many a1) (Nat.pow_le_pow_right (by decide) (by decide))), Nat.lt_of_lt_of_le (few_many a2) (Nat.pow_le_pow_right (by decide) (by decide)), (fun z => ?_), fun _ r H' e x => k r H' e ?_⟩
    · rw [l.1, l.2] at z
      rw [ba] at m
      have z2 : big (-a) = true := z
      rw [m] at z2
      cases z2
    · show RatAt _ _ _ _ _
      rw [← l.1, ← l.2]
      exact x
theorem ok_Ratio___eq__ (T : TX K mg) : FnOk P w K mg base (L2.CX P w) 1 T.f_Ratio___eq__ T.d_Ratio___eq__ ["self", "other"] (spEq T.C_Ratio) := by
  refine T.F_Ratio___eq__.okX sc_Ratio___eq__ (fun vs H Q E h => ?_) (fun cdv A outer s H vs Q E hr h => ?_)
  · obtain ⟨p, q, a, b, rfl, _⟩ := h
    rfl
  · refine ⟨_, (pss_one (ps_ret (pe_and (pe_callB (id := "isinstance") (r := rIsi K) call_isi (by rfl) T.n_isinstance (by decide +kernel) (pa_cons (pv 1) (pa_cons (pe_glob (v := .ref T.C_Ratio) rfl T.g_Ratio rfl) pa_nil))) (pe_and (pe_cmpR op_eq (pe_fld (pv 0) rfl) (pe_fld (pv 1) rfl) (nomark _)) (pe_one (pe_cmpR op_eq (pe_fld (pv 0) rfl) (pe_fld (pv 1) rfl) (nomark _))))))), ?_⟩
    obtain ⟨p, q, a, b, rfl, ⟨dx, hp⟩, ⟨dy, hq⟩, k⟩ := h
    rw [← eq_q] at k
    refine ⟨_, rfl, _, _, _, _, _, rfl, .own _, .base (T.tc_Ratio.ty hq), T.kit_Ratio, _, rfl, iteT ?_⟩
    refine ⟨_, rfl, p, T.C_Ratio, dx, _, _, rfl, hp, T.cl_Ratio, T.n_Ratio__top, rf_top _ _, _, rfl, q, T.C_Ratio, dy, _, _, rfl, hq, T.cl_Ratio, T.n_Ratio__top, rf_top _ _, rfl, _, rfl, ?_⟩
    rw [dec_int]
    by_cases c1 : a.num = b.num
    · rw [decide_eq_true c1, Bool.true_and] at k
      refine if_true_of (beq_iff_eq.mpr c1) ?_
      refine ⟨_, rfl, p, T.C_Ratio, dx, _, _, rfl, hp, T.cl_Ratio, T.n_Ratio__bottom, rf_bottom _ _, _, rfl, q, T.C_Ratio, dy, _, _, rfl, hq, T.cl_Ratio, T.n_Ratio__bottom, rf_bottom _ _, rfl, ?_⟩
      rw [dec_int]
      exact k
    · rw [decide_eq_false c1, Bool.false_and] at k
      refine if_false_of (by simpa using c1) ?_
      exact k
theorem ok_Ratio_is_less (T : TX K mg) : FnOk P w K mg base (L2.CX P w) 1 T.f_Ratio_is_less T.d_Ratio_is_less ["self", "other"] (spLess T.C_Ratio) := by
  refine T.F_Ratio_is_less.okX sc_Ratio_is_less (fun vs H Q E h => ?_) (fun cdv A outer s H vs Q E hr h => ?_)
  · obtain ⟨p, q, a, b, rfl, _⟩ := h
    rfl
  · refine ⟨_, (pss_cons (ps_if (pt_not (pt_val (pe_callB (id := "isinstance") (r := rIsi K) call_isi (by rfl) T.n_isinstance (by decide +kernel) (pa_cons (pv 1) (pa_cons (pe_glob (v := .ref T.C_Ratio) rfl T.g_Ratio rfl) pa_nil))))) (pss_one (ps_raise rfl (takes_of rfl rfl rfl rfl) (pmk_own PySem.F.excBase_ValueError T.x_InvalidRatio T.g_InvalidRatio T.k_InvalidRatio (raises_own T.bx_InvalidRatio T.tx_InvalidRatio) (by rfl)))) pss_nil)
    (pss_one (ps_ret (pe_cmpR op_lt (pe_op op_mulW (pe_fld (pv 0) rfl) (pe_fld (pv 1) rfl)) (pe_op op_mulW (pe_fld (pv 1) rfl) (pe_fld (pv 0) rfl)) (nomark _))))), ?_⟩
    obtain ⟨p, q, a, b, rfl, ⟨dx, hp⟩, ⟨dy, hq⟩, ba, bb, k⟩ := h
    obtain ⟨a1, a2⟩ := big_of ba
    obtain ⟨b1, b2⟩ := big_of bb
    refine ⟨_, rfl, _, _, _, _, _, rfl, .own _, .base (T.tc_Ratio.ty hq), T.kit_Ratio, _, rfl, iteF ?_⟩
    refine ⟨_, rfl, p, T.C_Ratio, dx, _, _, rfl, hp, T.cl_Ratio, T.n_Ratio__top, rf_top _ _, _, rfl, q, T.C_Ratio, dy, _, _, rfl, hq, T.cl_Ratio, T.n_Ratio__bottom, rf_bottom _ _, _, _, rfl, rfl, cm_many a1 b2, _, rfl, q, T.C_Ratio, dy, _, _, rfl, hq, T.cl_Ratio, T.n_Ratio__top, rf_top _ _, _, rfl, p, T.C_Ratio, dx, _, _, rfl, hp, T.cl_Ratio, T.n_Ratio__bottom, rf_bottom _ _, _, _, rfl, rfl, cm_many b1 a2, ?_⟩
    refine ⟨_, _, rfl, rfl, ?_⟩
    rw [show decide (a < b) = decide (a.num * b.den < b.num * a.den) from decide_eq_decide.mpr (Rat.lt_iff a b)] at k
    exact k
theorem ok_Ratio_over (T : TX K mg) : FnOk P w K mg base (L2.CX P w) 6 T.f_Ratio_over T.d_Ratio_over ["self", "other"] (spOver K T.C_Ratio T.C_TooMany T.C_InvalidRatio) := by
  refine T.F_Ratio_over.okX sc_Ratio_over (fun vs H Q E h => ?_) (fun cdv A outer s H vs Q E hr h => ?_)
  · obtain ⟨p, y, a, rfl, _⟩ := h
    rfl
  · refine ⟨_, (pss_cons (ps_if (pt_not (pt_val (pe_callB (id := "isinstance") (r := rIsi K) call_isi (by rfl) T.n_isinstance (by decide +kernel) (pa_cons (pv 1) (pa_cons (pe_glob (v := .ref T.C_Ratio) rfl T.g_Ratio rfl) pa_nil))))) (pss_one (ps_raise rfl (takes_of rfl rfl rfl rfl) (pmk_own PySem.F.excBase_ValueError T.x_InvalidRatio T.g_InvalidRatio T.k_InvalidRatio (raises_own T.bx_InvalidRatio T.tx_InvalidRatio) (by rfl)))) pss_nil)
    (pss_cons (ps_if (pt_cmpR op_eq (pe_fld (pv 1) rfl) pe_int (nomark _)) (pss_one (ps_raiseB rfl (takes_of rfl rfl rfl rfl) exb_ZeroDivisionError (by rfl) T.n_ZeroDivisionError boot_ZeroDivisionError)) pss_nil)
    (pss_one (ps_ret (pe_callS (ok_ratio_of T) (hr.mono (by decide)) (by rfl) T.g_ratio_of T.F_ratio_of.kp T.b_ratio_of (fun σ => passAt (takes_of rfl rfl rfl rfl) σ) (pa_cons (pe_op op_mulW (pe_fld (pv 0) rfl) (pe_fld (pv 1) rfl)) (pa_cons (pe_op op_mulW (pe_fld (pv 0) rfl) (pe_fld (pv 1) rfl)) pa_nil))))))), ?_⟩
    obtain ⟨p, y, a, rfl, ⟨dx, hp⟩, ba, k⟩ := h
    obtain ⟨a1, a2⟩ := big_of ba
    rcases k with ⟨q, b, rfl, ⟨dy, hq⟩, bb, k0, kE, k⟩ | ⟨ty, hy, e, k⟩
    · obtain ⟨b1, b2⟩ := big_of bb
      refine ⟨_, rfl, _, _, _, _, _, rfl, .own _, .base (T.tc_Ratio.ty hq), T.kit_Ratio, _, rfl, iteF ?_⟩
      refine ⟨_, rfl, q, T.C_Ratio, dy, _, _, rfl, hq, T.cl_Ratio, T.n_Ratio__top, rf_top _ _, rfl, _, rfl, ?_⟩
      rw [dec_int]
      by_cases b0 : b = 0
      · refine if_true_of (beq_iff_eq.mpr (by rw [b0] <;> rfl)) ?_
        exact k0 b0
      · refine if_false_of (by simpa using num_ne b0) ?_
        have l := div_low a b b0
        have z : big (a / b) = (many _ || many _) := rfl
        rw [z, ← l.1, ← l.2] at kE k
        refine ⟨_, rfl, p, T.C_Ratio, dx, _, _, rfl, hp, T.cl_Ratio, T.n_Ratio__top, rf_top _ _, _, rfl, q, T.C_Ratio, dy, _, _, rfl, hq, T.cl_Ratio, T.n_Ratio__bottom, rf_bottom _ _, _, _, rfl, rfl, cm_many a1 b2, _, rfl, p, T.C_Ratio, dx, _, _, rfl, hp, T.cl_Ratio, T.n_Ratio__bottom, rf_bottom _ _, _, rfl, q, T.C_Ratio, dy, _, _, rfl, hq, T.cl_Ratio, T.n_Ratio__top, rf_top _ _, _, _, rfl, rfl, cm_many a2 b1, ?_⟩
        refine ⟨_, _, rfl, Int.mul_ne_zero (den_ne a) (num_ne b0), w_up (w_mul a1 b2), w_up (w_mul a2 b1), kE b0, fun h r H' e x => k b0 h r H' e ?_⟩
        show RatAt _ _ _ _ _
        rw [← l.1, ← l.2]
        exact x
    · refine ⟨_, rfl, _, _, _, _, _, rfl, .own _, hy, e, _, rfl, iteT ?_⟩
      exact k
end
end K03

namespace K03
open PySem PySem.Spec PyProof.Rows L2 L3

/-! ### the urn and what is drawn -/
def UrnAt (H : Hp) (u : Addr) : Prop := ∃ a b c : Int, H u = some (.lst [.int a, .int b, .int c])
theorem Ext1.trans {p : Addr} {H H1 H2 : Hp} (a : Ext1 p H H1) (b : Ext1 p H1 H2) : Ext1 p H H2 := fun c o n h => b c o n (a c o n h)
theorem Ext1.rfl' {p : Addr} {H : Hp} : Ext1 p H H := fun _ _ _ h => h
theorem Ext.one {p : Addr} {H H1 : Hp} (e : Ext H H1) : Ext1 p H H1 := fun c o _ h => e c o h
theorem Ext1.at {p : Addr} {H : Hp} {o : HO} : Ext1 p H (upd H p o) := fun c u n e => by
  rw [upd_ne n]
  exact e
theorem Ext.rfl' {H : Hp} : Ext H H := fun _ _ h => h
theorem UrnAt.ext {H H' : Hp} {u : Addr} (h : UrnAt H u) (e : Ext H H') : UrnAt H' u := h.elim fun a ⟨b, c, h⟩ => ⟨a, b, c, e _ _ h⟩
theorem rd_one {p q : Addr} {H H' : Hp} {o : HO} (h : L2.Rd H p o) (n : p ≠ q) (e : Ext1 q H H') : L2.Rd H' p o := h.elim (fun h => .inl (e _ _ n h)) fun ⟨x, h⟩ => .inr ⟨x, e _ _ n h⟩
theorem sql_one {K : PySem.W.Frag} {p q : Addr} {H H' : Hp} {xs : List V} (h : SqL K H p xs) (n : p ≠ q) (e : Ext1 q H H') : SqL K H' p xs := h.elim (fun h => .inl (rd_one h n e)) .inr
theorem sqt_one {K : PySem.W.Frag} {p q : Addr} {H H' : Hp} {xs : List V} (h : SqT K H p xs) (n : p ≠ q) (e : Ext1 q H H') : SqT K H' p xs := h.elim (fun h => .inl (rd_one h n e)) .inr
def spUrn (K : PySem.W.Frag) : Sp := fun vs H Q _ => ∃ (s : Addr) (ns : List Int) (i : Nat), vs = [.ref s, .int (i : Nat)] ∧ SqL K H s (ns.map V.int) ∧ ∀ u, H u = none → ∀ a b c : Int, Q (.ref u) (upd H u (.lst [.int a, .int b, .int c]))
def spDrawn : Sp := fun vs H Q _ => ∃ u m, vs = [.ref u, .int m] ∧ UrnAt H u ∧ 0 < m ∧ m < 1073741824 ∧ ∀ r H', 0 ≤ r → r < m → Ext1 u H H' → UrnAt H' u → Q (.int r) H'
def spOneOf (K : PySem.W.Frag) : Sp := fun vs H Q _ => ∃ u l xs, vs = [.ref u, .ref l] ∧ UrnAt H u ∧ SqL K H l xs ∧ l ≠ u ∧ 0 < xs.length ∧ xs.length < 1073741824 ∧ ∀ v ∈ xs, ∀ H', Ext1 u H H' → UrnAt H' u → Q v H'
def spDivisor : Sp := fun vs H Q _ => ∃ a b : Nat, vs = [.int (a : Nat), .int (b : Nat)] ∧ Q (.int ((Nat.gcd a b : Nat) : Int)) H
def spPower : Sp := fun vs H Q _ => ∃ n : Int, vs = [.int 10, .int n] ∧ 0 ≤ n ∧ n < 1000 ∧ Q (.int (10 ^ n.toNat)) H
def spWhole : Sp := fun vs H Q _ => ∃ u, vs = [.ref u] ∧ UrnAt H u ∧ ∀ v H', longer v = false → Ext1 u H H' → UrnAt H' u → Q (.int v) H'
theorem urn_sq {K : PySem.W.Frag} {H : Hp} {u : Addr} {xs : List V} (h : H u = some (.lst xs)) : SqL K H u xs := SqL.of h

theorem lg_lt {x : Int} {k : Nat} (hk : 0 < k) (h : x.natAbs < 2 ^ k) : x.natAbs.log2 < k := log_of hk h
theorem lg_mod {x m : Int} (h0 : 0 < m) (h1 : m < 2 ^ 64) : (x % m).natAbs.log2 < 64 := by
  have a := Int.emod_nonneg x (by omega : m ≠ 0)
  have b := Int.emod_lt_of_pos x h0
  exact log_of (by decide) (by omega)
theorem cm_one (x y : Int) : CMulW (x % 2305843009213693951) (y % 2305843009213693951) := by
  have a := lg_mod (x := x) (m := 2305843009213693951) (by decide) (by decide)
  have b := lg_mod (x := y) (m := 2305843009213693951) (by decide) (by decide)
  unfold CMulW
  omega
theorem cm_two (x y : Int) : CMulW (x % 1152921504606846883) (y % 1009 + 3) := by
  have a := lg_mod (x := x) (m := 1152921504606846883) (by decide) (by decide)
  have b : (y % 1009 + 3).natAbs.log2 < 64 := by
    have a := Int.emod_nonneg y (by decide : (1009 : Int) ≠ 0)
    have b := Int.emod_lt_of_pos y (by decide : (0 : Int) < 1009)
    exact log_of (by decide) (by omega)
  unfold CMulW
  omega
theorem cm_left (i j : Int) (h1 : -(2 ^ 64) < i) (h2 : i < 2 ^ 64) : CMul i j := .inl ⟨h1, h2⟩
theorem cm_right (i j : Int) (h1 : -(2 ^ 64) < j) (h2 : j < 2 ^ 64) : CMul i j := .inr ⟨h1, h2⟩
theorem cdw {i m : Int} (h0 : 0 < m) (h1 : m < 1073741824) : CDivW i m := ⟨h0, Nat.lt_trans (log_of (k := 64) (by decide) (by omega)) (by decide)⟩
theorem at_of {xs : List V} {r : Int} (h0 : 0 ≤ r) (h1 : r < ((xs.length : Nat) : Int)) : ∃ v, atI xs r = some v ∧ v ∈ xs := by
  obtain ⟨n, rfl⟩ := Int.eq_ofNat_of_zero_le h0
  have hn : n < xs.length := by omega
  exact ⟨xs[n], atI_nat (List.getElem?_eq_getElem hn), List.getElem_mem hn⟩
theorem ten_abs (i : Nat) : ((10 : Int) ^ i).natAbs = 10 ^ i := by rw [Int.natAbs_pow]; rfl
theorem cm_pow {i : Nat} (h : i < 1000) : CMulW (10 ^ i) 10 := by
  have a : ((10 : Int) ^ i).natAbs.log2 < 4 * i + 1 := by
    refine log_of (by omega) ?_
    rw [ten_abs]
    refine Nat.lt_of_le_of_lt (Nat.pow_le_pow_left (show 10 ≤ 2 ^ 4 by decide) i) ?_
    rw [← Nat.pow_mul]
    exact Nat.pow_lt_pow_right (by decide) (by omega)
  have b : (10 : Int).natAbs.log2 < 64 := log_of (by decide) (by decide)
  unfold CMulW
  omega
def msr (σ : L2.St) (_ : Hp) : Nat := match σ with
  | [_, some (.int b)] => b.toNat
  | _ => 0
theorem gcd_mod {a b : Nat} : ((a : Nat) : Int) % ((b : Nat) : Int) = ((a % b : Nat) : Int) := rfl
theorem low_is {a b : Int} : (if 0 < b then ((Nat.gcd a.natAbs b.natAbs : Nat) : Int) else -((Nat.gcd a.natAbs b.natAbs : Nat) : Int)) = shr a b ∨ b = 0 := by
  unfold shr
  by_cases c : b < 0
  · left; rw [if_neg (by omega), if_pos c]
  · by_cases d : b = 0
    · right; exact d
    · left; rw [if_pos (by omega), if_neg c]

theorem beq_no {a b : Int} (h : ¬ a = b) : (a == b) = false := by simpa using h
theorem beq_yes {a b : Int} (h : a = b) : (a == b) = true := by simpa using h
theorem few_of {n : Int} (h : n.natAbs < 10 ^ 60) : longer n = false := decide_eq_false (by omega)
theorem w_one {r s : Int} (h0 : 0 ≤ r) (h1 : r < 59) (s0 : 0 ≤ s) (s1 : s < 5) : longer (10 ^ r.toNat + s - 2) = false := by
  have a := ten_abs r.toNat
  have b : (10 : Nat) ^ r.toNat ≤ 10 ^ 58 := Nat.pow_le_pow_right (by decide) (by omega)
  refine few_of ?_
  omega
theorem w_two {f : Int} {i : Nat} (h : f.natAbs ≤ 11 ^ i) (hi : i < 40) : longer f = false ∧ f.natAbs.log2 < 200 := by
  have b : (11 : Nat) ^ i ≤ 11 ^ 40 := Nat.pow_le_pow_right (by decide) (by omega)
  have c : (11 : Nat) ^ 40 < 10 ^ 60 := by decide
  have d : (11 : Nat) ^ 40 < 2 ^ 200 := by decide
  exact ⟨few_of (by omega), log_of (by decide) (by omega)⟩
theorem w_lst {v : V} (h : v ∈ [V.int 2, .int 3, .int 5, .int 7, .int 2, .int 11]) : ∃ z : Int, v = .int z ∧ z.natAbs ≤ 11 := by
  simp only [List.mem_cons, List.not_mem_nil, or_false] at h
  rcases h with rfl | rfl | rfl | rfl | rfl | rfl <;> exact ⟨_, rfl, by decide⟩
theorem w_mulE {f z : Int} {i : Nat} (h : f.natAbs ≤ 11 ^ i) (hz : z.natAbs ≤ 11) : (f * z).natAbs ≤ 11 ^ (i + 1) := by
  rw [Int.natAbs_mul, Nat.pow_succ]
  exact Nat.mul_le_mul h hz
theorem w_cm {f z : Int} {i : Nat} (h : f.natAbs ≤ 11 ^ i) (hi : i < 40) (hz : z.natAbs ≤ 11) : CMulW f z := by
  have a := (w_two h hi).2
  have b : z.natAbs.log2 < 64 := log_of (by decide) (by omega)
  unfold CMulW
  omega
theorem urn_ne {H : Hp} {u p : Addr} (h : UrnAt H u) (hp : H p = none) : p ≠ u := by
  obtain ⟨a, b, c, h⟩ := h
  exact fun z => (ne_of_none h hp) z.symm
section
variable {P : Program} {w : World} {K : PySem.W.Frag} {mg : Str → Option Value} {base : Heap}
theorem ok__law_urn (T : TX K mg) : FnOk P w K mg base (L2.CX P w) 1 T.f__law_urn T.d__law_urn ["_law_script", "_law_turn"] (spUrn K) := by
  refine T.F__law_urn.okX sc__law_urn (fun vs H Q E h => ?_) (fun cdv A outer s H vs Q E hr h => ?_)
  · obtain ⟨s, ns, i, rfl, _⟩ := h
    rfl
  · refine ⟨_, (pss_cons (ps_set (i := 2) sc__law_urn.nd rfl (Or.inl rfl) (pe_ifExp (pt_cmpR op_lt (pv 1) (pe_callB call_len_seq (by rfl) T.n_len (by decide +kernel) (pa_cons (pv 0) pa_nil)) (nomark _)) (pe_callTy call_int1 (by rfl) T.n_int (by decide +kernel) (pa_cons (pe_ix ix_list (pv 0) (pv 1) (fun _ _ => rfl)) pa_nil)) (pe_op op_add (pe_op op_mul pe_int (pv 1)) pe_int)))
    (pss_cons (ps_set (i := 3) sc__law_urn.nd rfl (Or.inl rfl) (pe_op op_mod (pe_callB call_abs (by rfl) T.n_abs (by decide +kernel) (pa_cons (pv 2) pa_nil)) (pe_op op_powW (pe_op op_pow pe_int pe_int) pe_int)))
    (pss_one (ps_ret (pe_lst (pa_cons (pe_callB (call_max2 rfl) (by rfl) T.n_max (by decide +kernel) (pa_cons pe_int (pa_cons (pe_op op_sub (pv 3) (pe_op op_pow pe_int pe_int)) pa_nil))) (pa_cons (pe_op op_add (pe_op op_add (pe_op op_add (pe_op op_mul (pe_op op_mod (pv 3) pe_int) pe_int) (pe_op op_mul pe_int (pv 1))) (pe_op op_mul pe_int (pe_callTy call_int1 (by rfl) T.n_int (by decide +kernel) (pa_cons (pe_cmpR op_lt (pv 2) pe_int (nomark _)) pa_nil)))) pe_int) (pa_cons pe_int pa_nil)))))))), ?_⟩
    obtain ⟨l, ns, i, rfl, hs, k⟩ := h
    refine ⟨_, rfl, _, rfl, l, _, rfl, .inl hs, _, _, rfl, rfl, _, rfl, ite2 (fun c => ?_) (fun c => ?_)⟩
    · have c' := of_decide_eq_true c
      rw [List.length_map] at c'
      obtain ⟨v, e, hv⟩ := at_of (xs := ns.map V.int) (r := (i : Nat)) (by omega) (by rw [List.length_map]; exact c')
      obtain ⟨z, _, rfl⟩ := List.mem_map.mp hv
      refine ⟨_, rfl, _, rfl, l, _, _, _, rfl, rfl, hs, e, .inl ⟨_, rfl, ?_⟩⟩
      refine ⟨_, rfl, _, rfl, _, _, rfl, rfl, ⟨by decide, by decide, by decide⟩, _, _, rfl, rfl, ⟨by decide, by decide⟩, _, _, rfl, rfl, Int.pow_pos (Int.pow_pos (by decide)), ?_⟩
      refine ⟨_, rfl, _, _, rfl, rfl, ⟨by decide, by decide, by decide⟩, _, _, rfl, rfl, _, _, rfl, ?_⟩
      refine ⟨_, rfl, _, _, rfl, rfl, (by show (0 : Int) < _; decide), _, _, rfl, rfl, cm_right _ _ (by decide) (by decide), _, rfl, _, _, rfl, rfl, cm_left _ _ (by decide) (by decide), _, _, rfl, rfl, _, rfl, _, _, rfl, rfl, .inr ⟨_, rfl, ?_⟩⟩
      refine ⟨_, _, rfl, rfl, cm_left _ _ (by decide) (by decide), _, _, rfl, rfl, _, _, rfl, rfl, (by show 3 ≤ sizeLine; decide), fun u hu => k u hu _ _ _⟩
    · refine ⟨_, rfl, _, _, rfl, rfl, cm_left _ _ (by decide) (by decide), _, _, rfl, rfl, ?_⟩
      refine ⟨_, rfl, _, rfl, _, _, rfl, rfl, ⟨by decide, by decide, by decide⟩, _, _, rfl, rfl, ⟨by decide, by decide⟩, _, _, rfl, rfl, Int.pow_pos (Int.pow_pos (by decide)), ?_⟩
      refine ⟨_, rfl, _, _, rfl, rfl, ⟨by decide, by decide, by decide⟩, _, _, rfl, rfl, _, _, rfl, ?_⟩
      refine ⟨_, rfl, _, _, rfl, rfl, (by show (0 : Int) < _; decide), _, _, rfl, rfl, cm_right _ _ (by decide) (by decide), _, rfl, _, _, rfl, rfl, cm_left _ _ (by decide) (by decide), _, _, rfl, rfl, _, rfl, _, _, rfl, rfl, .inr ⟨_, rfl, ?_⟩⟩
      refine ⟨_, _, rfl, rfl, cm_left _ _ (by decide) (by decide), _, _, rfl, rfl, _, _, rfl, rfl, (by show 3 ≤ sizeLine; decide), fun u hu => k u hu _ _ _⟩
theorem ok__law_drawn (T : TX K mg) : FnOk P w K mg base (L2.CX P w) 1 T.f__law_drawn T.d__law_drawn ["_law_urn_here", "_law_many"] (spDrawn) := by
  refine T.F__law_drawn.okX sc__law_drawn (fun vs H Q E h => ?_) (fun cdv A outer s H vs Q E hr h => ?_)
  · obtain ⟨u, m, rfl, _⟩ := h
    rfl
  · refine ⟨_, (pss_cons (ps_if (pt_cmpR op_gt (pe_ix ix_list (pv 0) pe_int (fun _ _ => rfl)) pe_int (nomark _)) (pss_cons (ps_set (i := 2) sc__law_drawn.nd rfl (Or.inl rfl) (pe_op op_mod (pe_callTy call_int1 (by rfl) T.n_int (by decide +kernel) (pa_cons (pe_ix ix_list (pv 0) pe_int (fun _ _ => rfl)) pa_nil)) (pv 1)))
    (pss_cons (ps_asg (pe_op op_fdivW (pe_callTy call_int1 (by rfl) T.n_int (by decide +kernel) (pa_cons (pe_ix ix_list (pv 0) pe_int (fun _ _ => rfl)) pa_nil)) (pv 1)) (pg_sub (pv 0) pe_int set_list))
    (pss_one (ps_ret (pv 2))))) pss_nil)
    (pss_cons (ps_asg (pe_op op_add (pe_ix ix_list (pv 0) pe_int (fun _ _ => rfl)) pe_int) (pg_sub (pv 0) pe_int set_list))
    (pss_cons (ps_set (i := 3) sc__law_drawn.nd rfl (Or.inl rfl) (pe_op op_mod (pe_callTy call_int1 (by rfl) T.n_int (by decide +kernel) (pa_cons (pe_op op_add (pe_ix ix_list (pv 0) pe_int (fun _ _ => rfl)) (pe_op op_mul pe_int (pe_ix ix_list (pv 0) pe_int (fun _ _ => rfl)))) pa_nil)) pe_int))
    (pss_cons (ps_set (i := 4) sc__law_drawn.nd rfl (Or.inl rfl) (pe_op op_mod (pe_callTy call_int1 (by rfl) T.n_int (by decide +kernel) (pa_cons (pe_op op_add (pe_op op_add (pe_op op_mulW (pv 3) (pv 3)) (pe_op op_mul pe_int (pe_ix ix_list (pv 0) pe_int (fun _ _ => rfl)))) pe_int) pa_nil)) pe_int))
    (pss_one (ps_ret (pe_op op_mod (pe_callTy call_int1 (by rfl) T.n_int (by decide +kernel) (pa_cons (pe_op op_fdiv (pe_op op_mulW (pv 4) (pe_op op_add (pe_op op_mod (pv 3) pe_int) pe_int)) pe_int) pa_nil)) (pv 1)))))))), ?_⟩
    obtain ⟨u, m, rfl, ⟨a, b, c, hu⟩, m0, m1, k⟩ := h
    refine ⟨_, rfl, u, _, _, _, rfl, rfl, SqL.of hu, rfl, _, _, rfl, rfl, _, rfl, ite2 (fun q => ?_) (fun q => ?_)⟩
    · refine ⟨_, rfl, u, _, _, _, rfl, rfl, SqL.of hu, rfl, .inl ⟨_, rfl, _, rfl, _, _, rfl, rfl, m0, ?_⟩⟩
      refine ⟨_, rfl, u, _, _, _, rfl, rfl, SqL.of hu, rfl, .inl ⟨_, rfl, _, rfl, _, _, rfl, rfl, cdw m0 m1, ?_⟩⟩
      refine ⟨_, rfl, u, _, _, _, rfl, rfl, hu, rfl, ?_⟩
      exact ⟨_, rfl, k _ _ (Int.emod_nonneg _ (by omega)) (Int.emod_lt_of_pos _ m0) Ext1.at ⟨_, _, _, upd_same⟩⟩
    · refine ⟨_, rfl, u, _, _, _, rfl, rfl, SqL.of hu, rfl, _, _, rfl, rfl, ?_⟩
      refine ⟨_, rfl, u, _, _, _, rfl, rfl, hu, rfl, ?_⟩
      have h2 : ∀ z : Int, upd H u (.lst [V.int a, V.int b, V.int z]) u = some (.lst [V.int a, V.int b, V.int z]) := fun z => upd_same
      refine ⟨_, rfl, u, _, _, _, rfl, rfl, SqL.of (h2 _), rfl, _, rfl, u, _, _, _, rfl, rfl, SqL.of (h2 _), rfl, ?_⟩
      refine ⟨_, _, rfl, rfl, cm_left _ _ (by decide) (by decide), _, _, rfl, rfl, .inl ⟨_, rfl, _, _, rfl, rfl, (by show (0 : Int) < _; decide), ?_⟩⟩
      refine ⟨_, rfl, _, rfl, _, _, rfl, rfl, cm_one _ _, _, rfl, u, _, _, _, rfl, rfl, SqL.of (h2 _), rfl, _, _, rfl, rfl, cm_left _ _ (by decide) (by decide), _, _, rfl, rfl, _, _, rfl, rfl, .inl ⟨_, rfl, _, _, rfl, rfl, (by show (0 : Int) < _; decide), ?_⟩⟩
      refine ⟨_, rfl, _, rfl, _, _, rfl, rfl, (by show (0 : Int) < _; decide), _, _, rfl, rfl, _, _, rfl, rfl, cm_two _ _, _, _, rfl, rfl, ⟨by decide, by decide⟩, .inl ⟨_, rfl, _, rfl, _, _, rfl, rfl, m0, ?_⟩⟩
      exact k _ _ (Int.emod_nonneg _ (by omega)) (Int.emod_lt_of_pos _ m0) Ext1.at ⟨_, _, _, upd_same⟩
theorem ok__law_one_of (T : TX K mg) : FnOk P w K mg base (L2.CX P w) 2 T.f__law_one_of T.d__law_one_of ["_law_urn_here", "_law_items"] (spOneOf K) := by
  refine T.F__law_one_of.okX sc__law_one_of (fun vs H Q E h => ?_) (fun cdv A outer s H vs Q E hr h => ?_)
  · obtain ⟨u, l, xs, rfl, _⟩ := h
    rfl
  · refine ⟨_, (pss_one (ps_ret (pe_ix ix_list (pv 1) (pe_call (ok__law_drawn T) (hr.mono (by decide)) (by rfl) T.g__law_drawn T.F__law_drawn.kp T.b__law_drawn .nil passL (pa_cons (pv 0) (pa_cons (pe_callB call_len_seq (by rfl) T.n_len (by decide +kernel) (pa_cons (pv 1) pa_nil)) pa_nil))) (fun _ _ => rfl)))), ?_⟩
    obtain ⟨u, l, xs, rfl, hu, hl, n, l0, l1, k⟩ := h
    refine ⟨_, rfl, _, rfl, _, rfl, l, _, rfl, .inl hl, u, _, rfl, hu, (by omega), (by omega), fun r H' r0 r1 e hu' => ?_⟩
    obtain ⟨v, hv, hm⟩ := at_of r0 r1
    exact ⟨l, _, _, _, rfl, rfl, sql_one hl n e, hv, k v hm H' e hu'⟩
theorem ok__law_divisor (T : TX K mg) : FnOk P w K mg base (L2.CX P w) 1 T.f__law_divisor T.d__law_divisor ["_law_one", "_law_other"] (spDivisor) := by
  refine T.F__law_divisor.okX sc__law_divisor (fun vs H Q E h => ?_) (fun cdv A outer s H vs Q E hr h => ?_)
  · obtain ⟨a, b, rfl, _⟩ := h
    rfl
  · refine ⟨_, (pss_cons (ps_while PassesOwn.leaving (pt_cmpR op_gt (pv 1) pe_int (nomark _)) (pss_one (ps_par (i := 0) (j := 1) (by rfl) sc__law_divisor.nd rfl rfl (by decide) rfl rfl (pa_cons (pv 1) (pa_cons (pe_op op_mod (pe_callTy call_int1 (by rfl) T.n_int (by decide +kernel) (pa_cons (pv 0) pa_nil)) (pv 1)) pa_nil)) (by rfl))))
    (pss_one (ps_ret (pv 0)))), ?_⟩
    obtain ⟨a, b, rfl, k⟩ := h
    refine while_by (fun σ H' => H' = H ∧ ∃ x y : Nat, σ = [some (V.int (x : Nat)), some (V.int (y : Nat))] ∧ Nat.gcd x y = Nat.gcd a b) msr ⟨rfl, a, b, rfl, rfl⟩ ?_ ?_
    · rintro σ H' ⟨rfl, x, y, rfl, e⟩
      refine ⟨_, rfl, _, _, rfl, rfl, _, rfl, ite2 (fun c => ?_) (fun c => ?_)⟩
      · have c' := of_decide_eq_true c
        refine ⟨_, rfl, _, rfl, .inl ⟨_, rfl, _, rfl, _, _, rfl, rfl, c', _, _, rfl, ⟨rfl, y, x % y, rfl, ?_⟩, ?_⟩⟩
        · rw [← e, Nat.gcd_comm x y, Nat.gcd_rec y x, Nat.gcd_comm]
        · show ((x : Int) % (y : Int)).toNat < ((y : Nat) : Int).toNat
          have := Nat.mod_lt x (show 0 < y by omega)
          rw [gcd_mod]
          omega
      · have c' : ¬ ((0 : Int) < (y : Nat)) := fun z => c (decide_eq_true z)
        have y0 : y = 0 := by omega
        subst y0
        rw [Nat.gcd_zero_right] at e
        subst e
        exact ⟨_, rfl, k⟩
    · intro σ H1 Q1 Q2 hq h
      obtain ⟨v, e, i, j, e1, e2, c, e3, q⟩ := h
      exact ⟨v, e, i, j, e1, e2, c, e3, hq _ _ q⟩
theorem ok__law_lowest (T : TX K mg) : FnOk P w K mg base (L2.CX P w) 2 T.f__law_lowest T.d__law_lowest ["_law_top", "_law_bottom"] (spLow) := by
  refine T.F__law_lowest.okX sc__law_lowest (fun vs H Q E h => ?_) (fun cdv A outer s H vs Q E hr h => ?_)
  · obtain ⟨a, b, rfl, _⟩ := h
    rfl
  · refine ⟨_, (pss_cons (ps_set (i := 2) sc__law_lowest.nd rfl (Or.inl rfl) (pe_call (ok__law_divisor T) (hr.mono (by decide)) (by rfl) T.g__law_divisor T.F__law_divisor.kp T.b__law_divisor .nil passL (pa_cons (pe_callB call_abs (by rfl) T.n_abs (by decide +kernel) (pa_cons (pv 0) pa_nil)) (pa_cons (pe_callB call_abs (by rfl) T.n_abs (by decide +kernel) (pa_cons (pv 1) pa_nil)) pa_nil))))
    (pss_cons (ps_set (i := 2) sc__law_lowest.nd rfl (Or.inl rfl) (pe_ifExp (pt_cmpR op_gt (pv 1) pe_int (nomark _)) (pv 2) (pe_un un_neg (pv 2))))
    (pss_one (ps_ret (pe_tup (pa_cons (pe_op op_fdivX (pe_callTy call_int1 (by rfl) T.n_int (by decide +kernel) (pa_cons (pv 0) pa_nil)) (pv 2)) (pa_cons (pe_op op_fdivX (pe_callTy call_int1 (by rfl) T.n_int (by decide +kernel) (pa_cons (pv 1) pa_nil)) (pv 2)) pa_nil))))))), ?_⟩
    obtain ⟨a, b, rfl, hb, ha, hz, k⟩ := h
    refine ⟨_, rfl, _, rfl, _, rfl, _, rfl, a.natAbs, b.natAbs, ?_, ?_⟩
    · rw [abs_if, abs_if]
      rfl
    · have lw := (low_is (a := a) (b := b)).resolve_right hb
      refine ⟨_, rfl, _, _, rfl, rfl, _, rfl, ite2 (fun c => ?_) (fun c => ?_)⟩
      · rw [if_pos (of_decide_eq_true c)] at lw
        rw [lw]
        refine ⟨_, rfl, ?_⟩
        exact ⟨_, rfl, .inl ⟨_, rfl, _, rfl, _, _, rfl, rfl, cd_low hb ha, _, rfl, .inl ⟨_, rfl, _, rfl, _, _, rfl, rfl, cd_low hb hz, (by show 2 ≤ sizeLine; decide), k⟩⟩⟩
      · rw [if_neg (fun z => c (decide_eq_true z))] at lw
        refine ⟨_, rfl, _, rfl, ?_⟩
        show gName 2 (V.int (-((Nat.gcd a.natAbs b.natAbs : Nat) : Int))) _ _ _
        rw [lw]
        exact ⟨_, rfl, .inl ⟨_, rfl, _, rfl, _, _, rfl, rfl, cd_low hb ha, _, rfl, .inl ⟨_, rfl, _, rfl, _, _, rfl, rfl, cd_low hb hz, (by show 2 ≤ sizeLine; decide), k⟩⟩⟩
theorem ok__law_power (T : TX K mg) : FnOk P w K mg base (L2.CX P w) 1 T.f__law_power T.d__law_power ["_law_base", "_law_times"] (spPower) := by
  refine T.F__law_power.okX sc__law_power (fun vs H Q E h => ?_) (fun cdv A outer s H vs Q E hr h => ?_)
  · obtain ⟨n, rfl, _⟩ := h
    rfl
  · refine ⟨_, (pss_cons (ps_set (i := 2) sc__law_power.nd rfl (Or.inl rfl) pe_int)
    (pss_cons (ps_for PassesOwn.leaving rfl (pi_range1 (by rfl) T.n_range (pa_cons (pv 1) pa_nil)) (pg_name (i := 3) sc__law_power.nd rfl (Or.inl rfl)) (pss_one (ps_set (i := 2) sc__law_power.nd rfl (Or.inl rfl) (pe_op op_mulW (pv 2) (pv 0)))))
    (pss_one (ps_ret (pv 2))))), ?_⟩
    obtain ⟨n, rfl, n0, n1, k⟩ := h
    refine ⟨_, rfl, n, rfl, (by omega), (by omega), for_range (fun i σ H' => H' = H ∧ ∃ lap, σ = [some (V.int 10), some (V.int n), some (V.int (10 ^ i)), lap]) ⟨rfl, _, rfl⟩ ?_ ?_⟩
    · rintro i σ H' hi ⟨rfl, lap, rfl⟩
      exact ⟨_, rfl, _, rfl, _, _, rfl, rfl, cm_pow (by omega), rfl, _, rfl⟩
    · rintro σ H' ⟨rfl, lap, rfl⟩
      exact ⟨_, rfl, k⟩
theorem ok__law_whole (T : TX K mg) : FnOk P w K mg base (L2.CX P w) 3 T.f__law_whole T.d__law_whole ["_law_urn_here"] (spWhole) := by
  refine T.F__law_whole.okX sc__law_whole (fun vs H Q E h => ?_) (fun cdv A outer s H vs Q E hr h => ?_)
  · obtain ⟨u, rfl, _⟩ := h
    rfl
  · refine ⟨_, (pss_cons (ps_set (i := 1) sc__law_whole.nd rfl (Or.inl rfl) (pe_call (ok__law_drawn T) (hr.mono (by decide)) (by rfl) T.g__law_drawn T.F__law_drawn.kp T.b__law_drawn .nil passL (pa_cons (pv 0) (pa_cons pe_int pa_nil))))
    (pss_cons (ps_if (pt_cmpR op_eq (pv 1) pe_int (nomark _)) (pss_one (ps_ret (pe_call (ok__law_one_of T) (hr.mono (by decide)) (by rfl) T.g__law_one_of T.F__law_one_of.kp T.b__law_one_of .nil passL (pa_cons (pv 0) (pa_cons (pe_lst (pa_cons pe_int (pa_cons pe_int (pa_cons (pe_un un_neg pe_int) (pa_cons (pe_op op_sub (pe_op op_pow pe_int pe_int) pe_int) (pa_cons (pe_op op_sub pe_int (pe_op op_pow pe_int pe_int)) (pa_cons (pe_op op_pow pe_int pe_int) (pa_cons (pe_un un_neg (pe_op op_pow pe_int pe_int)) pa_nil)))))))) pa_nil))))) pss_nil)
    (pss_cons (ps_if (pt_cmpR op_eq (pv 1) pe_int (nomark _)) (pss_one (ps_ret (pe_op op_sub (pe_op op_add (pe_call (ok__law_power T) (hr.mono (by decide)) (by rfl) T.g__law_power T.F__law_power.kp T.b__law_power .nil passL (pa_cons pe_int (pa_cons (pe_call (ok__law_drawn T) (hr.mono (by decide)) (by rfl) T.g__law_drawn T.F__law_drawn.kp T.b__law_drawn .nil passL (pa_cons (pv 0) (pa_cons pe_int pa_nil))) pa_nil))) (pe_call (ok__law_drawn T) (hr.mono (by decide)) (by rfl) T.g__law_drawn T.F__law_drawn.kp T.b__law_drawn .nil passL (pa_cons (pv 0) (pa_cons pe_int pa_nil)))) pe_int))) pss_nil)
    (pss_cons (ps_if (pt_cmpR op_eq (pv 1) pe_int (nomark _)) (pss_cons (ps_set (i := 2) sc__law_whole.nd rfl (Or.inl rfl) (pe_op op_sub pe_int (pe_op op_mul pe_int (pe_call (ok__law_drawn T) (hr.mono (by decide)) (by rfl) T.g__law_drawn T.F__law_drawn.kp T.b__law_drawn .nil passL (pa_cons (pv 0) (pa_cons pe_int pa_nil))))))
    (pss_cons (ps_for PassesOwn.leaving rfl (pi_range1 (by rfl) T.n_range (pa_cons (pe_call (ok__law_drawn T) (hr.mono (by decide)) (by rfl) T.g__law_drawn T.F__law_drawn.kp T.b__law_drawn .nil passL (pa_cons (pv 0) (pa_cons pe_int pa_nil))) pa_nil)) (pg_name (i := 3) sc__law_whole.nd rfl (Or.inl rfl)) (pss_one (ps_set (i := 2) sc__law_whole.nd rfl (Or.inl rfl) (pe_op op_mulW (pv 2) (pe_call (ok__law_one_of T) (hr.mono (by decide)) (by rfl) T.g__law_one_of T.F__law_one_of.kp T.b__law_one_of .nil passL (pa_cons (pv 0) (pa_cons (pe_lst (pa_cons pe_int (pa_cons pe_int (pa_cons pe_int (pa_cons pe_int (pa_cons pe_int (pa_cons pe_int pa_nil))))))) pa_nil)))))))
    (pss_one (ps_ret (pv 2))))) pss_nil)
    (pss_one (ps_ret (pe_op op_sub (pe_call (ok__law_drawn T) (hr.mono (by decide)) (by rfl) T.g__law_drawn T.F__law_drawn.kp T.b__law_drawn .nil passL (pa_cons (pv 0) (pa_cons pe_int pa_nil))) pe_int))))))), ?_⟩
    obtain ⟨u, rfl, hu, k⟩ := h
    refine ⟨_, rfl, u, 6, rfl, hu, (by decide), (by decide), fun r H1 r0 r1 e1 hu1 => ?_⟩
    refine ⟨_, rfl, rfl, _, rfl, ?_⟩
    rw [dec_int]
    by_cases c0 : r = 0
    · refine if_true_of (beq_yes c0) ?_
      refine ⟨_, rfl, _, rfl, _, _, rfl, rfl, ⟨by decide, by decide, by decide⟩, _, _, rfl, rfl, _, _, rfl, rfl, ⟨by decide, by decide, by decide⟩, _, _, rfl, rfl, _, _, rfl, rfl, ⟨by decide, by decide, by decide⟩, _, _, rfl, rfl, ⟨by decide, by decide, by decide⟩, _, rfl, (by show 7 ≤ sizeLine; decide), fun p hp => ?_⟩
      refine ⟨u, p, _, rfl, hu1.ext (Ext.new hp), SqL.of upd_same, urn_ne hu1 hp, (by show 0 < 7; decide), (by show 7 < 1073741824; decide), fun v hv H2 e2 hu2 => ?_⟩
      have e3 : Ext1 u H H2 := e1.trans ((Ext.new hp).one.trans e2)
      simp only [List.mem_cons, List.not_mem_nil, or_false] at hv
      rcases hv with rfl | rfl | rfl | rfl | rfl | rfl | rfl <;> exact k _ _ (by decide +kernel) e3 hu2
    · refine if_false_of (beq_no c0) ?_
      refine ⟨_, rfl, rfl, _, rfl, ?_⟩
      rw [dec_int]
      by_cases c1 : r = 1
      · refine if_true_of (beq_yes c1) ?_
        refine ⟨_, rfl, u, 59, rfl, hu1, (by decide), (by decide), fun r2 H2 p0 p1 e2 hu2 => ⟨r2, rfl, p0, (by omega), _, rfl, u, 5, rfl, hu2, (by decide), (by decide), fun r3 H3 q0 q1 e3 hu3 => ?_⟩⟩
        exact ⟨_, _, rfl, rfl, _, _, rfl, rfl, k _ _ (w_one p0 p1 q0 q1) (e1.trans (e2.trans e3)) hu3⟩
      · refine if_false_of (beq_no c1) ?_
        refine ⟨_, rfl, rfl, _, rfl, ?_⟩
        rw [dec_int]
        by_cases c2 : r = 2
        · refine if_true_of (beq_yes c2) ?_
          refine ⟨_, rfl, u, 2, rfl, hu1, (by decide), (by decide), fun r2 H2 p0 p1 e2 hu2 => ⟨_, _, rfl, rfl, cm_left _ _ (by decide) (by decide), _, _, rfl, rfl, ?_⟩⟩
          refine ⟨_, rfl, u, 40, rfl, hu2, (by decide), (by decide), fun r3 H3 q0 q1 e3 hu3 => ⟨r3, rfl, (by omega), (by omega), ?_⟩⟩
          refine for_range (fun i σ H' => ∃ f lap, σ = [some (V.ref u), some (V.int r), some (V.int f), lap] ∧ f.natAbs ≤ 11 ^ i ∧ Ext1 u H H' ∧ UrnAt H' u) ⟨_, _, rfl, ?_, e1.trans (e2.trans e3), hu3⟩ ?_ ?_
          · show (1 - 2 * r2).natAbs ≤ 1
            omega
          · rintro i σ H4 hi ⟨f, lap, rfl, hf, e4, hu4⟩
            refine ⟨_, rfl, _, rfl, (by show 6 ≤ sizeLine; decide), fun p hp => ?_⟩
            refine ⟨u, p, _, rfl, hu4.ext (Ext.new hp), SqL.of upd_same, urn_ne hu4 hp, (by show 0 < 6; decide), (by show 6 < 1073741824; decide), fun v hv H5 e5 hu5 => ?_⟩
            obtain ⟨z, rfl, hz⟩ := w_lst hv
            exact ⟨_, _, rfl, rfl, w_cm hf (by omega) hz, _, _, rfl, w_mulE hf hz, e4.trans ((Ext.new hp).one.trans e5), hu5⟩
          · rintro σ H4 ⟨f, lap, rfl, hf, e4, hu4⟩
            exact ⟨_, rfl, k _ _ (w_two hf (by omega)).1 e4 hu4⟩
        · refine if_false_of (beq_no c2) ?_
          refine ⟨_, rfl, u, 40, rfl, hu1, (by decide), (by decide), fun r2 H2 p0 p1 e2 hu2 => ⟨_, _, rfl, rfl, k _ _ (few_of ?_) (e1.trans e2) hu2⟩⟩
          omega
end
end K03

namespace K03
open PySem PySem.Spec PyProof.Rows L2 L3

/-! ### rows of ratios and their sums -/
inductive Rs (C : Addr) (H : Hp) : List Addr → List Rat → Prop
  | nil : Rs C H [] []
  | cons {r : Addr} {q : Rat} {rs : List Addr} {qs : List Rat} (h : RatQ C H r q) (t : Rs C H rs qs) : Rs C H (r :: rs) (q :: qs)
theorem Rs.len {C : Addr} {H : Hp} {rs : List Addr} {qs : List Rat} (h : Rs C H rs qs) : rs.length = qs.length := by
  induction h with
  | nil => rfl
  | cons _ _ ih => rw [List.length_cons, List.length_cons, ih]
theorem Rs.ext {C : Addr} {H H' : Hp} {rs : List Addr} {qs : List Rat} (h : Rs C H rs qs) (e : Ext H H') : Rs C H' rs qs := by
  induction h with
  | nil => exact .nil
  | cons h _ ih => exact .cons (ratq_ext h e) ih
theorem Rs.at {C : Addr} {H : Hp} {rs : List Addr} {qs : List Rat} (h : Rs C H rs qs) : ∀ {i : Nat} {r : Addr}, rs[i]? = some r → ∃ q, qs[i]? = some q ∧ RatQ C H r q := by
  induction h with
  | nil => intro i r z; simp at z
  | cons h _ ih =>
    intro i r z
    cases i with
    | zero =>
      simp at z
      subst z
      exact ⟨_, by simp, h⟩
    | succ i =>
      simp at z
      obtain ⟨q, a, b⟩ := ih z
      exact ⟨q, by simpa using a, b⟩
def lcmL (qs : List Rat) : Nat := qs.foldl (fun b q => Nat.lcm b q.den) 1
def sumL (qs : List Rat) : Rat := qs.foldl (fun s q => s + q) 0
theorem sumL_snoc (qs : List Rat) (q : Rat) : sumL (qs ++ [q]) = sumL qs + q := by
  unfold sumL
  rw [List.foldl_append] <;> rfl
theorem lcmL_snoc (qs : List Rat) (q : Rat) : lcmL (qs ++ [q]) = Nat.lcm (lcmL qs) q.den := by
  unfold lcmL
  rw [List.foldl_append] <;> rfl
def spIsRatio (K : PySem.W.Frag) (C : Addr) : Sp := fun vs H Q _ => ∃ x t b, vs = [x] ∧ TyX K H x t ∧ PySem.W.kitOne K t (.ref C) = some b ∧ Q (.bl b) H
/-- x is told by t at H and whatever H grows to -/
def Told (K : PySem.W.Frag) (H : Hp) (x : V) (t : Value) : Prop := ∀ H', Ext H H' → TyOf K H' x t
def spAre (K : PySem.W.Frag) (C : Addr) : Sp := fun vs H Q _ => ∃ y, vs = [y] ∧
  ((∃ t, TyX K H y t ∧ PySem.W.kitOne K t (.type "tuple") = some false ∧ Q (.bl false) H) ∨
   (∃ (p : Addr) (xs : List V) (bs : List Bool), y = .ref p ∧ H p = some (.tup xs) ∧ xs.length = bs.length ∧ xs.length ≤ 1000 ∧ (∀ (i : Nat) (x : V), xs[i]? = some x → ∃ t b, bs[i]? = some b ∧ Told K H x t ∧ PySem.W.kitOne K t (.ref C) = some b) ∧ ∀ H', Ext H H' → Q (.bl (bs.all id)) H'))
/-- the sum, over the least common multiple of the bottoms: wn, wd tell how wide the terms may be -/
def spSum (K : PySem.W.Frag) (C : Addr) : Sp := fun vs H Q _ => ∃ (p : Addr) (rs : List Addr) (qs : List Rat) (wn wd : Nat), vs = [.ref p] ∧ H p = some (.tup (rs.map V.ref)) ∧ Rs C H rs qs ∧ qs.length ≤ 1000 ∧ (∀ q ∈ qs, q.num.natAbs < 2 ^ wn ∧ big q = false) ∧ (wn ≤ 6650 ∧ wd ≤ 13400 ∧ ∀ i, lcmL (qs.take i) < 2 ^ wd) ∧
  ∀ (t b : Int) (z : Addr) H', Ext H H' → H z = none → H' z = some (.tup [.int t, .int b]) → b = ((lcmL qs : Nat) : Int) → 0 < b → Rat.divInt t b = sumL qs → t.natAbs ≤ qs.length * 2 ^ wn * b.natAbs → Q (.ref z) H'

theorem step_eq {t n b d D B s : Int} (hb : b = B * s) (hd : d = D * s) (b0 : b ≠ 0) (d0 : d ≠ 0) (D0 : D ≠ 0) : Rat.divInt (t * D + n * B) (b * D) = Rat.divInt t b + Rat.divInt n d := by
  rw [Rat.divInt_add_divInt _ _ b0 d0, Rat.divInt_eq_divInt_iff (Int.mul_ne_zero b0 D0) (Int.mul_ne_zero b0 d0)]
  subst hb
  subst hd
  grind
theorem sum_step {t : Int} {b : Nat} {q : Rat} (hb : 0 < b) :
    Rat.divInt (t * ((q.den / Nat.gcd b q.den : Nat) : Int) + q.num * ((b / Nat.gcd b q.den : Nat) : Int)) ((b : Int) * ((q.den / Nat.gcd b q.den : Nat) : Int)) = Rat.divInt t b + q ∧ b * (q.den / Nat.gcd b q.den) = Nat.lcm b q.den := by
  have hs : 0 < Nat.gcd b q.den := Nat.gcd_pos_of_pos_left _ hb
  have e1 := Nat.div_mul_cancel (Nat.gcd_dvd_left b q.den)
  have e2 := Nat.div_mul_cancel (Nat.gcd_dvd_right b q.den)
  have dp := q.den_pos
  refine ⟨?_, ?_⟩
  · have D0 : q.den / Nat.gcd b q.den ≠ 0 := fun z => by
      rw [z, Nat.zero_mul] at e2
      omega
    have st := step_eq (t := t) (n := q.num) (b := (b : Int)) (d := (q.den : Int)) (D := ((q.den / Nat.gcd b q.den : Nat) : Int)) (B := ((b / Nat.gcd b q.den : Nat) : Int)) (s := ((Nat.gcd b q.den : Nat) : Int)) (by rw [← Int.natCast_mul, e1]) (by rw [← Int.natCast_mul, e2]) (by omega) (by omega) (by omega)
    rw [st, Rat.num_divInt_den]
  · unfold Nat.lcm
    rw [Nat.mul_div_assoc _ (Nat.gcd_dvd_right b q.den)]
theorem sum_size {t n : Int} {b B D i wn : Nat} (ht : t.natAbs ≤ i * 2 ^ wn * b) (hn : n.natAbs < 2 ^ wn) (hB : B ≤ b) (hD : 0 < D) : (t * (D : Int) + n * (B : Int)).natAbs ≤ (i + 1) * 2 ^ wn * (b * D) := by
  have h1 : (t * (D : Int)).natAbs ≤ i * 2 ^ wn * b * D := by
    rw [Int.natAbs_mul, Int.natAbs_natCast]
    exact Nat.mul_le_mul_right _ ht
  have h2 : (n * (B : Int)).natAbs ≤ 2 ^ wn * (b * D) := by
    rw [Int.natAbs_mul, Int.natAbs_natCast]
    exact Nat.mul_le_mul (Nat.le_of_lt hn) (Nat.le_trans hB (Nat.le_mul_of_pos_right _ hD))
  have h3 : (t * (D : Int) + n * (B : Int)).natAbs ≤ (t * (D : Int)).natAbs + (n * (B : Int)).natAbs := Int.natAbs_add_le _ _
  have e : (i + 1) * 2 ^ wn * (b * D) = i * 2 ^ wn * b * D + 2 ^ wn * (b * D) := by
    generalize 2 ^ wn = W
    grind
  omega
theorem sum_wide {t : Int} {i b wn wd : Nat} (ht : t.natAbs ≤ i * 2 ^ wn * b) (hi : i ≤ 1000) (hb : b < 2 ^ wd) : t.natAbs < 2 ^ (11 + wn + wd) := by
  refine Nat.lt_of_le_of_lt ht ?_
  rw [Nat.pow_add, Nat.pow_add]
  refine Nat.mul_lt_mul_of_le_of_lt (Nat.mul_le_mul_right _ (by omega)) hb ?_
  exact Nat.mul_pos (by decide) (Nat.pow_pos (by decide))

/-- the sum of a row of ratios, and their mean -/
def Rows (K : PySem.W.Frag) (C : Addr) (H : Hp) (p : Addr) (rs : List Addr) (qs : List Rat) (wn wd : Nat) : Prop := H p = some (.tup (rs.map V.ref)) ∧ Rs C H rs qs ∧ qs.length ≤ 1000 ∧ (∀ q ∈ qs, q.num.natAbs < 2 ^ wn ∧ big q = false) ∧ 11 + wn + wd + 12 ≤ 13400 ∧ wn ≤ 6650 ∧ ∀ i, lcmL (qs.take i) < 2 ^ wd
/-- no row of ratios, and why -/
def NoRow (K : PySem.W.Frag) (C : Addr) (H : Hp) (y : V) : Prop := (∃ t, (∀ H', Ext H H' → TyX K H' y t) ∧ PySem.W.kitOne K t (.type "tuple") = some false) ∨
  (∃ (p : Addr) (xs : List V) (bs : List Bool), y = .ref p ∧ H p = some (.tup xs) ∧ xs.length = bs.length ∧ xs.length ≤ 1000 ∧ (∀ (i : Nat) (x : V), xs[i]? = some x → ∃ t b, bs[i]? = some b ∧ Told K H x t ∧ PySem.W.kitOne K t (.ref C) = some b) ∧ bs.all id = false)
def spTotal (K : PySem.W.Frag) (C N R : Addr) : Sp := fun vs H Q E => ∃ y, vs = [y] ∧ ((NoRow K C H y ∧ ∀ H', Ext H H' → E (.ref R) none H') ∨
  (∃ p rs qs wn wd, y = .ref p ∧ Rows K C H p rs qs wn wd ∧ (big (sumL qs) = true → ∀ d H', Ext H H' → H' d = some (.xd [("limit", .int 2000)]) → E (.ref N) (some d) H') ∧ (big (sumL qs) = false → ∀ r H', Ext H H' → RatQ C H' r (sumL qs) → Q (.ref r) H')))
def meanL (qs : List Rat) : Rat := sumL qs / Rat.divInt ((qs.length : Nat) : Int) 1
def spMean (K : PySem.W.Frag) (C N R : Addr) : Sp := fun vs H Q E => ∃ y, vs = [y] ∧ (((NoRow K C H y ∨ ∃ p, y = .ref p ∧ H p = some (.tup [])) ∧ ∀ H', Ext H H' → E (.ref R) none H') ∨
  (∃ p rs qs wn wd, y = .ref p ∧ Rows K C H p rs qs wn wd ∧ 0 < qs.length ∧ (big (meanL qs) = true → ∀ d H', Ext H H' → H' d = some (.xd [("limit", .int 2000)]) → E (.ref N) (some d) H') ∧ (big (meanL qs) = false → ∀ r H', Ext H H' → RatQ C H' r (meanL qs) → Q (.ref r) H')))

theorem all_rep (n : Nat) : (List.replicate n true).all id = true := by
  induction n with
  | zero => rfl
  | succ n ih => rw [List.replicate_succ, List.all_cons, ih] <;> rfl
theorem rows_are {K : PySem.W.Frag} {mg : Str → Option Value} (T : TX K mg) {H : Hp} {rs : List Addr} {qs : List Rat} (hR : Rs T.C_Ratio H rs qs) : ∀ (i : Nat) (x : V), (rs.map V.ref)[i]? = some x → ∃ t b, (List.replicate (rs.map V.ref).length true)[i]? = some b ∧ Told K H x t ∧ PySem.W.kitOne K t (.ref T.C_Ratio) = some b := by
  intro i x hx
  have il : i < (rs.map V.ref).length := (List.getElem?_eq_some_iff.mp hx).1
  rw [List.getElem?_map] at hx
  cases z : rs[i]? with
  | none => rw [z] at hx; cases hx
  | some r =>
    rw [z] at hx
    obtain rfl : V.ref r = x := Option.some.inj hx
    obtain ⟨q, _, ⟨dx, rq⟩⟩ := hR.at z
    exact ⟨_, true, by rw [List.getElem?_replicate, if_pos il], fun H' e => T.tc_Ratio.ty (e _ _ rq), T.kit_Ratio⟩

def Pr (a : Rat) : List V := [.int a.num, .int (a.den : Int)]
/-- pairs of the terms of small ratios -/
inductive Ps (H : Hp) : List Addr → List Rat → Prop
  | nil : Ps H [] []
  | cons {p : Addr} {q : Rat} {ps : List Addr} {qs : List Rat} (h : H p = some (.tup (Pr q))) (s : q.num.natAbs < 2 ^ 200 ∧ q.den < 2 ^ 200) (t : Ps H ps qs) : Ps H (p :: ps) (q :: qs)
theorem Ps.len {H : Hp} {rs : List Addr} {qs : List Rat} (h : Ps H rs qs) : rs.length = qs.length := by
  induction h with
  | nil => rfl
  | cons _ _ _ ih => rw [List.length_cons, List.length_cons, ih]
theorem Ps.ext {H H' : Hp} {rs : List Addr} {qs : List Rat} (h : Ps H rs qs) (e : Ext H H') : Ps H' rs qs := by
  induction h with
  | nil => exact .nil
  | cons h s _ ih => exact .cons (e _ _ h) s ih
theorem Ps.at {H : Hp} {rs : List Addr} {qs : List Rat} (h : Ps H rs qs) : ∀ {i : Nat} {r : Addr}, rs[i]? = some r → ∃ q, qs[i]? = some q ∧ H r = some (.tup (Pr q)) ∧ q.num.natAbs < 2 ^ 200 ∧ q.den < 2 ^ 200 := by
  induction h with
  | nil => intro i r z; simp at z
  | cons h s _ ih =>
    intro i r z
    cases i with
    | zero =>
      simp at z
      subst z
      exact ⟨_, by simp, h, s⟩
    | succ i =>
      simp at z
      obtain ⟨q, a, b⟩ := ih z
      exact ⟨q, by simpa using a, b⟩
def spLsum (K : PySem.W.Frag) : Sp := fun vs H Q _ => ∃ (p : Addr) (ps : List Addr) (qs : List Rat), vs = [.ref p] ∧ H p = some (.lst (ps.map V.ref)) ∧ Ps H ps qs ∧ qs.length ≤ 20 ∧ ∀ z H', Ext H H' → H z = none → H' z = some (.tup (Pr (sumL qs))) → Q (.ref z) H'
theorem p_mul3 {x y : Int} {i j : Nat} (hx : x.natAbs < 2 ^ i) (hy : y.natAbs < 2 ^ j) : (x * y).natAbs < 2 ^ (i + j) := by
  rw [Int.natAbs_mul, Nat.pow_add]
  exact Nat.mul_lt_mul'' hx hy
theorem mean_eq {t b : Int} {n : Nat} {s : Rat} (b0 : b ≠ 0) (n0 : 0 < n) (h : Rat.divInt t b = s) : Rat.divInt t (b * (n : Int)) = s / Rat.divInt (n : Int) 1 := by
  have n1 : Rat.divInt (n : Int) 1 ≠ 0 := fun z => by
    have l := low_rat (n := (n : Int)) (m := 1) (by decide)
    rw [z] at l
    have e := lowT_mul (n : Int) 1
    rw [l.1] at e
    have e' : (0 : Int) * shr (n : Int) 1 = (n : Int) := e
    omega
  have key : Rat.divInt t (b * (n : Int)) * Rat.divInt (n : Int) 1 = s := by
    rw [Rat.divInt_mul_divInt, ← h, Rat.divInt_eq_divInt_iff (by rw [Int.mul_one]; exact Int.mul_ne_zero b0 (by omega)) b0]
    grind
  rw [← key, Rat.div_def, Rat.mul_assoc, Rat.mul_inv_cancel _ n1, Rat.mul_one]
section
variable {P : Program} {w : World} {K : PySem.W.Frag} {mg : Str → Option Value} {base : Heap}
theorem ok_is_ratio (T : TX K mg) : FnOk P w K mg base (L2.CX P w) 1 T.f_is_ratio T.d_is_ratio ["value"] (spIsRatio K T.C_Ratio) := by
  refine T.F_is_ratio.okX sc_is_ratio (fun vs H Q E h => ?_) (fun cdv A outer s H vs Q E hr h => ?_)
  · obtain ⟨x, t, b, rfl, _⟩ := h
    rfl
  · refine ⟨_, (pss_one (ps_ret (pe_callB (id := "isinstance") (r := rIsi K) call_isi (by rfl) T.n_isinstance (by decide +kernel) (pa_cons (pv 0) (pa_cons (pe_glob (v := .ref T.C_Ratio) rfl T.g_Ratio rfl) pa_nil))))), ?_⟩
    obtain ⟨x, t, b, rfl, ty, e, k⟩ := h
    exact ⟨_, rfl, x, _, t, _, b, rfl, .own _, ty, e, k⟩
theorem ok_are_ratios (T : TX K mg) : FnOk P w K mg base (L2.CX P w) 3 T.f_are_ratios T.d_are_ratios ["value"] (spAre K T.C_Ratio) := by
  refine T.F_are_ratios.okX sc_are_ratios (fun vs H Q E h => ?_) (fun cdv A outer s H vs Q E hr h => ?_)
  · obtain ⟨y, rfl, _⟩ := h
    rfl
  · refine ⟨_, (pss_one (ps_ret (pe_and (pe_callB (id := "isinstance") (r := rIsi K) call_isi (by rfl) T.n_isinstance (by decide +kernel) (pa_cons (pv 0) (pa_cons (pe_bltn (v := .ty "tuple") (u := .type "tuple") rfl T.n_tuple (by decide +kernel) rfl) pa_nil))) (pe_one (pe_callB (cr_all rfl) (by rfl) T.n_all (by decide +kernel) (pa_cons (pe_lc (own := [("one", 1)]) (g := gName 1) rfl sc_are_ratios.nd (pi_tup (pv 0)) (blkOk_by (N := ["value", "one"]) (sc := defScope s_are_ratios) (by decide +kernel)) (fun _ _ _ _ _ => pg_name (i := 1) sc_are_ratios.nd rfl (Or.inl rfl)) (fun _ _ _ _ _ => pts_nil) (fun _ _ _ _ _ => (pe_call (ok_is_ratio T) (hr.mono (by decide)) (by rfl) T.g_is_ratio T.F_is_ratio.kp T.b_is_ratio .nil passL (pa_cons (pv 1) pa_nil)))) pa_nil)))))), ?_⟩
    obtain ⟨y, rfl, k⟩ := h
    rcases k with ⟨t, ty, kt, q⟩ | ⟨p, xs, bs, rfl, hp, ln, l1000, hx, q⟩
    · exact ⟨_, rfl, _, _, t, _, false, rfl, .ty _, ty, kt, _, rfl, iteF q⟩
    · refine ⟨_, rfl, _, _, _, _, true, rfl, .ty _, .base (.tup hp), kit_ty (r := true) (by decide +kernel), _, rfl, iteT ?_⟩
      refine ⟨_, rfl, p, rfl, ⟨_, SqT.of hp⟩, fun D hD => ?_⟩
      refine lc_tup (xs := xs) (fun i H' => Ext H H' ∧ H' D = some (.lst ((bs.take i).map V.bl))) ⟨Ext.new hD, upd_same⟩ (fun i H1 _ z => SqT.of (z.1 _ _ hp)) ?_ ?_
      · rintro i x H1 hx' ⟨e1, hd⟩
        obtain ⟨t, b, hb, ty, kb⟩ := hx i x hx'
        refine ⟨rfl, ?_⟩
        refine ⟨_, rfl, x, t, b, rfl, .base (ty H1 e1), kb, _, hd, ?_, fun c o hc => ?_, ?_⟩
        · rw [List.length_map, List.length_take]
          exact Nat.lt_of_le_of_lt (show min i bs.length ≤ 1000 by omega) (by decide)
        · have n : c ≠ D := fun z => by
            rw [z, hD] at hc
            cases hc
          rw [upd_ne n]
          exact e1 _ _ hc
        · rw [upd_same, List.take_add_one, hb, List.map_append] <;> rfl
      · rintro H1 ⟨e1, hd⟩
        rw [ln, List.take_length] at hd
        exact ⟨D, bs, rfl, SqL.of hd, q H1 e1⟩
theorem ok_sum_parts (T : TX K mg) : FnOk P w K mg base (L2.CX P w) 3 T.f_sum_parts T.d_sum_parts ["ratios"] (spSum K T.C_Ratio) := by
  refine T.F_sum_parts.okX sc_sum_parts (fun vs H Q E h => ?_) (fun cdv A outer s H vs Q E hr h => ?_)
  · obtain ⟨p, rs, qs, a, b, rfl, _⟩ := h
    rfl
  · refine ⟨_, (pss_cons (ps_asg (pe_tup (pa_cons pe_int (pa_cons pe_int pa_nil))) (pg_tup (by rfl) (pgs_cons (pg_name (i := 1) sc_sum_parts.nd rfl (Or.inl rfl)) (pgs_cons (pg_name (i := 2) sc_sum_parts.nd rfl (Or.inl rfl)) pgs_nil))))
    (pss_cons (ps_for PassesOwn.leaving rfl (pi_tup (pv 0)) (pg_name (i := 3) sc_sum_parts.nd rfl (Or.inl rfl)) (pss_cons (ps_set (i := 4) sc_sum_parts.nd rfl (Or.inl rfl) (pe_callBfun cr_gcd (by rfl) T.g_gcd (pa_cons (pv 2) (pa_cons (pe_prop (pv 3) T.cl_Ratio T.p_Ratio_bottom (ok_Ratio_bottom T) (hr.mono (by decide)) T.b_Ratio_bottom .nil passL (by rfl)) pa_nil))))
    (pss_cons (ps_set (i := 1) sc_sum_parts.nd rfl (Or.inl rfl) (pe_op op_add (pe_op op_mulW (pv 1) (pe_op op_fdivW (pe_prop (pv 3) T.cl_Ratio T.p_Ratio_bottom (ok_Ratio_bottom T) (hr.mono (by decide)) T.b_Ratio_bottom .nil passL (by rfl)) (pv 4))) (pe_op op_mulW (pe_prop (pv 3) T.cl_Ratio T.p_Ratio_top (ok_Ratio_top T) (hr.mono (by decide)) T.b_Ratio_top .nil passL (by rfl)) (pe_op op_fdivW (pv 2) (pv 4)))))
    (pss_one (ps_set (i := 2) sc_sum_parts.nd rfl (Or.inl rfl) (pe_op op_mulW (pv 2) (pe_op op_fdivW (pe_prop (pv 3) T.cl_Ratio T.p_Ratio_bottom (ok_Ratio_bottom T) (hr.mono (by decide)) T.b_Ratio_bottom .nil passL (by rfl)) (pv 4))))))))
    (pss_one (ps_ret (pe_tup (pa_cons (pv 1) (pa_cons (pv 2) pa_nil))))))), ?_⟩
    obtain ⟨p, rs, qs, wn, wd, rfl, hp, hR, l1000, hn, ⟨hwn, hwd, hm⟩, k⟩ := h
    refine ⟨(by show 2 ≤ sizeLine; decide), fun q0 hq0 => ⟨q0, _, rfl, SqT.of upd_same, rfl, _, _, rfl, _, _, rfl, rfl, ?_⟩⟩
    have x0 := Ext.new (o := .tup [.int 0, .int 1]) hq0
    have ll := hR.len
    refine ⟨_, rfl, p, rfl, ⟨_, SqT.of (x0 _ _ hp)⟩, ?_⟩
    refine for_tup (xs := rs.map V.ref) (fun i σ H' => upd H q0 (.tup [.int 0, .int 1]) = H' ∧ ∃ (t : Int) (b : Nat) (x3 x4 : Option V), σ = [some (.ref p), some (.int t), some (.int (b : Nat)), x3, x4] ∧ b = lcmL (qs.take i) ∧ Rat.divInt t (b : Int) = sumL (qs.take i) ∧ t.natAbs ≤ i * 2 ^ wn * b ∧ 0 < b) ⟨rfl, 0, 1, none, none, rfl, rfl, (show Rat.divInt 0 1 = (0 : Rat) by decide +kernel), Nat.zero_le _, (by decide)⟩ (fun i σ H' _ z => by rw [← z.1]; exact SqT.of (x0 _ _ hp)) ?_ ?_
    · rintro i x σ H' hx ⟨rfl, t, b, x3, x4, rfl, eb, es, ht, b0⟩
      obtain ⟨r, hri, rfl⟩ : ∃ r, rs[i]? = some r ∧ V.ref r = x := by
        rw [List.getElem?_map] at hx
        cases z : rs[i]? with
        | none => rw [z] at hx; cases hx
        | some r => rw [z] at hx; exact ⟨r, rfl, Option.some.inj hx⟩
      obtain ⟨q, hqi, rq⟩ := hR.at hri
      have hr1 := ratq_ext rq x0
      obtain ⟨dr, hr2⟩ := id hr1
      have il : i < qs.length := (List.getElem?_eq_some_iff.mp hqi).1
      have qm : q ∈ qs := List.mem_of_getElem? hqi
      obtain ⟨n1, n2⟩ := hn q qm
      obtain ⟨_, dm⟩ := big_of n2
      have dlt := few_many dm
      have gp : 0 < Nat.gcd b q.den := Nat.gcd_pos_of_pos_left _ b0
      have gle : Nat.gcd b q.den ≤ q.den := Nat.gcd_le_right _ q.den_pos
      have glt : (((Nat.gcd b q.den : Nat) : Int)).natAbs < 2 ^ 6650 := by
        rw [Int.natAbs_natCast] at dlt ⊢
        omega
      have cd : ∀ z : Int, CDivW z ((Nat.gcd b q.den : Nat) : Int) := fun z => wide_div (by omega) glt (by decide) (by decide)
      have blt : b < 2 ^ wd := by rw [eb]; exact hm i
      have Dlt : (((q.den / Nat.gcd b q.den : Nat) : Int)).natAbs < 2 ^ 6650 := by
        rw [Int.natAbs_natCast] at dlt ⊢
        exact Nat.lt_of_le_of_lt (Nat.div_le_self _ _) dlt
      have Blt : (((b / Nat.gcd b q.den : Nat) : Int)).natAbs < 2 ^ (wd + 1) := by
        rw [Int.natAbs_natCast]
        exact Nat.lt_of_lt_of_le (Nat.lt_of_le_of_lt (Nat.div_le_self _ _) blt) (Nat.pow_le_pow_right (by decide) (by omega))
      have bl2 : ((b : Int)).natAbs < 2 ^ (wd + 1) := by
        rw [Int.natAbs_natCast]
        exact Nat.lt_of_lt_of_le blt (Nat.pow_le_pow_right (by decide) (by omega))
      have tw := sum_wide ht (by omega) blt
      have n1' : q.num.natAbs < 2 ^ (wn + 1) := Nat.lt_of_lt_of_le n1 (Nat.pow_le_pow_right (by decide) (by omega))
      have st := sum_step (t := t) (q := q) b0
      have Dp : 0 < q.den / Nat.gcd b q.den := Nat.div_pos gle gp
      refine ⟨_, rfl, _, rfl, r, dr, _, rfl, hr2, r, _, _, rfl, hr1, _, _, rfl, ?_⟩
      refine ⟨_, rfl, _, rfl, r, dr, _, rfl, hr2, r, _, _, rfl, hr1, _, rfl, _, _, rfl, rfl, cd _, _, _, rfl, rfl, wide_mul tw Dlt (by omega) (by decide) (by omega), ?_⟩
      refine ⟨_, rfl, r, dr, _, rfl, hr2, r, _, _, rfl, hr1, _, rfl, _, rfl, _, _, rfl, rfl, cd _, _, _, rfl, rfl, wide_mul n1' Blt (by omega) (by omega) (by omega), _, _, rfl, rfl, ?_⟩
      refine ⟨_, rfl, _, rfl, r, dr, _, rfl, hr2, r, _, _, rfl, hr1, _, rfl, _, _, rfl, rfl, cd _, _, _, rfl, rfl, wide_mul bl2 Dlt (by omega) (by decide) (by omega), ?_⟩
      refine ⟨rfl, _, b * (q.den / Nat.gcd b q.den), _, _, rfl, ?_, ?_, sum_size ht n1 (Nat.div_le_self _ _) Dp, Nat.mul_pos b0 Dp⟩
      · rw [List.take_add_one, hqi, st.2, eb]
        exact (lcmL_snoc _ _).symm
      · have s1 := st.1
        rw [es] at s1
        rw [List.take_add_one, hqi, Int.natCast_mul]
        exact s1.trans (sumL_snoc _ _).symm
    · rintro σ H' ⟨rfl, t, b, x3, x4, rfl, eb, es, ht, b0⟩
      rw [List.length_map, ll, List.take_length] at eb es
      rw [List.length_map, ll] at ht
      refine ⟨_, rfl, _, rfl, (by show 2 ≤ sizeLine; decide), fun z hz => ?_⟩
      exact k t (b : Int) z _ (x0.trans (Ext.new hz)) ((fun e => by cases h : H z with | none => rfl | some o => rw [x0 _ _ h] at e; cases e) hz) upd_same (by rw [eb]) (by omega) es (by rw [Int.natAbs_natCast]; exact ht)
theorem ok_total (T : TX K mg) : FnOk P w K mg base (L2.CX P w) 6 T.f_total T.d_total ["ratios"] (spTotal K T.C_Ratio T.C_TooMany T.C_InvalidRatio) := by
  refine T.F_total.okX sc_total (fun vs H Q E h => ?_) (fun cdv A outer s H vs Q E hr h => ?_)
  · obtain ⟨y, rfl, _⟩ := h
    rfl
  · refine ⟨_, (pss_cons (ps_if (pt_not (pt_val (pe_call (ok_are_ratios T) (hr.mono (by decide)) (by rfl) T.g_are_ratios T.F_are_ratios.kp T.b_are_ratios .nil passL (pa_cons (pv 0) pa_nil)))) (pss_one (ps_raise rfl (takes_of rfl rfl rfl rfl) (pmk_own PySem.F.excBase_ValueError T.x_InvalidRatio T.g_InvalidRatio T.k_InvalidRatio (raises_own T.bx_InvalidRatio T.tx_InvalidRatio) (by rfl)))) pss_nil)
    (pss_cons (ps_asg (pe_call (ok_sum_parts T) (hr.mono (by decide)) (by rfl) T.g_sum_parts T.F_sum_parts.kp T.b_sum_parts .nil passL (pa_cons (pv 0) pa_nil)) (pg_tup (by rfl) (pgs_cons (pg_name (i := 1) sc_total.nd rfl (Or.inl rfl)) (pgs_cons (pg_name (i := 2) sc_total.nd rfl (Or.inl rfl)) pgs_nil))))
    (pss_one (ps_ret (pe_callS (ok_ratio_of T) (hr.mono (by decide)) (by rfl) T.g_ratio_of T.F_ratio_of.kp T.b_ratio_of (fun σ => passAt (takes_of rfl rfl rfl rfl) σ) (pa_cons (pv 1) (pa_cons (pv 2) pa_nil))))))), ?_⟩
    obtain ⟨y, rfl, h⟩ := h
    rcases h with ⟨nr, kE⟩ | ⟨p, rs, qs, wn, wd, rfl, ⟨hp, hR, l1000, hn, hw, hwn, hm⟩, kE, k⟩
    · refine ⟨_, rfl, y, rfl, ?_⟩
      rcases nr with ⟨t, ty, kt⟩ | ⟨p, xs, bs, rfl, hp, ln, l1, hx, hb⟩
      · exact .inl ⟨t, ty H Ext.rfl', kt, _, rfl, if_true_of rfl (kE H Ext.rfl')⟩
      · exact .inr ⟨p, xs, bs, rfl, hp, ln, l1, hx, fun H' e => ⟨_, rfl, if_true_of (by rw [hb] <;> rfl) (kE H' e)⟩⟩
    · have ll := hR.len
      refine ⟨_, rfl, _, rfl, .inr ⟨p, _, List.replicate (rs.map V.ref).length true, rfl, hp, (List.length_replicate ..).symm, (by rw [List.length_map]; omega), rows_are T hR, fun H1 e1 => ⟨_, rfl, if_false_of (by rw [all_rep] <;> rfl) ?_⟩⟩⟩
      refine ⟨_, rfl, p, rs, qs, wn, wd, rfl, e1 _ _ hp, hR.ext e1, l1000, hn, ⟨hwn, by omega, hm⟩, fun t b z H2 e2 nz hz eb b0 es ht => ?_⟩
      have blt : b.natAbs < 2 ^ wd := by
        have := hm qs.length
        rw [List.take_length] at this
        rw [eb, Int.natAbs_natCast]
        exact this
      have l := low_rat (n := t) (m := b) (by omega)
      rw [es] at l
      have z0 : big (sumL qs) = (many _ || many _) := rfl
      rw [z0, ← l.1, ← l.2] at kE k
      refine ⟨z, _, rfl, SqT.of hz, rfl, _, _, rfl, _, _, rfl, rfl, _, rfl, _, rfl, t, b, rfl, (by omega), ?_, ?_, fun w d H3 e3 hd => kE w d H3 (e1.trans (e2.trans e3)) hd, fun w r H3 e3 hr => k w r H3 (e1.trans (e2.trans e3)) ?_⟩
      · exact Nat.lt_of_lt_of_le (sum_wide ht l1000 blt) (Nat.pow_le_pow_right (by decide) (by omega))
      · exact Nat.lt_of_lt_of_le blt (Nat.pow_le_pow_right (by decide) (by omega))
      · show RatAt _ _ _ _ _
        rw [← l.1, ← l.2]
        exact hr
theorem ok_mean (T : TX K mg) : FnOk P w K mg base (L2.CX P w) 6 T.f_mean T.d_mean ["ratios"] (spMean K T.C_Ratio T.C_TooMany T.C_InvalidRatio) := by
  refine T.F_mean.okX sc_mean (fun vs H Q E h => ?_) (fun cdv A outer s H vs Q E hr h => ?_)
  · obtain ⟨y, rfl, _⟩ := h
    rfl
  · refine ⟨_, (pss_cons (ps_if (PW.pt (pw_or (pt_not (pt_val (pe_call (ok_are_ratios T) (hr.mono (by decide)) (by rfl) T.g_are_ratios T.F_are_ratios.kp T.b_are_ratios .nil passL (pa_cons (pv 0) pa_nil)))) (pw_or1 (pt_not (pt_truth (pv 0) (by intro _; rfl)))))) (pss_one (ps_raise rfl (takes_of rfl rfl rfl rfl) (pmk_own PySem.F.excBase_ValueError T.x_InvalidRatio T.g_InvalidRatio T.k_InvalidRatio (raises_own T.bx_InvalidRatio T.tx_InvalidRatio) (by rfl)))) pss_nil)
    (pss_cons (ps_asg (pe_call (ok_sum_parts T) (hr.mono (by decide)) (by rfl) T.g_sum_parts T.F_sum_parts.kp T.b_sum_parts .nil passL (pa_cons (pv 0) pa_nil)) (pg_tup (by rfl) (pgs_cons (pg_name (i := 1) sc_mean.nd rfl (Or.inl rfl)) (pgs_cons (pg_name (i := 2) sc_mean.nd rfl (Or.inl rfl)) pgs_nil))))
    (pss_one (ps_ret (pe_callS (ok_ratio_of T) (hr.mono (by decide)) (by rfl) T.g_ratio_of T.F_ratio_of.kp T.b_ratio_of (fun σ => passAt (takes_of rfl rfl rfl rfl) σ) (pa_cons (pv 1) (pa_cons (pe_op op_mulW (pv 2) (pe_callB call_len_seq (by rfl) T.n_len (by decide +kernel) (pa_cons (pv 0) pa_nil))) pa_nil))))))), ?_⟩
    obtain ⟨y, rfl, h⟩ := h
    rcases h with ⟨nr | ⟨p, rfl, hp⟩, kE⟩ | ⟨p, rs, qs, wn, wd, rfl, ⟨hp, hR, l1000, hn, hw, hwn, hm⟩, n0, kE, k⟩
    · refine ⟨_, rfl, y, rfl, ?_⟩
      rcases nr with ⟨t, ty, kt⟩ | ⟨p, xs, bs, rfl, hp, ln, l1, hx, hb⟩
      · exact .inl ⟨t, ty H Ext.rfl', kt, _, rfl, if_true_of rfl (iteT (kE H Ext.rfl'))⟩
      · exact .inr ⟨p, xs, bs, rfl, hp, ln, l1, hx, fun H' e => ⟨_, rfl, if_true_of (by rw [hb] <;> rfl) (iteT (kE H' e))⟩⟩
    · refine ⟨_, rfl, _, rfl, .inr ⟨p, [], [], rfl, hp, rfl, (by decide), fun i x hx => by simp at hx, fun H' e => ⟨_, rfl, if_false_of rfl ⟨_, rfl, false, .inr (.inl ⟨[], SqT.of (e _ _ hp), rfl⟩), iteT (kE H' e)⟩⟩⟩⟩
    · have ll := hR.len
      refine ⟨_, rfl, _, rfl, .inr ⟨p, _, List.replicate (rs.map V.ref).length true, rfl, hp, (List.length_replicate ..).symm, (by rw [List.length_map]; omega), rows_are T hR, fun H1 e1 => ⟨_, rfl, if_false_of (by rw [all_rep] <;> rfl) ⟨_, rfl, true, .inr (.inl ⟨_, SqT.of (e1 _ _ hp), ?_⟩), iteF ?_⟩⟩⟩⟩
      · cases rs with
        | nil => simp at ll; omega
        | cons r rs => rfl
      refine ⟨_, rfl, p, rs, qs, wn, wd, rfl, e1 _ _ hp, hR.ext e1, l1000, hn, ⟨hwn, by omega, hm⟩, fun t b z H2 e2 nz hz eb b0 es ht => ?_⟩
      have blt : b.natAbs < 2 ^ wd := by
        have := hm qs.length
        rw [List.take_length] at this
        rw [eb, Int.natAbs_natCast]
        exact this
      have nlt : ((qs.length : Nat) : Int).natAbs < 2 ^ 10 := by rw [Int.natAbs_natCast]; omega
      have bn : b * ((qs.length : Nat) : Int) ≠ 0 := Int.mul_ne_zero (by omega) (by omega)
      have l := low_rat (n := t) (m := b * ((qs.length : Nat) : Int)) bn
      rw [mean_eq (by omega) n0 es] at l
      have z0 : big (meanL qs) = (many (sumL qs / Rat.divInt ((qs.length : Nat) : Int) 1).num || many ((sumL qs / Rat.divInt ((qs.length : Nat) : Int) 1).den : Int)) := rfl
      rw [z0, ← l.1, ← l.2] at kE k
      have lx : (((rs.map V.ref).length : Nat) : Int) = ((qs.length : Nat) : Int) := by rw [List.length_map, ll]
      refine ⟨z, _, rfl, SqT.of hz, rfl, _, _, rfl, _, _, rfl, rfl, _, rfl, _, rfl, _, rfl, p, _, rfl, .inr (SqT.of (e2 _ _ (e1 _ _ hp))), _, _, rfl, rfl, ?_, ?_⟩
      · rw [lx]
        have b1 : b.natAbs < 2 ^ (wd + 1) := Nat.lt_of_lt_of_le blt (Nat.pow_le_pow_right (by decide) (by omega))
        exact wide_mul b1 nlt (by omega) (by decide) (by omega)
      rw [lx]
      refine ⟨t, _, rfl, bn, ?_, ?_, fun w d H3 e3 hd => kE w d H3 (e1.trans (e2.trans e3)) hd, fun w r H3 e3 hr => k w r H3 (e1.trans (e2.trans e3)) ?_⟩
      · exact Nat.lt_of_lt_of_le (sum_wide ht l1000 blt) (Nat.pow_le_pow_right (by decide) (by omega))
      · exact Nat.lt_of_lt_of_le (p_mul3 blt nlt) (Nat.pow_le_pow_right (by decide) (by omega))
      · show RatAt _ _ _ (sumL qs / Rat.divInt ((qs.length : Nat) : Int) 1).num _
        rw [← l.1]
        show RatAt _ _ _ _ ((sumL qs / Rat.divInt ((qs.length : Nat) : Int) 1).den : Int)
        rw [← l.2]
        exact hr
theorem ok__law_sum (T : TX K mg) : FnOk P w K mg base (L2.CX P w) 3 T.f__law_sum T.d__law_sum ["_law_pairs"] (spLsum K) := by
  refine T.F__law_sum.okX sc__law_sum (fun vs H Q E h => ?_) (fun cdv A outer s H vs Q E hr h => ?_)
  · obtain ⟨p, ps, qs, rfl, _⟩ := h
    rfl
  · refine ⟨_, (pss_cons (ps_asg (pe_tup (pa_cons pe_int (pa_cons pe_int pa_nil))) (pg_tup (by rfl) (pgs_cons (pg_name (i := 1) sc__law_sum.nd rfl (Or.inl rfl)) (pgs_cons (pg_name (i := 2) sc__law_sum.nd rfl (Or.inl rfl)) pgs_nil))))
    (pss_cons (ps_for PassesOwn.leaving rfl (pi_list (pv 0)) (pg_name (i := 3) sc__law_sum.nd rfl (Or.inl rfl)) (pss_one (ps_par (i := 1) (j := 2) (by rfl) sc__law_sum.nd rfl rfl (by decide) rfl rfl (pa_cons (pe_op op_add (pe_op op_mulW (pv 1) (pe_ix ix_tup (pv 3) pe_int (fun _ _ => rfl))) (pe_op op_mulW (pe_ix ix_tup (pv 3) pe_int (fun _ _ => rfl)) (pv 2))) (pa_cons (pe_op op_mulW (pv 2) (pe_ix ix_tup (pv 3) pe_int (fun _ _ => rfl))) pa_nil)) (by rfl))))
    (pss_one (ps_ret (pe_call (ok__law_lowest T) (hr.mono (by decide)) (by rfl) T.g__law_lowest T.F__law_lowest.kp T.b__law_lowest .nil passL (pa_cons (pv 1) (pa_cons (pv 2) pa_nil))))))), ?_⟩
    obtain ⟨p, ps, qs, rfl, hp, hP, l20, k⟩ := h
    refine ⟨(by show 2 ≤ sizeLine; decide), fun q0 hq0 => ⟨q0, _, rfl, SqT.of upd_same, rfl, _, _, rfl, _, _, rfl, rfl, ?_⟩⟩
    have x0 := Ext.new (o := .tup [.int 0, .int 1]) hq0
    have ll := hP.len
    refine ⟨_, rfl, p, rfl, ⟨_, SqL.of (x0 _ _ hp)⟩, ?_⟩
    refine for_list (xs := ps.map V.ref) (fun i σ H' => upd H q0 (.tup [.int 0, .int 1]) = H' ∧ ∃ (t b : Int) (x3 : Option V), σ = [some (.ref p), some (.int t), some (.int b), x3] ∧ Rat.divInt t b = sumL (qs.take i) ∧ t.natAbs < 2 ^ (201 * i + 1) ∧ b.natAbs < 2 ^ (200 * i + 1) ∧ b ≠ 0) ⟨rfl, 0, 1, none, rfl, (show Rat.divInt 0 1 = (0 : Rat) by decide +kernel), by decide, by decide, by decide⟩ (fun i σ H' _ z => by rw [← z.1]; exact SqL.of (x0 _ _ hp)) ?_ ?_
    · rintro i x σ H' hx ⟨rfl, t, b, x3, rfl, es, ht, hb, b0⟩
      obtain ⟨pi, hri, rfl⟩ : ∃ r, ps[i]? = some r ∧ V.ref r = x := by
        rw [List.getElem?_map] at hx
        cases z : ps[i]? with
        | none => rw [z] at hx; cases hx
        | some r => rw [z] at hx; exact ⟨r, rfl, Option.some.inj hx⟩
      obtain ⟨q, hqi, hpi', sn, sd⟩ := hP.at hri
      have hpi := x0 _ _ hpi'
      have il : i < qs.length := (List.getElem?_eq_some_iff.mp hqi).1
      have sd' : ((q.den : Nat) : Int).natAbs < 2 ^ 200 := by rw [Int.natAbs_natCast]; exact sd
      refine ⟨_, rfl, _, rfl, pi, _, _, _, rfl, rfl, SqT.of hpi, rfl, _, _, rfl, rfl, wide_mul ht sd' (by omega) (by decide) (by omega), _, rfl, pi, _, _, _, rfl, rfl, SqT.of hpi, rfl, _, rfl, _, _, rfl, rfl, wide_mul sn hb (by decide) (by omega) (by omega), _, _, rfl, rfl, ?_⟩
      refine ⟨_, rfl, _, rfl, pi, _, _, _, rfl, rfl, SqT.of hpi, rfl, _, _, rfl, rfl, wide_mul hb sd' (by omega) (by decide) (by omega), _, _, rfl, rfl, _, _, _, rfl, ?_, ?_, ?_, Int.mul_ne_zero b0 (den_ne q)⟩
      · have st := step_eq (t := t) (n := q.num) (b := b) (d := (q.den : Int)) (D := (q.den : Int)) (B := b) (s := 1) (by omega) (by omega) b0 (den_ne q) (den_ne q)
        rw [Rat.num_divInt_den, es] at st
        rw [List.take_add_one, hqi]
        exact st.trans (sumL_snoc _ _).symm
      · have h1 := p_mul3 ht sd'
        have h2 := p_mul3 sn hb
        refine Nat.lt_of_lt_of_le (Nat.lt_of_le_of_lt (Int.natAbs_add_le _ _) (Nat.add_lt_add (Nat.lt_of_lt_of_le h1 (Nat.pow_le_pow_right (by decide) (show 201 * i + 1 + 200 ≤ 201 * i + 201 by omega))) (Nat.lt_of_lt_of_le h2 (Nat.pow_le_pow_right (by decide) (show 200 + (200 * i + 1) ≤ 201 * i + 201 by omega))))) ?_
        rw [← Nat.two_mul, ← Nat.pow_succ']
        exact Nat.pow_le_pow_right (by decide) (by omega)
      · exact Nat.lt_of_lt_of_le (p_mul3 hb sd') (Nat.pow_le_pow_right (by decide) (by omega))
    · rintro σ H' ⟨rfl, t, b, x3, rfl, es, ht, hb, b0⟩
      rw [List.length_map, ll, List.take_length] at es
      rw [List.length_map, ll] at ht hb
      have l := low_rat (n := t) (m := b) b0
      rw [es] at l
      refine ⟨_, rfl, _, rfl, t, b, rfl, b0, Nat.lt_of_lt_of_le ht (Nat.pow_le_pow_right (by decide) (by omega)), Nat.lt_of_lt_of_le hb (Nat.pow_le_pow_right (by decide) (by omega)), fun z hz => ?_⟩
      refine k z _ (x0.trans (Ext.new hz)) ((fun e => by cases h : H z with | none => rfl | some o => rw [x0 _ _ h] at e; cases e) hz) ?_
      rw [upd_same, l.1, l.2] <;> rfl
end
end K03

namespace K03
open PySem PySem.Spec PyProof.Rows L2 L3

/-! ### the items of a list in another order -/
def spMix : Sp := fun vs H Q _ => ∃ (u l : Addr) (xs : List V), vs = [.ref u, .ref l] ∧ UrnAt H u ∧ H l = some (.lst xs) ∧ xs.length ≤ 1000 ∧ ∀ z ys H', Ext1 u H H' → UrnAt H' u → H z = none → H' z = some (.lst ys) → ys.Perm xs → Q (.ref z) H'

def lenAt (a : Addr) (_ : L2.St) (H : Hp) : Nat := match H a with
  | some (.lst L) => L.length
  | _ => 0
theorem lenAt_of {a : Addr} {σ : L2.St} {H : Hp} {L : List V} (h : H a = some (.lst L)) : lenAt a σ H = L.length := by
  unfold lenAt
  rw [h]
theorem perm_step {L : List V} {k : Nat} {y : V} (F : List V) (h : L[k]? = some y) : (F ++ [y] ++ L.eraseIdx k).Perm (F ++ L) := by
  obtain ⟨hk, e⟩ := List.getElem?_eq_some_iff.mp h
  subst e
  rw [List.append_assoc]
  refine List.Perm.append_left F ?_
  have e : L = L.take k ++ L[k] :: L.drop (k + 1) := by
    rw [← List.drop_eq_getElem_cons hk, List.take_append_drop]
  rw [List.eraseIdx_eq_take_drop_succ]
  have pm := List.perm_middle (a := L[k]) (l₁ := L.take k) (l₂ := L.drop (k + 1))
  rw [← e] at pm
  exact pm.symm
section
variable {P : Program} {w : World} {K : PySem.W.Frag} {mg : Str → Option Value} {base : Heap}
theorem ok__law_mixed (T : TX K mg) : FnOk P w K mg base (L2.CX P w) 2 T.f__law_mixed T.d__law_mixed ["_law_urn_here", "_law_items"] (spMix) := by
  refine T.F__law_mixed.okX sc__law_mixed (fun vs H Q E h => ?_) (fun cdv A outer s H vs Q E hr h => ?_)
  · obtain ⟨u, l, xs, rfl, _⟩ := h
    rfl
  · refine ⟨_, (pss_cons (ps_par (i := 2) (j := 3) (by rfl) sc__law_mixed.nd rfl rfl (by decide) rfl rfl (pa_cons (pe_callTy call_list_of (by rfl) T.n_list (by decide +kernel) (pa_cons (pv 1) pa_nil)) (pa_cons (pe_lst pa_nil) pa_nil)) (by rfl))
    (pss_cons (ps_while PassesOwn.leaving (pt_cmpR (op_neNil hr.units) (pv 2) (pe_lst pa_nil) (nomark _)) (pss_one (ps_expr (pe_bm PySem.F.plainAttrs_list PySem.F.slot_list_append PySem.F.type_list_append mt_append (pv 3) (pa_cons (pe_bm PySem.F.plainAttrs_list PySem.F.slot_list_pop PySem.F.type_list_pop mt_popAt (pv 2) (pa_cons (pe_call (ok__law_drawn T) (hr.mono (by decide)) (by rfl) T.g__law_drawn T.F__law_drawn.kp T.b__law_drawn .nil passL (pa_cons (pv 0) (pa_cons (pe_callB call_len_seq (by rfl) T.n_len (by decide +kernel) (pa_cons (pv 2) pa_nil)) pa_nil))) pa_nil)) pa_nil)))))
    (pss_one (ps_ret (pv 3))))), ?_⟩
    obtain ⟨u, l, xs, rfl, hu, hl, ln, k⟩ := h
    refine ⟨_, rfl, l, xs, rfl, .inl (SqL.of hl), fun a ha => ⟨(by show 0 ≤ sizeLine; decide), fun z hz => ⟨_, _, rfl, ?_⟩⟩⟩
    have x1 := Ext.new (o := .lst xs) ha
    have x2 := Ext.new (o := .lst []) hz
    have nau : a ≠ u := urn_ne hu ha
    have nzu : z ≠ u := urn_ne (hu.ext x1) hz
    have naz : a ≠ z := fun e => by rw [← e, upd_same] at hz; cases hz
    have hz0 : H z = none := by
      cases q : H z with
      | none => rfl
      | some o =>
        rw [x1 _ _ q] at hz
        cases hz
    refine while_by (fun σ H' => σ = [some (.ref u), some (.ref l), some (.ref a), some (.ref z)] ∧ Ext1 u H H' ∧ UrnAt H' u ∧ ∃ L F, H' a = some (.lst L) ∧ H' z = some (.lst F) ∧ (F ++ L).Perm xs) (lenAt a) ⟨rfl, (x1.trans x2).one, (hu.ext x1).ext x2, xs, [], x2 _ _ upd_same, upd_same, List.Perm.refl _⟩ ?_ ?_
    · rintro σ H1 ⟨rfl, e1, hu1, L, F, hL, hF, hP⟩
      have le := hP.length_eq
      rw [List.length_append] at le
      refine ⟨_, rfl, (by show 0 ≤ sizeLine; decide), fun p0 hp0 => ⟨a, p0, L, rfl, rfl, Ext.new hp0 _ _ hL, upd_same, _, rfl, ?_⟩⟩
      have y1 := Ext.new (o := .lst []) hp0
      have m0 : lenAt a [some (.ref u), some (.ref l), some (.ref a), some (.ref z)] H1 = L.length := lenAt_of hL
      cases hLL : L with
      | nil =>
        subst hLL
        rw [List.append_nil] at hP
        exact iteF ⟨_, rfl, k z F _ (e1.trans y1.one) (hu1.ext y1) hz0 (y1 _ _ hF) hP⟩
      | cons w ws =>
        refine iteT ?_
        have lp : 0 < L.length := by rw [hLL]; simp
        refine ⟨_, rfl, .inl ⟨rfl, _, SqL.of (y1 _ _ hF)⟩, _, rfl, .inl ⟨rfl, _, SqL.of (y1 _ _ hL)⟩, _, rfl, _, rfl, a, L, rfl, .inl (SqL.of (y1 _ _ hL)), u, _, rfl, hu1.ext y1, (by omega), (by omega), fun r H2 r0 r1 e2 hu2 => ?_⟩
        obtain ⟨n, rfl⟩ := Int.eq_ofNat_of_zero_le r0
        have hn : n < L.length := by omega
        have hy : L[n]? = some L[n] := List.getElem?_eq_getElem hn
        have hL2 := e2 _ _ nau (y1 _ _ hL)
        have hF2 := e2 _ _ nzu (y1 _ _ hF)
        have si : seqIndex? ((n : Nat) : Int) L.length = some n := (ixN_seq (by unfold ixN; rw [if_pos (by omega), if_pos (by omega)] <;> rfl)).1
        refine ⟨a, L, _, n, L[n], rfl, rfl, hL2, (by omega), (by omega), si, hy, ?_⟩
        refine ⟨z, F, L[n], rfl, rfl, (by rw [upd_ne (Ne.symm naz)]; exact hF2), Nat.lt_of_le_of_lt (show F.length ≤ 1000 by omega) (by decide), ⟨rfl, fun c o nc hc => ?_, ?_, L.eraseIdx n, F ++ [L[n]], ?_, upd_same, (perm_step F hy).trans hP⟩, ?_⟩
        · have c1 : c ≠ z := fun e => by rw [e, hz0] at hc; cases hc
          have c2 : c ≠ a := fun e => by rw [e, ha] at hc; cases hc
          rw [upd_ne c1, upd_ne c2]
          exact e2 _ _ nc (y1 _ _ (e1 _ _ nc hc))
        · obtain ⟨z1, z2, z3, h3⟩ := hu2
          exact ⟨z1, z2, z3, by rw [upd_ne (Ne.symm nzu), upd_ne (Ne.symm nau)]; exact h3⟩
        · rw [upd_ne naz, upd_same]
        · rw [m0, lenAt_of (L := L.eraseIdx n) (by rw [upd_ne naz, upd_same]), List.length_eraseIdx, if_pos hn]
          omega
    · intro σ H1 Q1 Q2 hq h
      obtain ⟨v, e, hz', f⟩ := h
      refine ⟨v, e, hz', fun p hp => ?_⟩
      obtain ⟨a', b', xs', h1, h2, h3, h4, k', h5, q⟩ := f p hp
      exact ⟨a', b', xs', h1, h2, h3, h4, k', h5, hq _ _ q⟩

/-- what _law_told makes of the call -/
def ETell (CN CR : Addr) (Q : VK) : XK := fun cls d H' => (cls = .ref CR ∧ Q (.str "ratio") H') ∨ (cls = .ref CN ∧ ∃ dd, d = some dd ∧ H' dd = some (.xd [("limit", .int 2000)]) ∧ ∀ z, H' z = none → Q (.ref z) (upd H' z (.tup [.str "many", .int 2000])))
def TTell (C CN CR : Addr) : (XK → Hp → VK → Prop) → Hp → VK → Prop := fun tl H Q => ∀ f : Addr, tl (ETell CN CR Q) H fun x H1 => tRet (tTup (tCons (tProp C (spGet C fun t b => V.int t) [] E0 (tVar 1)) (tCons (tProp C (spGet C fun t b => V.int b) [] E0 (tVar 1)) tNil))) { nx := fun _ H' => Q .non H', rt := Q } ((L2.start ["_law_call", "_law_found", "e"] [V.ref f]).set 1 (some x)) H1
theorem tell_ok {C CN CR : Addr} {Q : VK} {f r : Addr} {H1 : Hp} {t b : Int} (h : RatAt C H1 r t b) (k : ∀ z, H1 z = none → Q (.ref z) (upd H1 z (.tup [.int t, .int b]))) :
    tRet (tTup (tCons (tProp C (spGet C fun t b => V.int t) [] E0 (tVar 1)) (tCons (tProp C (spGet C fun t b => V.int b) [] E0 (tVar 1)) tNil))) { nx := fun _ H' => Q .non H', rt := Q } ((L2.start ["_law_call", "_law_found", "e"] [V.ref f]).set 1 (some (.ref r))) H1 := by
  obtain ⟨dx, hr⟩ := id h
  exact ⟨_, rfl, r, dx, _, rfl, hr, r, t, b, rfl, h, _, rfl, r, dx, _, rfl, hr, r, t, b, rfl, h, (by show 2 ≤ sizeLine; decide), k⟩
theorem told_gives {X : Cx} (T : TX X.K X.mg) (hrX : Room 4 X.A) {cdg : Value} {q : Str} : LamX.GivesTo X ["_law_call", "_law_found", "e"] "_law_told" (defScope s__law_told) T.f__law_told cdg (defBody s__law_told) "_law_call" q (TTell T.C_Ratio T.C_TooMany T.C_InvalidRatio) := by
  intro f c' s H Q tl act hc h
  have hr2 : Room 3 (cxOf C8.CX0 X.prog X.w X.K X.mg X.base ["_law_call", "_law_found", "e"] "_law_told" (defScope s__law_told) T.f__law_told cdg X.A X.stack s H C8.E0).A := hrX.deeper _
  refine ⟨_, pss_one (ps_tryE (X := (cxOf C8.CX0 X.prog X.w X.K X.mg X.base ["_law_call", "_law_found", "e"] "_law_told" (defScope s__law_told) T.f__law_told cdg X.A X.stack s H C8.E0).nox) rfl rfl sc__law_told.nd (fun W pn xe Ech tk hW => (pss_cons (ps_set (i := 1) sc__law_told.nd rfl (Or.inl rfl) (act (fun cls d σ' H' => σ'.length = 3 → W cls d σ' H') pn xe Ech _ _ (takes_len tk) hW))
    (pss_one (ps_ret (pe_tup (pa_cons (pe_prop (pv 1) T.cl_Ratio T.p_Ratio_top (ok_Ratio_top T) (hr2.mono (by decide)) T.b_Ratio_top .nil passL (by rfl)) (pa_cons (pe_prop (pv 1) T.cl_Ratio T.p_Ratio_bottom (ok_Ratio_bottom T) (hr2.mono (by decide)) T.b_Ratio_bottom .nil passL (by rfl)) pa_nil)))))))
      (.plain ⟨rfl, by decide, .inl T.g_InvalidRatio⟩ (fun a oe cls d pn hz hf => pss_one (ps_ret pe_str))
        (.named (i := 2) rfl rfl ⟨rfl, by decide, .inl T.x_TooMany.gC⟩ (fun a oe cls d pn hz hf => pss_one (ps_ret (pe_tup (pa_cons pe_str (pa_cons (pe_fldTooMany T.x_TooMany hz hf (pv 2)) pa_nil))))) .nil))), ?_⟩
  refine ⟨ETell T.C_TooMany T.C_InvalidRatio Q, fun cls d σ' H' e ln => ?_, ?_⟩
  · rcases e with ⟨rfl, q⟩ | ⟨rfl, dd, rfl, hd, q⟩
    · exact ⟨true, T.e_InvalidRatio_InvalidRatio, fun _ a ha => q, fun z => nomatch z⟩
    · refine ⟨false, T.e_TooMany_InvalidRatio, (fun z => nomatch z), fun _ => ⟨true, T.x_TooMany.te, fun _ a ha => ?_, fun z => nomatch z⟩⟩
      have e1 : (List.set σ' 2 (some (V.ref a)))[2]? = some (some (V.ref a)) := by
        have ln' : σ'.length = 3 := ln
        rw [List.getElem?_set_self (by omega)]
      exact ⟨_, e1, rfl, rfl, dd, _, rfl, hd, (by show 2 ≤ sizeLine; decide), q⟩
  · exact ⟨rfl, hc, h f⟩
end
end K03

namespace K03
open PySem PySem.Spec PyProof.Rows L2 L3

/-! ### sums and means, as they are -/
theorem sumL_start (a : Rat) (qs : List Rat) : qs.foldl (fun s q => s + q) a = a + sumL qs := by
  unfold sumL
  induction qs generalizing a with
  | nil => simp [Rat.add_zero]
  | cons q qs ih =>
    rw [List.foldl_cons, List.foldl_cons, ih (a + q), ih (0 + q), Rat.add_assoc]
    congr 1
    rw [Rat.zero_add]
theorem sumL_cons (q : Rat) (qs : List Rat) : sumL (q :: qs) = q + sumL qs := by
  have h := sumL_start (0 + q) qs
  rw [Rat.zero_add] at h
  unfold sumL
  rw [List.foldl_cons, Rat.zero_add]
  exact h
def Sm (q : Rat) : Prop := q.num.natAbs < 2 ^ 200 ∧ q.den < 2 ^ 200
theorem lcmL_le (qs : List Rat) (h : ∀ q ∈ qs, Sm q) : ∀ b : Nat, qs.foldl (fun b q => Nat.lcm b q.den) b ≤ b * 2 ^ (200 * qs.length) := by
  induction qs with
  | nil => intro b; simp
  | cons q qs ih =>
    intro b
    rw [List.foldl_cons, List.length_cons]
    refine Nat.le_trans (ih (fun x hx => h x (List.mem_cons_of_mem _ hx)) _) ?_
    have l : Nat.lcm b q.den ≤ b * 2 ^ 200 := by
      refine Nat.le_trans (Nat.div_le_self _ _) (Nat.mul_le_mul_left _ (Nat.le_of_lt (h q List.mem_cons_self).2))
    refine Nat.le_trans (Nat.mul_le_mul_right _ l) ?_
    rw [Nat.mul_assoc, ← Nat.pow_add]
    exact Nat.mul_le_mul_left _ (Nat.pow_le_pow_right (by decide) (by omega))
theorem lcmL_lt {qs : List Rat} (h : ∀ q ∈ qs, Sm q) (l : qs.length ≤ 12) (i : Nat) : lcmL (qs.take i) < 2 ^ 2401 := by
  refine Nat.lt_of_le_of_lt (lcmL_le _ (fun q hq => h q (List.mem_of_mem_take hq)) 1) ?_
  rw [Nat.one_mul]
  exact Nat.pow_lt_pow_right (by decide) (by rw [List.length_take]; omega)
theorem add_small {a b : Rat} {i j k l : Nat} (h1 : a.num.natAbs < 2 ^ i) (h2 : a.den ≤ 2 ^ j) (h3 : b.num.natAbs < 2 ^ k) (h4 : b.den ≤ 2 ^ l) (hk : k + j ≤ i + l) : (a + b).num.natAbs < 2 ^ (i + l + 1) ∧ (a + b).den ≤ 2 ^ (j + l) := by
  have e := add_low a b
  have ne : (a.den : Int) * (b.den : Int) ≠ 0 := Int.mul_ne_zero (den_ne a) (den_ne b)
  have le := low_le (a.num * b.den + b.num * a.den) (a.den * b.den) ne
  rw [e.1, e.2] at le
  refine ⟨Nat.lt_of_le_of_lt le.1 ?_, ?_⟩
  · refine Nat.lt_of_le_of_lt (Int.natAbs_add_le _ _) ?_
    rw [Int.natAbs_mul, Int.natAbs_mul, Int.natAbs_natCast, Int.natAbs_natCast]
    have z1 : a.num.natAbs * b.den < 2 ^ (i + l) := by
      rw [Nat.pow_add]
      exact Nat.mul_lt_mul_of_lt_of_le h1 h4 (Nat.pow_pos (by decide))
    have z2 : b.num.natAbs * a.den < 2 ^ (i + l) := by
      refine Nat.lt_of_lt_of_le ?_ (Nat.pow_le_pow_right (by decide) hk)
      rw [Nat.pow_add]
      exact Nat.mul_lt_mul_of_lt_of_le h3 h2 (Nat.pow_pos (by decide))
    rw [Nat.pow_succ]
    omega
  · have q := le.2
    rw [Int.natAbs_natCast, Int.natAbs_mul, Int.natAbs_natCast, Int.natAbs_natCast] at q
    refine Nat.le_trans q ?_
    rw [Nat.pow_add]
    exact Nat.mul_le_mul h2 h4
theorem sumL_small (qs : List Rat) (h : ∀ q ∈ qs, Sm q) : (sumL qs).num.natAbs < 2 ^ (201 * qs.length + 1) ∧ (sumL qs).den ≤ 2 ^ (200 * qs.length) := by
  induction qs with
  | nil => exact ⟨by decide, by decide⟩
  | cons q qs ih =>
    obtain ⟨a, b⟩ := ih fun x hx => h x (List.mem_cons_of_mem _ hx)
    obtain ⟨c, d⟩ := h q List.mem_cons_self
    rw [sumL_cons, Rat.add_comm, List.length_cons]
    have r := add_small (j := 200 * qs.length) (l := 200) a b c (Nat.le_of_lt d) (by omega)
    exact ⟨Nat.lt_of_lt_of_le r.1 (Nat.pow_le_pow_right (by decide) (by omega)), Nat.le_trans r.2 (Nat.pow_le_pow_right (by decide) (by omega))⟩
theorem nat_rat_num (n : Nat) : (Rat.divInt (n : Int) 1).num = n ∧ (Rat.divInt (n : Int) 1).den = 1 := by
  have l := low_rat (n := (n : Int)) (m := 1) (by decide)
  have o : lowT (n : Int) 1 = n ∧ lowB (n : Int) 1 = 1 := low_eq (by decide) (by decide) (Nat.gcd_one_right _) rfl
  exact ⟨l.1.symm.trans o.1, by have := l.2.symm.trans o.2; omega⟩
theorem nat_rat_ne {n : Nat} (h : 0 < n) : Rat.divInt (n : Int) 1 ≠ 0 := fun z => by
  have e := (nat_rat_num n).1
  rw [z] at e
  have : (0 : Int) = n := e
  omega
theorem meanL_small (qs : List Rat) (h : ∀ q ∈ qs, Sm q) (l : qs.length ≤ 12) (n0 : 0 < qs.length) : (meanL qs).num.natAbs < 2 ^ 2414 ∧ (meanL qs).den < 2 ^ 2405 := by
  obtain ⟨a, b⟩ := sumL_small qs h
  have d := div_low (sumL qs) (Rat.divInt ((qs.length : Nat) : Int) 1) (nat_rat_ne n0)
  have nn := nat_rat_num qs.length
  rw [nn.1, nn.2] at d
  have le := low_le ((sumL qs).num * ((1 : Nat) : Int)) ((sumL qs).den * (qs.length : Int)) (Int.mul_ne_zero (den_ne _) (by omega))
  rw [d.1, d.2] at le
  refine ⟨Nat.lt_of_le_of_lt le.1 ?_, ?_⟩
  · rw [show (sumL qs).num * ((1 : Nat) : Int) = (sumL qs).num from Int.mul_one _]
    exact Nat.lt_of_lt_of_le a (Nat.pow_le_pow_right (by decide) (by omega))
  · have q := le.2
    rw [Int.natAbs_natCast, Int.natAbs_mul, Int.natAbs_natCast, Int.natAbs_natCast] at q
    refine Nat.lt_of_le_of_lt q ?_
    have z : (sumL qs).den * qs.length ≤ 2 ^ 2400 * 2 ^ 4 := Nat.mul_le_mul (Nat.le_trans b (Nat.pow_le_pow_right (by decide) (by omega))) (by omega)
    rw [← Nat.pow_add] at z
    exact Nat.lt_of_le_of_lt z (Nat.pow_lt_pow_right (by decide) (by decide))
theorem lcmL_rep (m : Rat) (n : Nat) : lcmL (List.replicate n m) ∣ m.den := by
  induction n with
  | zero => exact Nat.one_dvd _
  | succ n ih =>
    rw [List.replicate_succ', lcmL_snoc]
    exact Nat.lcm_dvd ih (Nat.dvd_refl _)
theorem lcmL_rep_lt {m : Rat} {k : Nat} (h : m.den < 2 ^ k) (n i : Nat) : lcmL ((List.replicate n m).take i) < 2 ^ k := by
  rw [List.take_replicate]
  exact Nat.lt_of_le_of_lt (Nat.le_of_dvd m.den_pos (lcmL_rep m _)) h
theorem mul_div_back {a n : Rat} (h : n ≠ 0) : a * n / n = a := by
  rw [Rat.div_def, Rat.mul_assoc, Rat.mul_inv_cancel _ h, Rat.mul_one]
theorem nat_succ_rat (n : Nat) : Rat.divInt ((n + 1 : Nat) : Int) 1 = Rat.divInt (n : Int) 1 + 1 := by
  rw [show (1 : Rat) = Rat.divInt 1 1 by decide +kernel, Rat.divInt_add_divInt _ _ (by decide) (by decide)]
  simp
theorem sumL_rep (m : Rat) (n : Nat) : sumL (List.replicate n m) = m * Rat.divInt (n : Int) 1 := by
  induction n with
  | zero => rw [show Rat.divInt ((0 : Nat) : Int) 1 = 0 by decide +kernel, Rat.mul_zero] <;> rfl
  | succ n ih => rw [List.replicate_succ, sumL_cons, ih, nat_succ_rat, Rat.mul_add, Rat.mul_one, Rat.add_comm]
theorem meanL_rep (m : Rat) {n : Nat} (h : 0 < n) : meanL (List.replicate n m) = m := by
  unfold meanL
  rw [sumL_rep, List.length_replicate, mul_div_back (nat_rat_ne h)]
theorem sum_above {m : Rat} (qs : List Rat) (h : ∀ q ∈ qs, m < q) : m * Rat.divInt ((qs.length : Nat) : Int) 1 ≤ sumL qs ∧ (qs ≠ [] → m * Rat.divInt ((qs.length : Nat) : Int) 1 < sumL qs) := by
  induction qs with
  | nil => exact ⟨by rw [show Rat.divInt (((([] : List Rat).length) : Nat) : Int) 1 = 0 by decide +kernel, Rat.mul_zero]; exact Rat.le_refl, fun z => (z rfl).elim⟩
  | cons q qs ih =>
    obtain ⟨a, _⟩ := ih fun x hx => h x (List.mem_cons_of_mem _ hx)
    have c := h q List.mem_cons_self
    have k : m * Rat.divInt (((q :: qs).length : Nat) : Int) 1 < sumL (q :: qs) := by
      rw [sumL_cons, List.length_cons, nat_succ_rat, Rat.mul_add, Rat.mul_one, Rat.add_comm]
      exact Std.lt_of_lt_of_le (Rat.add_lt_add_right.mpr c) (Rat.add_le_add_left.mpr a)
    exact ⟨Rat.le_of_lt k, fun _ => k⟩
theorem sum_below {m : Rat} (qs : List Rat) (h : ∀ q ∈ qs, q < m) : sumL qs ≤ m * Rat.divInt ((qs.length : Nat) : Int) 1 ∧ (qs ≠ [] → sumL qs < m * Rat.divInt ((qs.length : Nat) : Int) 1) := by
  induction qs with
  | nil => exact ⟨by rw [show Rat.divInt (((([] : List Rat).length) : Nat) : Int) 1 = 0 by decide +kernel, Rat.mul_zero]; exact Rat.le_refl, fun z => (z rfl).elim⟩
  | cons q qs ih =>
    obtain ⟨a, _⟩ := ih fun x hx => h x (List.mem_cons_of_mem _ hx)
    have c := h q List.mem_cons_self
    have k : sumL (q :: qs) < m * Rat.divInt (((q :: qs).length : Nat) : Int) 1 := by
      rw [sumL_cons, List.length_cons, nat_succ_rat, Rat.mul_add, Rat.mul_one, Rat.add_comm (m * _)]
      exact Std.lt_of_lt_of_le (Rat.add_lt_add_right.mpr c) (Rat.add_le_add_left.mpr a)
    exact ⟨Rat.le_of_lt k, fun _ => k⟩
theorem mean_back {qs : List Rat} (h : qs ≠ []) : meanL qs * Rat.divInt ((qs.length : Nat) : Int) 1 = sumL qs := by
  unfold meanL
  have n0 : 0 < qs.length := List.length_pos_iff.mpr h
  rw [Rat.div_def, Rat.mul_assoc, Rat.inv_mul_cancel _ (nat_rat_ne n0), Rat.mul_one]
theorem some_low {qs : List Rat} (h : qs ≠ []) : ∃ q ∈ qs, ¬ meanL qs < q := by
  refine Classical.byContradiction fun z => ?_
  have a := (sum_above qs (m := meanL qs) fun q hq => Classical.byContradiction fun n => z ⟨q, hq, n⟩).2 h
  rw [mean_back h] at a
  exact Rat.lt_irrefl a
theorem some_high {qs : List Rat} (h : qs ≠ []) : ∃ q ∈ qs, ¬ q < meanL qs := by
  refine Classical.byContradiction fun z => ?_
  have a := (sum_below qs (m := meanL qs) fun q hq => Classical.byContradiction fun n => z ⟨q, hq, n⟩).2 h
  rw [mean_back h] at a
  exact Rat.lt_irrefl a
def l7 : Rat := Rat.divInt 1 (7 ^ 1980)
def h11 : Rat := Rat.divInt 1 (11 ^ 1815)
theorem end1 : big (sumL [l7, h11, l7, h11]) = true := by decide +kernel
theorem end2 : big (meanL [l7, h11]) = true := by decide +kernel
theorem end3 : sumL [l7, h11, -l7] = h11 := by decide +kernel
theorem end4 : meanL [h11, l7, h11, -l7, -h11] = h11 / Rat.divInt 5 1 := by decide +kernel
theorem end5 : big (h11 / Rat.divInt 5 1) = false := by decide +kernel
theorem end6 : big l7 = false ∧ big h11 = false := by decide +kernel

theorem sumL_app (as bs : List Rat) : sumL (as ++ bs) = sumL as + sumL bs := by
  induction as with
  | nil => rw [List.nil_append, show sumL [] = 0 from rfl, Rat.zero_add]
  | cons a as ih => rw [List.cons_append, sumL_cons, sumL_cons, ih, Rat.add_assoc]
theorem sumL_perm {as bs : List Rat} (h : as.Perm bs) : sumL as = sumL bs := by
  induction h with
  | nil => rfl
  | cons x _ ih => rw [sumL_cons, sumL_cons, ih]
  | swap x y l =>
    rw [sumL_cons, sumL_cons, sumL_cons, sumL_cons, ← Rat.add_assoc, ← Rat.add_assoc, Rat.add_comm x y]
  | trans _ _ ih1 ih2 => rw [ih1, ih2]
end K03

namespace K03
open PySem PySem.Spec PyProof.Rows L2 L3

/-! ### one lap -/
def lqR : Str := (envOfC "_law_right" (defScope s__law_right) 0 0 .none).qual ++ "<lambda>"
def lqL : Str := (envOfC "law" (defScope s_law) 0 0 .none).qual ++ "<lambda>"
/-- the two tables of code -/
abbrev Tb {K : PySem.W.Frag} {mg : Str → Option Value} (T : TX K mg) : List (Addr × Str) := [(T.tt__law_right, lqR), (T.tt_law, lqL)]
theorem tt_ne {K : PySem.W.Frag} {mg : Str → Option Value} (T : TX K mg) : T.tt__law_right ≠ T.tt_law := by rw [T.tq__law_right, T.tq_law]; decide
theorem uniqR {K : PySem.W.Frag} {mg : Str → Option Value} (T : TX K mg) : ∀ p ∈ Tb T, p.1 = T.tt__law_right → p.2 = lqR := by
  intro p hp h
  rcases List.mem_cons.mp hp with rfl | hp
  · rfl
  · rw [List.mem_singleton.mp hp] at h
    exact absurd h.symm (tt_ne T)
theorem uniqL {K : PySem.W.Frag} {mg : Str → Option Value} (T : TX K mg) : ∀ p ∈ Tb T, p.1 = T.tt_law → p.2 = lqL := by
  intro p hp h
  rcases List.mem_cons.mp hp with rfl | hp
  · exact absurd h (tt_ne T)
  · rw [List.mem_singleton.mp hp]
theorem hu_lt {A : Around} {k : Nat} (hr : Room k A) : A.units < cLine := Nat.lt_of_le_of_lt (Nat.le_add_right _ 64) hr.units
theorem told_givesK {K : PySem.W.Frag} {mg : Str → Option Value} {X : Cx} (T : TX K mg) (hK : X.K = K) (hm : X.mg = mg) (hrX : Room 4 X.A) {cdg : Value} {q : Str} : LamX.GivesTo X ["_law_call", "_law_found", "e"] "_law_told" (defScope s__law_told) T.f__law_told cdg (defBody s__law_told) "_law_call" q (TTell T.C_Ratio T.C_TooMany T.C_InvalidRatio) := by
  subst hK
  subst hm
  exact told_gives T hrX
def spRight (Tb : List (Addr × Str)) : Sp := fun vs H Q _ => ∃ u, vs = [.ref u] ∧ UrnAt H u ∧ LamX.Tabs Tb H ∧ ∀ H', LamX.Tabs Tb H' → UrnAt H' u → (∀ c o, c ≠ u → (∀ ps, o ≠ HO.tbl ps) → H c = some o → H' c = some o) → Q (.bl true) H'
/-! steps of a text -/
theorem seq_asg {te : TE} {g : TG} {u : TS} {D : Ends} {σ : L2.St} {H : Hp} (P : V → Hp → Prop) (h1 : ∀ Q : VK, (∀ x H1, P x H1 → Q x H1) → te σ H Q) (h2 : ∀ x H1, P x H1 → g x σ H1 fun σ' H' => u D σ' H') : tSeq (tAsg te g) u D σ H := h1 _ h2
theorem seq_any {t u : TS} {D : Ends} {σ : L2.St} {H : Hp} (P : L2.St → Hp → Prop) (h1 : ∀ D' : Ends, (∀ σ' H', P σ' H' → D'.nx σ' H') → t D' σ H) (h2 : ∀ σ' H', P σ' H' → u D σ' H') : tSeq t u D σ H := h1 _ h2
theorem seq_ifF {c : TT} {t u : TS} {D : Ends} {σ : L2.St} {H : Hp} (P : Hp → Prop) (h1 : ∀ Q : Bool → Hp → Prop, (∀ H1, P H1 → Q false H1) → c σ H Q) (h2 : ∀ H1, P H1 → u D σ H1) : tSeq (tIfS c t tNext) u D σ H := by
  refine h1 _ fun H1 p => ?_
  show if false = true then _ else _
  exact iteF (h2 H1 p)
/-! what stays -/
def Rx (u : Addr) (H H' : Hp) : Prop := ∀ c o, c ≠ u → (∀ ps, o ≠ HO.tbl ps) → H c = some o → H' c = some o
theorem Rx.trans {u : Addr} {H H1 H2 : Hp} (a : Rx u H H1) (b : Rx u H1 H2) : Rx u H H2 := fun c o n t h => b c o n t (a c o n t h)
theorem Rx.rfl' {u : Addr} {H : Hp} : Rx u H H := fun _ _ _ _ h => h
theorem Ext.rx {u : Addr} {H H1 : Hp} (a : Ext H H1) : Rx u H H1 := fun c o _ _ h => a c o h
theorem Ext1.rx {u : Addr} {H H1 : Hp} (a : Ext1 u H H1) : Rx u H H1 := fun c o n _ h => a c o n h
theorem rx_of {u : Addr} {H H1 : Hp} (a : LamX.ExtN H H1) : Rx u H H1 := fun c o _ t h => a c o h t
theorem tabs_ext {Tb : List (Addr × Str)} {H H' : Hp} (t : LamX.Tabs Tb H) (e : Ext H H') : LamX.Tabs Tb H' := t.ext e
theorem tabs_one {Tb : List (Addr × Str)} {u : Addr} {H H' : Hp} (t : LamX.Tabs Tb H) (hu : UrnAt H u) (e : Ext1 u H H') : LamX.Tabs Tb H' := by
  obtain ⟨a, b, c, hu⟩ := hu
  intro p hp
  obtain ⟨ps, h1, h2, h3⟩ := t p hp
  refine ⟨ps, e _ _ (fun z => ?_) h1, h2, fun pos cv hc => ?_⟩
  · rw [z, hu] at h1
    cases h1
  · obtain ⟨c2, e1, e2⟩ := h3 pos cv hc
    refine ⟨c2, e1, e _ _ (fun z => ?_) e2⟩
    rw [z, hu] at e2
    unfold LamX.CodeO at e2
    cases e2
theorem urn_of {u : Addr} {H H' : Hp} (e : LamX.ExtN H H') (h : UrnAt H u) : UrnAt H' u := h.elim fun a ⟨b, c, h⟩ => ⟨a, b, c, e _ _ h (fun _ z => by cases z)⟩
/-- neither an urn nor a table -/
def NotU (o : HO) : Prop := (∀ x y z : Int, o ≠ .lst [.int x, .int y, .int z]) ∧ ∀ ps, o ≠ .tbl ps
theorem kp {u a : Addr} {H H' : Hp} {o : HO} (hu : UrnAt H u) (e : Rx u H H') (n : NotU o) (h : H a = some o) : H' a = some o := e a o (fun z => by
  obtain ⟨x, y, w, q⟩ := hu
  rw [z, q] at h
  exact n.1 x y w (Option.some.inj h).symm) n.2 h
theorem nu_tup {xs : List V} : NotU (.tup xs) := ⟨(fun _ _ _ z => by cases z), (fun _ z => by cases z)⟩
theorem nu_ins {C d : Addr} {fs : List (Str × V)} : NotU (.ins C d fs) := ⟨(fun _ _ _ z => by cases z), (fun _ z => by cases z)⟩
theorem nu_dk {kvs : List (Key × V)} : NotU (.dK kvs) := ⟨(fun _ _ _ z => by cases z), (fun _ z => by cases z)⟩
theorem nu_refs {l : List Addr} : NotU (.lst (l.map V.ref)) := by
  refine ⟨fun _ _ _ z => ?_, fun _ z => by cases z⟩
  cases l with
  | nil => cases z
  | cons a l => cases z
theorem nu_two {r p : Addr} : NotU (.lst [.ref r, .ref p]) := nu_refs (l := [r, p])
theorem ratq_rx {C u r : Addr} {H H' : Hp} {q : Rat} (hu : UrnAt H u) (e : Rx u H H') (h : RatQ C H r q) : RatQ C H' r q := h.elim fun dx h => ⟨dx, kp hu e nu_ins h⟩
theorem Rs.rx {C u : Addr} {H H' : Hp} {rs : List Addr} {qs : List Rat} (h : Rs C H rs qs) (hu : UrnAt H u) (e : Rx u H H') : Rs C H' rs qs := by
  induction h with
  | nil => exact .nil
  | cons h _ ih => exact .cons (ratq_rx hu e h) ih
/-- the entries of the rows; z is the list of them -/
inductive Es (C z : Addr) (H : Hp) : List Addr → List Addr → List Addr → List Rat → Prop
  | nil : Es C z H [] [] [] []
  | cons {e r p : Addr} {q : Rat} {es rs ps : List Addr} {qs : List Rat} (n : e ≠ z) (he : H e = some (.lst [.ref r, .ref p])) (hr : RatQ C H r q) (hp : H p = some (.tup (Pr q))) (s : Sm q) (t : Es C z H es rs ps qs) : Es C z H (e :: es) (r :: rs) (p :: ps) (q :: qs)
theorem Es.snoc {C z : Addr} {H : Hp} {es rs ps : List Addr} {qs : List Rat} (h : Es C z H es rs ps qs) {e r p : Addr} {q : Rat} (n : e ≠ z) (he : H e = some (.lst [.ref r, .ref p])) (hr : RatQ C H r q) (hp : H p = some (.tup (Pr q))) (s : Sm q) : Es C z H (es ++ [e]) (rs ++ [r]) (ps ++ [p]) (qs ++ [q]) := by
  induction h with
  | nil => exact .cons n he hr hp s .nil
  | cons n' he' hr' hp' s' _ ih => exact .cons n' he' hr' hp' s' ih
theorem Es.keep {C z u : Addr} {H H' : Hp} {L : List Addr} {es rs ps : List Addr} {qs : List Rat} (h : Es C z H es rs ps qs) (hu : UrnAt H u) (hz : H z = some (.lst (L.map V.ref))) (x : ∀ c o, c ≠ u → c ≠ z → (∀ ps, o ≠ HO.tbl ps) → H c = some o → H' c = some o) : Es C z H' es rs ps qs := by
  have nz : ∀ {c : Addr} {o : HO}, (∀ l : List Addr, o ≠ .lst (l.map V.ref)) → H c = some o → c ≠ z := fun ho hc e => by
    rw [e, hz] at hc
    exact ho _ (Option.some.inj hc).symm
  have nuu : ∀ {c : Addr} {o : HO}, NotU o → H c = some o → c ≠ u := fun ho hc e => by
    obtain ⟨a, b, w, q⟩ := hu
    rw [e, q] at hc
    exact ho.1 a b w (Option.some.inj hc).symm
  induction h with
  | nil => exact .nil
  | cons n he hr hp s _ ih =>
    obtain ⟨dx, hr⟩ := hr
    exact .cons n (x _ _ (nuu nu_two he) n nu_two.2 he) ⟨dx, x _ _ (nuu nu_ins hr) (nz (fun l z => by cases z) hr) nu_ins.2 hr⟩ (x _ _ (nuu nu_tup hp) (nz (fun l z => by cases z) hp) nu_tup.2 hp) s ih
theorem Es.rx {C z u : Addr} {H H' : Hp} {es rs ps : List Addr} {qs : List Rat} (h : Es C z H es rs ps qs) (hu : UrnAt H u) (e : Rx u H H') : Es C z H' es rs ps qs := by
  induction h with
  | nil => exact .nil
  | cons n he hr hp s _ ih => exact .cons n (kp hu e nu_two he) (ratq_rx hu e hr) (kp hu e nu_tup hp) s ih
theorem Es.rs {C z : Addr} {H : Hp} {es rs ps : List Addr} {qs : List Rat} (h : Es C z H es rs ps qs) : Rs C H rs qs := by
  induction h with
  | nil => exact .nil
  | cons n he hr hp s _ ih => exact .cons hr ih
theorem Es.ps {C z : Addr} {H : Hp} {es rs ps : List Addr} {qs : List Rat} (h : Es C z H es rs ps qs) : Ps H ps qs := by
  induction h with
  | nil => exact .nil
  | cons n he hr hp s _ ih => exact .cons hp s ih
theorem Es.sm {C z : Addr} {H : Hp} {es rs ps : List Addr} {qs : List Rat} (h : Es C z H es rs ps qs) : ∀ q ∈ qs, Sm q := by
  induction h with
  | nil => intro q hq; simp at hq
  | cons n he hr hp s _ ih =>
    intro q hq
    rcases List.mem_cons.mp hq with rfl | hq
    · exact s
    · exact ih q hq
theorem Es.len {C z : Addr} {H : Hp} {es rs ps : List Addr} {qs : List Rat} (h : Es C z H es rs ps qs) : es.length = qs.length ∧ rs.length = qs.length ∧ ps.length = qs.length := by
  induction h with
  | nil => exact ⟨rfl, rfl, rfl⟩
  | cons n he hr hp s _ ih =>
    simp only [List.length_cons]
    omega
theorem Es.at {C z : Addr} {H : Hp} {es rs ps : List Addr} {qs : List Rat} (h : Es C z H es rs ps qs) : ∀ {i : Nat} {e : Addr}, es[i]? = some e → ∃ r p, rs[i]? = some r ∧ ps[i]? = some p ∧ H e = some (.lst [.ref r, .ref p]) := by
  induction h with
  | nil => intro i e z; simp at z
  | cons n he hr hp s _ ih =>
    intro i e z
    cases i with
    | zero =>
      simp at z
      subst z
      exact ⟨_, _, by simp, by simp, he⟩
    | succ i =>
      simp at z
      obtain ⟨r, p, a, b, c⟩ := ih z
      exact ⟨r, p, by simpa using a, by simpa using b, c⟩
theorem Es.perm {C z : Addr} {H : Hp} {es es' : List Addr} (hp : es.Perm es') : ∀ {rs ps : List Addr} {qs : List Rat}, Es C z H es rs ps qs → ∃ rs' ps' qs', Es C z H es' rs' ps' qs' ∧ qs.Perm qs' := by
  induction hp with
  | nil => intro rs ps qs h; cases h; exact ⟨_, _, _, .nil, .refl _⟩
  | cons x _ ih =>
    intro rs ps qs h
    cases h with
    | cons n he hr hp s t =>
      obtain ⟨rs', ps', qs', t', pq⟩ := ih t
      exact ⟨_, _, _, .cons n he hr hp s t', .cons _ pq⟩
  | swap x y l =>
    intro rs ps qs h
    cases h with
    | cons n he hr hp s t =>
      cases t with
      | cons n2 he2 hr2 hp2 s2 t => exact ⟨_, _, _, .cons n2 he2 hr2 hp2 s2 (.cons n he hr hp s t), .swap _ _ _⟩
  | trans _ _ ih1 ih2 =>
    intro rs ps qs h
    obtain ⟨_, _, _, h1, p1⟩ := ih1 h
    obtain ⟨_, _, _, h2, p2⟩ := ih2 h1
    exact ⟨_, _, _, h2, p1.trans p2⟩
def unref : V → Addr
  | .ref a => a
  | _ => 0
theorem refs_perm {ys : List V} {es : List Addr} (h : ys.Perm (es.map V.ref)) : ∃ es', ys = es'.map V.ref ∧ es.Perm es' := by
  refine ⟨ys.map unref, ?_, ?_⟩
  · rw [List.map_map]
    refine (List.map_id' ys).symm.trans (List.map_congr_left fun y hy => ?_)
    have m := h.mem_iff.mp hy
    obtain ⟨a, _, rfl⟩ := List.mem_map.mp m
    rfl
  · have m := (h.map unref).symm
    rw [List.map_map] at m
    have e : es.map (unref ∘ V.ref) = es := by
      refine (List.map_congr_left fun y _ => ?_).trans (List.map_id' es)
      rfl
    rw [e] at m
    exact m
theorem sm_big {q : Rat} (h : Sm q) : big q = false := by
  unfold big
  rw [many_of h.1 (by decide), many_of (n := (q.den : Int)) (k := 200) (by rw [Int.natAbs_natCast]; exact h.2) (by decide)] <;> rfl
theorem rows_of {K : PySem.W.Frag} {C p : Addr} {H : Hp} {rs : List Addr} {qs : List Rat} (hp : H p = some (.tup (rs.map V.ref))) (hR : Rs C H rs qs) (s : ∀ q ∈ qs, Sm q) (l : qs.length ≤ 12) : Rows K C H p rs qs 200 2401 :=
  ⟨hp, hR, by omega, fun q hq => ⟨(s q hq).1, sm_big (s q hq)⟩, by decide, by decide, lcmL_lt s l⟩
theorem sum_big {qs : List Rat} (s : ∀ q ∈ qs, Sm q) (l : qs.length ≤ 12) : big (sumL qs) = false := by
  obtain ⟨a, b⟩ := sumL_small qs s
  unfold big
  rw [many_of (Nat.lt_of_lt_of_le a (Nat.pow_le_pow_right (by decide) (show _ ≤ 6000 by omega))) (Nat.le_refl _), many_of (n := ((sumL qs).den : Int)) (k := 6000) (by rw [Int.natAbs_natCast]; exact Nat.lt_of_le_of_lt b (Nat.pow_lt_pow_right (by decide) (by omega))) (Nat.le_refl _)] <;> rfl
theorem mean_big {qs : List Rat} (s : ∀ q ∈ qs, Sm q) (l : qs.length ≤ 12) (n0 : 0 < qs.length) : big (meanL qs) = false := by
  obtain ⟨a, b⟩ := meanL_small qs s l n0
  unfold big
  rw [many_of a (by decide), many_of (n := ((meanL qs).den : Int)) (k := 2405) (by rw [Int.natAbs_natCast]; exact b) (by decide)] <;> rfl
theorem mk_good {K : PySem.W.Frag} {C : Addr} {H : Hp} {Q : VK} {E : XK} {a b : Int} {x dx : Addr} (nx : H x = none) (ndx : H dx = none) (nex : dx ≠ x) (la : longer a = false) (lb : longer b = false) (b0 : b ≠ 0) (k : ∀ H2, Ext H H2 → RatQ C H2 x (Rat.divInt a b) → Q .non H2) :
    spInit K C [.ref x, .int a, .int b] (upd (upd H dx (.own x)) x (.ins C dx [])) Q E := by
  refine ⟨x, dx, a, b, rfl, upd_same, la, lb, b0, fun H' e1 hx => k H' (fun c o h => ?_) ?_⟩
  · have n1 := ne_of_none h nx
    refine e1 c o n1 ?_
    rw [upd_ne n1, upd_ne (ne_of_none h ndx)]
    exact h
  · have l := low_rat (n := a) b0
    show RatAt _ _ _ _ _
    rw [← l.1, ← l.2]
    exact ⟨dx, hx⟩
theorem div_sm {a b : Int} (h : b ≠ 0) (la : longer a = false) (lb : longer b = false) : longer (Rat.divInt a b).num = false ∧ longer ((Rat.divInt a b).den : Int) = false := by
  have l := low_rat (n := a) h
  have m := low_le a b h
  rw [l.1, l.2] at m
  have x : a.natAbs < 10 ^ 60 := Nat.lt_of_not_le (of_decide_eq_false la)
  have y : b.natAbs < 10 ^ 60 := Nat.lt_of_not_le (of_decide_eq_false lb)
  exact ⟨few_of (Nat.lt_of_le_of_lt m.1 x), few_of (Nat.lt_of_le_of_lt m.2 y)⟩
theorem sm_of {q : Rat} (h1 : longer q.num = false) (h2 : longer (q.den : Int) = false) : Sm q := ⟨short_of h1 (by decide), by have := short_of h2 (show 200 ≤ 200 by decide); rw [Int.natAbs_natCast] at this; exact this⟩
theorem low_pr {a b : Int} (h : b ≠ 0) : [V.int (lowT a b), .int (lowB a b)] = Pr (Rat.divInt a b) := by
  have l := low_rat (n := a) h
  rw [l.1, l.2] <;> rfl
theorem bot_list {w : Int} (lw : longer w = false) {v : V} (h : v ∈ [V.int 1, .int 2, .int 3, .int 4, .int 6, .int 12, .int 35, .int ((10 : Int) ^ ((9 : Int)).toNat + 7), .int w]) : ∃ b, v = .int b ∧ longer b = false := by
  simp only [List.mem_cons, List.not_mem_nil, or_false] at h
  rcases h with rfl | rfl | rfl | rfl | rfl | rfl | rfl | rfl | rfl
  all_goals first | exact ⟨_, rfl, lw⟩ | exact ⟨_, rfl, by decide +kernel⟩
/-- [row[j] for row in rows] -/
theorem comp_ix {K : PySem.W.Frag} {l D : Addr} {es out : List Addr} {j : Int} {a0 a1 a2 a3 a4 a5 a6 a7 a8 a9 a10 a11 a12 a13 a14 a15 a16 : Option V} {H1 : Hp} {Qd : Hp → Prop}
    (hl : H1 l = some (.lst (es.map V.ref))) (hD : H1 D = none) (hn : es.length = out.length) (hle : es.length ≤ 100) (hat : ∀ (i : Nat) e, es[i]? = some e → ∃ o xs, out[i]? = some o ∧ H1 e = some (.lst xs) ∧ atI xs j = some (.ref o))
    (k : ∀ H', Ext H1 H' → H' D = some (.lst (out.map V.ref)) → Qd H') :
    ∃ W : Nat → Nat → Hp → Prop, (∃ m, W 0 m (upd H1 D (.lst []))) ∧ ∀ i m H, W i m H →
      ((Itl K l).stop i H ∧ Qd H) ∨ ((Itl K l).go i H ∧ ∃ Nx : Hp → Prop, (∀ H', Nx H' → ∃ m', m' < m ∧ W (i + 1) m' H') ∧ ∀ x H', (Itl K l).yld i H x H' → gName 15 x (wipe [a0, a1, a2, a3, a4, a5, a6, a7, a8, a9, a10, a11, a12, a13, a14, a15, a16] [15]) H' fun σ2 H2 => wipe σ2 [15] = wipe [a0, a1, a2, a3, a4, a5, a6, a7, a8, a9, a10, a11, a12, a13, a14, a15, a16] [15] ∧ tYes σ2 H2 fun b H3 =>
        if b = true then tOp (rIxL K) (tVar 15) (tC (.int j)) σ2 H3 fun y H4 => ∃ acc, H4 D = some (.lst acc) ∧ acc.length < sizeLine ∧ Nx (upd H4 D (.lst (acc ++ [y]))) else Nx H3) := by
  refine lc_list (xs := es.map V.ref) (fun i H' => Ext H1 H' ∧ H' D = some (.lst ((out.take i).map V.ref))) ⟨Ext.new hD, upd_same⟩ (fun i H2 _ z => SqL.of (z.1 _ _ hl)) ?_ ?_
  · rintro i x H2 hx ⟨e2, hd⟩
    obtain ⟨e, hei, rfl⟩ : ∃ e, es[i]? = some e ∧ V.ref e = x := by
      rw [List.getElem?_map] at hx
      cases z : es[i]? with
      | none => rw [z] at hx; cases hx
      | some r => rw [z] at hx; exact ⟨r, rfl, Option.some.inj hx⟩
    obtain ⟨o, xs, ho, he, ha⟩ := hat i e hei
    refine ⟨rfl, ?_⟩
    refine ⟨_, rfl, e, xs, j, _, rfl, rfl, SqL.of (e2 _ _ he), ha, _, hd, ?_, fun c ob hc => ?_, ?_⟩
    · rw [List.length_map, List.length_take]
      exact Nat.lt_of_le_of_lt (show min i out.length ≤ 1000 by omega) (by decide)
    · have n : c ≠ D := fun z => by
        rw [z, hD] at hc
        cases hc
      rw [upd_ne n]
      exact e2 _ _ hc
    · rw [upd_same, List.take_add_one, ho, List.map_append] <;> rfl
  · rintro H2 ⟨e2, hd⟩
    rw [List.length_map, hn, List.take_length] at hd
    exact k H2 e2 hd
theorem ne_tup {K : PySem.W.Frag} {H : Hp} {Q : VK} {p q : Addr} {xs : List V} {ds : List PyData} (hp : SqT K H p xs) (hq : SqT K H q xs) (hd : DpAll K H xs ds) (hc : (PyData.tuple ds).canLay0 = true) (hs : SeqAt.shaped (.tuple ds) = true) (k : Q (.bl false) H) : rNeD K (.ref p) (.ref q) H Q := by
  refine ⟨_, _, .tup hp hd, .tup hq hd, hs, hs, ?_⟩
  rw [SeqAt.eqv_refl _ hc]
  exact k
theorem eq_same {K : PySem.W.Frag} {H : Hp} {Q : VK} {p q : Addr} {xs : List V} {ds : List PyData} (hp : SqL K H p xs) (hq : SqL K H q xs) (hd : DpAll K H xs ds) (hc : (PyData.list ds).canLay0 = true) (hs : SeqAt.shaped (.list ds) = true) (k : Q (.bl true) H) : rEqD K (.ref p) (.ref q) H Q := by
  refine ⟨_, _, .lst hp hd, .lst hq hd, hs, hs, ?_⟩
  rw [SeqAt.eqv_refl _ hc]
  exact k
theorem ne_pr {K : PySem.W.Frag} {H : Hp} {Q : VK} {p q : Addr} {a : Rat} (hp : H p = some (.tup (Pr a))) (hq : H q = some (.tup (Pr a))) (k : Q (.bl false) H) : rNeD K (.ref p) (.ref q) H Q :=
  ne_tup (SqT.of hp) (SqT.of hq) (.cons (.int _) (.cons (.int _) .nil)) rfl rfl k
/-- x != y of two ratios that are the same -/
theorem ne_same {K : PySem.W.Frag} {mg : Str → Option Value} (T : TX K mg) {H : Hp} {Q : Bool → Hp → Prop} {x y : Addr} {a b : Rat} (h1 : RatQ T.C_Ratio H x a) (h2 : RatQ T.C_Ratio H y b) (e : a = b) (k : Q false H) :
    rOwn2 K T.C_Ratio (spEq T.C_Ratio) E0 (.ref x) (.ref y) H (fun v H' => ∃ b, v = V.bl b ∧ ∃ c, V.bl (!b) = V.bl c ∧ Q c H') := by
  obtain ⟨d1, q1⟩ := id h1
  obtain ⟨d2, q2⟩ := id h2
  refine ⟨x, d1, _, _, rfl, q1, T.tc_Ratio.ty q2, T.nf_Ratio, x, y, _, _, rfl, h1, h2, _, rfl, _, rfl, false, ?_, k⟩
  rw [decide_eq_true e] <;> rfl
theorem sl_low {K : PySem.W.Frag} {H : Hp} {Q : VK} {rt : Addr} {rs : List Addr} {m : Nat} (h : H rt = some (.tup (rs.map V.ref))) (hm : m ≤ rs.length) (k : ∀ p H', Ext H H' → H' p = some (.tup ((rs.take m).map V.ref)) → Q (.ref p) H') : rSlA K (.ref rt) none (some (m : Int)) H Q := by
  refine ⟨rt, _, rfl, SqT.of h, fun w => k rt H Ext.rfl' ?_, fun _ p hp => k p _ (Ext.new hp) ?_⟩
  · rw [HT.sIx_nat, List.length_map] at w
    rw [List.take_of_length_le (by omega)]
    exact h
  · rw [upd_same]
    unfold cutV
    rw [HT.sIx_nat, HT.sIx_none, List.length_map, List.drop_zero, Nat.sub_zero, Nat.min_eq_left hm, List.map_take]
theorem sl_high {K : PySem.W.Frag} {H : Hp} {Q : VK} {rt : Addr} {rs : List Addr} {m : Nat} (h : H rt = some (.tup (rs.map V.ref))) (hm : m ≤ rs.length) (k : ∀ p H', Ext H H' → H' p = some (.tup ((rs.drop m).map V.ref)) → Q (.ref p) H') : rSlA K (.ref rt) (some (m : Int)) none H Q := by
  refine ⟨rt, _, rfl, SqT.of h, fun w => k rt H Ext.rfl' ?_, fun _ p hp => k p _ (Ext.new hp) ?_⟩
  · rw [HT.sIx_nat, List.length_map, Nat.min_eq_left hm] at w
    rw [w.1, List.drop_zero]
    exact h
  · rw [upd_same]
    unfold cutV
    rw [HT.sIx_nat, HT.sIx_none, List.length_map, Nat.min_eq_left hm, List.take_of_length_le (by rw [List.length_drop, List.length_map]; omega), List.map_drop]
theorem cat_any {K : PySem.W.Frag} {H : Hp} {Q : VK} {a b : Addr} {xs ys : List V} (ha : H a = some (.tup xs)) (hb : H b = some (.tup ys)) (l : xs.length + ys.length ≤ 1000) (k : ∀ p H', Ext H H' → H' p = some (.tup (xs ++ ys)) → Q (.ref p) H') : rCatA K (.ref a) (.ref b) H Q := by
  refine ⟨a, b, xs, ys, rfl, rfl, SqT.of ha, SqT.of hb, Nat.le_trans l (by decide), fun e => k b H Ext.rfl' (by rw [e]; exact hb), fun _ e => k a H Ext.rfl' (by rw [e, List.append_nil]; exact ha), fun _ _ p hp => k p _ (Ext.new hp) upd_same⟩
theorem Rs.take {C : Addr} {H : Hp} {rs : List Addr} {qs : List Rat} (h : Rs C H rs qs) : ∀ m, Rs C H (rs.take m) (qs.take m) := by
  induction h with
  | nil => intro m; rw [List.take_nil, List.take_nil]; exact .nil
  | cons h _ ih =>
    intro m
    cases m with
    | zero => exact .nil
    | succ m => exact .cons h (ih m)
theorem Rs.drop {C : Addr} {H : Hp} {rs : List Addr} {qs : List Rat} (h : Rs C H rs qs) : ∀ m, Rs C H (rs.drop m) (qs.drop m) := by
  induction h with
  | nil => intro m; rw [List.drop_nil, List.drop_nil]; exact .nil
  | cons h t ih =>
    intro m
    cases m with
    | zero => exact .cons h t
    | succ m => exact ih m
/-- what the lap has behind its rows -/
structure Lp {K : PySem.W.Frag} {mg : Str → Option Value} (T : TX K mg) (u z rt tt du : Addr) (es rs rs' : List Addr) (qs qs' : List Rat) (H : Hp) : Prop where
  urn : UrnAt H u
  tab : LamX.Tabs (Tb T) H
  z : H z = some (.lst (es.map V.ref))
  rt : H rt = some (.tup (rs.map V.ref))
  tt : H tt = some (.tup (rs'.map V.ref))
  du : H du = some (.tup (Pr (sumL qs)))
  R : Rs T.C_Ratio H rs qs
  R' : Rs T.C_Ratio H rs' qs'
  sm : ∀ q ∈ qs, Sm q
  pq : qs.Perm qs'
  l12 : qs.length ≤ 12
  le : es.length = qs.length
theorem Lp.rx {K : PySem.W.Frag} {mg : Str → Option Value} {T : TX K mg} {u z rt tt du : Addr} {es rs rs' : List Addr} {qs qs' : List Rat} {H H' : Hp} (L : Lp T u z rt tt du es rs rs' qs qs' H) (e : Rx u H H') (hu : UrnAt H' u) (ht : LamX.Tabs (Tb T) H') : Lp T u z rt tt du es rs rs' qs qs' H' :=
  ⟨hu, ht, kp L.urn e nu_refs L.z, kp L.urn e nu_tup L.rt, kp L.urn e nu_tup L.tt, kp L.urn e nu_tup L.du, L.R.rx L.urn e, L.R'.rx L.urn e, L.sm, L.pq, L.l12, L.le⟩
theorem Lp.ext {K : PySem.W.Frag} {mg : Str → Option Value} {T : TX K mg} {u z rt tt du : Addr} {es rs rs' : List Addr} {qs qs' : List Rat} {H H' : Hp} (L : Lp T u z rt tt du es rs rs' qs qs' H) (e : Ext H H') : Lp T u z rt tt du es rs rs' qs qs' H' := L.rx e.rx (L.urn.ext e) (tabs_ext L.tab e)
theorem Lp.lam {K : PySem.W.Frag} {mg : Str → Option Value} {T : TX K mg} {u z rt tt du : Addr} {es rs rs' : List Addr} {qs qs' : List Rat} {H H' : Hp} (L : Lp T u z rt tt du es rs rs' qs qs' H) (e : LamX.ExtN H H') (t : LamX.Tabs (Tb T) H') : Lp T u z rt tt du es rs rs' qs qs' H' := L.rx (rx_of e) (urn_of e L.urn) t
theorem Lp.one {K : PySem.W.Frag} {mg : Str → Option Value} {T : TX K mg} {u z rt tt du : Addr} {es rs rs' : List Addr} {qs qs' : List Rat} {H H' : Hp} (L : Lp T u z rt tt du es rs rs' qs qs' H) (e : Ext1 u H H') (hu : UrnAt H' u) : Lp T u z rt tt du es rs rs' qs qs' H' := L.rx e.rx hu (tabs_one L.tab L.urn e)
theorem Lp.sm' {K : PySem.W.Frag} {mg : Str → Option Value} {T : TX K mg} {u z rt tt du : Addr} {es rs rs' : List Addr} {qs qs' : List Rat} {H : Hp} (L : Lp T u z rt tt du es rs rs' qs qs' H) : ∀ q ∈ qs', Sm q := fun q hq => L.sm q (L.pq.mem_iff.mpr hq)
theorem Lp.l12' {K : PySem.W.Frag} {mg : Str → Option Value} {T : TX K mg} {u z rt tt du : Addr} {es rs rs' : List Addr} {qs qs' : List Rat} {H : Hp} (L : Lp T u z rt tt du es rs rs' qs qs' H) : qs'.length ≤ 12 := by rw [← L.pq.length_eq]; exact L.l12
theorem no_big {a : Rat} (h : big a = false) {P : Prop} : big a = true → P := fun w => absurd (h.symm.trans w) (by decide)
/-- total of a row of small ratios -/
theorem tot_ok {K : PySem.W.Frag} {C N R p : Addr} {H : Hp} {Q : VK} {E : XK} {rs : List Addr} {qs : List Rat} (hp : H p = some (.tup (rs.map V.ref))) (hR : Rs C H rs qs) (s : ∀ q ∈ qs, Sm q) (l : qs.length ≤ 12) (k : ∀ r H', Ext H H' → RatQ C H' r (sumL qs) → Q (.ref r) H') : spTotal K C N R [.ref p] H Q E :=
  ⟨_, rfl, .inr ⟨p, rs, qs, 200, 2401, rfl, rows_of hp hR s l, no_big (sum_big s l), fun _ => k⟩⟩
theorem mean_ok {K : PySem.W.Frag} {C N R p : Addr} {H : Hp} {Q : VK} {E : XK} {rs : List Addr} {qs : List Rat} (hp : H p = some (.tup (rs.map V.ref))) (hR : Rs C H rs qs) (s : ∀ q ∈ qs, Sm q) (l : qs.length ≤ 12) (n0 : 0 < qs.length) (k : ∀ r H', Ext H H' → RatQ C H' r (meanL qs) → Q (.ref r) H') : spMean K C N R [.ref p] H Q E :=
  ⟨_, rfl, .inr ⟨p, rs, qs, 200, 2401, rfl, rows_of hp hR s l, n0, no_big (mean_big s l n0), fun _ => k⟩⟩
/-! the odd ones -/
def OdI (u : Addr) (H : Hp) (x : V) : Prop := x = .non ∨ x = .int 1 ∨ x = .bl true ∨ ∃ p xs, x = .ref p ∧ p ≠ u ∧ H p = some (.tup xs)
def RaI (C u : Addr) (H : Hp) (x : V) : Prop := ∃ r dx fs, x = .ref r ∧ r ≠ u ∧ H r = some (.ins C dx fs)
def OdV (C u : Addr) (H : Hp) (y : V) : Prop := y = .non ∨ y = .int 5 ∨ y = .str "1" ∨ (∃ a o, y = .ref a ∧ a ≠ u ∧ H a = some o ∧ ((∃ xs, o = .lst xs) ∨ o = .dK [])) ∨ ∃ a xs, y = .ref a ∧ a ≠ u ∧ H a = some (.tup xs) ∧ xs.length ≤ 100 ∧ (∀ x ∈ xs, OdI u H x ∨ RaI C u H x) ∧ ∃ x ∈ xs, OdI u H x
theorem OdI.rx {u : Addr} {H H' : Hp} {x : V} (h : OdI u H x) (e : Rx u H H') : OdI u H' x := by
  rcases h with h | h | h | ⟨p, xs, rfl, n, h⟩
  · exact .inl h
  · exact .inr (.inl h)
  · exact .inr (.inr (.inl h))
  · exact .inr (.inr (.inr ⟨p, xs, rfl, n, e _ _ n nu_tup.2 h⟩))
theorem RaI.rx {C u : Addr} {H H' : Hp} {x : V} (h : RaI C u H x) (e : Rx u H H') : RaI C u H' x := by
  obtain ⟨r, dx, fs, rfl, n, h⟩ := h
  exact ⟨r, dx, fs, rfl, n, e _ _ n nu_ins.2 h⟩
theorem OdV.rx {C u : Addr} {H H' : Hp} {y : V} (h : OdV C u H y) (e : Rx u H H') : OdV C u H' y := by
  rcases h with h | h | h | ⟨a, o, rfl, n, h, k⟩ | ⟨a, xs, rfl, n, h, l, f, x, hx, ox⟩
  · exact .inl h
  · exact .inr (.inl h)
  · exact .inr (.inr (.inl h))
  · refine .inr (.inr (.inr (.inl ⟨a, o, rfl, n, e _ _ n (fun ps z => ?_) h, k⟩)))
    subst z
    rcases k with ⟨_, k⟩ | k <;> cases k
  · exact .inr (.inr (.inr (.inr ⟨a, xs, rfl, n, e _ _ n nu_tup.2 h, l, fun x hx => (f x hx).imp (·.rx e) (·.rx e), x, hx, ox.rx e⟩)))
theorem OdI.ty {K : PySem.W.Frag} {mg : Str → Option Value} (T : TX K mg) {u : Addr} {H : Hp} {x : V} (h : OdI u H x) : ∃ t, Told K H x t ∧ PySem.W.kitOne K t (.ref T.C_Ratio) = some false := by
  rcases h with rfl | rfl | rfl | ⟨p, xs, rfl, n, h⟩
  · exact ⟨_, fun _ _ => .non, T.kit_Ratio_NoneType⟩
  · exact ⟨_, fun _ _ => .int _, T.kit_Ratio_int⟩
  · exact ⟨_, fun _ _ => .bl _, T.kit_Ratio_bool⟩
  · exact ⟨_, fun H' e => .tup (e _ _ h), T.kit_Ratio_tuple⟩
theorem OdV.no {K : PySem.W.Frag} {mg : Str → Option Value} (T : TX K mg) {u : Addr} {H : Hp} {y : V} (h : OdV T.C_Ratio u H y) : NoRow K T.C_Ratio H y := by
  rcases h with rfl | rfl | rfl | ⟨a, o, rfl, n, h, ⟨xs, rfl⟩ | rfl⟩ | ⟨a, xs, rfl, n, h, l, f, x, hx, ox⟩
  · exact .inl ⟨_, fun _ _ => .base .non, kit_ty (r := false) (by decide +kernel)⟩
  · exact .inl ⟨_, fun _ _ => .base (.int _), kit_ty (r := false) (by decide +kernel)⟩
  · exact .inl ⟨_, fun _ _ => .base (.str _), kit_ty (r := false) (by decide +kernel)⟩
  · exact .inl ⟨_, fun _ e => .base (.lst (e _ _ h)), kit_ty (r := false) (by decide +kernel)⟩
  · exact .inl ⟨_, fun _ e => .base (.dK (e _ _ h)), kit_ty (r := false) (by decide +kernel)⟩
  · classical
    have each : ∀ x : V, ∃ b : Bool, (OdI u H x → b = false) ∧ (x ∈ xs → ∃ t, Told K H x t ∧ PySem.W.kitOne K t (.ref T.C_Ratio) = some b) := by
      intro x
      by_cases o : OdI u H x
      · obtain ⟨t, a, b⟩ := o.ty T
        exact ⟨false, fun _ => rfl, fun _ => ⟨t, a, b⟩⟩
      · refine ⟨true, fun c => (o c).elim, fun hx => ?_⟩
        rcases f x hx with c | ⟨r, dx, fs, rfl, _, hr⟩
        · exact (o c).elim
        · exact ⟨_, fun H' e => T.tc_Ratio.ty (e _ _ hr), T.kit_Ratio⟩
    refine .inr ⟨a, xs, xs.map fun x => Classical.choose (each x), rfl, h, (List.length_map ..).symm, by omega, fun i x hi => ?_, ?_⟩
    · obtain ⟨t, a, b⟩ := (Classical.choose_spec (each x)).2 (List.mem_of_getElem? hi)
      exact ⟨t, _, by rw [List.getElem?_map, hi] <;> rfl, a, b⟩
    · refine List.all_eq_false.mpr ⟨false, ?_, by decide⟩
      refine List.mem_map.mpr ⟨x, hx, (Classical.choose_spec (each x)).1 ox⟩
theorem tabs_lst {Tb : List (Addr × Str)} {l : Addr} {xs ys : List V} {H : Hp} (t : LamX.Tabs Tb H) (h : H l = some (.lst xs)) : LamX.Tabs Tb (upd H l (.lst ys)) := by
  intro p hp
  obtain ⟨ps, h1, h2, h3⟩ := t p hp
  refine ⟨ps, ?_, h2, fun pos cv hc => ?_⟩
  · rw [upd_ne (fun z => ?_)]
    · exact h1
    · rw [z, h] at h1
      cases h1
  · obtain ⟨c2, e1, e2⟩ := h3 pos cv hc
    refine ⟨c2, e1, ?_⟩
    rw [upd_ne (fun z => ?_)]
    · exact e2
    · rw [z, h] at e2
      unfold LamX.CodeO at e2
      cases e2
theorem meanL_perm {as bs : List Rat} (h : as.Perm bs) : meanL bs = meanL as := by
  unfold meanL
  rw [sumL_perm h, h.length_eq]
theorem mean_low {qs : List Rat} (n0 : 0 < qs.length) : Rat.divInt (sumL qs).num (((sumL qs).den : Int) * ((qs.length : Nat) : Int)) = meanL qs := mean_eq (den_ne _) n0 (Rat.num_divInt_den _)
theorem five_of {K : PySem.W.Frag} {C p mi : Addr} {H : Hp} {qs : List Rat} (hp : H p = some (.tup ([.ref mi, .ref mi, .ref mi, .ref mi, .ref mi]))) (hr : RatQ C H mi (meanL qs)) (s : ∀ q ∈ qs, Sm q) (l : qs.length ≤ 12) (n0 : 0 < qs.length) : Rows K C H p (List.replicate 5 mi) (List.replicate 5 (meanL qs)) 2414 2405 := by
  obtain ⟨a, b⟩ := meanL_small qs s l n0
  refine ⟨hp, .cons hr (.cons hr (.cons hr (.cons hr (.cons hr .nil)))), by rw [List.length_replicate]; decide, fun q hq => ?_, by decide, by decide, lcmL_rep_lt b 5⟩
  rw [(List.mem_replicate.mp hq).2]
  exact ⟨a, mean_big s l n0⟩
theorem rx_upd {u l : Addr} {o : HO} {H0 H : Hp} (e : Rx u H0 H) (h : H0 l = none) : Rx u H0 (upd H l o) := fun c ob n t hc => by
  rw [upd_ne (ne_of_none hc h)]
  exact e c ob n t hc
theorem urn_upd {u l : Addr} {o : HO} {H : Hp} (h : UrnAt H u) (n : l ≠ u) : UrnAt (upd H l o) u := by
  obtain ⟨a, b, c, q⟩ := h
  exact ⟨a, b, c, by rw [upd_ne (Ne.symm n)]; exact q⟩
section
variable {P : Program} {w : World} {K : PySem.W.Frag} {mg : Str → Option Value} {base : Heap}
end
end K03

namespace K03
open PySem PySem.Spec PyProof.Rows L2 L3
section
variable {P : Program} {w : World} {K : PySem.W.Frag} {mg : Str → Option Value} {base : Heap}
theorem ok__law_right (T : TX K mg) (TB : LamX.TabB base mg T.cc__law_right T.tt__law_right) : FnOk P w K mg base (L2.CX P w) 10 T.f__law_right T.d__law_right ["_law_urn_here"] (spRight (Tb T)) := by
  obtain ⟨oc, od, kV, dc, pm, an, ct, osl, eD, lk, hcd⟩ := T.lx__law_right
  rw [eD] at lk ⊢
  refine fn_of lk hcd sc__law_right (fun vs H Q E h => ?_) (fun A outer s H vs Q E hr h => ?_)
  · obtain ⟨u, rfl, _⟩ := h
    rfl
  · obtain ⟨ocR, odR, kVR, dcR, pmR, anR, cdR, ctR, oslR, eR, lkR, hcR⟩ := T.F__law_told.ex
    have bR := T.b__law_told
    rw [eR] at lkR bR
    refine ⟨_, (pss_cons (ps_set (i := 1) sc__law_right.nd rfl (Or.inl rfl) (pe_lst pa_nil))
    (pss_cons (ps_for PassesOwn.leaving rfl (pi_range1 (by rfl) T.n_range (pa_cons (pe_call (ok__law_drawn T) (hr.mono (by decide)) (by rfl) T.g__law_drawn T.F__law_drawn.kp T.b__law_drawn .nil passL (pa_cons (pv 0) (pa_cons pe_int pa_nil))) pa_nil)) (pg_name (i := 2) sc__law_right.nd rfl (Or.inl rfl)) (pss_cons (ps_par (i := 3) (j := 4) (by rfl) sc__law_right.nd rfl rfl (by decide) rfl rfl (pa_cons (pe_call (ok__law_whole T) (hr.mono (by decide)) (by rfl) T.g__law_whole T.F__law_whole.kp T.b__law_whole .nil passL (pa_cons (pv 0) pa_nil)) (pa_cons (pe_call (ok__law_one_of T) (hr.mono (by decide)) (by rfl) T.g__law_one_of T.F__law_one_of.kp T.b__law_one_of .nil passL (pa_cons (pv 0) (pa_cons (pe_lst (pa_cons pe_int (pa_cons pe_int (pa_cons pe_int (pa_cons pe_int (pa_cons pe_int (pa_cons pe_int (pa_cons pe_int (pa_cons (pe_op op_add (pe_op op_pow pe_int pe_int) pe_int) (pa_cons (pe_call (ok__law_whole T) (hr.mono (by decide)) (by rfl) T.g__law_whole T.F__law_whole.kp T.b__law_whole .nil passL (pa_cons (pv 0) pa_nil)) pa_nil)))))))))) pa_nil))) pa_nil)) (by rfl))
    (pss_cons (ps_set (i := 5) sc__law_right.nd rfl (Or.inl rfl) (pe_call (ok__law_lowest T) (hr.mono (by decide)) (by rfl) T.g__law_lowest T.F__law_lowest.kp T.b__law_lowest .nil passL (pa_cons (pv 3) (pa_cons (pe_ifExp (pt_cmpR op_ne (pv 4) pe_int (nomark _)) (pv 4) pe_int) pa_nil))))
    (pss_one (ps_expr (pe_bm PySem.F.plainAttrs_list PySem.F.slot_list_append PySem.F.type_list_append mt_append (pv 1) (pa_cons (pe_lst (pa_cons (pe_make T.mk_Ratio (ok_Ratio___init__ T) (hr.mono (by decide)) (by rfl) T.g_Ratio T.b_Ratio___init__ .nil passL (pa_cons (pe_ix ix_tup (pv 5) pe_int (fun _ _ => rfl)) (pa_cons (pe_ix ix_tup (pv 5) pe_int (fun _ _ => rfl)) pa_nil))) (pa_cons (pv 5) pa_nil))) pa_nil)))))))
    (pss_cons (ps_asg (pe_tup (pa_cons (pe_callTy call_tuple_of (by rfl) T.n_tuple (by decide +kernel) (pa_cons (pe_lc (own := [("_law_row", 15)]) (g := gName 15) rfl sc__law_right.nd (pi_list (pv 1)) (blkOk_by (N := ["_law_urn_here", "_law_rows", "_law_lap", "_law_top", "_law_bottom", "_law_pair", "_law_due", "_law_turned", "_law_at", "_law_middle", "_law_low", "_law_high", "_law_told_here", "_law_odd", "_law_ratios", "_law_row", "_law_one"]) (sc := defScope s__law_right) (by decide +kernel)) (fun _ _ _ _ _ => pg_name (i := 15) sc__law_right.nd rfl (Or.inl rfl)) (fun _ _ _ _ _ => pts_nil) (fun _ _ _ _ _ => (pe_ix (r := rIxL K) ix_list (pv 15) pe_int (fun _ _ => rfl)))) pa_nil)) (pa_cons (pe_call (ok__law_sum T) (hr.mono (by decide)) (by rfl) T.g__law_sum T.F__law_sum.kp T.b__law_sum .nil passL (pa_cons (pe_lc (own := [("_law_row", 15)]) (g := gName 15) rfl sc__law_right.nd (pi_list (pv 1)) (blkOk_by (N := ["_law_urn_here", "_law_rows", "_law_lap", "_law_top", "_law_bottom", "_law_pair", "_law_due", "_law_turned", "_law_at", "_law_middle", "_law_low", "_law_high", "_law_told_here", "_law_odd", "_law_ratios", "_law_row", "_law_one"]) (sc := defScope s__law_right) (by decide +kernel)) (fun _ _ _ _ _ => pg_name (i := 15) sc__law_right.nd rfl (Or.inl rfl)) (fun _ _ _ _ _ => pts_nil) (fun _ _ _ _ _ => (pe_ix (r := rIxL K) ix_list (pv 15) pe_int (fun _ _ => rfl)))) pa_nil)) pa_nil))) (pg_tup (by rfl) (pgs_cons (pg_name (i := 14) sc__law_right.nd rfl (Or.inr rfl)) (pgs_cons (pg_name (i := 6) sc__law_right.nd rfl (Or.inl rfl)) pgs_nil))))
    (pss_cons (ps_set (i := 7) sc__law_right.nd rfl (Or.inl rfl) (pe_callTy call_tuple_of (by rfl) T.n_tuple (by decide +kernel) (pa_cons (pe_lc (own := [("_law_row", 15)]) (g := gName 15) rfl sc__law_right.nd (pi_list (pe_call (ok__law_mixed T) (hr.mono (by decide)) (by rfl) T.g__law_mixed T.F__law_mixed.kp T.b__law_mixed .nil passL (pa_cons (pv 0) (pa_cons (pv 1) pa_nil)))) (blkOk_by (N := ["_law_urn_here", "_law_rows", "_law_lap", "_law_top", "_law_bottom", "_law_pair", "_law_due", "_law_turned", "_law_at", "_law_middle", "_law_low", "_law_high", "_law_told_here", "_law_odd", "_law_ratios", "_law_row", "_law_one"]) (sc := defScope s__law_right) (by decide +kernel)) (fun _ _ _ _ _ => pg_name (i := 15) sc__law_right.nd rfl (Or.inl rfl)) (fun _ _ _ _ _ => pts_nil) (fun _ _ _ _ _ => (pe_ix (r := rIxL K) ix_list (pv 15) pe_int (fun _ _ => rfl)))) pa_nil)))
    (pss_cons (ps_if (PW.pt (pw_or (pt_cmpR (op_neD hr.units) (LamX.pe_lamcall (k := 7) (T := Tb T) (by rfl) T.g__law_told T.F__law_told.kp lkR hcR bR sc__law_told rfl (Or.inl rfl) (told_givesK T rfl rfl (hr.mono (by decide))) TB rfl List.mem_cons_self (uniqR T) (hr.mono (by decide)) (LamX.lamS_by (sc := defScope s__law_right) (by decide +kernel)) rfl (fun _ _ _ _ _ => rfl) (fun A2 outer2 s2 H2 E2 f2 c2 hr2 => (pe_call (ok_total T) (hr2.mono (by decide)) (by rfl) T.g_total T.F_total.kp T.b_total .nil (passes_call (takes_of rfl rfl rfl rfl) (fun _ _ _ _ h => h)) (pa_cons (pv 14) pa_nil)))) (pv 6) (nomark _)) (pw_or1 (pt_cmpR (op_ownNe T.o_Ratio___eq__ T.ne_Ratio (ok_Ratio___eq__ T) (hr.mono (by decide)) T.b_Ratio___eq__ passL) (pe_call (ok_total T) (hr.mono (by decide)) (by rfl) T.g_total T.F_total.kp T.b_total .nil passL (pa_cons (pv 7) pa_nil)) (pe_call (ok_total T) (hr.mono (by decide)) (by rfl) T.g_total T.F_total.kp T.b_total .nil passL (pa_cons (pv 14) pa_nil)) (nomark _))))) (pss_one (ps_ret pe_bl)) pss_nil)
    (pss_cons (ps_set (i := 8) sc__law_right.nd rfl (Or.inl rfl) (pe_call (ok__law_drawn T) (hr.mono (by decide)) (by rfl) T.g__law_drawn T.F__law_drawn.kp T.b__law_drawn .nil passL (pa_cons (pv 0) (pa_cons (pe_op op_add (pe_callB call_len_seq (by rfl) T.n_len (by decide +kernel) (pa_cons (pv 1) pa_nil)) pe_int) pa_nil))))
    (pss_cons (ps_if (PW.pt (pw_or (pt_cmpR (op_ownNe T.o_Ratio___eq__ T.ne_Ratio (ok_Ratio___eq__ T) (hr.mono (by decide)) T.b_Ratio___eq__ passL) (pe_op (op_ownAdd T.sf_Ratio T.tc_Ratio T.o_Ratio___add__ (ok_Ratio___add__ T) (hr.mono (by decide)) T.b_Ratio___add__ passL) (pe_call (ok_total T) (hr.mono (by decide)) (by rfl) T.g_total T.F_total.kp T.b_total .nil passL (pa_cons (pe_slice sl_tupA (pv 14) po_none (po_some (pv 8))) pa_nil)) (pe_call (ok_total T) (hr.mono (by decide)) (by rfl) T.g_total T.F_total.kp T.b_total .nil passL (pa_cons (pe_slice sl_tupA (pv 14) (po_some (pv 8)) po_none) pa_nil))) (pe_call (ok_total T) (hr.mono (by decide)) (by rfl) T.g_total T.F_total.kp T.b_total .nil passL (pa_cons (pv 14) pa_nil)) (nomark _)) (pw_or1 (pt_cmpR (op_ownNe T.o_Ratio___eq__ T.ne_Ratio (ok_Ratio___eq__ T) (hr.mono (by decide)) T.b_Ratio___eq__ passL) (pe_call (ok_total T) (hr.mono (by decide)) (by rfl) T.g_total T.F_total.kp T.b_total .nil passL (pa_cons (pe_tup pa_nil) pa_nil)) (pe_make T.mk_Ratio (ok_Ratio___init__ T) (hr.mono (by decide)) (by rfl) T.g_Ratio T.b_Ratio___init___2 T.v_Ratio___init___2 passL (pa_cons pe_int pa_nil)) (nomark _))))) (pss_one (ps_ret pe_bl)) pss_nil)
    (pss_cons (ps_if (pt_cmpR (op_neTup0 (hu_lt hr)) (pv 14) (pe_tup pa_nil) (nomark _)) (pss_cons (ps_set (i := 9) sc__law_right.nd rfl (Or.inr rfl) (pe_call (ok_mean T) (hr.mono (by decide)) (by rfl) T.g_mean T.F_mean.kp T.b_mean .nil passL (pa_cons (pv 7) pa_nil)))
    (pss_cons (ps_if (PW.pt (pw_or (pt_cmpR (op_neD hr.units) (pe_tup (pa_cons (pe_prop (pv 9) T.cl_Ratio T.p_Ratio_top (ok_Ratio_top T) (hr.mono (by decide)) T.b_Ratio_top .nil passL (by rfl)) (pa_cons (pe_prop (pv 9) T.cl_Ratio T.p_Ratio_bottom (ok_Ratio_bottom T) (hr.mono (by decide)) T.b_Ratio_bottom .nil passL (by rfl)) pa_nil))) (pe_call (ok__law_lowest T) (hr.mono (by decide)) (by rfl) T.g__law_lowest T.F__law_lowest.kp T.b__law_lowest .nil passL (pa_cons (pe_ix ix_tup (pv 6) pe_int (fun _ _ => rfl)) (pa_cons (pe_op op_mulW (pe_ix ix_tup (pv 6) pe_int (fun _ _ => rfl)) (pe_callB call_len_seq (by rfl) T.n_len (by decide +kernel) (pa_cons (pv 1) pa_nil))) pa_nil))) (nomark _)) (pw_or1 (pt_cmpR (op_ownNe T.o_Ratio___eq__ T.ne_Ratio (ok_Ratio___eq__ T) (hr.mono (by decide)) T.b_Ratio___eq__ passL) (pe_call (ok_mean T) (hr.mono (by decide)) (by rfl) T.g_mean T.F_mean.kp T.b_mean .nil passL (pa_cons (pe_op op_repT (pe_tup (pa_cons (pv 9) pa_nil)) pe_int) pa_nil)) (pv 9) (nomark _))))) (pss_one (ps_ret pe_bl)) pss_nil)
    (pss_cons (ps_par (i := 10) (j := 11) (by rfl) sc__law_right.nd rfl rfl (by decide) rfl rfl (pa_cons (pe_lc (own := [("_law_one", 16)]) (g := gName 16) rfl sc__law_right.nd (pi_tup (pv 14)) (blkOk_by (N := ["_law_urn_here", "_law_rows", "_law_lap", "_law_top", "_law_bottom", "_law_pair", "_law_due", "_law_turned", "_law_at", "_law_middle", "_law_low", "_law_high", "_law_told_here", "_law_odd", "_law_ratios", "_law_row", "_law_one"]) (sc := defScope s__law_right) (by decide +kernel)) (fun _ _ _ _ _ => pg_name (i := 16) sc__law_right.nd rfl (Or.inl rfl)) (fun _ _ _ _ _ => (pts_one (pt_not (pt_val (pe_meth (pv 9) T.cl_Ratio T.m_Ratio_is_less (ok_Ratio_is_less T) (hr.mono (by decide)) T.b_Ratio_is_less .nil passL (pa_cons (pv 16) pa_nil)))))) (fun _ _ _ _ _ => (pv 16))) (pa_cons (pe_lc (own := [("_law_one", 16)]) (g := gName 16) rfl sc__law_right.nd (pi_tup (pv 14)) (blkOk_by (N := ["_law_urn_here", "_law_rows", "_law_lap", "_law_top", "_law_bottom", "_law_pair", "_law_due", "_law_turned", "_law_at", "_law_middle", "_law_low", "_law_high", "_law_told_here", "_law_odd", "_law_ratios", "_law_row", "_law_one"]) (sc := defScope s__law_right) (by decide +kernel)) (fun _ _ _ _ _ => pg_name (i := 16) sc__law_right.nd rfl (Or.inl rfl)) (fun _ _ _ _ _ => (pts_one (pt_not (pt_val (pe_meth (pv 16) T.cl_Ratio T.m_Ratio_is_less (ok_Ratio_is_less T) (hr.mono (by decide)) T.b_Ratio_is_less .nil passL (pa_cons (pv 9) pa_nil)))))) (fun _ _ _ _ _ => (pv 16))) pa_nil)) (by rfl))
    (pss_one (ps_if (PW.pt (pw_or (pt_cmpR (op_eqNil hr.units) (pv 10) (pe_lst pa_nil) (nomark _)) (pw_or1 (pt_cmpR (op_eqNil hr.units) (pv 11) (pe_lst pa_nil) (nomark _))))) (pss_one (ps_ret pe_bl)) pss_nil))))) pss_nil)
    (pss_cons (ps_set (i := 13) sc__law_right.nd rfl (Or.inr rfl) (pe_call (ok__law_one_of T) (hr.mono (by decide)) (by rfl) T.g__law_one_of T.F__law_one_of.kp T.b__law_one_of .nil passL (pa_cons (pv 0) (pa_cons (pe_lst (pa_cons pe_non (pa_cons pe_int (pa_cons (pe_callTy call_list_of (by rfl) T.n_list (by decide +kernel) (pa_cons (pv 14) pa_nil)) (pa_cons (pe_op op_catA (pv 14) (pe_tup (pa_cons pe_int pa_nil))) (pa_cons (pe_op op_catA (pe_tup (pa_cons pe_non pa_nil)) (pv 14)) (pa_cons pe_str (pa_cons pe_dnewK (pa_cons (pe_op op_catA (pv 14) (pe_tup (pa_cons (pv 14) pa_nil))) (pa_cons (pe_tup (pa_cons pe_bl pa_nil)) pa_nil)))))))))) pa_nil))))
    (pss_cons (ps_set (i := 12) sc__law_right.nd rfl (Or.inl rfl) (pe_lst (pa_cons (LamX.pe_lamcall (k := 7) (T := Tb T) (by rfl) T.g__law_told T.F__law_told.kp lkR hcR bR sc__law_told rfl (Or.inl rfl) (told_givesK T rfl rfl (hr.mono (by decide))) TB rfl List.mem_cons_self (uniqR T) (hr.mono (by decide)) (LamX.lamS_by (sc := defScope s__law_right) (by decide +kernel)) rfl (fun _ _ _ _ _ => rfl) (fun A2 outer2 s2 H2 E2 f2 c2 hr2 => (pe_call (ok_total T) (hr2.mono (by decide)) (by rfl) T.g_total T.F_total.kp T.b_total .nil (passes_call (takes_of rfl rfl rfl rfl) (fun _ _ _ _ h => h)) (pa_cons (pv 13) pa_nil)))) pa_nil)))
    (pss_cons (ps_expr (pe_bm PySem.F.plainAttrs_list PySem.F.slot_list_append PySem.F.type_list_append mt_append (pv 12) (pa_cons (LamX.pe_lamcall (k := 7) (T := Tb T) (by rfl) T.g__law_told T.F__law_told.kp lkR hcR bR sc__law_told rfl (Or.inl rfl) (told_givesK T rfl rfl (hr.mono (by decide))) TB rfl List.mem_cons_self (uniqR T) (hr.mono (by decide)) (LamX.lamS_by (sc := defScope s__law_right) (by decide +kernel)) rfl (fun _ _ _ _ _ => rfl) (fun A2 outer2 s2 H2 E2 f2 c2 hr2 => (pe_call (ok_mean T) (hr2.mono (by decide)) (by rfl) T.g_mean T.F_mean.kp T.b_mean .nil (passes_call (takes_of rfl rfl rfl rfl) (fun _ _ _ _ h => h)) (pa_cons (pv 13) pa_nil)))) pa_nil)))
    (pss_cons (ps_expr (pe_bm PySem.F.plainAttrs_list PySem.F.slot_list_append PySem.F.type_list_append mt_append (pv 12) (pa_cons (LamX.pe_lamcall (k := 7) (T := Tb T) (by rfl) T.g__law_told T.F__law_told.kp lkR hcR bR sc__law_told rfl (Or.inl rfl) (told_givesK T rfl rfl (hr.mono (by decide))) TB rfl List.mem_cons_self (uniqR T) (hr.mono (by decide)) (LamX.lamS_by (sc := defScope s__law_right) (by decide +kernel)) rfl (fun _ _ _ _ _ => rfl) (fun A2 outer2 s2 H2 E2 f2 c2 hr2 => (pe_call (ok_mean T) (hr2.mono (by decide)) (by rfl) T.g_mean T.F_mean.kp T.b_mean .nil (passes_call (takes_of rfl rfl rfl rfl) (fun _ _ _ _ h => h)) (pa_cons (pe_tup pa_nil) pa_nil)))) pa_nil)))
    (pss_one (ps_ret (pe_cmpR (op_eqD hr.units) (pv 12) (pe_lst (pa_cons pe_str (pa_cons pe_str (pa_cons pe_str pa_nil)))) (nomark _)))))))))))))))), ?_⟩
    obtain ⟨u, rfl, hu, tb, k⟩ := h
    refine ⟨(by show 0 ≤ sizeLine; decide), fun z hz => ?_⟩
    have hn : z ≠ u := urn_ne hu hz
    dsimp only [gName]
    refine seq_any (fun σ' H' => ∃ tn tp bt pr es rs ps qs, σ' = [some (.ref u), some (.ref z), tn, tp, bt, pr, none, none, none, none, none, none, none, none, none, none, none] ∧ Ext1 u H H' ∧ UrnAt H' u ∧ H' z = some (.lst (es.map V.ref)) ∧ Es T.C_Ratio z H' es rs ps qs ∧ qs.length ≤ 12) (fun D' hD => ?_) ?_
    · refine ⟨_, rfl, u, 13, rfl, hu.ext (Ext.new hz), (by decide), (by decide), fun n H1 n0 n1 e1 hu1 => ⟨n, rfl, (by omega), (by omega), ?_⟩⟩
      have x1 := (Ext.new (o := .lst []) hz).one.trans e1
      refine for_range (fun i σ H' => ∃ tn tp bt pr es rs ps qs, σ = [some (.ref u), some (.ref z), tn, tp, bt, pr, none, none, none, none, none, none, none, none, none, none, none] ∧ Ext1 u H H' ∧ UrnAt H' u ∧ H' z = some (.lst (es.map V.ref)) ∧ Es T.C_Ratio z H' es rs ps qs ∧ qs.length = i) ⟨none, none, none, none, [], [], [], [], rfl, x1, hu1, e1 _ _ hn upd_same, .nil, rfl⟩ ?_ ?_
      · rintro i σ H2 hi ⟨tn, tp, bt, pr, es, rs, ps, qs, rfl, x2, hu2, hz2, hE, ln⟩
        refine ⟨_, rfl, u, rfl, hu2, fun a H3 la e3 hu3 => ⟨_, rfl, _, _, rfl, rfl, ⟨by decide, by decide, by decide⟩, _, _, rfl, rfl, ?_⟩⟩
        refine ⟨_, rfl, u, rfl, hu3, fun w H4 lw e4 hu4 => ⟨(by show 9 ≤ sizeLine; decide), fun l hl => ?_⟩⟩
        have xl := Ext.new (o := .lst [V.int 1, .int 2, .int 3, .int 4, .int 6, .int 12, .int 35, .int ((10 : Int) ^ ((9 : Int)).toNat + 7), .int w]) hl
        refine ⟨u, l, _, rfl, hu4.ext xl, SqL.of upd_same, urn_ne hu4 hl, (by show 0 < 9; decide), (by show 9 < 1073741824; decide), fun v hv H5 e5 hu5 => ?_⟩
        obtain ⟨b0, rfl, lb⟩ := bot_list lw hv
        have y5 : Ext1 u H2 H5 := e3.trans (e4.trans (xl.one.trans e5))
        refine ⟨_, _, rfl, ?_⟩
        dsimp only
        refine seq_asg (fun x H6 => ∃ p q, x = .ref p ∧ H6 p = some (.tup (Pr q)) ∧ longer q.num = false ∧ longer (q.den : Int) = false ∧ Ext1 u H2 H6 ∧ UrnAt H6 u) (fun Q hQ => ?_) ?_
        · refine ⟨_, rfl, _, rfl, rfl, _, rfl, ?_⟩
          have go : ∀ b : Int, b ≠ 0 → longer b = false → spLow [.int a, .int b] H5 Q E0 := fun b bn lb => by
            refine ⟨a, b, rfl, bn, short_of la (by decide), short_of lb (by decide), fun p hp => hQ _ _ ⟨p, Rat.divInt a b, rfl, ?_, (div_sm bn la lb).1, (div_sm bn la lb).2, y5.trans (Ext.new hp).one, hu5.ext (Ext.new hp)⟩⟩
            rw [upd_same, low_pr bn]
          by_cases b00 : b0 = 0
          · exact if_false_of (by rw [dec_int, beq_yes b00] <;> rfl) (go 9 (by decide) (by decide))
          · exact if_true_of (by rw [dec_int, beq_no b00] <;> rfl) ⟨_, rfl, go b0 b00 lb⟩
        rintro x H6 ⟨p, q, rfl, hp6, lq1, lq2, x6, hu6⟩
        dsimp only [gName]
        have hz6 := x6 _ _ hn hz2
        have hE6 : Es T.C_Ratio z H6 es rs ps qs := hE.rx hu2 x6.rx
        refine ⟨_, rfl, .inl ⟨rfl, _, SqL.of hz6⟩, ?_⟩
        refine ⟨_, rfl, p, _, _, _, rfl, rfl, SqT.of hp6, rfl, ?_⟩
        refine ⟨_, rfl, p, _, _, _, rfl, rfl, SqT.of hp6, rfl, fun r dx nx ndx nex => mk_good nx ndx nex lq1 lq2 (den_ne q) fun H7 e7 r7 => ⟨rfl, ?_⟩⟩
        rw [Rat.num_divInt_den] at r7
        refine ⟨_, rfl, (by show 2 ≤ sizeLine; decide), fun e he => ?_⟩
        have xe := Ext.new (o := .lst [.ref r, .ref p]) he
        have y7 := e7.trans xe
        have hz7 := y7 _ _ hz6
        have nez : e ≠ z := fun c => by
          rw [c, e7 _ _ hz6] at he
          cases he
        have lt : (es.map V.ref).length < sizeLine := by
          rw [List.length_map, hE.len.1]
          exact Nat.lt_of_lt_of_le (show qs.length < 13 by omega) (by decide)
        refine ⟨z, _, _, rfl, rfl, hz7, lt, ?_⟩
        have hu7 := hu6.ext y7
        have hE7 : Es T.C_Ratio z (upd H7 e (.lst [.ref r, .ref p])) es rs ps qs := hE6.rx hu6 y7.rx
        have hE8 : Es T.C_Ratio z (upd H7 e (.lst [.ref r, .ref p])) (es ++ [e]) (rs ++ [r]) (ps ++ [p]) (qs ++ [q]) := hE7.snoc nez upd_same (ratq_ext r7 xe) (y7 _ _ hp6) (sm_of lq1 lq2)
        refine ⟨_, _, _, _, es ++ [e], rs ++ [r], ps ++ [p], qs ++ [q], rfl, fun c o nc hc => ?_, ?_, ?_, ?_, by rw [List.length_append, ln] <;> rfl⟩
        · rw [upd_ne (ne_of_none hc hz)]
          exact y7 _ _ (x6 _ _ nc (x2 _ _ nc hc))
        · obtain ⟨z1, z2, z3, h3⟩ := hu7
          exact ⟨z1, z2, z3, by rw [upd_ne (Ne.symm hn)]; exact h3⟩
        · rw [upd_same, List.map_append] <;> rfl
        · exact hE8.keep hu7 hz7 fun c o _ nz _ hc => by rw [upd_ne nz]; exact hc
      · rintro σ H2 ⟨tn, tp, bt, pr, es, rs, ps, qs, rfl, x2, hu2, hz2, hE, ln⟩
        exact hD _ _ ⟨tn, tp, bt, pr, es, rs, ps, qs, rfl, x2, hu2, hz2, hE, by omega⟩
    rintro σ H2 ⟨tn, tp, bt, pr, es, rs, ps, qs, rfl, x2, hu2, hz2, hE, l12⟩
    have lE := hE.len
    have hR := hE.rs
    have sm := hE.sm
    refine seq_asg (fun x H' => ∃ tu rt du, x = .ref tu ∧ H' tu = some (.tup [.ref rt, .ref du]) ∧ H' rt = some (.tup (rs.map V.ref)) ∧ H' du = some (.tup (Pr (sumL qs))) ∧ Ext H2 H') (fun Q hQ => ?_) ?_
    · refine ⟨_, rfl, z, rfl, ⟨_, SqL.of hz2⟩, fun D1 n3 => ?_⟩
      refine comp_ix (out := rs) hz2 n3 (by omega) (by omega) (fun i e he => ?_) fun H3 e3 h3 => ?_
      · obtain ⟨r, p, a, _, c⟩ := hE.at he
        exact ⟨r, _, a, c, rfl⟩
      refine ⟨D1, _, rfl, .inl ⟨SqL.of h3, fun rt hrt => ?_⟩⟩
      have x3 := Ext.new (o := .tup (rs.map V.ref)) hrt
      have y3 := e3.trans x3
      refine ⟨_, rfl, z, rfl, ⟨_, SqL.of (y3 _ _ hz2)⟩, fun D2 n4 => ?_⟩
      refine comp_ix (out := ps) (y3 _ _ hz2) n4 (by omega) (by omega) (fun i e he => ?_) fun H4 e4 h4 => ?_
      · obtain ⟨r, p, _, b, c⟩ := hE.at he
        exact ⟨p, _, b, y3 _ _ c, rfl⟩
      refine ⟨D2, ps, qs, rfl, h4, (hE.ps.ext y3).ext e4, (by omega), fun du H5 e5 nd hd => ⟨(by show 2 ≤ sizeLine; decide), fun tu htu => hQ _ _ ⟨tu, rt, du, rfl, upd_same, ?_, Ext.new htu _ _ hd, ?_⟩⟩⟩
      · exact Ext.new htu _ _ (e5 _ _ (e4 _ _ upd_same))
      · exact y3.trans (e4.trans (e5.trans (Ext.new htu)))
    rintro x H3 ⟨tu, rt, du, rfl, htu, hrt, hdu, x3⟩
    refine ⟨tu, _, rfl, SqT.of htu, rfl, _, _, rfl, _, _, rfl, rfl, ?_⟩
    dsimp only
    have hu3 := hu2.ext x3
    refine seq_asg (fun x H' => ∃ tt rs' qs', x = .ref tt ∧ H' tt = some (.tup (rs'.map V.ref)) ∧ Rs T.C_Ratio H' rs' qs' ∧ qs.Perm qs' ∧ Ext1 u H3 H' ∧ UrnAt H' u) (fun Q hQ => ?_) ?_
    · refine ⟨_, rfl, _, rfl, u, z, _, rfl, hu3, x3 _ _ hz2, (by rw [List.length_map]; omega), fun m ys H4 e4 hu4 nm hm pm => ?_⟩
      obtain ⟨es', rfl, pe⟩ := refs_perm pm
      have hE4 := (hE.rx hu2 (x3.rx.trans e4.rx : Rx u H2 H4))
      obtain ⟨rs', ps', qs', hE', pq⟩ := Es.perm pe hE4
      have lE' := hE'.len
      have lq := pq.length_eq
      refine ⟨m, rfl, ⟨_, SqL.of hm⟩, fun D1 n5 => ?_⟩
      refine comp_ix (out := rs') hm n5 (by omega) (by omega) (fun i e he => ?_) fun H5 e5 h5 => ?_
      · obtain ⟨r, p, a, _, c⟩ := hE'.at he
        exact ⟨r, _, a, c, rfl⟩
      refine ⟨D1, _, rfl, .inl ⟨SqL.of h5, fun tt htt => hQ _ _ ⟨tt, rs', qs', rfl, upd_same, (hE'.rs.ext e5).ext (Ext.new htt), pq, e4.trans (e5.trans (Ext.new htt)).one, (hu4.ext e5).ext (Ext.new htt)⟩⟩⟩
    rintro x H4 ⟨tt, rs', qs', rfl, htt, hR', pq, x4, hu4⟩
    dsimp only [gName]
    have L4 : Lp T u z rt tt du es rs rs' qs qs' H4 := ⟨hu4, tabs_one (tabs_ext (tabs_one tb hu x2) x3) hu3 x4, kp hu3 x4.rx nu_refs (x3 _ _ hz2), kp hu3 x4.rx nu_tup hrt, htt, kp hu3 x4.rx nu_tup hdu, (hR.ext x3).rx hu3 x4.rx, hR', sm, pq, l12, lE.1⟩
    have K4 : Rx u H H4 := x2.rx.trans (x3.rx.trans x4.rx)
    refine seq_ifF (fun H' => Lp T u z rt tt du es rs rs' qs qs' H' ∧ Rx u H H') (fun Q hQ => ?_) ?_
    · refine ⟨L4.tab, fun Ha ea ta f => ?_⟩
      have La := L4.lam ea ta
      refine ⟨_, rfl, ⟨_, rfl, .inr ⟨_, _, _, 200, 2401, rfl, rows_of La.rt La.R sm l12, no_big (sum_big sm l12), fun _ r H5 e5 r5 => ?_⟩⟩⟩
      refine tell_ok (CN := T.C_TooMany) (CR := T.C_InvalidRatio) r5 fun t ht => ?_
      have xt := Ext.new (o := .tup [.int (sumL qs).num, .int ((sumL qs).den : Int)]) ht
      have L5 := (La.ext e5).ext xt
      refine ⟨_, rfl, ne_pr upd_same L5.du ⟨_, rfl, if_false_of rfl ?_⟩⟩
      refine ⟨_, rfl, ⟨_, rfl, .inr ⟨_, _, _, 200, 2401, rfl, rows_of L5.tt L5.R' L5.sm' L5.l12', no_big (sum_big L5.sm' L5.l12'), fun _ r1 H6 e6 q1 => ?_⟩⟩⟩
      refine ⟨_, rfl, ⟨_, rfl, .inr ⟨_, _, _, 200, 2401, rfl, rows_of (L5.ext e6).rt (L5.ext e6).R sm l12, no_big (sum_big sm l12), fun _ r2 H7 e7 q2 => ?_⟩⟩⟩
      refine ne_same T (ratq_ext q1 e7) q2 (sumL_perm pq).symm ?_
      exact hQ _ ⟨(L5.ext e6).ext e7, K4.trans ((rx_of ea).trans (e5.trans (xt.trans (e6.trans e7))).rx)⟩
    rintro H5 ⟨L5, K5⟩
    refine seq_asg (fun x H' => ∃ m : Nat, x = .int m ∧ m ≤ qs.length ∧ Lp T u z rt tt du es rs rs' qs qs' H' ∧ Rx u H H') (fun Q hQ => ?_) ?_
    · refine ⟨_, rfl, _, rfl, z, _, rfl, .inl (SqL.of L5.z), _, _, rfl, rfl, u, _, rfl, L5.urn, (by omega), (by rw [List.length_map]; omega), fun m H6 m0 m1 e6 hu6 => ?_⟩
      obtain ⟨n, rfl⟩ := Int.eq_ofNat_of_zero_le m0
      rw [List.length_map] at m1
      exact hQ _ _ ⟨n, rfl, (by omega), L5.one e6 hu6, K5.trans e6.rx⟩
    rintro x H6 ⟨m, rfl, hm, L6, K6⟩
    dsimp only [gName]
    refine seq_ifF (fun H' => Lp T u z rt tt du es rs rs' qs qs' H' ∧ Rx u H H') (fun Q hQ => ?_) ?_
    · have mr : m ≤ rs.length := by omega
      refine ⟨_, rfl, _, rfl, _, rfl, sl_low L6.rt mr fun pa H7 e7 hpa => ?_⟩
      have L7 := L6.ext e7
      refine ⟨_, rfl, .inr ⟨_, _, _, 200, 2401, rfl, rows_of hpa (L7.R.take m) (fun q hq => sm q (List.mem_of_mem_take hq)) (by rw [List.length_take]; omega), no_big (sum_big (fun q hq => sm q (List.mem_of_mem_take hq)) (by rw [List.length_take]; omega)), fun _ ra H8 e8 qa => ?_⟩⟩
      have L8 := L7.ext e8
      refine ⟨_, rfl, _, rfl, _, rfl, ?_⟩
      dsimp only [tNoPart]
      refine sl_high L8.rt mr fun pb H9 e9 hpb => ?_
      have L9 := L8.ext e9
      refine ⟨_, rfl, .inr ⟨_, _, _, 200, 2401, rfl, rows_of hpb (L9.R.drop m) (fun q hq => sm q (List.mem_of_mem_drop hq)) (by rw [List.length_drop]; omega), no_big (sum_big (fun q hq => sm q (List.mem_of_mem_drop hq)) (by rw [List.length_drop]; omega)), fun _ rb H10 e10 qb => ?_⟩⟩
      have L10 := L9.ext e10
      have qa' := ratq_ext qa (e9.trans e10)
      obtain ⟨d1, h1⟩ := id qa'
      obtain ⟨d2, h2⟩ := id qb
      have eq : sumL (qs.take m) + sumL (qs.drop m) = sumL qs := by rw [← sumL_app, List.take_append_drop]
      refine ⟨ra, rb, d1, d2, _, _, rfl, rfl, h1, h2, ra, rb, _, _, rfl, qa', qb, sum_big (fun q hq => sm q (List.mem_of_mem_take hq)) (by rw [List.length_take]; omega), sum_big (fun q hq => sm q (List.mem_of_mem_drop hq)) (by rw [List.length_drop]; omega), (by dsimp only; rw [eq]; exact no_big (sum_big sm l12)), fun _ rc H11 e11 qc => ?_⟩
      dsimp only at qc
      rw [eq] at qc
      have L11 := L10.ext e11
      refine ⟨_, rfl, ⟨_, rfl, .inr ⟨_, _, _, 200, 2401, rfl, rows_of L11.rt L11.R sm l12, no_big (sum_big sm l12), fun _ rd H12 e12 qd => ?_⟩⟩⟩
      refine ne_same T (ratq_ext qc e12) qd rfl ?_
      refine if_false_of rfl ?_
      have L12 := L11.ext e12
      refine ⟨(by show 0 ≤ sizeLine; decide), fun p0 hp0 => ?_⟩
      have x0 := Ext.new (o := .tup []) hp0
      refine ⟨_, rfl, .inr ⟨_, _, _, 200, 2401, rfl, rows_of (rs := []) (qs := []) upd_same .nil (fun q hq => by simp at hq) (by decide), no_big (sum_big (fun q hq => by simp at hq) (by decide)), fun _ re H13 e13 qe => ?_⟩⟩
      refine fun ro dx nx ndx nex => mk_good nx ndx nex (a := 0) (b := 1) (by decide) (by decide) (by decide) fun H14 e14 qo => ⟨rfl, ?_⟩
      refine ne_same T (ratq_ext qe e14) qo (by decide +kernel) ?_
      exact hQ _ ⟨((L12.ext x0).ext e13).ext e14, K6.trans (e7.trans (e8.trans (e9.trans (e10.trans (e11.trans (e12.trans (x0.trans (e13.trans e14)))))))).rx⟩
    rintro H7 ⟨L7, K7⟩
    refine seq_any (fun σ' H' => ∃ x9 x10 x11, σ' = [some (.ref u), some (.ref z), tn, tp, bt, pr, some (.ref du), some (.ref tt), some (.int m), x9, x10, x11, none, none, some (.ref rt), none, none] ∧ Lp T u z rt tt du es rs rs' qs qs' H' ∧ Rx u H H') (fun D' hD => ?_) ?_
    · refine ⟨_, rfl, (by show 0 ≤ sizeLine; decide), fun p0 hp0 => ?_⟩
      have x0 := Ext.new (o := .tup []) hp0
      refine ⟨rt, p0, _, rfl, rfl, x0 _ _ L7.rt, upd_same, _, rfl, ?_⟩
      have L8 := L7.ext x0
      have K8 := K7.trans x0.rx
      revert L8 K8
      generalize upd H7 p0 (.tup []) = H8
      intro L8 K8
      by_cases rn : rs = []
      · exact if_false_of (by rw [rn] <;> rfl) (hD _ _ ⟨_, _, _, rfl, L8, K8⟩)
      refine if_true_of (by cases rs with | nil => exact (rn rfl).elim | cons _ _ => rfl) ?_
      have n0 : 0 < qs.length := by
        have := List.length_pos_iff.mpr rn
        omega
      have n0' : 0 < qs'.length := by rw [← pq.length_eq]; exact n0
      have qn : qs ≠ [] := List.length_pos_iff.mp n0
      refine seq_asg (fun x H' => ∃ mi, x = .ref mi ∧ RatQ T.C_Ratio H' mi (meanL qs) ∧ Lp T u z rt tt du es rs rs' qs qs' H' ∧ Rx u H H') (fun Q hQ => ?_) ?_
      · refine ⟨_, rfl, ⟨_, rfl, .inr ⟨_, _, _, 200, 2401, rfl, rows_of L8.tt L8.R' L8.sm' L8.l12', n0', no_big (mean_big L8.sm' L8.l12' n0'), fun _ r H9 e9 q9 => ?_⟩⟩⟩
        rw [meanL_perm pq] at q9
        exact hQ _ _ ⟨r, rfl, q9, L8.ext e9, K8.trans e9.rx⟩
      rintro x H9 ⟨mi, rfl, qm, L9, K9⟩
      dsimp only [gName]
      refine seq_ifF (fun H' => RatQ T.C_Ratio H' mi (meanL qs) ∧ Lp T u z rt tt du es rs rs' qs qs' H' ∧ Rx u H H') (fun Q hQ => ?_) ?_
      · obtain ⟨dm, hm9⟩ := id qm
        refine ⟨_, rfl, mi, dm, _, rfl, hm9, mi, _, _, rfl, qm, _, rfl, mi, dm, _, rfl, hm9, mi, _, _, rfl, qm, (by show 2 ≤ sizeLine; decide), fun pa hpa => ?_⟩
        have xa := Ext.new (o := .tup [.int (meanL qs).num, .int ((meanL qs).den : Int)]) hpa
        have La := L9.ext xa
        have ha : upd H9 pa (.tup [.int (meanL qs).num, .int ((meanL qs).den : Int)]) pa = some (.tup (Pr (meanL qs))) := upd_same
        have qa := ratq_ext qm xa
        have Ka := K9.trans xa.rx
        revert La ha qa Ka
        generalize upd H9 pa (.tup [.int (meanL qs).num, .int ((meanL qs).den : Int)]) = Ha
        intro La ha qa Ka
        have lz : (((es.map V.ref).length : Nat) : Int) = ((qs.length : Nat) : Int) := by rw [List.length_map, La.le]
        obtain ⟨s1, s2⟩ := sumL_small qs sm
        have w1 : ((sumL qs).num).natAbs < 2 ^ 13400 := Nat.lt_of_lt_of_le s1 (Nat.pow_le_pow_right (by decide) (by omega))
        have w2 : (((sumL qs).den : Int)).natAbs < 2 ^ 2401 := by
          rw [Int.natAbs_natCast]
          exact Nat.lt_of_le_of_lt s2 (Nat.pow_lt_pow_right (by decide) (by omega))
        have w3 : (((qs.length : Nat) : Int)).natAbs < 2 ^ 10 := by rw [Int.natAbs_natCast]; omega
        refine ⟨_, rfl, du, _, _, _, rfl, rfl, SqT.of La.du, rfl, _, rfl, du, _, _, _, rfl, rfl, SqT.of La.du, rfl, _, rfl, z, _, rfl, .inl (SqL.of La.z), _, _, rfl, rfl, ?_, ?_⟩
        · rw [lz]
          exact wide_mul w2 w3 (by decide) (by decide) (by decide)
        rw [lz]
        have bn : ((sumL qs).den : Int) * ((qs.length : Nat) : Int) ≠ 0 := Int.mul_ne_zero (den_ne _) (by omega)
        refine ⟨_, _, rfl, bn, w1, Nat.lt_of_lt_of_le (p_mul3 w2 w3) (Nat.pow_le_pow_right (by decide) (by decide)), fun pb hpb => ?_⟩
        have hb : upd Ha pb (.tup [.int (lowT (sumL qs).num (((sumL qs).den : Int) * ((qs.length : Nat) : Int))), .int (lowB (sumL qs).num (((sumL qs).den : Int) * ((qs.length : Nat) : Int)))]) pb = some (.tup (Pr (meanL qs))) := by
          rw [upd_same, low_pr bn, mean_low n0]
        have xb := Ext.new (o := .tup [.int (lowT (sumL qs).num (((sumL qs).den : Int) * ((qs.length : Nat) : Int))), .int (lowB (sumL qs).num (((sumL qs).den : Int) * ((qs.length : Nat) : Int)))]) hpb
        refine ne_pr (xb _ _ ha) hb ⟨_, rfl, if_false_of rfl ?_⟩
        have Lb := La.ext xb
        have qb := ratq_ext qa xb
        have Kb := Ka.trans xb.rx
        refine ⟨_, rfl, (by show 1 ≤ sizeLine; decide), fun p1 hp1 => ?_⟩
        have xc := Ext.new (o := .tup [.ref mi]) hp1
        refine ⟨p1, 5, [.ref mi], rfl, rfl, SqT.of upd_same, (by simp), (by decide), (by decide), (by show 1 ≤ 1000; decide), fun p2 hp2 => ?_⟩
        have xd := Ext.new (o := .tup [.ref mi, .ref mi, .ref mi, .ref mi, .ref mi]) hp2
        have qd := ratq_ext (ratq_ext qb xc) xd
        refine ⟨_, rfl, .inr ⟨p2, _, _, 2414, 2405, rfl, five_of (qs := qs) upd_same qd sm l12 n0, (by rw [List.length_replicate]; decide), ?_, fun _ r He ee qe => ?_⟩⟩
        · rw [meanL_rep _ (by decide)]
          exact no_big (mean_big sm l12 n0)
        rw [meanL_rep _ (by decide)] at qe
        refine ⟨_, rfl, ?_⟩
        refine ne_same T qe (ratq_ext qd ee) rfl ?_
        exact hQ _ ⟨ratq_ext qd ee, ((Lb.ext xc).ext xd).ext ee, Kb.trans (xc.trans (xd.trans ee)).rx⟩
      rintro H10 ⟨qm, L10, K10⟩
      refine ⟨_, rfl, rt, rfl, ⟨_, SqT.of L10.rt⟩, fun D1 nD1 => ?_⟩
      refine lc_tup (xs := rs.map V.ref) (fun i H' => Ext H10 H' ∧ ∃ acc, H' D1 = some (.lst acc) ∧ acc.length ≤ i ∧ ((∃ (j : Nat) (q : Rat), j < i ∧ qs[j]? = some q ∧ ¬ meanL qs < q) → acc ≠ [])) ⟨Ext.new nD1, [], upd_same, Nat.le_refl 0, fun ⟨j, _, h, _⟩ => absurd h (Nat.not_lt_zero j)⟩ (fun i H2 _ z => SqT.of (z.1 _ _ L10.rt)) ?_ ?_
      · rintro i x Hc hx ⟨ec, acc, hacc, la, im⟩
        obtain ⟨r, hri, rfl⟩ : ∃ r, rs[i]? = some r ∧ V.ref r = x := by
          rw [List.getElem?_map] at hx
          cases z : rs[i]? with
          | none => rw [z] at hx; cases hx
          | some r => rw [z] at hx; exact ⟨r, rfl, Option.some.inj hx⟩
        obtain ⟨q, hqi, qr⟩ := L10.R.at hri
        have il : i < qs.length := (List.getElem?_eq_some_iff.mp hqi).1
        have qr2 := ratq_ext qr ec
        have qm2 := ratq_ext qm ec
        obtain ⟨dr, hr2⟩ := id qr2
        obtain ⟨dm, hm2⟩ := id qm2
        have bq := sm_big (sm q (List.mem_of_getElem? hqi))
        have bm := mean_big sm l12 n0
        refine ⟨rfl, ?_⟩
        refine ⟨_, rfl, mi, dm, _, rfl, hm2, rf_is_less _ _, _, rfl, mi, r, _, _, rfl, qm2, qr2, bm, bq, _, rfl, ?_⟩
        by_cases c : meanL qs < q
        · refine if_false_of (by rw [decide_eq_true c] <;> rfl) ⟨ec, acc, hacc, by omega, ?_⟩
          rintro ⟨j, q', hj, hq', nq⟩
          refine im ⟨j, q', ?_, hq', nq⟩
          rcases Nat.lt_succ_iff_lt_or_eq.mp hj with h | h
          · exact h
          · subst h
            rw [hqi] at hq'
            cases hq'
            exact (nq c).elim
        · refine if_true_of (by rw [decide_eq_false c] <;> rfl) ⟨_, rfl, acc, hacc, Nat.lt_of_le_of_lt (show acc.length ≤ 1000 by omega) (by decide), fun c o hc => ?_, _, upd_same, by rw [List.length_append]; exact Nat.add_le_add_right la 1, fun _ => by simp⟩
          rw [upd_ne (ne_of_none hc nD1)]
          exact ec _ _ hc
      rintro H11 ⟨e11, a1, ha1, la1, ia1⟩
      have L11 := L10.ext e11
      refine ⟨_, rfl, rt, rfl, ⟨_, SqT.of L11.rt⟩, fun D2 nD2 => ?_⟩
      refine lc_tup (xs := rs.map V.ref) (fun i H' => Ext H11 H' ∧ ∃ acc, H' D2 = some (.lst acc) ∧ acc.length ≤ i ∧ ((∃ (j : Nat) (q : Rat), j < i ∧ qs[j]? = some q ∧ ¬ q < meanL qs) → acc ≠ [])) ⟨Ext.new nD2, [], upd_same, Nat.le_refl 0, fun ⟨j, _, h, _⟩ => absurd h (Nat.not_lt_zero j)⟩ (fun i H2 _ z => SqT.of (z.1 _ _ L11.rt)) ?_ ?_
      · rintro i x Hc hx ⟨ec, acc, hacc, la, im⟩
        obtain ⟨r, hri, rfl⟩ : ∃ r, rs[i]? = some r ∧ V.ref r = x := by
          rw [List.getElem?_map] at hx
          cases z : rs[i]? with
          | none => rw [z] at hx; cases hx
          | some r => rw [z] at hx; exact ⟨r, rfl, Option.some.inj hx⟩
        obtain ⟨q, hqi, qr⟩ := L11.R.at hri
        have il : i < qs.length := (List.getElem?_eq_some_iff.mp hqi).1
        have qr2 := ratq_ext qr ec
        have qm2 := ratq_ext (ratq_ext qm e11) ec
        obtain ⟨dr, hr2⟩ := id qr2
        obtain ⟨dm, hm2⟩ := id qm2
        have bq := sm_big (sm q (List.mem_of_getElem? hqi))
        have bm := mean_big sm l12 n0
        refine ⟨rfl, ?_⟩
        refine ⟨_, rfl, r, dr, _, rfl, hr2, rf_is_less _ _, _, rfl, r, mi, _, _, rfl, qr2, qm2, bq, bm, _, rfl, ?_⟩
        by_cases c : q < meanL qs
        · refine if_false_of (by rw [decide_eq_true c] <;> rfl) ⟨ec, acc, hacc, by omega, ?_⟩
          rintro ⟨j, q', hj, hq', nq⟩
          refine im ⟨j, q', ?_, hq', nq⟩
          rcases Nat.lt_succ_iff_lt_or_eq.mp hj with h | h
          · exact h
          · subst h
            rw [hqi] at hq'
            cases hq'
            exact (nq c).elim
        · refine if_true_of (by rw [decide_eq_false c] <;> rfl) ⟨_, rfl, acc, hacc, Nat.lt_of_le_of_lt (show acc.length ≤ 1000 by omega) (by decide), fun c o hc => ?_, _, upd_same, by rw [List.length_append]; exact Nat.add_le_add_right la 1, fun _ => by simp⟩
          rw [upd_ne (ne_of_none hc nD2)]
          exact ec _ _ hc
      rintro H12 ⟨e12, a2, ha2, la2, ia2⟩
      have L12 := L11.ext e12
      refine ⟨_, _, rfl, ?_⟩
      obtain ⟨q1, m1, c1⟩ := some_low qn
      obtain ⟨q2, m2, c2⟩ := some_high qn
      obtain ⟨j1, k1, g1⟩ := List.getElem_of_mem m1
      obtain ⟨j2, k2, g2⟩ := List.getElem_of_mem m2
      have y1 : a1 ≠ [] := ia1 ⟨j1, q1, by rw [List.length_map]; omega, by rw [List.getElem?_eq_getElem k1, g1], c1⟩
      have y2 : a2 ≠ [] := ia2 ⟨j2, q2, by rw [List.length_map]; omega, by rw [List.getElem?_eq_getElem k2, g2], c2⟩
      refine ⟨_, rfl, (by show 0 ≤ sizeLine; decide), fun p1 hp1 => ?_⟩
      have x1' := Ext.new (o := .lst []) hp1
      refine ⟨D1, p1, a1, rfl, rfl, x1' _ _ (e12 _ _ ha1), upd_same, _, rfl, if_false_of (by simpa using y1) ?_⟩
      refine ⟨_, rfl, (by show 0 ≤ sizeLine; decide), fun p2 hp2 => ?_⟩
      have x2' := Ext.new (o := .lst []) hp2
      refine ⟨D2, p2, a2, rfl, rfl, x2' _ _ (x1' _ _ ha2), upd_same, _, rfl, if_false_of (by simpa using y2) ?_⟩
      exact hD _ _ ⟨_, _, _, rfl, (L12.ext x1').ext x2', K10.trans (e11.trans (e12.trans (x1'.trans x2'))).rx⟩
    rintro σ' H8 ⟨x9, x10, x11, rfl, L8, K8⟩
    refine seq_asg (fun x H' => OdV T.C_Ratio u H' x ∧ UrnAt H' u ∧ LamX.Tabs (Tb T) H' ∧ Rx u H H') (fun Q hQ => ?_) ?_
    · refine ⟨_, rfl, _, rfl, rt, _, rfl, .inr (SqT.of L8.rt), fun l1 hl1 => ?_⟩
      have e1 := Ext.new (o := .lst (rs.map V.ref)) hl1
      have L9 := L8.ext e1
      have o1 : OdV T.C_Ratio u (upd H8 l1 (.lst (rs.map V.ref))) (.ref l1) := .inr (.inr (.inr (.inl ⟨l1, _, rfl, urn_ne L8.urn hl1, upd_same, .inl ⟨_, rfl⟩⟩)))
      have K9 := K8.trans e1.rx
      revert L9 o1 K9
      generalize upd H8 l1 (.lst (rs.map V.ref)) = H9
      intro L9 o1 K9
      have ra9 : ∀ x ∈ rs.map V.ref, RaI T.C_Ratio u H9 x := fun x hx => by
        obtain ⟨r, hr, rfl⟩ := List.mem_map.mp hx
        obtain ⟨j, hj, rfl⟩ := List.getElem_of_mem hr
        obtain ⟨q, _, qr⟩ := L9.R.at (List.getElem?_eq_getElem hj)
        obtain ⟨dx, hd⟩ := qr
        refine ⟨_, dx, _, rfl, fun e => ?_, hd⟩
        obtain ⟨c1, c2, c3, hc⟩ := L9.urn
        rw [e, hc] at hd
        cases hd
      have lr : (rs.map V.ref).length ≤ 12 := by rw [List.length_map]; omega
      have tupOd : ∀ {a : Addr} {xs : List V} {Hb : Hp}, UrnAt Hb u → Rx u H9 Hb → Hb a = some (.tup xs) → xs.length ≤ 100 → (∀ x ∈ xs, OdI u Hb x ∨ x ∈ rs.map V.ref) → (∃ x ∈ xs, OdI u Hb x) → OdV T.C_Ratio u Hb (.ref a) := fun {a xs Hb} hub hx ha hl hf ho => .inr (.inr (.inr (.inr ⟨a, xs, rfl, (fun e => by
        obtain ⟨c1, c2, c3, hc⟩ := hub
        rw [e, hc] at ha
        cases ha), ha, hl, fun x hxx => (hf x hxx).imp id fun hm => (ra9 x hm).rx hx, ho⟩)))
      refine ⟨_, rfl, (by show 1 ≤ sizeLine; decide), fun t1 ht1 => ?_⟩
      have f1 := Ext.new (o := .tup [.int 1]) ht1
      refine cat_any (f1 _ _ L9.rt) upd_same (by simp; omega) fun p1 H10 e10 h10 => ?_
      have g10 := f1.trans e10
      have o2 : OdV T.C_Ratio u H10 (.ref p1) := tupOd (L9.urn.ext g10) g10.rx h10 (by rw [List.length_append]; simp; omega) (fun x hx => by
        rcases List.mem_append.mp hx with hx | hx
        · exact .inr hx
        · exact .inl (.inr (.inl (by simpa using hx)))) ⟨.int 1, by simp, .inr (.inl rfl)⟩
      have L10 := L9.ext g10
      refine ⟨(by show 1 ≤ sizeLine; decide), fun t2 ht2 => ?_⟩
      have f2 := Ext.new (o := .tup [.non]) ht2
      refine ⟨_, rfl, ?_⟩
      refine cat_any upd_same (f2 _ _ L10.rt) (by simp; omega) fun p2 H11 e11 h11 => ?_
      have g11 := f2.trans e11
      have o3 : OdV T.C_Ratio u H11 (.ref p2) := tupOd (L10.urn.ext g11) (g10.trans g11).rx h11 (by rw [List.length_append]; simp; omega) (fun x hx => by
        rcases List.mem_append.mp hx with hx | hx
        · exact .inl (.inl (by simpa using hx))
        · exact .inr hx) ⟨.non, by simp, .inl rfl⟩
      have L11 := L10.ext g11
      refine fun dp hdp => ?_
      have f3 := Ext.new (o := .dK []) hdp
      have o4 : OdV T.C_Ratio u (upd H11 dp (.dK [])) (.ref dp) := .inr (.inr (.inr (.inl ⟨dp, _, rfl, urn_ne L11.urn hdp, upd_same, .inr rfl⟩)))
      have L12 := L11.ext f3
      revert f3 o4 L12
      generalize upd H11 dp (.dK []) = H12
      intro f3 o4 L12
      refine ⟨_, rfl, _, rfl, (by show 1 ≤ sizeLine; decide), fun t3 ht3 => ?_⟩
      have f4 := Ext.new (o := .tup [.ref rt]) ht3
      refine cat_any (f4 _ _ L12.rt) upd_same (by simp; omega) fun p3 H13 e13 h13 => ?_
      have g13 := f4.trans e13
      have L13 := L12.ext g13
      have ort : OdI u H13 (.ref rt) := .inr (.inr (.inr ⟨rt, _, rfl, (fun e => by
        obtain ⟨c1, c2, c3, hc⟩ := L13.urn
        have h := L13.rt
        rw [e, hc] at h
        cases h), L13.rt⟩))
      have o5 : OdV T.C_Ratio u H13 (.ref p3) := tupOd L13.urn (g10.trans (g11.trans (f3.trans g13))).rx h13 (by rw [List.length_append]; simp; omega) (fun x hx => by
        rcases List.mem_append.mp hx with hx | hx
        · exact .inr hx
        · obtain rfl : x = .ref rt := by simpa using hx
          exact .inl ort) ⟨.ref rt, by simp, ort⟩
      refine ⟨(by show 1 ≤ sizeLine; decide), fun t4 ht4 => ?_⟩
      have f5 := Ext.new (o := .tup [.bl true]) ht4
      have o6 : OdV T.C_Ratio u (upd H13 t4 (.tup [.bl true])) (.ref t4) := .inr (.inr (.inr (.inr ⟨t4, _, rfl, urn_ne L13.urn ht4, upd_same, (by decide), (fun x hx => .inl (.inr (.inr (.inl (by simpa using hx))))), .bl true, by simp, .inr (.inr (.inl rfl))⟩)))
      have L14 := L13.ext f5
      revert f5 o6 L14
      generalize upd H13 t4 (.tup [.bl true]) = H14
      intro f5 o6 L14
      refine ⟨(by show 9 ≤ sizeLine; decide), fun l hl => ?_⟩
      have f6 := Ext.new (o := .lst [.non, .int 5, .ref l1, .ref p1, .ref p2, .str "1", .ref dp, .ref p3, .ref t4]) hl
      refine ⟨u, l, _, rfl, L14.urn.ext f6, SqL.of upd_same, urn_ne L14.urn hl, (by show 0 < 9; decide), (by show 9 < 1073741824; decide), fun v hv H15 e15 hu15 => ?_⟩
      have z14 : Rx u H14 H15 := f6.rx.trans e15.rx
      refine hQ _ _ ⟨?_, hu15, tabs_one (tabs_ext L14.tab f6) (L14.urn.ext f6) e15, (K9.trans (g10.trans (g11.trans (f3.trans (g13.trans f5)))).rx).trans z14⟩
      simp only [List.mem_cons, List.not_mem_nil, or_false] at hv
      rcases hv with rfl | rfl | rfl | rfl | rfl | rfl | rfl | rfl | rfl
      · exact .inl rfl
      · exact .inr (.inl rfl)
      · exact o1.rx ((g10.trans (g11.trans (f3.trans (g13.trans f5)))).rx.trans z14)
      · exact o2.rx ((g11.trans (f3.trans (g13.trans f5))).rx.trans z14)
      · exact o3.rx ((f3.trans (g13.trans f5)).rx.trans z14)
      · exact .inr (.inr (.inl rfl))
      · exact o4.rx ((g13.trans f5).rx.trans z14)
      · exact o5.rx (f5.rx.trans z14)
      · exact o6.rx z14
    rintro v H9 ⟨ov, hu9, tb9, K9⟩
    dsimp only [gName]
    refine seq_asg (fun x H' => ∃ l Hb, x = .ref l ∧ H' l = some (.lst [.str "ratio"]) ∧ Hb l = none ∧ UrnAt Hb u ∧ OdV T.C_Ratio u Hb v ∧ Rx u H Hb ∧ UrnAt H' u ∧ LamX.Tabs (Tb T) H' ∧ Rx u Hb H') (fun Q hQ => ?_) ?_
    · refine ⟨tb9, fun Ha ea ta f => ?_⟩
      refine ⟨_, rfl, _, rfl, .inl ⟨(ov.rx (rx_of ea)).no T, fun Hb eb => .inl ⟨rfl, ?_⟩⟩⟩
      have rb : Rx u H9 Hb := (rx_of ea).trans eb.rx
      exact ⟨(by show 1 ≤ sizeLine; decide), fun l hl => hQ _ _ ⟨l, Hb, rfl, upd_same, hl, (urn_of ea hu9).ext eb, ov.rx rb, K9.trans rb, ((urn_of ea hu9).ext eb).ext (Ext.new hl), tabs_ext (tabs_ext ta eb) (Ext.new hl), (Ext.new hl).rx⟩⟩
    rintro x H10 ⟨l, Hb, rfl, hl, lb, hub, ob, Kb, hu10, tb10, K10⟩
    dsimp only [gName]
    have nul : l ≠ u := urn_ne hub lb
    refine seq_any (fun σ' H' => σ' = [some (.ref u), some (.ref z), tn, tp, bt, pr, some (.ref du), some (.ref tt), some (.int m), x9, x10, x11, some (.ref l), some v, some (.ref rt), none, none] ∧ H' l = some (.lst [.str "ratio", .str "ratio"]) ∧ UrnAt H' u ∧ LamX.Tabs (Tb T) H' ∧ Rx u Hb H') (fun D' hD => ?_) ?_
    · refine ⟨_, rfl, .inl ⟨rfl, _, SqL.of hl⟩, tb10, fun Ha ea ta f => ?_⟩
      have ra : Rx u Hb Ha := K10.trans (rx_of ea)
      refine ⟨_, rfl, _, rfl, .inl ⟨.inl ((ob.rx ra).no T), fun Hc ec => .inl ⟨rfl, ?_⟩⟩⟩
      have hc : Hc l = some (.lst [.str "ratio"]) := ec _ _ (ea _ _ hl (fun _ z => by cases z))
      have uc := (urn_of ea hu10).ext ec
      exact ⟨l, _, _, rfl, rfl, hc, (by show 1 < sizeLine; decide), hD _ _ ⟨rfl, upd_same, urn_upd uc nul, tabs_lst (tabs_ext ta ec) hc, rx_upd (ra.trans ec.rx) lb⟩⟩
    rintro σ' H11 ⟨rfl, hl11, hu11, tb11, K11⟩
    refine seq_any (fun σ' H' => σ' = [some (.ref u), some (.ref z), tn, tp, bt, pr, some (.ref du), some (.ref tt), some (.int m), x9, x10, x11, some (.ref l), some v, some (.ref rt), none, none] ∧ H' l = some (.lst [.str "ratio", .str "ratio", .str "ratio"]) ∧ UrnAt H' u ∧ LamX.Tabs (Tb T) H' ∧ Rx u Hb H') (fun D' hD => ?_) ?_
    · refine ⟨_, rfl, .inl ⟨rfl, _, SqL.of hl11⟩, tb11, fun Ha ea ta f => ?_⟩
      have ra : Rx u Hb Ha := K11.trans (rx_of ea)
      refine ⟨(by show 0 ≤ sizeLine; decide), fun p0 hp0 => ?_⟩
      have xp := Ext.new (o := .tup []) hp0
      refine ⟨_, rfl, .inl ⟨.inr ⟨p0, rfl, upd_same⟩, fun Hc ec => .inl ⟨rfl, ?_⟩⟩⟩
      have hc : Hc l = some (.lst [.str "ratio", .str "ratio"]) := ec _ _ (xp _ _ (ea _ _ hl11 (fun _ z => by cases z)))
      have uc := ((urn_of ea hu11).ext xp).ext ec
      exact ⟨l, _, _, rfl, rfl, hc, (by show 2 < sizeLine; decide), hD _ _ ⟨rfl, upd_same, urn_upd uc nul, tabs_lst (tabs_ext (tabs_ext ta xp) ec) hc, rx_upd (ra.trans (xp.trans ec).rx) lb⟩⟩
    rintro σ' H12 ⟨rfl, hl12, hu12, tb12, K12⟩
    refine ⟨_, rfl, (by show 3 ≤ sizeLine; decide), fun p hp => ?_⟩
    have xp := Ext.new (o := .lst [.str "ratio", .str "ratio", .str "ratio"]) hp
    exact eq_same (SqL.of (xp _ _ hl12)) (SqL.of upd_same) (.cons (.str _) (.cons (.str _) (.cons (.str _) .nil))) (by decide +kernel) (by decide +kernel) (k _ (tabs_ext tb12 xp) (hu12.ext xp) (Kb.trans (K12.trans xp.rx)))
end
end K03

namespace K03
open PySem PySem.Spec PyProof.Rows L2 L3

/-! ### the law -/
def ratS (t b : Int) : Str := if b = 1 then toString t else (((Str.empty ++ (toString t : Str)) ++ ("/" : Str)) ++ (toString b : Str))
def spStr (C : Addr) : Sp := fun vs H Q _ => ∃ p t b, vs = [.ref p] ∧ RatAt C H p t b ∧ t.natAbs < 2 ^ 1900 ∧ b.natAbs < 2 ^ 1900 ∧ Q (.str (ratS t b)) H
def spLaw (K : PySem.W.Frag) (Tb : List (Addr × Str)) : Sp := fun vs H Q _ => ∃ (a : Addr) (ns : List Int), vs = [.ref a] ∧ SqL K H a (ns.map V.int) ∧ ns.length ≤ 63 ∧ LamX.Tabs Tb H ∧ ∀ H', Q (.bl true) H'
theorem sql_rx {K : PySem.W.Frag} {H H' : Hp} {a u : Addr} {xs : List V} (h : SqL K H a xs) (n : H u = none) (e : Rx u H H') : SqL K H' a xs := by
  rcases h with (h | ⟨o, h⟩) | h
  · exact .inl (.inl (e _ _ (ne_of_none h n) (fun _ z => by cases z) h))
  · exact .inl (.inr ⟨o, e _ _ (ne_of_none h n) (fun _ z => by cases z) h⟩)
  · exact .inr h
theorem rf_over (t b : Int) : (rf t b).lookup ("over" : Str) = none := (lk_past (by decide +kernel)).trans ((lk_past (by decide +kernel)).trans rfl)
theorem five_ok : big (Rat.divInt 5 1) = false ∧ Rat.divInt 5 1 ≠ 0 := by decide +kernel
theorem str_sm {q : Rat} (h : Sm q) : q.num.natAbs < 2 ^ 1900 ∧ ((q.den : Int)).natAbs < 2 ^ 1900 := ⟨Nat.lt_of_lt_of_le h.1 (Nat.pow_le_pow_right (by decide) (by decide)), by rw [Int.natAbs_natCast]; exact Nat.lt_of_lt_of_le h.2 (Nat.pow_le_pow_right (by decide) (by decide))⟩
def pw (b : Int) (n : Nat) : Rat := Rat.divInt 1 (b ^ n)
theorem pw_mul (b : Int) (n m : Nat) : pw b n * pw b m = pw b (n + m) := by
  unfold pw
  rw [Rat.divInt_mul_divInt, ← Int.pow_add] <;> rfl
theorem pw_few : ∀ i, i < 5 → big (pw 7 (60 * 2 ^ i)) = false ∧ big (pw 7 (60 * 2 ^ (i + 1))) = false ∧ big (pw 11 (55 * 2 ^ i)) = false ∧ big (pw 11 (55 * 2 ^ (i + 1))) = false := by decide +kernel
theorem l7_is : pw 7 1980 = l7 := rfl
theorem h11_is : pw 11 1815 = h11 := rfl
theorem pw_ends : big (pw 7 1920) = false ∧ big (pw 7 60) = false ∧ big (pw 11 1760) = false ∧ big (pw 11 55) = false := by decide +kernel
theorem lcm_all {qs : List Rat} {n B : Nat} (l : qs.length = n) (h : ∀ i, i < n + 1 → lcmL (qs.take i) < B) (i : Nat) : lcmL (qs.take i) < B := by
  by_cases c : i < n + 1
  · exact h i c
  · have e := h n (by omega)
    rw [List.take_of_length_le (by omega)] at e ⊢
    exact e
theorem one_few {qs : List Rat} (h : ∀ i, i < qs.length → ((qs[i]?).all fun q => decide (q.num.natAbs < 2 ^ 1) && !big q) = true) : ∀ q ∈ qs, q.num.natAbs < 2 ^ 1 ∧ big q = false := by
  intro q hq
  obtain ⟨i, hi, rfl⟩ := List.getElem_of_mem hq
  have e := h i hi
  rw [List.getElem?_eq_getElem hi] at e
  simp at e
  exact ⟨by omega, e.2⟩
theorem rowsA {K : PySem.W.Frag} {C p a b : Addr} {H : Hp} (hp : H p = some (.tup [.ref a, .ref b, .ref a, .ref b])) (ha : RatQ C H a l7) (hb : RatQ C H b h11) : Rows K C H p [a, b, a, b] [l7, h11, l7, h11] 1 11860 :=
  ⟨hp, .cons ha (.cons hb (.cons ha (.cons hb .nil))), by decide, one_few (by decide +kernel), by decide, by decide, lcm_all rfl (by decide +kernel)⟩
theorem rowsB {K : PySem.W.Frag} {C p a b : Addr} {H : Hp} (hp : H p = some (.tup [.ref a, .ref b])) (ha : RatQ C H a l7) (hb : RatQ C H b h11) : Rows K C H p [a, b] [l7, h11] 1 11860 :=
  ⟨hp, .cons ha (.cons hb .nil), by decide, one_few (by decide +kernel), by decide, by decide, lcm_all rfl (by decide +kernel)⟩
theorem rowsC {K : PySem.W.Frag} {C p a b c : Addr} {H : Hp} (hp : H p = some (.tup [.ref a, .ref b, .ref c])) (ha : RatQ C H a l7) (hb : RatQ C H b h11) (hc : RatQ C H c (-l7)) : Rows K C H p [a, b, c] [l7, h11, -l7] 1 11860 :=
  ⟨hp, .cons ha (.cons hb (.cons hc .nil)), by decide, one_few (by decide +kernel), by decide, by decide, lcm_all rfl (by decide +kernel)⟩
theorem rowsD {K : PySem.W.Frag} {C p a b c d : Addr} {H : Hp} (hp : H p = some (.tup [.ref b, .ref a, .ref b, .ref c, .ref d])) (ha : RatQ C H a l7) (hb : RatQ C H b h11) (hc : RatQ C H c (-l7)) (hd : RatQ C H d (-h11)) : Rows K C H p [b, a, b, c, d] [h11, l7, h11, -l7, -h11] 1 11860 :=
  ⟨hp, .cons hb (.cons ha (.cons hb (.cons hc (.cons hd .nil)))), by decide, one_few (by decide +kernel), by decide, by decide, lcm_all rfl (by decide +kernel)⟩
/-- the two great bottoms -/
structure Lw {K : PySem.W.Frag} {mg : Str → Option Value} (T : TX K mg) (lo hi : Addr) (H : Hp) : Prop where
  lo : RatQ T.C_Ratio H lo l7
  hi : RatQ T.C_Ratio H hi h11
  tab : LamX.Tabs (Tb T) H
theorem Lw.ext {K : PySem.W.Frag} {mg : Str → Option Value} {T : TX K mg} {lo hi : Addr} {H H' : Hp} (L : Lw T lo hi H) (e : Ext H H') : Lw T lo hi H' := ⟨ratq_ext L.lo e, ratq_ext L.hi e, tabs_ext L.tab e⟩
theorem ratq_lam {C r : Addr} {H H' : Hp} {q : Rat} (h : RatQ C H r q) (e : LamX.ExtN H H') : RatQ C H' r q := h.elim fun dx h => ⟨dx, e _ _ h nu_ins.2⟩
theorem Lw.lam {K : PySem.W.Frag} {mg : Str → Option Value} {T : TX K mg} {lo hi : Addr} {H H' : Hp} (L : Lw T lo hi H) (e : LamX.ExtN H H') (t : LamX.Tabs (Tb T) H') : Lw T lo hi H' := ⟨ratq_lam L.lo e, ratq_lam L.hi e, t⟩
theorem ratq_lst {C r l : Addr} {xs ys : List V} {H : Hp} {q : Rat} (h : RatQ C H r q) (hl : H l = some (.lst xs)) : RatQ C (upd H l (.lst ys)) r q := h.elim fun dx h => ⟨dx, by
  rw [upd_ne (fun z => ?_)]
  · exact h
  · rw [z, hl] at h
    cases h⟩
theorem Lw.lst {K : PySem.W.Frag} {mg : Str → Option Value} {T : TX K mg} {lo hi l : Addr} {xs ys : List V} {H : Hp} (L : Lw T lo hi H) (hl : H l = some (.lst xs)) : Lw T lo hi (upd H l (.lst ys)) := ⟨ratq_lst L.lo hl, ratq_lst L.hi hl, tabs_lst L.tab hl⟩
theorem dp_many {K : PySem.W.Frag} {H : Hp} {z : Addr} (h : H z = some (.tup [.str "many", .int 2000])) : Dp K H (.ref z) (.tuple [.str "many", .int 2000]) := .tup (SqT.of h) (.cons (.str _) (.cons (.int _) .nil))
theorem str_a : ratS (meanL [Rat.divInt 1 1, Rat.divInt 2 1]).num ((meanL [Rat.divInt 1 1, Rat.divInt 2 1]).den : Int) = "3/2" := by decide +kernel
theorem str_b : ratS (sumL [Rat.divInt 1 2, Rat.divInt 1 6]).num ((sumL [Rat.divInt 1 2, Rat.divInt 1 6]).den : Int) = "2/3" := by decide +kernel
theorem sm_two {q r : Rat} (h : (decide (q.num.natAbs < 2 ^ 200) && decide (q.den < 2 ^ 200) && decide (r.num.natAbs < 2 ^ 200) && decide (r.den < 2 ^ 200)) = true) : ∀ x ∈ [q, r], Sm x := by
  simp only [Bool.and_eq_true, decide_eq_true_eq] at h
  intro x hx
  simp only [List.mem_cons, List.not_mem_nil, or_false] at hx
  rcases hx with rfl | rfl
  · exact ⟨h.1.1.1, h.1.1.2⟩
  · exact ⟨h.1.2, h.2⟩
section
variable {P : Program} {w : World} {K : PySem.W.Frag} {mg : Str → Option Value} {base : Heap}
theorem ok_Ratio___str__ (T : TX K mg) : FnOk P w K mg base (L2.CX P w) 1 T.f_Ratio___str__ T.d_Ratio___str__ ["self"] (spStr T.C_Ratio) := by
  refine T.F_Ratio___str__.okX sc_Ratio___str__ (fun vs H Q E h => ?_) (fun cdv A outer s H vs Q E hr h => ?_)
  · obtain ⟨p, t, b, rfl, _⟩ := h
    rfl
  · refine ⟨_, (pss_cons (ps_if (pt_cmpR op_eq (pe_fld (pv 0) rfl) pe_int (nomark _)) (pss_one (ps_ret (pe_callTy call_str_int (by rfl) T.n_str (by decide +kernel) (pa_cons (pe_fld (pv 0) rfl) pa_nil)))) pss_nil)
    (pss_one (ps_ret (pe_joined (PJ.cons (pe_fmt (pe_fld (pv 0) rfl)) (PJ.cons pe_str (PJ.cons (pe_fmt (pe_fld (pv 0) rfl)) PJ.nil))))))), ?_⟩
    obtain ⟨p, t, b, rfl, ⟨dx, hp⟩, ht, hb, k⟩ := h
    have l1 : t.natAbs.log2 < 1920 := Nat.lt_trans (log_of (by decide) ht) (by decide)
    have l2 : b.natAbs.log2 < 1920 := Nat.lt_trans (log_of (by decide) hb) (by decide)
    refine ⟨_, rfl, p, T.C_Ratio, dx, _, _, rfl, hp, T.cl_Ratio, T.n_Ratio__bottom, rf_bottom _ _, rfl, _, rfl, ?_⟩
    rw [dec_int]
    by_cases c1 : b = 1
    · refine if_true_of (beq_iff_eq.mpr c1) ?_
      refine ⟨_, rfl, p, T.C_Ratio, dx, _, _, rfl, hp, T.cl_Ratio, T.n_Ratio__top, rf_top _ _, _, rfl, l1, ?_⟩
      rw [show ratS t b = toString t from if_pos c1] at k
      exact k
    · refine if_false_of (by simpa using c1) ?_
      rw [show ratS t b = _ from if_neg c1] at k
      refine ⟨_, rfl, p, T.C_Ratio, dx, _, _, rfl, hp, T.cl_Ratio, T.n_Ratio__top, rf_top _ _, .inr ⟨_, rfl, l1, _, rfl, sz_num l1, ?_⟩⟩
      refine ⟨_, rfl, sz_bar l1, _, rfl, p, T.C_Ratio, dx, _, _, rfl, hp, T.cl_Ratio, T.n_Ratio__bottom, rf_bottom _ _, .inr ⟨_, rfl, l2, _, rfl, sz_all l1 l2, ?_⟩⟩
      exact k
theorem ok_law (T : TX K mg) (TB : LamX.TabB base mg T.cc_law T.tt_law) (TR : LamX.TabB base mg T.cc__law_right T.tt__law_right) : FnOk P w K mg base (L2.CX P w) 12 T.f_law T.d_law ["_law_script"] (spLaw K (Tb T)) := by
  obtain ⟨oc, od, kV, dc, pm, an, ct, osl, eD, lk, hcd⟩ := T.lx_law
  rw [eD] at lk ⊢
  refine fn_of lk hcd sc_law (fun vs H Q E h => ?_) (fun A outer s H vs Q E hr h => ?_)
  · obtain ⟨a, ns, rfl, _⟩ := h
    rfl
  · obtain ⟨ocR, odR, kVR, dcR, pmR, anR, cdR, ctR, oslR, eR, lkR, hcR⟩ := T.F__law_told.ex
    have bR := T.b__law_told
    rw [eR] at lkR bR
    refine ⟨_, (pss_cons (ps_for PassesOwn.leaving rfl (pi_range1 (by rfl) T.n_range (pa_cons (pe_callB (call_max2 rfl) (by rfl) T.n_max (by decide +kernel) (pa_cons pe_int (pa_cons (pe_callB (call_min2 rfl) (by rfl) T.n_min (by decide +kernel) (pa_cons pe_int (pa_cons (pe_callB call_len_seq (by rfl) T.n_len (by decide +kernel) (pa_cons (pv 0) pa_nil)) pa_nil))) pa_nil))) pa_nil)) (pg_name (i := 1) sc_law.nd rfl (Or.inl rfl)) (pss_one (ps_if (pt_not (pt_val (pe_call (ok__law_right T TR) (hr.mono (by decide)) (by rfl) T.g__law_right T.F__law_right.kp T.b__law_right .nil passL (pa_cons (pe_call (ok__law_urn T) (hr.mono (by decide)) (by rfl) T.g__law_urn T.F__law_urn.kp T.b__law_urn .nil passL (pa_cons (pv 0) (pa_cons (pv 1) pa_nil))) pa_nil)))) (pss_one (ps_ret pe_bl)) pss_nil)))
    (pss_cons (ps_asg (pe_tup (pa_cons (pe_make T.mk_Ratio (ok_Ratio___init__ T) (hr.mono (by decide)) (by rfl) T.g_Ratio T.b_Ratio___init__ .nil passL (pa_cons pe_int (pa_cons (pe_op op_pow pe_int pe_int) pa_nil))) (pa_cons (pe_make T.mk_Ratio (ok_Ratio___init__ T) (hr.mono (by decide)) (by rfl) T.g_Ratio T.b_Ratio___init__ .nil passL (pa_cons pe_int (pa_cons (pe_op op_pow pe_int pe_int) pa_nil))) pa_nil))) (pg_tup (by rfl) (pgs_cons (pg_name (i := 5) sc_law.nd rfl (Or.inr rfl)) (pgs_cons (pg_name (i := 4) sc_law.nd rfl (Or.inr rfl)) pgs_nil))))
    (pss_cons (ps_for PassesOwn.leaving rfl (pi_range1 (by rfl) T.n_range (pa_cons pe_int pa_nil)) (pg_name (i := 2) sc_law.nd rfl (Or.inl rfl)) (pss_one (ps_asg (pe_tup (pa_cons (pe_op (op_ownMul T.sf_Ratio T.tc_Ratio T.o_Ratio___mul__ (ok_Ratio___mul__ T) (hr.mono (by decide)) T.b_Ratio___mul__ passL) (pv 5) (pv 5)) (pa_cons (pe_op (op_ownMul T.sf_Ratio T.tc_Ratio T.o_Ratio___mul__ (ok_Ratio___mul__ T) (hr.mono (by decide)) T.b_Ratio___mul__ passL) (pv 4) (pv 4)) pa_nil))) (pg_tup (by rfl) (pgs_cons (pg_name (i := 5) sc_law.nd rfl (Or.inr rfl)) (pgs_cons (pg_name (i := 4) sc_law.nd rfl (Or.inr rfl)) pgs_nil))))))
    (pss_cons (ps_asg (pe_tup (pa_cons (pe_op (op_ownMul T.sf_Ratio T.tc_Ratio T.o_Ratio___mul__ (ok_Ratio___mul__ T) (hr.mono (by decide)) T.b_Ratio___mul__ passL) (pv 5) (pe_make T.mk_Ratio (ok_Ratio___init__ T) (hr.mono (by decide)) (by rfl) T.g_Ratio T.b_Ratio___init__ .nil passL (pa_cons pe_int (pa_cons (pe_op op_pow pe_int pe_int) pa_nil)))) (pa_cons (pe_op (op_ownMul T.sf_Ratio T.tc_Ratio T.o_Ratio___mul__ (ok_Ratio___mul__ T) (hr.mono (by decide)) T.b_Ratio___mul__ passL) (pv 4) (pe_make T.mk_Ratio (ok_Ratio___init__ T) (hr.mono (by decide)) (by rfl) T.g_Ratio T.b_Ratio___init__ .nil passL (pa_cons pe_int (pa_cons (pe_op op_pow pe_int pe_int) pa_nil)))) pa_nil))) (pg_tup (by rfl) (pgs_cons (pg_name (i := 5) sc_law.nd rfl (Or.inr rfl)) (pgs_cons (pg_name (i := 4) sc_law.nd rfl (Or.inr rfl)) pgs_nil))))
    (pss_cons (ps_set (i := 3) sc_law.nd rfl (Or.inl rfl) (pe_lst (pa_cons (LamX.pe_lamcall (k := 7) (T := Tb T) (by rfl) T.g__law_told T.F__law_told.kp lkR hcR bR sc__law_told rfl (Or.inl rfl) (told_givesK T rfl rfl (hr.mono (by decide))) TB rfl (List.mem_cons_of_mem _ List.mem_cons_self) (uniqL T) (hr.mono (by decide)) (LamX.lamS_by (sc := defScope s_law) (by decide +kernel)) rfl (fun _ _ _ _ _ => rfl) (fun A2 outer2 s2 H2 E2 f2 c2 hr2 => (pe_call (ok_total T) (hr2.mono (by decide)) (by rfl) T.g_total T.F_total.kp T.b_total .nil (passes_call (takes_of rfl rfl rfl rfl) (fun _ _ _ _ h => h)) (pa_cons (pe_tup (pa_cons (pv 5) (pa_cons (pv 4) (pa_cons (pv 5) (pa_cons (pv 4) pa_nil))))) pa_nil)))) pa_nil)))
    (pss_cons (ps_expr (pe_bm PySem.F.plainAttrs_list PySem.F.slot_list_append PySem.F.type_list_append mt_append (pv 3) (pa_cons (LamX.pe_lamcall (k := 7) (T := Tb T) (by rfl) T.g__law_told T.F__law_told.kp lkR hcR bR sc__law_told rfl (Or.inl rfl) (told_givesK T rfl rfl (hr.mono (by decide))) TB rfl (List.mem_cons_of_mem _ List.mem_cons_self) (uniqL T) (hr.mono (by decide)) (LamX.lamS_by (sc := defScope s_law) (by decide +kernel)) rfl (fun _ _ _ _ _ => rfl) (fun A2 outer2 s2 H2 E2 f2 c2 hr2 => (pe_call (ok_mean T) (hr2.mono (by decide)) (by rfl) T.g_mean T.F_mean.kp T.b_mean .nil (passes_call (takes_of rfl rfl rfl rfl) (fun _ _ _ _ h => h)) (pa_cons (pe_tup (pa_cons (pv 5) (pa_cons (pv 4) pa_nil))) pa_nil)))) pa_nil)))
    (pss_cons (ps_if (PW.pt (pw_or (pt_cmpR (op_neD hr.units) (pv 3) (pe_lst (pa_cons (pe_tup (pa_cons pe_str (pa_cons pe_int pa_nil))) (pa_cons (pe_tup (pa_cons pe_str (pa_cons pe_int pa_nil))) pa_nil))) (nomark _)) (pw_or (pt_cmpR (op_ownNe T.o_Ratio___eq__ T.ne_Ratio (ok_Ratio___eq__ T) (hr.mono (by decide)) T.b_Ratio___eq__ passL) (pe_call (ok_total T) (hr.mono (by decide)) (by rfl) T.g_total T.F_total.kp T.b_total .nil passL (pa_cons (pe_tup (pa_cons (pv 5) (pa_cons (pv 4) (pa_cons (pe_un (un_ownNeg T.o_Ratio___neg__ (ok_Ratio___neg__ T) (hr.mono (by decide)) T.b_Ratio___neg__ passL) (pv 5)) pa_nil)))) pa_nil)) (pv 4) (nomark _)) (pw_or1 (pt_cmpR (op_ownNe T.o_Ratio___eq__ T.ne_Ratio (ok_Ratio___eq__ T) (hr.mono (by decide)) T.b_Ratio___eq__ passL) (pe_call (ok_mean T) (hr.mono (by decide)) (by rfl) T.g_mean T.F_mean.kp T.b_mean .nil passL (pa_cons (pe_tup (pa_cons (pv 4) (pa_cons (pv 5) (pa_cons (pv 4) (pa_cons (pe_un (un_ownNeg T.o_Ratio___neg__ (ok_Ratio___neg__ T) (hr.mono (by decide)) T.b_Ratio___neg__ passL) (pv 5)) (pa_cons (pe_un (un_ownNeg T.o_Ratio___neg__ (ok_Ratio___neg__ T) (hr.mono (by decide)) T.b_Ratio___neg__ passL) (pv 4)) pa_nil)))))) pa_nil)) (pe_meth (pv 4) T.cl_Ratio T.m_Ratio_over (ok_Ratio_over T) (hr.mono (by decide)) T.b_Ratio_over .nil passL (pa_cons (pe_make T.mk_Ratio (ok_Ratio___init__ T) (hr.mono (by decide)) (by rfl) T.g_Ratio T.b_Ratio___init___2 T.v_Ratio___init___2 passL (pa_cons pe_int pa_nil)) pa_nil)) (nomark _)))))) (pss_one (ps_ret pe_bl)) pss_nil)
    (pss_one (ps_ret (pe_cmpR (op_eqD hr.units) (pe_lst (pa_cons (pe_callTy (call_ownStr T.o_Ratio___str__ (ok_Ratio___str__ T) (hr.mono (by decide)) T.b_Ratio___str__ passL) (by rfl) T.n_str (by decide +kernel) (pa_cons (pe_call (ok_mean T) (hr.mono (by decide)) (by rfl) T.g_mean T.F_mean.kp T.b_mean .nil passL (pa_cons (pe_tup (pa_cons (pe_make T.mk_Ratio (ok_Ratio___init__ T) (hr.mono (by decide)) (by rfl) T.g_Ratio T.b_Ratio___init___2 T.v_Ratio___init___2 passL (pa_cons pe_int pa_nil)) (pa_cons (pe_make T.mk_Ratio (ok_Ratio___init__ T) (hr.mono (by decide)) (by rfl) T.g_Ratio T.b_Ratio___init___2 T.v_Ratio___init___2 passL (pa_cons pe_int pa_nil)) pa_nil))) pa_nil)) pa_nil)) (pa_cons (pe_callTy (call_ownStr T.o_Ratio___str__ (ok_Ratio___str__ T) (hr.mono (by decide)) T.b_Ratio___str__ passL) (by rfl) T.n_str (by decide +kernel) (pa_cons (pe_call (ok_total T) (hr.mono (by decide)) (by rfl) T.g_total T.F_total.kp T.b_total .nil passL (pa_cons (pe_tup (pa_cons (pe_make T.mk_Ratio (ok_Ratio___init__ T) (hr.mono (by decide)) (by rfl) T.g_Ratio T.b_Ratio___init__ .nil passL (pa_cons pe_int (pa_cons pe_int pa_nil))) (pa_cons (pe_make T.mk_Ratio (ok_Ratio___init__ T) (hr.mono (by decide)) (by rfl) T.g_Ratio T.b_Ratio___init__ .nil passL (pa_cons pe_int (pa_cons pe_int pa_nil))) pa_nil))) pa_nil)) pa_nil)) pa_nil))) (pe_lst (pa_cons pe_str (pa_cons pe_str pa_nil))) (nomark _))))))))))), ?_⟩
    obtain ⟨a, ns, rfl, hs, hl, tb, k⟩ := h
    have hl' : (((ns.map V.int).length : Nat) : Int) ≤ 63 := by rw [List.length_map]; omega
    refine seq_any (fun σ' H' => ∃ tn, σ' = [some (V.ref a), tn, none, none, none, none] ∧ LamX.Tabs (Tb T) H') (fun D' hD => ?_) ?_
    · refine ⟨_, rfl, a, _, rfl, .inl hs, _, _, rfl, _, _, rfl, _, rfl, (by split <;> split <;> omega), (by split <;> split <;> omega), ?_⟩
      refine for_range (fun i σ H' => ∃ tn, σ = [some (V.ref a), tn, none, none, none, none] ∧ SqL K H' a (ns.map V.int) ∧ LamX.Tabs (Tb T) H') ⟨none, rfl, hs, tb⟩ ?_ (fun σ H' ⟨tn, e, _, t⟩ => hD _ _ ⟨tn, e, t⟩)
      rintro i σ H1 hi ⟨tn, rfl, hs1, tb1⟩
      refine ⟨_, rfl, _, rfl, a, ns, i, (by rw [Int.zero_add] <;> rfl), hs1, fun u hu x y z => ?_⟩
      refine ⟨u, rfl, ⟨x, y, z, upd_same⟩, tabs_ext tb1 (Ext.new hu), fun H2 t2 u2 r2 => ⟨_, rfl, if_false_of rfl ?_⟩⟩
      exact ⟨_, rfl, sql_rx hs1 hu ((Ext.new hu).rx.trans r2), t2⟩
    rintro σ' H1 ⟨tn, rfl, tb1⟩
    refine seq_asg (fun x H' => ∃ tu lo hi, x = .ref tu ∧ H' tu = some (.tup [.ref lo, .ref hi]) ∧ RatQ T.C_Ratio H' lo (pw 7 60) ∧ RatQ T.C_Ratio H' hi (pw 11 55) ∧ LamX.Tabs (Tb T) H') (fun Q hQ => ?_) ?_
    · refine ⟨_, _, rfl, rfl, ⟨by decide, by decide, by decide⟩, fun lo dlo nlo mlo xlo => mk_good nlo mlo xlo (a := 1) (b := 7 ^ ((60 : Int)).toNat) (by decide +kernel) (by decide +kernel) (by decide +kernel) fun H2 e2 q2 => ⟨rfl, ?_⟩⟩
      refine ⟨_, _, rfl, rfl, ⟨by decide, by decide, by decide⟩, fun hi dhi nhi mhi xhi => mk_good nhi mhi xhi (a := 1) (b := 11 ^ ((55 : Int)).toNat) (by decide +kernel) (by decide +kernel) (by decide +kernel) fun H3 e3 q3 => ⟨rfl, ?_⟩⟩
      exact ⟨(by show 2 ≤ sizeLine; decide), fun tu htu => hQ _ _ ⟨tu, lo, hi, rfl, upd_same, ratq_ext (ratq_ext q2 e3) (Ext.new htu), ratq_ext q3 (Ext.new htu), tabs_ext (tabs_ext (tabs_ext tb1 e2) e3) (Ext.new htu)⟩⟩
    rintro x H2 ⟨tu, lo, hi, rfl, htu, ql, qh, tb2⟩
    refine ⟨tu, _, rfl, SqT.of htu, rfl, _, _, rfl, _, _, rfl, rfl, ?_⟩
    refine seq_any (fun σ' H' => ∃ x2 lo hi, σ' = [some (V.ref a), tn, x2, none, some (.ref hi), some (.ref lo)] ∧ RatQ T.C_Ratio H' lo (pw 7 1920) ∧ RatQ T.C_Ratio H' hi (pw 11 1760) ∧ LamX.Tabs (Tb T) H') (fun D' hD => ?_) ?_
    · refine ⟨5, rfl, (by decide), (by decide), ?_⟩
      refine for_range (fun i σ H' => ∃ x2 lo hi, σ = [some (V.ref a), tn, x2, none, some (.ref hi), some (.ref lo)] ∧ RatQ T.C_Ratio H' lo (pw 7 (60 * 2 ^ i)) ∧ RatQ T.C_Ratio H' hi (pw 11 (55 * 2 ^ i)) ∧ LamX.Tabs (Tb T) H') ⟨_, lo, hi, rfl, ql, qh, tb2⟩ ?_ (fun σ H' h => hD _ _ h)
      rintro i σ H3 hi5 ⟨x2, lo, hi, rfl, ql, qh, tb3⟩
      obtain ⟨f1, f2, f3, f4⟩ := pw_few i hi5
      obtain ⟨dl, hlo⟩ := id ql
      have s7 : pw 7 (60 * 2 ^ i) * pw 7 (60 * 2 ^ i) = pw 7 (60 * 2 ^ (i + 1)) := by rw [pw_mul, Nat.pow_succ]; congr 1; omega
      have s11 : pw 11 (55 * 2 ^ i) * pw 11 (55 * 2 ^ i) = pw 11 (55 * 2 ^ (i + 1)) := by rw [pw_mul, Nat.pow_succ]; congr 1; omega
      refine ⟨_, rfl, _, rfl, lo, lo, dl, dl, _, _, rfl, rfl, hlo, hlo, lo, lo, _, _, rfl, ql, ql, f1, f1, (by dsimp only; rw [s7]; exact no_big f2), fun _ l2 H4 e4 q4 => ?_⟩
      dsimp only at q4
      rw [s7] at q4
      have qh4 := ratq_ext qh e4
      obtain ⟨dh, hhi⟩ := id qh4
      refine ⟨_, rfl, _, rfl, hi, hi, dh, dh, _, _, rfl, rfl, hhi, hhi, hi, hi, _, _, rfl, qh4, qh4, f3, f3, (by dsimp only; rw [s11]; exact no_big f4), fun _ h2 H5 e5 q5 => ?_⟩
      dsimp only at q5
      rw [s11] at q5
      refine ⟨(by show 2 ≤ sizeLine; decide), fun tu htu => ?_⟩
      refine ⟨tu, _, rfl, SqT.of upd_same, rfl, _, _, rfl, _, _, rfl, rfl, ?_⟩
      exact ⟨_, l2, h2, rfl, ratq_ext (ratq_ext q4 e5) (Ext.new htu), ratq_ext q5 (Ext.new htu), tabs_ext (tabs_ext (tabs_ext tb3 e4) e5) (Ext.new htu)⟩
    rintro σ' H3 ⟨x2, lo, hi, rfl, ql, qh, tb3⟩
    refine seq_asg (fun x H' => ∃ tu lo hi, x = .ref tu ∧ H' tu = some (.tup [.ref lo, .ref hi]) ∧ Lw T lo hi H') (fun Q hQ => ?_) ?_
    · refine ⟨_, rfl, _, _, rfl, rfl, ⟨by decide, by decide, by decide⟩, fun l4 dl4 nl4 ml4 xl4 => mk_good nl4 ml4 xl4 (a := 1) (b := 7 ^ ((60 : Int)).toNat) (by decide +kernel) (by decide +kernel) (by decide +kernel) fun H4 e4 q4 => ⟨rfl, ?_⟩⟩
      have ql4 := ratq_ext ql e4
      obtain ⟨d1, h1⟩ := id ql4
      obtain ⟨d2, h2⟩ := id q4
      refine ⟨lo, l4, d1, d2, _, _, rfl, rfl, h1, h2, lo, l4, _, _, rfl, ql4, q4, pw_ends.1, pw_ends.2.1, (by dsimp only; rw [show Rat.divInt 1 (7 ^ ((60 : Int)).toNat) = pw 7 60 from rfl, pw_mul]; exact no_big end6.1), fun _ l5 H5 e5 q5 => ?_⟩
      dsimp only at q5
      rw [show Rat.divInt 1 (7 ^ ((60 : Int)).toNat) = pw 7 60 from rfl, pw_mul] at q5
      refine ⟨_, rfl, _, _, rfl, rfl, ⟨by decide, by decide, by decide⟩, fun l6 dl6 nl6 ml6 xl6 => mk_good nl6 ml6 xl6 (a := 1) (b := 11 ^ ((55 : Int)).toNat) (by decide +kernel) (by decide +kernel) (by decide +kernel) fun H6 e6 q6 => ⟨rfl, ?_⟩⟩
      have qh6 := ratq_ext (ratq_ext (ratq_ext qh e4) e5) e6
      obtain ⟨d3, h3⟩ := id qh6
      obtain ⟨d4, h4⟩ := id q6
      refine ⟨hi, l6, d3, d4, _, _, rfl, rfl, h3, h4, hi, l6, _, _, rfl, qh6, q6, pw_ends.2.2.1, pw_ends.2.2.2, (by dsimp only; rw [show Rat.divInt 1 (11 ^ ((55 : Int)).toNat) = pw 11 55 from rfl, pw_mul]; exact no_big end6.2), fun _ l7' H7 e7 q7 => ?_⟩
      dsimp only at q7
      rw [show Rat.divInt 1 (11 ^ ((55 : Int)).toNat) = pw 11 55 from rfl, pw_mul] at q7
      exact ⟨(by show 2 ≤ sizeLine; decide), fun tu htu => hQ _ _ ⟨tu, l5, l7', rfl, upd_same, ⟨ratq_ext (ratq_ext (ratq_ext q5 e6) e7) (Ext.new htu), ratq_ext q7 (Ext.new htu), tabs_ext (tabs_ext (tabs_ext (tabs_ext (tabs_ext tb3 e4) e5) e6) e7) (Ext.new htu)⟩⟩⟩
    rintro x H4 ⟨tu, lo, hi, rfl, htu, L4⟩
    refine ⟨tu, _, rfl, SqT.of htu, rfl, _, _, rfl, _, _, rfl, rfl, ?_⟩
    dsimp only
    refine seq_asg (fun x H' => ∃ l z1, x = .ref l ∧ H' l = some (.lst [.ref z1]) ∧ H' z1 = some (.tup [.str "many", .int 2000]) ∧ Lw T lo hi H') (fun Q hQ => ?_) ?_
    · refine ⟨L4.tab, fun Ha ea ta f => ?_⟩
      have La := L4.lam ea ta
      refine ⟨_, rfl, _, rfl, _, rfl, _, rfl, (by show 4 ≤ sizeLine; decide), fun p hp => ?_⟩
      have xp := Ext.new (o := .tup [.ref lo, .ref hi, .ref lo, .ref hi]) hp
      have Lp := La.ext xp
      refine ⟨_, rfl, .inr ⟨p, _, _, 1, 11860, rfl, rowsA upd_same Lp.lo Lp.hi, fun _ d H5 e5 hd => .inr ⟨rfl, d, rfl, hd, fun z hz => ?_⟩, fun w => absurd (end1.symm.trans w) (by decide)⟩⟩
      exact ⟨(by show 1 ≤ sizeLine; decide), fun l hl => hQ _ _ ⟨l, z, rfl, upd_same, Ext.new hl _ _ upd_same, ((Lp.ext e5).ext (Ext.new hz)).ext (Ext.new hl)⟩⟩
    rintro x H5 ⟨l, z1, rfl, hl, hz1, L5⟩
    dsimp only [gName]
    refine seq_any (fun σ' H' => σ' = [some (V.ref a), tn, x2, some (.ref l), some (.ref hi), some (.ref lo)] ∧ ∃ z2, H' l = some (.lst [.ref z1, .ref z2]) ∧ H' z1 = some (.tup [.str "many", .int 2000]) ∧ H' z2 = some (.tup [.str "many", .int 2000]) ∧ Lw T lo hi H') (fun D' hD => ?_) ?_
    · refine ⟨_, rfl, .inl ⟨rfl, _, SqL.of hl⟩, L5.tab, fun Ha ea ta f => ?_⟩
      have La := L5.lam ea ta
      refine ⟨_, rfl, _, rfl, (by show 2 ≤ sizeLine; decide), fun p hp => ?_⟩
      have xp := Ext.new (o := .tup [.ref lo, .ref hi]) hp
      have Lp := La.ext xp
      refine ⟨_, rfl, .inr ⟨p, _, _, 1, 11860, rfl, rowsB upd_same Lp.lo Lp.hi, (by decide), fun _ d H6 e6 hd => .inr ⟨rfl, d, rfl, hd, fun z hz => ?_⟩, fun w => absurd (end2.symm.trans w) (by decide)⟩⟩
      have xz := Ext.new (o := .tup [.str "many", .int 2000]) hz
      have hl6 := xz _ _ (e6 _ _ (xp _ _ (ea _ _ hl (fun _ z => by cases z))))
      have hz6 := xz _ _ (e6 _ _ (xp _ _ (ea _ _ hz1 (fun _ z => by cases z))))
      have L6 := (Lp.ext e6).ext xz
      have n1 : z1 ≠ l := fun e => by
        rw [e, hl6] at hz6
        cases hz6
      have n2 : z ≠ l := fun e => by
        rw [← e, upd_same] at hl6
        cases hl6
      refine ⟨l, _, _, rfl, rfl, hl6, (by show 1 < sizeLine; decide), hD _ _ ⟨rfl, z, upd_same, by rw [upd_ne n1]; exact hz6, by rw [upd_ne n2, upd_same], L6.lst hl6⟩⟩
    rintro σ' H6 ⟨rfl, z2, hl6, h61, h62, L6⟩
    refine seq_ifF (fun H' => True) (fun Q hQ => ?_) ?_
    · refine ⟨_, rfl, (by show 2 ≤ sizeLine; decide), fun w1 hw1 => ?_⟩
      have x1 := Ext.new (o := .tup [.str "many", .int 2000]) hw1
      refine ⟨(by show 2 ≤ sizeLine; decide), fun w2 hw2 => ?_⟩
      have x2 := Ext.new (o := .tup [.str "many", .int 2000]) hw2
      refine ⟨(by show 2 ≤ sizeLine; decide), fun w3 hw3 => ?_⟩
      have x3 := Ext.new (o := .lst [.ref w1, .ref w2]) hw3
      have y3 := x1.trans (x2.trans x3)
      refine ⟨_, _, .lst (SqL.of (y3 _ _ hl6)) (.cons (dp_many (y3 _ _ h61)) (.cons (dp_many (y3 _ _ h62)) .nil)), .lst (SqL.of upd_same) (.cons (dp_many (x3 _ _ (x2 _ _ upd_same))) (.cons (dp_many (x3 _ _ upd_same)) .nil)), (by decide +kernel), (by decide +kernel), ?_⟩
      rw [SeqAt.eqv_refl _ (by decide +kernel)]
      refine ⟨_, rfl, if_false_of rfl ?_⟩
      have L7 := L6.ext y3
      obtain ⟨dl, hlo⟩ := id L7.lo
      refine ⟨_, rfl, _, rfl, _, rfl, lo, dl, _, rfl, hlo, lo, _, rfl, L7.lo, end6.1, fun n7 H8 e8 q8 => ?_⟩
      have L8 := L7.ext e8
      refine ⟨(by show 3 ≤ sizeLine; decide), fun p hp => ?_⟩
      have xp := Ext.new (o := .tup [.ref lo, .ref hi, .ref n7]) hp
      have L9 := L8.ext xp
      refine ⟨_, rfl, .inr ⟨p, _, _, 1, 11860, rfl, rowsC upd_same L9.lo L9.hi (ratq_ext q8 xp), (by rw [end3]; exact no_big end6.2), fun _ r H10 e10 q10 => ?_⟩⟩
      rw [end3] at q10
      have L10 := L9.ext e10
      refine ⟨_, rfl, ?_⟩
      refine ne_same T q10 L10.hi rfl ?_
      refine if_false_of rfl ?_
      obtain ⟨dl, hlo⟩ := id L10.lo
      refine ⟨_, rfl, _, rfl, _, rfl, _, rfl, lo, dl, _, rfl, hlo, lo, _, rfl, L10.lo, end6.1, fun n8 H11 e11 q11 => ?_⟩
      have L11 := L10.ext e11
      obtain ⟨dh, hhi⟩ := id L11.hi
      refine ⟨_, rfl, hi, dh, _, rfl, hhi, hi, _, rfl, L11.hi, end6.2, fun n9 H12 e12 q12 => ?_⟩
      have L12 := L11.ext e12
      refine ⟨(by show 5 ≤ sizeLine; decide), fun p2 hp2 => ?_⟩
      have xp2 := Ext.new (o := .tup [.ref hi, .ref lo, .ref hi, .ref n8, .ref n9]) hp2
      have L13 := L12.ext xp2
      refine ⟨_, rfl, .inr ⟨p2, _, _, 1, 11860, rfl, rowsD upd_same L13.lo L13.hi (ratq_ext (ratq_ext q11 e12) xp2) (ratq_ext q12 xp2), (by decide), (by rw [end4]; exact no_big end5), fun _ r2 H14 e14 q14 => ?_⟩⟩
      rw [end4] at q14
      have L14 := L13.ext e14
      obtain ⟨dh2, hhi2⟩ := id L14.hi
      refine ⟨_, rfl, hi, dh2, _, rfl, hhi2, rf_over _ _, fun v dv nv mv xv => mk_good nv mv xv (a := 5) (b := 1) (by decide +kernel) (by decide +kernel) (by decide) fun H15 e15 q15 => ⟨rfl, ?_⟩⟩
      have L15 := L14.ext e15
      refine ⟨hi, _, _, rfl, L15.hi, end6.2, .inl ⟨v, _, rfl, q15, five_ok.1, (fun w => absurd w five_ok.2), (fun _ => no_big end5), fun _ _ r3 H16 e16 q16 => ?_⟩⟩
      refine ne_same T (ratq_ext (ratq_ext q14 e15) e16) q16 rfl ?_
      exact hQ _ trivial
    intro H7 _
    refine fun a1 d1 n1 m1 y1 => mk_good n1 m1 y1 (a := 1) (b := 1) (by decide) (by decide) (by decide) fun H8 e8 q8 => ⟨rfl, ?_⟩
    refine fun a2 d2 n2 m2 y2 => mk_good n2 m2 y2 (a := 2) (b := 1) (by decide) (by decide) (by decide) fun H9 e9 q9 => ⟨rfl, ?_⟩
    refine ⟨(by show 2 ≤ sizeLine; decide), fun p hp => ?_⟩
    have xp := Ext.new (o := .tup [.ref a1, .ref a2]) hp
    refine ⟨_, rfl, .inr ⟨p, [a1, a2], [Rat.divInt 1 1, Rat.divInt 2 1], 200, 2401, rfl, rows_of upd_same (.cons (ratq_ext (ratq_ext q8 e9) xp) (.cons (ratq_ext q9 xp) .nil)) (sm_two (by decide +kernel)) (by decide), (by decide), no_big (by decide +kernel), fun _ r H10 e10 q10 => ?_⟩⟩
    obtain ⟨dr, hr10⟩ := id q10
    refine ⟨_, rfl, r, dr, _, rfl, hr10, r, _, _, rfl, q10, (by decide +kernel), (by decide +kernel), _, rfl, ?_⟩
    rw [str_a]
    refine fun b1 f1 g1 h1 z1 => mk_good g1 h1 z1 (a := 1) (b := 2) (by decide) (by decide) (by decide) fun H11 e11 q11 => ⟨rfl, ?_⟩
    refine fun b2 f2 g2 h2 z2 => mk_good g2 h2 z2 (a := 1) (b := 6) (by decide) (by decide) (by decide) fun H12 e12 q12 => ⟨rfl, ?_⟩
    refine ⟨(by show 2 ≤ sizeLine; decide), fun p2 hp2 => ?_⟩
    have xp2 := Ext.new (o := .tup [.ref b1, .ref b2]) hp2
    refine ⟨_, rfl, .inr ⟨p2, [b1, b2], [Rat.divInt 1 2, Rat.divInt 1 6], 200, 2401, rfl, rows_of upd_same (.cons (ratq_ext (ratq_ext q11 e12) xp2) (.cons (ratq_ext q12 xp2) .nil)) (sm_two (by decide +kernel)) (by decide), no_big (by decide +kernel), fun _ r2 H13 e13 q13 => ?_⟩⟩
    obtain ⟨dr2, hr13⟩ := id q13
    refine ⟨_, rfl, r2, dr2, _, rfl, hr13, r2, _, _, rfl, q13, (by decide +kernel), (by decide +kernel), _, rfl, ?_⟩
    rw [str_b]
    refine ⟨(by show 2 ≤ sizeLine; decide), fun w1 hw1 => ⟨(by show 2 ≤ sizeLine; decide), fun w2 hw2 => ?_⟩⟩
    exact eq_same (SqL.of (Ext.new hw2 _ _ upd_same)) (SqL.of upd_same) (.cons (.str _) (.cons (.str _) .nil)) (by decide +kernel) (by decide +kernel) (k _)
end
end K03

namespace K03
open PySem PySem.Spec PyProof.Rows L2 L3
section
variable {P : Program} {w : World} {K : PySem.W.Frag} {mg : Str → Option Value} {base : Heap}

theorem law_at {l : PySem.W.OpenLaw} {h : Heap} {fa : Addr} (T : TX K mg) (KX : K.In h) (hT1 : h.get? 365 = some (PySem.W.tabObj #[])) (hT2 : h.get? 370 = some (PySem.W.tabObj #[])) (hfa : mg "law" = some (.ref fa)) : LamX.LawAtS l w K (L2.CX l.prog w) 12 63 "_law_script" mg fa h := by
  have e : fa = T.f_law := by
    have z := T.g_law
    rw [hfa] at z
    injection z with z
    injection z
  subst e
  obtain ⟨oc, od, kV, dc, pm, an, ct, osl, eD, lk, hcd⟩ := T.lx_law
  have two : ∀ p ∈ [(T.cc__law_right, T.tt__law_right), (T.cc_law, T.tt_law)], p = (T.cc__law_right, T.tt__law_right) ∨ p = (T.cc_law, T.tt_law) := fun p hp => by
    simpa using hp
  refine ⟨T.d_law, [(T.cc__law_right, T.tt__law_right), (T.cc_law, T.tt_law)], spLaw K (Tb T), fun p hp => ?_, fun p hp => ?_, fun p hp => ?_, fun s u => ?_, fun H a ns hn _ hH hS => ?_, fun base _ _ TB => ?_⟩
  · rcases two p hp with rfl | rfl
    · show h.get? T.tt__law_right = _
      rw [T.tq__law_right]
      exact hT1
    · show h.get? T.tt_law = _
      rw [T.tq_law]
      exact hT2
  · rcases two p hp with rfl | rfl
    · exact T.ln__law_right
    · exact T.ln_law
  · rcases two p hp with rfl | rfl
    · exact PySem.W.codeHd_of_K KX T.lc__law_right
    · exact PySem.W.codeHd_of_K KX T.lc_law
  · rw [eD]
    exact BindsTo.of_eq rfl
  · refine ⟨a, ns, rfl, hS, hn, fun p hp => ?_, fun _ => rfl⟩
    rcases List.mem_cons.mp hp with rfl | hp
    · exact LamX.TabS.nil (hH _ List.mem_cons_self)
    · rw [List.mem_singleton.mp hp]
      exact LamX.TabS.nil (hH _ (List.mem_cons_of_mem _ List.mem_cons_self))
  · exact ok_law T (TB _ (List.mem_cons_of_mem _ List.mem_cons_self)) (TB _ List.mem_cons_self)
theorem cx_no {H : Hp} {s s' : Shared} {e : Value} (z : L2.CX P w [] H s (fun _ _ _ => False) e s') : False := by
  obtain ⟨_, _, _, _, _, _, _, _, _, _, _, _, z⟩ := z
  exact z
end
end K03

open PySem PySem.W PyProof.Rows L2 in
set_option maxHeartbeats 0 in
theorem PySem.Challenge.cw_worthstead_k03_sums_and_means_holds : PySem.Challenge.rw_worthstead_k03_sums_and_means.Holds := by
  w_on; o_law; k_head; (case hw => w_witness2)
  k_fill
  refine LamX.walk_ofTs (CX := fun w => L2.CX PySem.Challenge.rw_worthstead_k03_sums_and_means.prog w) (k := 12) (n := 63) (x := "_law_script") rfl (by decide) rfl ⟨rfl, by decide, by decide⟩ (fun w h Y => km_in_of Y) (fun w mg fa h Y KX G hfa => ?_) (fun w H s e s' z => K03.cx_no z)
  have hT8 := km_tabs_of Y
  refine' Nonempty.elim (K03.mkT  KX G ?h0 ?h1 ?h2 ?h3 ?h4 ?h5 ?h6 ?h7 ?h8 ?h9 ?h10 ?h11 ?h12 ?h13 ?h14 ?h15 ?h16 ?h17 ?h18 ?h19 ?h20 ?h21 ?h22 ?h23 ?h24 ?h25 ?h26 ?h27 ?h28 ?h29 ?h30 ?h31 ?h32 ?h33 ?h34 ?h35 ?h36 ?h37 ?h38 ?h39 ?h40 ?h41 ?h42 ?h43 ?h44 ?h45 ?h46 ?h47 ?h48 ?h49 ?h50 ?h51 ?h52 ?h53 ?h54 ?h55 ?h56 ?h57 ?h58 ?h59 ?h60 ?h61 ?h62 ?h63 ?h64 ?h65 ?h66 ?h67 ?h68 ?h69 ?h70 ?h71 ?h72 ?h73 ?h74 ?h75 ?h76 ?h77 ?h78 ?h79 ?h80 ?h81 ?h82 ?h83 ?h84 ?h85 ?h86 ?h87 ?h88 ?h89 ?h90 ?h91 ?h92 ?h93 ?h94 ?h95 ?h96 ?h97 ?h98 ?h99 ?h100 ?h101 ?h102 ?h103 ?h104 ?h105 ?h106 ?h107 ?h108 ?h109 ?h110 ?h111 ?h112 ?h113 ?h114 ?h115 ?h116 ?h117 ?h118 ?h119 ?h120 ?h121 ?h122 ?h123 ?h124 ?h125 ?h126 ?h127 ?h128 ?h129 ?h130 ?h131 ?h132 ?h133 ?h134 ?h135 ?h136 ?h137 ?h138 ?h139 ?h140 ?h141 ?h142 ?h143 ?h144 ?h145 ?h146 ?h147 ?h148 ?h149 ?h150 ?h151 ?h152 ?h153 ?h154 ?h155 ?h156 ?h157 ?h158 ?h159 ?h160 ?h161 ?h162 ?h163 ?h164 ?h165 ?h166 ?h167 ?h168 ?h169 ?h170 ?h171 ?h172 ?h173 ?h174 ?h175 ?h176 ?h177 ?h178 ?h179 ?h180 ?h181 ?h182 ?h183 ?h184 ?h185 ?h186 ?h187 ?h188 ?h189 ?h190 ?h191 ?h192 ?h193 ?h194 ?h195 ?h196 ?h197 ?h198 ?h199 ?h200 ?h201 ?h202 ?h203 ?h204 ?h205 ?h206 ?h207 ?h208 ?h209 ?h210 ?h211 ?h212 ?h213 ?h214 ?h215 ?h216 ?h217 ?h218 ?h219 ?h220 ?h221 ?h222 ?h223 ?h224 ?h225 ?h226 ?h227 ?h228 ?h229 ?h230 ?h231 ?h232 ?h233 ?h234 ?h235 ?h236 ?h237 ?h238 ?h239 ?h240 ?h241) ?hrest
  (case h0 => k_is)
  (case h1 => kx_is)
  (case h2 => kx_is)
  (case h3 => k_is)
  (case h4 => k_is)
  (case h5 => k_is)
  (case h6 => k_is)
  (case h7 => k_is)
  (case h8 => k_is)
  (case h9 => k_is)
  (case h10 => k_is)
  (case h11 => k_is)
  (case h12 => k_is)
  (case h13 => k_is)
  (case h14 => k_is)
  (case h15 => k_is)
  (case h16 => k_is)
  (case h17 => k_is)
  (case h18 => kx_is)
  (case h19 => kx_is)
  (case h20 => k_is)
  (case h21 => k_is)
  (case h22 => k_is)
  (case h23 => k_is)
  (case h24 => k_is)
  (case h25 => k_is)
  (case h26 => k_is)
  (case h27 => k_is)
  (case h28 => k_is)
  (case h29 => k_is)
  (case h30 => k_is)
  (case h31 => k_is)
  (case h32 => k_is)
  (case h33 => k_is)
  (case h34 => k_is)
  (case h35 => k_exc)
  (case h36 => k_is)
  (case h37 => k_is)
  (case h38 => k_is)
  (case h39 => k_is)
  (case h40 => k_is)
  (case h41 => k_is)
  (case h42 => k_is)
  (case h43 => k_is)
  (case h44 => k_is)
  (case h45 => k_is)
  (case h46 => k_is)
  (case h47 => k_is)
  (case h48 => k_is)
  (case h49 => k_is)
  (case h50 => k_is)
  (case h51 => k_is)
  (case h52 => k_is)
  (case h53 => k_is)
  (case h54 => kit_is)
  (case h55 => k_is)
  (case h56 => kit_is)
  (case h57 => kit_is)
  (case h58 => k_is)
  (case h59 => kit_is)
  (case h60 => kit_is)
  (case h61 => k_is)
  (case h62 => kit_is)
  (case h63 => kit_is)
  (case h64 => k_is)
  (case h65 => kit_is)
  (case h66 => kit_is)
  (case h67 => k_is)
  (case h68 => kit_is)
  (case h69 => kit_is)
  (case h70 => k_is)
  (case h71 => kit_is)
  (case h72 => kit_is)
  (case h73 => k_is)
  (case h74 => kit_is)
  (case h75 => kit_is)
  (case h76 => k_is)
  (case h77 => k_is)
  (case h78 => k_is)
  (case h79 => k_is)
  (case h80 => k_is)
  (case h81 => k_is)
  (case h82 => k_is)
  (case h83 => k_is)
  (case h84 => k_is)
  (case h85 => k_is)
  (case h86 => k_is)
  (case h87 => k_is)
  (case h88 => k_is)
  (case h89 => k_is)
  (case h90 => k_is)
  (case h91 => k_is)
  (case h92 => k_is)
  (case h93 => k_is)
  (case h94 => k_is)
  (case h95 => k_is)
  (case h96 => k_is)
  (case h97 => k_is)
  (case h98 => k_is)
  (case h99 => k_is)
  (case h100 => k_is)
  (case h101 => k_is)
  (case h102 => k_is)
  (case h103 => k_is)
  (case h104 => k_is)
  (case h105 => k_is)
  (case h106 => k_is)
  (case h107 => k_is)
  (case h108 => k_is)
  (case h109 => k_is)
  (case h110 => k_is)
  (case h111 => k_is)
  (case h112 => k_is)
  (case h113 => k_is)
  (case h114 => k_is)
  (case h115 => k_is)
  (case h116 => k_is)
  (case h117 => k_is)
  (case h118 => k_is)
  (case h119 => k_is)
  (case h120 => k_is)
  (case h121 => k_is)
  (case h122 => k_is)
  (case h123 => k_is)
  (case h124 => k_is)
  (case h125 => k_is)
  (case h126 => k_is)
  (case h127 => k_is)
  (case h128 => k_is)
  (case h129 => k_is)
  (case h130 => k_is)
  (case h131 => k_is)
  (case h132 => k_is)
  (case h133 => k_is)
  (case h134 => k_is)
  (case h135 => k_is)
  (case h136 => k_is)
  (case h137 => k_is)
  (case h138 => k_is)
  (case h139 => k_is)
  (case h140 => k_is)
  (case h141 => k_is)
  (case h142 => k_is)
  (case h143 => k_is)
  (case h144 => k_is)
  (case h145 => k_is)
  (case h146 => k_is)
  (case h147 => k_is)
  (case h148 => k_is)
  (case h149 => k_is)
  (case h150 => k_is)
  (case h151 => k_is)
  (case h152 => k_is)
  (case h153 => k_is)
  (case h154 => k_is)
  (case h155 => k_is)
  (case h156 => k_is)
  (case h157 => kernel_rfl)
  (case h158 => kernel_rfl)
  (case h159 => k_is)
  (case h160 => k_is)
  (case h161 => k_is)
  (case h162 => k_is)
  (case h163 => kernel_rfl)
  (case h164 => kernel_rfl)
  (case h165 => k_is)
  (case h166 => k_is)
  (case h167 => k_is)
  (case h168 => k_is)
  (case h169 => k_is)
  (case h170 => k_is)
  (case h171 => k_is)
  (case h172 => k_is)
  (case h173 => k_is)
  (case h174 => k_is)
  (case h175 => k_is)
  (case h176 => k_is)
  (case h177 => k_is)
  (case h178 => k_is)
  (case h179 => k_is)
  (case h180 => k_is)
  (case h181 => k_is)
  (case h182 => k_is)
  (case h183 => k_is)
  (case h184 => k_is)
  (case h185 => k_is)
  (case h186 => k_is)
  (case h187 => k_is)
  (case h188 => k_is)
  (case h189 => k_is)
  (case h190 => k_is)
  (case h191 => k_is)
  (case h192 => k_is)
  (case h193 => k_is)
  (case h194 => k_is)
  (case h195 => k_is)
  (case h196 => k_is)
  (case h197 => k_is)
  (case h198 => k_is)
  (case h199 => k_is)
  (case h200 => k_is)
  (case h201 => k_is)
  (case h202 => k_is)
  (case h203 => k_is)
  (case h204 => k_is)
  (case h205 => k_is)
  (case h206 => k_is)
  (case h207 => k_is)
  (case h208 => k_is)
  (case h209 => k_is)
  (case h210 => k_is)
  (case h211 => k_is)
  (case h212 => k_is)
  (case h213 => k_is)
  (case h214 => k_is)
  (case h215 => k_is)
  (case h216 => k_is)
  (case h217 => k_is)
  (case h218 => k_is)
  (case h219 => k_is)
  (case h220 => k_is)
  (case h221 => k_is)
  (case h222 => k_is)
  (case h223 => k_is)
  (case h224 => k_is)
  (case h225 => k_is)
  (case h226 => k_is)
  (case h227 => k_is)
  (case h228 => k_is)
  (case h229 => k_is)
  (case h230 => k_is)
  (case h231 => k_is)
  (case h232 => k_is)
  (case h233 => k_is)
  (case h234 => k_is)
  (case h235 => k_is)
  (case h236 => k_is)
  (case h237 => k_is)
  (case h238 => k_is)
  (case h239 => k_is)
  (case h240 => k_is)
  (case h241 => k_is)
  (case hrest => intro T; exact K03.law_at T KX (hT8 365 (by decide)) (hT8 370 (by decide)) hfa)
