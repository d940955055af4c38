import PyProof.Rows.All
import Wide.All
import OpenK.AllK
import Wide.FinOn
import HandS.ForMost
import HandS.ForExc
import HandS.Property
import HandS.IsInst
import KE.KExcInit
import HandS.TryMany
import HandS.Wide
import HandS.WideBits
import HandS.Gcd
import HandS.FStr
import HandS.Defaults
import PyProof.StrBlock2
import PyProof.Rows.StrOr
import HandS.Lambda
import HandS.OwnEq
import PyProof.NeKinds
import KE.KIntText
import PyProof.Rows.Digits
import HandS.EndTab
import HandS.ExcBuiltin
import HandS.Style
import HandS.Comp
import HandS.AnyAll
import HandS.Zip
import HandS.Remove
import HandS.TupAny
import HandS.Text
import HandS.ClsMeth
import KE.DataEq
import KE.KExcLine
import PySem.Challenge.RW_worthstead_k02_whole_texts_of_ratios
set_option Elab.async false
set_option linter.all false
set_option maxRecDepth 100000
set_option maxHeartbeats 4000000
namespace L3
open PySem PySem.Spec PyProof.Rows L2

/-- a special method of the class's own, at f -/
structure Own (K : PySem.W.Frag) (C : Addr) (m : Str) (f : Addr) : Prop where
  at_ : PySem.W.findIn K (.ref C) m = some (some (.ref f))
  fn : PySem.W.isFn K (.ref f) = true

section
variable {X : Cx} {CX : CXT} {k : Nat} {C f : Addr} {fd : FuncData} {ps : List Str} {sp : Sp} {E : XK} {pins : List (Addr × Obj)} {σ : L2.St} {H : Hp} {s : Shared}

theorem run_in {A : Around} {Q : VK} {us : List Value} {vs : List V} (F : FnOk X.prog X.w X.K X.mg X.base CX k f fd ps sp) (hr : Room k A) (e0 : Env0 X.prog X.w X.K X.mg X.base A X.stack s H) (hb : Binds X.K fd ps []) (hx : Passes CX X E)
    (I : Inv X pins σ H s) (r : Vals vs us) (h : sp vs H Q E) : wpAny (model X.prog X.w) A (call (.ref f) us) (EP X pins σ Q) X.xe s := by
  have hl : (us ++ []).length = ps.length := by rw [List.append_nil, ← r.length]; exact F.len _ _ _ _ h
  have hb2 := hb s us I.kIn hl
  rw [List.append_nil] at hb2
  refine wpAny_call (codeAny_mono (F.run A X.stack s H ⟨us, []⟩ us vs Q E hr e0 hb2 r h) fun r s' hq => ?_)
  cases r with
  | error e => exact hx pins σ H s e s' I hq
  | ok fl =>
    cases fl with
    | ret u => exact I.after hq
    | next => exact False.elim hq
    | brk => exact False.elim hq
    | cont => exact False.elim hq

/-- the promise of a special method at an instance of C -/
def rOwn1 (C : Addr) (sp : Sp) (E : XK) : V → Hp → VK → Prop := fun x H Q => ∃ a dx fs, x = .ref a ∧ H a = some (.ins C dx fs) ∧ sp [.ref a] H Q E

theorem un_ownNeg (o : Own X.K C "__neg__" f) (F : FnOk X.prog X.w X.K X.mg X.base CX k f fd ps sp) (hr : Room k X.A) (hb : Binds X.K fd ps []) (hx : Passes CX X E) : UnR X (unaryOp .USub) (rOwn1 C sp E) := by
  intro pins s σ H x v Q I rx h
  obtain ⟨a, dx, fs, rfl, ea, h⟩ := h
  cases (show v = Value.ref a from rx)
  obtain ⟨mA, O, _⟩ := ins_get I.hok ea
  obtain ⟨od, J, _⟩ := O.look
  obtain ⟨m, hF⟩ := I.fr
  exact PySem.W.ksp_neg hF I.ok.mod.kin J o.at_ o.fn (run_in (us := [.ref a]) (vs := [.ref a]) F hr I.env0 hb hx I (.cons rfl .nil) h)

theorem abs_K {prog : Program} {w : World} {A : Around} {E : Value → Shared → Prop} {s : Shared} {K : PySem.W.Frag} {x C f : Addr} {ox : Obj} {od : Option Obj} {Q : Value → Shared → Prop} (X : K.In s.heap) (I : PySem.W.InstAt s.heap x ox C od)
    (hs : PySem.W.findIn K (.ref C) "__abs__" = some (some (.ref f))) (hf : PySem.W.isFn K (.ref f) = true)
    (h : wpAny (model prog w) A.in1 (call (.ref f) [.ref x]) Q E s) : wpAny (model prog w) A (call (.builtin "abs") [.ref x]) Q E s := by
  refine Calls.call_function_entry kind_abs plain_abs entry_abs (args_abs _) ?_
  unfold Builtin.«abs»
  refine wpAny_bind (m := oneArg "abs" _) (wpAny_pure ?_)
  refine wpAny_bind (m := callSpecial? (.ref x) (Str.ofString "__abs__")) (PySem.W.special_fn X I hs (beq_iff_eq.mp hf) (wpAny_mono h (fun r s' hr => ?_) fun _ _ y => y))
  exact wpAny_pure ⟨_, rfl, hr⟩

theorem call_ownAbs (o : Own X.K C "__abs__" f) (F : FnOk X.prog X.w X.K X.mg X.base CX k f fd ps sp) (hr : Room (k + 1) X.A) (hb : Binds X.K fd ps []) (hx : Passes CX X E) : CallR X (.builtin "abs") (fun xs H Q => ∃ x, xs = [x] ∧ rOwn1 C sp E x H Q) := by
  intro pins s σ H xs us Q I r h
  obtain ⟨_, rfl, a, dx, fs, rfl, ea, h⟩ := h
  obtain ⟨u, rfl, rx⟩ := vals1 r
  cases (show u = Value.ref a from rx)
  obtain ⟨mA, O, _⟩ := ins_get I.hok ea
  obtain ⟨od, J, _⟩ := O.look
  exact abs_K I.kIn J o.at_ o.fn (run_in (us := [.ref a]) (vs := [.ref a]) F hr.in1 I.env0.in1 hb hx I (.cons rfl .nil) h)

/-- str(x) -/
theorem call_ownStr (o : Own X.K C "__str__" f) (F : FnOk X.prog X.w X.K X.mg X.base CX k f fd ps sp) (hr : Room (k + 2) X.A) (hb : Binds X.K fd ps []) (hx : Passes CX X E) :
    CallR X (.type "str") (fun xs H Q => ∃ x, xs = [x] ∧ rOwn1 C sp E x H (fun v H' => ∃ z, v = .str z ∧ Q (.str z) H')) := by
  intro pins s σ H xs us Q I r h
  obtain ⟨_, rfl, a, dx, fs, rfl, ea, h⟩ := h
  obtain ⟨u, rfl, rx⟩ := vals1 r
  cases (show u = Value.ref a from rx)
  obtain ⟨mA, O, _⟩ := ins_get I.hok ea
  obtain ⟨od, J, _⟩ := O.look
  refine PySem.W.kso_call hr.in1.in1.units0 I.kIn J o.at_ o.fn (wpAny_mono (run_in (us := [.ref a]) (vs := [.ref a]) F hr.in1.in1 I.env0.in1.in1 hb hx I (.cons rfl .nil) h) (fun u s' q => ?_) fun _ _ y => y)
  obtain ⟨v, H', I', rv, z, rfl, q⟩ := q
  obtain ⟨t, rfl⟩ := (show ∃ t, u = Value.str z t from rv)
  exact ⟨.str z, H', I', ⟨_, rfl⟩, q⟩

/-- truth of an instance by its own __bool__ -/
def rTruOwn (C : Addr) (sp : Sp) (E : XK) : V → Hp → (Bool → Hp → Prop) → Prop := fun x H Q => rOwn1 C sp E x H (fun v H' => ∃ b, v = .bl b ∧ Q b H')
theorem tru_own (o : Own X.K C "__bool__" f) (F : FnOk X.prog X.w X.K X.mg X.base CX k f fd ps sp) (hr : Room k X.A) (hb : Binds X.K fd ps []) (hx : Passes CX X E) : TruR X (rTruOwn C sp E) := by
  intro pins s σ H x v Q I rx h
  obtain ⟨a, dx, fs, rfl, ea, h⟩ := h
  cases (show v = Value.ref a from rx)
  obtain ⟨mA, O, _⟩ := ins_get I.hok ea
  obtain ⟨od, J, _⟩ := O.look
  obtain ⟨m, hF⟩ := I.fr
  refine PySem.W.truthy_K hF I.ok.mod.kin J o.at_ o.fn (wpAny_mono (run_in (us := [.ref a]) (vs := [.ref a]) F hr I.env0 hb hx I (.cons rfl .nil) h) (fun u s' q => ?_) fun _ _ y => y)
  obtain ⟨v, H', I', rv, z, rfl, q⟩ := q
  cases (show u = Value.bool z from rv)
  exact ⟨H', I', q⟩
/-- any expression whose test is its value's truth, by a TruR -/
theorem pt_tru {a : Expr} {ta : TE} {r : V → Hp → (Bool → Hp → Prop) → Prop} (ht : TruR X r) (ha : PE X a ta) (he : ∀ whole, isTrue a X.env whole = (do let v ← whole; standAt a.pos; holding [v] (truthy v))) :
    PT X a (fun σ H Q => ta σ H fun x H' => r x H' Q) := by
  refine ⟨fun pins s σ H Q I h => ?_⟩
  exact isTrue_plain (thn (ha.run pins s σ H _ I h) fun v s1 ⟨x, H1, I1, r1, q1⟩ => ht pins s1 σ H1 x v Q I1 r1 q1) (he _)

theorem looks_at {M : Model} {h : Heap} {a : Addr} {o : Obj} {c : Value} (ha : h.get? a = some o) (hc : o.cls = c) : PySem.W.Looks M h (typeOf (.ref a)) c := fun A Q E s k q => wpAny_typeOf_ref (k _ _ ha) (by rw [hc]; exact q)
theorem tyLooks {y : V} {u t : Value} (I : Inv X pins σ H s) (ry : RelV y u) (ty : TyOf X.K H y t) : PySem.W.Looks (model X.prog X.w) s.heap (typeOf u) t := by
  cases ty with
  | non => cases (show u = Value.none from ry); exact PySem.W.Looks.of_pure rfl
  | bl y => cases (show u = Value.bool y from ry); exact PySem.W.Looks.of_pure rfl
  | int i => obtain ⟨t, q⟩ := (show ∃ t, u = Value.int i t from ry); cases q; exact PySem.W.Looks.of_pure rfl
  | str y => obtain ⟨t, q⟩ := (show ∃ t, u = Value.str y t from ry); cases q; exact PySem.W.Looks.of_pure rfl
  | flt y => obtain ⟨t, q⟩ := (show ∃ t, u = Value.float y t from ry); cases q; exact PySem.W.Looks.of_pure rfl
  | @lst a xs ea =>
    cases (show u = Value.ref a from ry)
    obtain ⟨_, _, n, _, h1⟩ := (show ObjOk X.prog X.w H s.heap a (.lst xs) from I.hok a _ ea)
    exact looks_at h1 rfl
  | @frz a ob xs ea =>
    cases (show u = Value.ref a from ry)
    obtain ⟨_, _, _, n, _, h1⟩ := (show ObjOk X.prog X.w H s.heap a (.frz ob (.lst xs)) from I.hok a _ ea)
    exact looks_at h1 rfl
  | @tup a xs ea =>
    cases (show u = Value.ref a from ry)
    obtain ⟨_, _, _, p⟩ := (show ObjOk X.prog X.w H s.heap a (.tup xs) from I.hok a _ ea)
    obtain ⟨o, h1, h2, _⟩ := p
    exact looks_at h1 h2
  | @dK a kvs ea =>
    cases (show u = Value.ref a from ry)
    obtain ⟨_, _, vs, _, p⟩ := (show ObjOk X.prog X.w H s.heap a (.dK kvs) from I.hok a _ ea)
    obtain ⟨o, es, ep, h1, h2, _⟩ := p
    exact looks_at h1 h2.1
  | @dT a kvs ea =>
    cases (show u = Value.ref a from ry)
    obtain ⟨_, _, xs, _, o, es, ep, h1, h2, _⟩ := (show ObjOk X.prog X.w H s.heap a (.dT kvs) from I.hok a _ ea)
    exact looks_at h1 h2.1
  | @ins a C dx fs ea cl ha hn htk hm =>
    cases (show u = Value.ref a from ry)
    obtain ⟨mA, O, _⟩ := ins_get I.hok ea
    obtain ⟨od, J, _⟩ := O.look
    exact J.type

/-- a comparison, a call, .. by the class's own method of two, at an instance x of C and any y of a known type that is no class below C -/
def rOwn2 (K : PySem.W.Frag) (C : Addr) (sp : Sp) (E : XK) : R2 := fun x y H Q => ∃ a dx fs t, x = .ref a ∧ H a = some (.ins C dx fs) ∧ TyOf K H y t ∧ PySem.W.notFirst K C t = true ∧ sp [.ref a, y] H (fun v H' => ∃ b, v = .bl b ∧ Q (.bl b) H') E
theorem op_ownCmp {op : CmpOp} (o : Own X.K C (cmpInfo op).2.1 f) (F : FnOk X.prog X.w X.K X.mg X.base CX k f fd ps sp) (hr : Room k X.A) (hb : Binds X.K fd ps []) (hx : Passes CX X E)
    (hop : ∀ v u, compareOp op v u = richCompare op v u) : OpR X (compareOp op) (rOwn2 X.K C sp E) := by
  intro pins s σ H x y v u Q I rx ry h
  obtain ⟨a, dx, fs, t, rfl, ea, ty, nf, h⟩ := h
  cases (show v = Value.ref a from rx)
  obtain ⟨mA, O, _⟩ := ins_get I.hok ea
  obtain ⟨od, J, _⟩ := O.look
  obtain ⟨m, hF⟩ := I.fr
  rw [hop]
  refine PySem.W.cmp_K hr.units0 hF I.ok.mod.kin J (tyLooks I ry ty) nf o.at_ o.fn (wpAny_mono (run_in (us := [.ref a, u]) (vs := [.ref a, y]) F hr I.env0 hb hx I (.cons rfl (.cons ry .nil)) h) (fun u s' q => ?_) fun _ _ y => y)
  obtain ⟨v, H', I', rv, z, rfl, q⟩ := q
  cases (show u = Value.bool z from rv)
  exact ⟨.bl z, H', I', rfl, q⟩
theorem op_ownEq (o : Own X.K C "__eq__" f) (F : FnOk X.prog X.w X.K X.mg X.base CX k f fd ps sp) (hr : Room k X.A) (hb : Binds X.K fd ps []) (hx : Passes CX X E) : OpR X (compareOp .Eq) (rOwn2 X.K C sp E) :=
  op_ownCmp (op := .Eq) o F hr hb hx fun _ _ => rfl

theorem ifBoundB_K {M : Model} {A : Around} {E : Value → Shared → Prop} {s : Shared} {K : PySem.W.Frag} {x C : Addr} {ox : Obj} {od : Option Obj} {name : Str} {id : String} {args : List Value} {Q : Option Value → Shared → Prop} (X : K.In s.heap) (I : PySem.W.InstAt s.heap x ox C od) (hs : PySem.W.findIn K (.ref C) name = some (some (.builtin id)))
    (hb : ∀ self, bindSpecial (.builtin id) self = pure (.builtin id, [self])) (h : wpAny M A (call (.builtin id) (.ref x :: args)) (fun v => Q (some v)) E s) : wpAny M A (callSpecialIfBound? (.ref x) name args) Q E s := by
  simp only [callSpecialIfBound?, bindSpecialIfBound?]
  refine wpAny_holding (wpAny_bind (wpAny_bind (wpAny_bind (I.type.here ((PySem.W.looks_findIn X hs).here ?_)))))
  refine wpAny_bind (wpAny_askSetting (wpAny_ite ?_))
  have fin : wpAny M A (call (.builtin id) ([.ref x] ++ args) >>= fun v => pure (some v)) Q E s := wpAny_bind (wpAny_mono h (fun v s' h' => wpAny_pure h') fun _ _ h' => h')
  split
  · exact wpAny_bind ((PySem.W.Looks.of_pure (hb _)).here (wpAny_pure (by exact fin)))
  · exact wpAny_tryCatch (wpAny_bind ((PySem.W.Looks.of_pure (hb _)).here (wpAny_pure (by exact fin))))
theorem one_ne {prog : Program} {w : World} {A : Around} {E : Value → Shared → Prop} {s : Shared} {K : PySem.W.Frag} {x C f : Addr} {ox : Obj} {od : Option Obj} {b : Value} {Q : Value → Shared → Prop} (hu : A.units + 1 < cLine) (X : K.In s.heap) (I : PySem.W.InstAt s.heap x ox C od)
    (hs : PySem.W.findIn K (.ref C) "__eq__" = some (some (.ref f))) (hf : PySem.W.isFn K (.ref f) = true) (hne : PySem.W.findIn K (.ref C) "__ne__" = some (some (.builtin "object.__ne__"))) (hm : PySem.W.mroIn K C (.type "object") = some true)
    (h : wpAny (model prog w) A.in1 (call (.ref f) [.ref x, b]) (fun v s' => ∃ k, v = .bool k ∧ Q (.bool (!k)) s') E s) : wpAny (model prog w) A (tryCompare (.ref x) (cmpInfo .NotEq).2.1 b) (fun r s' => ∃ v, r = some v ∧ Q v s') E s := by
  unfold tryCompare
  refine wpAny_bind (ifBoundB_K X I hne PySem.F.slot_object_ne.bind (wpAny_call (codeAny_call_builtin PySem.F.slot_object_ne.plain PySem.F.entry_object_ne
    (PySem.W.check_slot (i := "object.__ne__") (owner := "object") (n := "__ne__") (by decide +kernel) (by decide +kernel) (I.type.andThen (PySem.W.looks_mroIn X hm)) (PySem.F.args_object_ne_2 _ _) ?_))))
  unfold Builtin.«object.__ne__»
  refine wpAny_bind (m := slotArgs "__ne__" 1 _) (wpAny_pure ?_)
  refine wpAny_bind (m := cRoomFor _ _) (wpAny_cRoomFor hu ?_)
  refine wpAny_bind (m := callSpecialIfBound? (.ref x) (Str.ofString "__eq__") _) (PySem.W.ifBound_K X I hs hf (wpAny_mono h (fun r s' hq => ?_) fun _ _ y => y))
  obtain ⟨k, rfl, q⟩ := hq
  dsimp only
  refine wpAny_bind (wpAny_truthy_bool ?_)
  exact wpAny_pure (wpAny_pure ⟨_, rfl, q⟩)

/-- != of an instance whose class has an own == and no own != -/
theorem ne_K {prog : Program} {w : World} {A : Around} {E : Value → Shared → Prop} {s : Shared} {K : PySem.W.Frag} {x C L f : Addr} {h₀ : Heap} {m : Str → Option Value} {ox : Obj} {od : Option Obj} {b tb : Value} {Q : Value → Shared → Prop} (hu : A.units + 1 < cLine) (F : Fr h₀ L s.heap m) (X₀ : K.In h₀) (I : PySem.W.InstAt s.heap x ox C od) (hb : PySem.W.Looks (model prog w) s.heap (typeOf b) tb) (hn : PySem.W.notFirst K C tb = true)
    (hs : PySem.W.findIn K (.ref C) "__eq__" = some (some (.ref f))) (hf : PySem.W.isFn K (.ref f) = true) (hne : PySem.W.findIn K (.ref C) "__ne__" = some (some (.builtin "object.__ne__"))) (hm : PySem.W.mroIn K C (.type "object") = some true)
    (h : wpAny (model prog w) A.in1 (call (.ref f) [.ref x, b]) (fun v s' => ∃ k, v = .bool k ∧ Q (.bool (!k)) s') E s) : wpAny (model prog w) A (richCompare .NotEq (.ref x) b) Q E s := by
  have X := X₀.keeps F.keep
  have one : wpAny (model prog w) A (tryCompare (.ref x) (cmpInfo .NotEq).2.1 b) (fun r s' => ∃ v, r = some v ∧ Q v s') E s := one_ne hu X I hs hf hne hm h
  unfold richCompare
  simp only [oneThing_ref]
  refine wpAny_holding (wpAny_bind (wpAny_cRoomFor (by omega) ?_))
  refine wpAny_bind (I.type.here (wpAny_bind (hb.here ?_)))
  split
  · rename_i q
    have e : PySem.W.subIn K tb (.ref C) = some false := by
      rcases Bool.or_eq_true_iff.mp hn with e | e
      · rw [beq_iff_eq.mp e] at q; simp at q
      · exact beq_iff_eq.mp e
    refine wpAny_bind ((PySem.W.looks_subIn X e).here ?_)
    simp only [Bool.false_eq_true, if_false]
    refine wpAny_bind (wpAny_mono one (fun r s' z => ?_) fun _ _ e => e)
    obtain ⟨v, rfl, hq⟩ := z
    exact wpAny_pure hq
  · refine wpAny_bind (wpAny_pure ?_)
    simp only [Bool.false_eq_true, if_false]
    refine wpAny_bind (wpAny_mono one (fun r s' z => ?_) fun _ _ e => e)
    obtain ⟨v, rfl, hq⟩ := z
    exact wpAny_pure hq
structure OwnNe (K : PySem.W.Frag) (C : Addr) : Prop where
  ne : PySem.W.findIn K (.ref C) "__ne__" = some (some (.builtin "object.__ne__"))
  mr : PySem.W.mroIn K C (.type "object") = some true
theorem op_ownNe (o : Own X.K C "__eq__" f) (on : OwnNe X.K C) (F : FnOk X.prog X.w X.K X.mg X.base CX k f fd ps sp) (hr : Room (k + 1) X.A) (hb : Binds X.K fd ps []) (hx : Passes CX X E) :
    OpR X (compareOp .NotEq) (fun x y H Q => rOwn2 X.K C sp E x y H (fun v H' => ∃ b, v = .bl b ∧ Q (.bl (!b)) H')) := by
  intro pins s σ H x y v u Q I rx ry h
  obtain ⟨a, dx, fs, t, rfl, ea, ty, nf, h⟩ := h
  cases (show v = Value.ref a from rx)
  obtain ⟨mA, O, _⟩ := ins_get I.hok ea
  obtain ⟨od, J, _⟩ := O.look
  obtain ⟨m, hF⟩ := I.fr
  show wpAny (model X.prog X.w) X.A (richCompare .NotEq (Value.ref a) u) _ _ _
  refine ne_K (by have := hr.un; omega) hF I.ok.mod.kin J (tyLooks I ry ty) nf o.at_ o.fn on.ne on.mr (wpAny_mono (run_in (us := [.ref a, u]) (vs := [.ref a, y]) F hr.in1 I.env0.in1 hb hx I (.cons rfl (.cons ry .nil)) h) (fun u s' q => ?_) fun _ _ y => y)
  obtain ⟨v, H', I', rv, z, rfl, b, hb, q⟩ := q
  cases hb
  cases (show u = Value.bool z from rv)
  exact ⟨z, rfl, .bl (!z), H', I', rfl, q⟩
end
end L3

/-! own exceptions, over any built-in error, whose __init__ keeps the one thing that it takes -/
namespace X1
open PySem PySem.W PySem.Calls PyProof.Rows Builtin Builtin.ObjectAttr
theorem osa_first {prog : Program} {w : World} {A : Around} {R : Result → Shared → Prop} {hp : Heap} {g : Array GenState} {d : Drawn} {t : Nat} {os : OsState} {K : Frag} {B : String} {bmB : List Value} {name : Str} {tk : Tok} {v : Value} {x C : Addr} {fv : Array Value}
    (SF : StoreFacts B bmB "object.__setattr__" "object") (X : K.In hp) (hx : hp.get? x = some { cls := .ref C, data := .fields fv }) (ho : excOver K C bmB = true) (hh : hasDictIn K C = true) (ha : findIn K (.ref C) name = some none)
    (hq : ∀ h' tk' dx, (∀ b o, b ≠ x → hp.get? b = some o → h'.get? b = some o) → hp.objs.size ≤ dx → dx ≠ x → h'.get? x = some { cls := .ref C, dict := some dx, data := .fields fv } →
      h'.Ns1 dx (fun y => if y = name then some v else none) → R (.ok (.ret .none)) ⟨h', g, d, tk', os⟩) :
    codeAny (model prog w) A (.call (.builtin "object.__setattr__") ⟨[.ref x, .str name tk, v], []⟩) R ⟨hp, g, d, t, os⟩ := by
  have hxs : x ≠ hp.objs.size := Nat.ne_of_lt (Heap.lt_size hx)
  obtain ⟨cd, hc, hd'⟩ := any_some hh
  have hcls : Looks (model prog w) hp (classData C) cd := looks_clsIn X hc
  refine osa_openX (s := ⟨hp, g, d, t, os⟩) (od := none) (r := none) SF X ⟨hx, rfl, rfl, trivial⟩ ho (by unfold takerIn; rw [ha]; rfl) fun b => ?_
  dsimp only
  obtain ⟨nm, bs, mro, ns, qn, hd, sn, sb, ab, col, del⟩ := cd
  dsimp only at hd'
  subst hd'
  unfold storeInOwnDict ownDictForStores
  repeat (first | with_reducible refine HandSPX.store_in_new ?_ ?_ | with_reducible refine wpAny_loadPart_at hx ?_ | with_reducible refine hcls.at ?_ | wp_step)
  · exact ⟨_, #[], _, (Heap.get?_update_ne _ _ _ _ hxs.symm).trans (Heap.get?_push_at rfl rfl), rfl, fun e he => absurd he (by simp), fun _ => rfl⟩
  · intro h' tk' hn' hs
    have hx₁ : (hp.push { cls := .type "dict", data := .dict #[] }).get? x = some { cls := .ref C, data := .fields fv } := Heap.get?_push_of_some _ hx
    refine hq h' tk' hp.objs.size (fun b o hb ho => ?_) (Nat.le_refl _) hxs.symm ?_ hn'
    · exact (hs.2 b (Nat.ne_of_lt (Heap.lt_size ho))).trans ((Heap.get?_update_ne _ _ _ _ hb).trans (Heap.get?_push_of_some _ ho))
    · exact (hs.2 x hxs).trans (Heap.get?_update_self _ hx₁ rfl)
theorem ldC {M : Model} {s : Shared} {name : Str} {scope : Scope} {L a : Addr} {cd : Value} {m : Str → Option Value} {x : Str} {pos : Pos} {v : Value} {Q : Value → Shared → Prop} {A : Around} {E : Value → Shared → Prop} (hn : s.heap.Ns L m) (hv : m x = some v) (h : Q v s)
    (hk : scope.kind = .function := by rfl) (hl : (envOfC name scope L a cd).kindOf x = some .local := by rfl) (hd : (x == ("__debug__" : Str)) = false := by decide) : wpAny M A (eval (.Name x pos) (envOfC name scope L a cd)) Q E s := wpAny_Name (wpAny_loadName_local hk hl hn hv h) hd
/-- what __init__ leaves of a new exception at x -/
structure InitEnd (f : Str) (h h' : Heap) (x C dx t1 : Addr) (v : Value) : Prop where
  keep : ∀ b o, b ≠ x → h.get? b = some o → h'.get? b = some o
  obj : h'.get? x = some { cls := .ref C, dict := some dx, data := .fields #[.ref t1, .none, .none, .none, .bool false, .none] }
  dbig : h.objs.size ≤ dx
  dne : dx ≠ x
  ns : h'.Ns1 dx (fun y => if y = f then some v else none)
/-- a made exception -/
structure Made (f : Str) (h h' : Heap) (e C d : Addr) (v : Value) : Prop where
  keep : ∀ b o, h.get? b = some o → h'.get? b = some o
  new : h.objs.size ≤ e
  obj : ∃ oe vs, h'.get? e = some oe ∧ oe.cls = .ref C ∧ oe.dict = some d ∧ oe.data = .fields vs ∧ vs[1]? = some .none
  dbig : h.objs.size ≤ d
  dne : d ≠ e
  ns : h'.Ns1 d (fun y => if y = f then some v else none)
end X1
namespace L3
open PySem PySem.Spec PyProof.Rows L2
theorem relO_one {g : Str} {v : V} {v' : Value} (r : RelV v v') (f : Str) : RelO (List.lookup f [((g : Str), v)]) (if f = g then some v' else none) := by
  by_cases hw : f = g
  · subst hw
    rw [if_pos rfl]
    have q : List.lookup f [((f : Str), v)] = some v := by simp [List.lookup]
    rw [q]
    exact r
  · rw [if_neg hw]
    have qw : (f == g) = false := by simpa using hw
    have q2 : List.lookup f [((g : Str), v)] = none := by simp [List.lookup, qw]
    rw [q2]
    trivial
/-- C(e): the error's own dict d is new and holds f -/
def tMkX (f : Str) (C : Addr) (ta : TA) : L2.St → Hp → XK → Prop := fun σ H Q => ta σ H fun vs H1 => ∃ v, vs = [v] ∧ ∀ d, H1 d = none → Q (.ref C) (some d) (upd H1 d (.xd [(f, v)]))
def tRaiseX (f : Str) (C : Addr) (W : WX) (ta : TA) : TS := fun _ σ H => tMkX f C ta σ H fun cls d H' => W cls d σ H'
def tFldX (f : Str) (C : Addr) (a : Addr) (cls : Value) (d : Option Addr) (te : TE) : TE := fun σ H Q => te σ H fun x H1 => x = .ref a ∧ cls = .ref C ∧ ∃ (dd : Addr) (v : V), d = some dd ∧ H1 dd = some (.xd [(f, v)]) ∧ Q v H1
section
variable {X : Cx} {C fI : Addr}
theorem mk_back {f : Str} {pins : List (Addr × Obj)} {σ : L2.St} {H1 : Hp} {Q : XK} {hp h' : Heap} {g : Array GenState} {dr : Drawn} {tk tk' : Nat} {os : OsState} {e d : Addr} {v : V} {v' : Value} (I1 : Inv X pins σ H1 ⟨hp, g, dr, tk, os⟩) (M : X1.Made f hp h' e C d v') (rv : RelV v v')
    (exC : PySem.W.subIn X.K (.ref C) (.type "BaseException") = some true) (tyC : PySem.W.typeIn X.K (.ref C) = some (.type "type")) (q : Q (.ref C) (some d) (upd H1 d (.xd [(f, v)]))) : MkP X pins σ Q (.ref e) ⟨h', g, dr, tk', os⟩ := by
  obtain ⟨oe, fv, hoe, hc, hd, hdat, h1⟩ := M.obj
  have hns := M.ns
  obtain ⟨G', g1, g2⟩ := restrict h' fun b => decide (b ≠ e)
  have gk : ∀ b, b ≠ e → G'.get? b = h'.get? b := fun b hb => g1 b (decide_eq_true hb)
  have ge : G'.get? e = none := g2 e (by simp)
  have old : ∀ b o, hp.get? b = some o → G'.get? b = some o := fun b o q => (gk b (Nat.ne_of_lt (Nat.lt_of_lt_of_le (Heap.lt_size q) M.new))).trans (M.keep b o q)
  have ob : ObjOk X.prog X.w (upd H1 d (.xd [(f, v)])) G' d (.xd [(f, v)]) := ⟨_, hns.at (fun o q => (gk d M.dne).trans q), fun y => relO_one rv y⟩
  have J : Inv X pins σ (upd H1 d (.xd [(f, v)])) ⟨G', g, dr, tk', os⟩ := I1.laid (t' := tk') old M.dbig ob
  refine ⟨e, oe, fv, ⟨G', g, dr, tk', os⟩, _, .ref C, some d, rfl, J, fun b o q => ?_, ge, hoe, ⟨hc, hd⟩, hdat, h1, ?_, rfl, I1.bare, raises_own exC tyC, q⟩
  · by_cases hb : b = e
    · have q' : G'.get? b = some o := q
      rw [hb, ge] at q'; cases q'
    · exact (gk b hb).symm.trans q
  · rw [upd_ne (Ne.symm M.dne)]
    exact I1.hok.fresh M.new
theorem fldX {f : Str} {a : Addr} {oe : Obj} {cls : Value} {d : Option Addr} {pn : List (Addr × Obj)} {e : Expr} {te : TE} {pos : Pos} (ga : PySem.W.findIn X.K (.ref C) "__getattribute__" = some (some (.builtin "BaseException.__getattribute__"))) (gg : PySem.W.findIn X.K (.ref C) "__getattr__" = some none)
    (exC : PySem.W.subIn X.K (.ref C) (.type "BaseException") = some true) (hdC : PySem.W.hasDictIn X.K C = true) (noN : PySem.W.findIn X.K (.ref C) f = some none) (hz : Zc cls d oe) (hf : ∃ vs, oe.data = .fields vs) (he : PE (X.suite a ((a, oe) :: pn)) e te)
    (hb : attributeBase e f X.env (eval e X.env) = eval e X.env) : PE (X.suite a ((a, oe) :: pn)) (.Attribute e f pos) (tFldX f C a cls d te) := by
  refine ⟨fun pins s σ H Q I h => ?_⟩
  refine attr_of hb (thn (he.run pins s σ H _ I h) fun u s1 hh => ?_)
  obtain ⟨x, H1, I1, rx, ex, ec, dd, v, ed, ea, q⟩ := hh
  subst ex
  obtain rfl : u = Value.ref a := rx
  subst ec
  subst ed
  obtain ⟨ha, _⟩ := I1.pin (a, oe) (List.mem_append_left _ List.mem_cons_self)
  obtain ⟨vs, hd⟩ := hf
  have hx : ObjOk X.prog X.w H1 s1.heap dd (.xd [(f, v)]) := I1.hok dd _ ea
  obtain ⟨mA, hns, hr⟩ := hx
  obtain ⟨od, ho, hl⟩ := lookIn_ns hns
  have l : List.lookup f [(f, v)] = some v := by simp [List.lookup]
  obtain ⟨u, hu, ru⟩ := RelO.some_of (v := v) (o := mA f) (by rw [← l]; exact hr f)
  have J : PySem.W.InstAt s1.heap a oe C (some od) := ⟨ha, hz.1, by unfold PySem.W.notCls; rw [hd] <;> rfl, by rw [hz.2]; exact ho⟩
  exact HandSPX.exc_get I1.kIn J ga gg exC (PySem.W.findObj_own hdC noN rfl (by rw [hl, hu])) (handed_of ru) ⟨v, H1, I1.tok _, ru, q⟩
end
end L3


namespace PySem
namespace XParseError
open PySem.W PySem.Calls PyProof.Rows PySem.HandSPX
def iA (p1 p2 : Pos) : Arguments := { posonlyargs := [], args := [{ arg := "self", annotation := none, pos := p1 }, { arg := "spot", annotation := none, pos := p2 }], vararg := none, kwonlyargs := [], kw_defaults := [], kwarg := none, defaults := [] }
def iB (q1 q2 q3 q4 : Pos) : List Stmt := [.Assign [.Attribute (.Name "self" q1) "spot" q2] (.Name "spot" q3) q4]
def iS : Scope := { kind := .function, names := [(PySem.Str.ofString "self", .local), (PySem.Str.ofString "spot", .local)], isGenerator := false, isCoroutine := false, more := [] }
structure Txt (K : Frag) (mg : Str → Option Value) (C fI : Addr) : Prop where
  gC : mg "ParseError" = some (.ref C)
  ini : excInitIn K C [.type "ValueError", .type "Exception", .type "BaseException", .type "object"] "ValueError.__new__" = true
  ov : excOver K C [.type "ValueError", .type "Exception", .type "BaseException", .type "object"] = true
  sa : findIn K (.ref C) "__setattr__" = some (some (.builtin "object.__setattr__"))
  ga : findIn K (.ref C) "__getattribute__" = some (some (.builtin "BaseException.__getattribute__"))
  gg : findIn K (.ref C) "__getattr__" = some none
  noN : findIn K (.ref C) "spot" = some none
  iC : findIn K (.ref C) "__init__" = some (some (.ref fI))
  tC : typeIn K (.ref fI) = some (.type "function")
  kC : keepIn K (.ref C) = true
  exC : subIn K (.ref C) (.type "BaseException") = some true
  tyC : typeIn K (.ref C) = some (.type "type")
  hdC : hasDictIn K C = true
  te : exmOne K (.ref C) (.ref C) = some true
  fn : ∃ (oc : Value) (od : Option Addr) (doc pm : Value) (an : Option Addr) (cdv ct : Value) (osl : Array (Option Value)) (p1 p2 q1 q2 q3 q4 : Pos),
    K.lookup fI = some ⟨oc, od, .func (fnOf "__init__" "ParseError.__init__" (iA p1 p2) (iB q1 q2 q3 q4) iS .none .none doc pm an cdv ct), osl⟩ ∧ codeIn K cdv "ParseError.__init__" = true
section
variable {prog : Program} {w : World} {A : Around} {E : Value → Shared → Prop} {R : Result → Shared → Prop} {s : Shared} {K : Frag} {mg : Str → Option Value} {C fI : Addr}
theorem init_run (T : Txt K mg C fI) {x t0 : Addr} {v : Value} (X : K.In s.heap) (hlim : s.heap.NoLimit) (hx : s.heap.get? x = some (excO C t0)) (hroom : A.depth < recursionLimit)
    (hq : ∀ h' tk dx, X1.InitEnd "spot" s.heap h' x C dx t0 v → R (.ok (.ret .none)) { s with heap := h', toks := tk }) :
    codeAny (model prog w) A (.call (.ref fI) ⟨[.ref x, v], []⟩) R s := by
  obtain ⟨oc, od, doc, pm, an, cdv, ct, osl, p1, p2, q1, q2, q3, q4, ho, hcd⟩ := T.fn
  refine Att.call_fn (binds := [("self", .ref x), ("spot", v)]) X hlim ho hcd hroom (BindsTo.of_eq (by first | rfl | with_unfolding_all rfl)) (by first | rfl | decide | with_unfolding_all rfl) (fun s₁ IC => ?_) rfl rfl rfl
  obtain ⟨h₁, tk₁, rfl⟩ := IC.toInCall.same
  have k : ∀ b o, s.heap.get? b = some o → h₁.get? b = some o := IC.toInCall.keep
  have hn := IC.toInCall.ns
  have X₁ : K.In h₁ := X.keeps k
  have hx₁ := k _ _ hx
  show wpAny _ _ (execs _ _) _ _ _
  refine wpAny_execs_cons (plainObj_wpAny_Assign_Attribute ?_)
  refine X1.ldC (v := v) hn (by first | rfl | with_unfolding_all rfl | kernel_rfl) (X1.ldC (v := .ref x) hn (by first | rfl | with_unfolding_all rfl | kernel_rfl) ?_)
  refine set_plain X₁ (ox := excO C t0) (od := none) ⟨hx₁, rfl, rfl, trivial⟩ T.sa ?_
  refine X1.osa_first PySem.F.store_ValueError X₁ hx₁ T.ov T.hdC T.noN (fun h₃ tk₃ dx k₃ dn dne hx₃ hn₃ => ?_)
  show wpAny _ _ (execs _ _) _ _ _
  have z : s.heap.objs.size < h₁.objs.size := hn.lt
  exact wpAny_execs_nil (hq h₃ tk₃ dx ⟨fun b o hb e => k₃ b o hb (k b o e), hx₃, Nat.le_of_lt (Nat.lt_of_lt_of_le z dn), dne, hn₃⟩)
theorem made (T : Txt K mg C fI) {v : Value} (X : K.In s.heap) (hlim : s.heap.NoLimit) (hroom : A.depth + 1 < recursionLimit)
    (hq : ∀ h' tk e d, X1.Made "spot" s.heap h' e C d v → R (.ok (.ret (.ref e))) { s with heap := h', toks := tk }) :
    codeAny (model prog w) A (.call (.ref C) ⟨[v], []⟩) R s := by
  obtain ⟨nm, N, q, bs, bm, hdct, sn, sub, ab, col, dd, k0, k1, k2, k3, k5, hC, hbm⟩ := excInit_of X T.ini
  obtain ⟨hp, g, dr, tk, os⟩ := s
  have k : ∀ b o, hp.get? b = some o → ((hp.push (kdv_tup [v])).push (excO C hp.objs.size)).get? b = some o := fun b o e => Heap.get?_push_of_some _ (Heap.get?_push_of_some _ e)
  have hget : ((hp.push (kdv_tup [v])).push (excO C hp.objs.size)).get? (hp.objs.size + 1) = some (excO C hp.objs.size) := by heap_get
  refine call_own PySem.F.excBase_ValueError hbm hC (looks_findIn X T.iC) (fun self => bind_fn X self T.tC) (by rw [sizeLine_eq]; exact (by decide : 1 ≤ 16777216)) ?_
  refine init_run (s := ⟨(hp.push (kdv_tup [v])).push (excO C hp.objs.size), g, dr, tk, os⟩) T (X.keeps k) (hlim.keeps k) hget ?_ fun h' tk' dx ⟨k', hx, dn, dne, hns⟩ => ?_
  · show A.depth + 1 < recursionLimit
    exact hroom
  · have old : ∀ b o, hp.get? b = some o → h'.get? b = some o := fun b o e => k' b o (Nat.ne_of_lt (Nat.lt_succ_of_lt (Heap.lt_size e))) (k b o e)
    have z : hp.objs.size + 1 + 1 ≤ dx := by
      first
        | (simpa only [Heap.size_push] using dn)
        | exact dn
        | (have q := dn; rw [Heap.size_push, Heap.size_push] at q; exact q)
    exact ⟨rfl, hq h' tk' (hp.objs.size + 1) dx ⟨old, Nat.le_succ _, ⟨_, _, hx, rfl, rfl, rfl, rfl⟩, Nat.le_trans (Nat.le_trans (Nat.le_succ _) (Nat.le_succ _)) z, dne, hns⟩⟩
end
end XParseError
end PySem
namespace L3
open PySem PySem.Spec PyProof.Rows L2
section
variable {X : Cx} {C fI : Addr}
theorem pmk_ParseError {a : Expr} {ta : TA} {p pos : Pos} {k : Nat} (T : PySem.XParseError.Txt X.K X.mg C fI) (hr : Room k X.A) (ha : PA X [a] ta) (hg : Gl X "ParseError" := by rfl)
    (he : starEach (a :: []) X.env = (false, eval a X.env) :: starEach [] X.env := by rfl) (hpl : (backTo pos (starEach [] X.env)).any (·.1) = false := by rfl) :
    PMk X (.Call (.Name "ParseError" p) [a] [] pos) (tMkX "spot" C ta) := by
  intro pins s σ H Q I h
  refine wpAny_Call_Name_kw (ld_glob I hg T.gC ?_)
  refine PySem.W.callWith_K (h₀ := X.base) I.ok.mod.kin T.kC (thn (ha.run pos pins s σ H _ I h) fun us s1 hh => ?_) he hpl
  obtain ⟨vs, H1, I1, r1, v, ev, q1⟩ := hh
  subst ev
  refine ⟨I1.kIn, ?_⟩
  cases r1 with
  | cons rv rn =>
    rename_i v' us'
    cases rn
    show wpAny _ _ (call (.ref C) [v']) _ _ _
    have hlim := I1.nolimit
    obtain ⟨hp, g, dr, tk, os⟩ := s1
    refine wpAny_call (PySem.XParseError.made T I1.kIn hlim (by have := hr.dp; omega) fun h' tk' e d M => ?_)
    exact mk_back I1 M rv T.exC T.tyC (q1 d (I1.hok.fresh M.dbig))
theorem ps_raiseParseError {a : Expr} {ta : TA} {W : WX} {p pos pos2 : Pos} {k : Nat} (hc : X.calm = true) (T : PySem.XParseError.Txt X.K X.mg C fI) (hr : Room k X.A) (tk : Takes X W) (ha : PA X [a] ta) (hg : Gl X "ParseError" := by rfl)
    (he : starEach (a :: []) X.env = (false, eval a X.env) :: starEach [] X.env := by rfl) (hpl : (backTo pos (starEach [] X.env)).any (·.1) = false := by rfl) :
    PS X (.Raise (some (.Call (.Name "ParseError" p) [a] [] pos)) none pos2) (tRaiseX "spot" C W ta) := ps_raise hc tk (pmk_ParseError T hr ha hg he hpl)
theorem pe_fldParseError {a : Addr} {oe : Obj} {cls : Value} {d : Option Addr} {pn : List (Addr × Obj)} {e : Expr} {te : TE} {pos : Pos} (T : PySem.XParseError.Txt X.K X.mg C fI) (hz : Zc cls d oe) (hf : ∃ vs, oe.data = .fields vs) (he : PE (X.suite a ((a, oe) :: pn)) e te)
    (hb : attributeBase e "spot" X.env (eval e X.env) = eval e X.env := by rfl) :
    PE (X.suite a ((a, oe) :: pn)) (.Attribute e "spot" pos) (tFldX "spot" C a cls d te) := fldX T.ga T.gg T.exC T.hdC T.noN hz hf he hb
end
end L3

namespace PySem
namespace XInvalidNumber
open PySem.W PySem.Calls PyProof.Rows PySem.HandSPX
def iA (p1 p2 : Pos) : Arguments := { posonlyargs := [], args := [{ arg := "self", annotation := none, pos := p1 }, { arg := "given", annotation := none, pos := p2 }], vararg := none, kwonlyargs := [], kw_defaults := [], kwarg := none, defaults := [] }
def iB (q1 q2 q3 q4 : Pos) : List Stmt := [.Assign [.Attribute (.Name "self" q1) "given" q2] (.Name "given" q3) q4]
def iS : Scope := { kind := .function, names := [(PySem.Str.ofString "self", .local), (PySem.Str.ofString "given", .local)], isGenerator := false, isCoroutine := false, more := [] }
structure Txt (K : Frag) (mg : Str → Option Value) (C fI : Addr) : Prop where
  gC : mg "InvalidNumber" = some (.ref C)
  ini : excInitIn K C [.type "IndexError", .type "LookupError", .type "Exception", .type "BaseException", .type "object"] "IndexError.__new__" = true
  ov : excOver K C [.type "IndexError", .type "LookupError", .type "Exception", .type "BaseException", .type "object"] = true
  sa : findIn K (.ref C) "__setattr__" = some (some (.builtin "object.__setattr__"))
  ga : findIn K (.ref C) "__getattribute__" = some (some (.builtin "BaseException.__getattribute__"))
  gg : findIn K (.ref C) "__getattr__" = some none
  noN : findIn K (.ref C) "given" = some none
  iC : findIn K (.ref C) "__init__" = some (some (.ref fI))
  tC : typeIn K (.ref fI) = some (.type "function")
  kC : keepIn K (.ref C) = true
  exC : subIn K (.ref C) (.type "BaseException") = some true
  tyC : typeIn K (.ref C) = some (.type "type")
  hdC : hasDictIn K C = true
  te : exmOne K (.ref C) (.ref C) = some true
  fn : ∃ (oc : Value) (od : Option Addr) (doc pm : Value) (an : Option Addr) (cdv ct : Value) (osl : Array (Option Value)) (p1 p2 q1 q2 q3 q4 : Pos),
    K.lookup fI = some ⟨oc, od, .func (fnOf "__init__" "InvalidNumber.__init__" (iA p1 p2) (iB q1 q2 q3 q4) iS .none .none doc pm an cdv ct), osl⟩ ∧ codeIn K cdv "InvalidNumber.__init__" = true
section
variable {prog : Program} {w : World} {A : Around} {E : Value → Shared → Prop} {R : Result → Shared → Prop} {s : Shared} {K : Frag} {mg : Str → Option Value} {C fI : Addr}
theorem init_run (T : Txt K mg C fI) {x t0 : Addr} {v : Value} (X : K.In s.heap) (hlim : s.heap.NoLimit) (hx : s.heap.get? x = some (excO C t0)) (hroom : A.depth < recursionLimit)
    (hq : ∀ h' tk dx, X1.InitEnd "given" s.heap h' x C dx t0 v → R (.ok (.ret .none)) { s with heap := h', toks := tk }) :
    codeAny (model prog w) A (.call (.ref fI) ⟨[.ref x, v], []⟩) R s := by
  obtain ⟨oc, od, doc, pm, an, cdv, ct, osl, p1, p2, q1, q2, q3, q4, ho, hcd⟩ := T.fn
  refine Att.call_fn (binds := [("self", .ref x), ("given", v)]) X hlim ho hcd hroom (BindsTo.of_eq (by first | rfl | with_unfolding_all rfl)) (by first | rfl | decide | with_unfolding_all rfl) (fun s₁ IC => ?_) rfl rfl rfl
  obtain ⟨h₁, tk₁, rfl⟩ := IC.toInCall.same
  have k : ∀ b o, s.heap.get? b = some o → h₁.get? b = some o := IC.toInCall.keep
  have hn := IC.toInCall.ns
  have X₁ : K.In h₁ := X.keeps k
  have hx₁ := k _ _ hx
  show wpAny _ _ (execs _ _) _ _ _
  refine wpAny_execs_cons (plainObj_wpAny_Assign_Attribute ?_)
  refine X1.ldC (v := v) hn (by first | rfl | with_unfolding_all rfl | kernel_rfl) (X1.ldC (v := .ref x) hn (by first | rfl | with_unfolding_all rfl | kernel_rfl) ?_)
  refine set_plain X₁ (ox := excO C t0) (od := none) ⟨hx₁, rfl, rfl, trivial⟩ T.sa ?_
  refine X1.osa_first PySem.F.store_IndexError X₁ hx₁ T.ov T.hdC T.noN (fun h₃ tk₃ dx k₃ dn dne hx₃ hn₃ => ?_)
  show wpAny _ _ (execs _ _) _ _ _
  have z : s.heap.objs.size < h₁.objs.size := hn.lt
  exact wpAny_execs_nil (hq h₃ tk₃ dx ⟨fun b o hb e => k₃ b o hb (k b o e), hx₃, Nat.le_of_lt (Nat.lt_of_lt_of_le z dn), dne, hn₃⟩)
theorem made (T : Txt K mg C fI) {v : Value} (X : K.In s.heap) (hlim : s.heap.NoLimit) (hroom : A.depth + 1 < recursionLimit)
    (hq : ∀ h' tk e d, X1.Made "given" s.heap h' e C d v → R (.ok (.ret (.ref e))) { s with heap := h', toks := tk }) :
    codeAny (model prog w) A (.call (.ref C) ⟨[v], []⟩) R s := by
  obtain ⟨nm, N, q, bs, bm, hdct, sn, sub, ab, col, dd, k0, k1, k2, k3, k5, hC, hbm⟩ := excInit_of X T.ini
  obtain ⟨hp, g, dr, tk, os⟩ := s
  have k : ∀ b o, hp.get? b = some o → ((hp.push (kdv_tup [v])).push (excO C hp.objs.size)).get? b = some o := fun b o e => Heap.get?_push_of_some _ (Heap.get?_push_of_some _ e)
  have hget : ((hp.push (kdv_tup [v])).push (excO C hp.objs.size)).get? (hp.objs.size + 1) = some (excO C hp.objs.size) := by heap_get
  refine call_own PySem.F.excBase_IndexError hbm hC (looks_findIn X T.iC) (fun self => bind_fn X self T.tC) (by rw [sizeLine_eq]; exact (by decide : 1 ≤ 16777216)) ?_
  refine init_run (s := ⟨(hp.push (kdv_tup [v])).push (excO C hp.objs.size), g, dr, tk, os⟩) T (X.keeps k) (hlim.keeps k) hget ?_ fun h' tk' dx ⟨k', hx, dn, dne, hns⟩ => ?_
  · show A.depth + 1 < recursionLimit
    exact hroom
  · have old : ∀ b o, hp.get? b = some o → h'.get? b = some o := fun b o e => k' b o (Nat.ne_of_lt (Nat.lt_succ_of_lt (Heap.lt_size e))) (k b o e)
    have z : hp.objs.size + 1 + 1 ≤ dx := by
      first
        | (simpa only [Heap.size_push] using dn)
        | exact dn
        | (have q := dn; rw [Heap.size_push, Heap.size_push] at q; exact q)
    exact ⟨rfl, hq h' tk' (hp.objs.size + 1) dx ⟨old, Nat.le_succ _, ⟨_, _, hx, rfl, rfl, rfl, rfl⟩, Nat.le_trans (Nat.le_trans (Nat.le_succ _) (Nat.le_succ _)) z, dne, hns⟩⟩
end
end XInvalidNumber
end PySem
namespace L3
open PySem PySem.Spec PyProof.Rows L2
section
variable {X : Cx} {C fI : Addr}
theorem pmk_InvalidNumber {a : Expr} {ta : TA} {p pos : Pos} {k : Nat} (T : PySem.XInvalidNumber.Txt X.K X.mg C fI) (hr : Room k X.A) (ha : PA X [a] ta) (hg : Gl X "InvalidNumber" := by rfl)
    (he : starEach (a :: []) X.env = (false, eval a X.env) :: starEach [] X.env := by rfl) (hpl : (backTo pos (starEach [] X.env)).any (·.1) = false := by rfl) :
    PMk X (.Call (.Name "InvalidNumber" p) [a] [] pos) (tMkX "given" C ta) := by
  intro pins s σ H Q I h
  refine wpAny_Call_Name_kw (ld_glob I hg T.gC ?_)
  refine PySem.W.callWith_K (h₀ := X.base) I.ok.mod.kin T.kC (thn (ha.run pos pins s σ H _ I h) fun us s1 hh => ?_) he hpl
  obtain ⟨vs, H1, I1, r1, v, ev, q1⟩ := hh
  subst ev
  refine ⟨I1.kIn, ?_⟩
  cases r1 with
  | cons rv rn =>
    rename_i v' us'
    cases rn
    show wpAny _ _ (call (.ref C) [v']) _ _ _
    have hlim := I1.nolimit
    obtain ⟨hp, g, dr, tk, os⟩ := s1
    refine wpAny_call (PySem.XInvalidNumber.made T I1.kIn hlim (by have := hr.dp; omega) fun h' tk' e d M => ?_)
    exact mk_back I1 M rv T.exC T.tyC (q1 d (I1.hok.fresh M.dbig))
theorem ps_raiseInvalidNumber {a : Expr} {ta : TA} {W : WX} {p pos pos2 : Pos} {k : Nat} (hc : X.calm = true) (T : PySem.XInvalidNumber.Txt X.K X.mg C fI) (hr : Room k X.A) (tk : Takes X W) (ha : PA X [a] ta) (hg : Gl X "InvalidNumber" := by rfl)
    (he : starEach (a :: []) X.env = (false, eval a X.env) :: starEach [] X.env := by rfl) (hpl : (backTo pos (starEach [] X.env)).any (·.1) = false := by rfl) :
    PS X (.Raise (some (.Call (.Name "InvalidNumber" p) [a] [] pos)) none pos2) (tRaiseX "given" C W ta) := ps_raise hc tk (pmk_InvalidNumber T hr ha hg he hpl)
theorem pe_fldInvalidNumber {a : Addr} {oe : Obj} {cls : Value} {d : Option Addr} {pn : List (Addr × Obj)} {e : Expr} {te : TE} {pos : Pos} (T : PySem.XInvalidNumber.Txt X.K X.mg C fI) (hz : Zc cls d oe) (hf : ∃ vs, oe.data = .fields vs) (he : PE (X.suite a ((a, oe) :: pn)) e te)
    (hb : attributeBase e "given" X.env (eval e X.env) = eval e X.env := by rfl) :
    PE (X.suite a ((a, oe) :: pn)) (.Attribute e "given" pos) (tFldX "given" C a cls d te) := fldX T.ga T.gg T.exC T.hdC T.noN hz hf he hb
end
end L3

namespace PySem
namespace XTooMany
open PySem.W PySem.Calls PyProof.Rows PySem.HandSPX
def iA (p1 p2 : Pos) : Arguments := { posonlyargs := [], args := [{ arg := "self", annotation := none, pos := p1 }, { arg := "limit", annotation := none, pos := p2 }], vararg := none, kwonlyargs := [], kw_defaults := [], kwarg := none, defaults := [] }
def iB (q1 q2 q3 q4 : Pos) : List Stmt := [.Assign [.Attribute (.Name "self" q1) "limit" q2] (.Name "limit" q3) q4]
def iS : Scope := { kind := .function, names := [(PySem.Str.ofString "self", .local), (PySem.Str.ofString "limit", .local)], isGenerator := false, isCoroutine := false, more := [] }
structure Txt (K : Frag) (mg : Str → Option Value) (C fI : Addr) : Prop where
  gC : mg "TooMany" = some (.ref C)
  ini : excInitIn K C [.type "OverflowError", .type "ArithmeticError", .type "Exception", .type "BaseException", .type "object"] "OverflowError.__new__" = true
  ov : excOver K C [.type "OverflowError", .type "ArithmeticError", .type "Exception", .type "BaseException", .type "object"] = true
  sa : findIn K (.ref C) "__setattr__" = some (some (.builtin "object.__setattr__"))
  ga : findIn K (.ref C) "__getattribute__" = some (some (.builtin "BaseException.__getattribute__"))
  gg : findIn K (.ref C) "__getattr__" = some none
  noN : findIn K (.ref C) "limit" = some none
  iC : findIn K (.ref C) "__init__" = some (some (.ref fI))
  tC : typeIn K (.ref fI) = some (.type "function")
  kC : keepIn K (.ref C) = true
  exC : subIn K (.ref C) (.type "BaseException") = some true
  tyC : typeIn K (.ref C) = some (.type "type")
  hdC : hasDictIn K C = true
  te : exmOne K (.ref C) (.ref C) = some true
  fn : ∃ (oc : Value) (od : Option Addr) (doc pm : Value) (an : Option Addr) (cdv ct : Value) (osl : Array (Option Value)) (p1 p2 q1 q2 q3 q4 : Pos),
    K.lookup fI = some ⟨oc, od, .func (fnOf "__init__" "TooMany.__init__" (iA p1 p2) (iB q1 q2 q3 q4) iS .none .none doc pm an cdv ct), osl⟩ ∧ codeIn K cdv "TooMany.__init__" = true
section
variable {prog : Program} {w : World} {A : Around} {E : Value → Shared → Prop} {R : Result → Shared → Prop} {s : Shared} {K : Frag} {mg : Str → Option Value} {C fI : Addr}
theorem init_run (T : Txt K mg C fI) {x t0 : Addr} {v : Value} (X : K.In s.heap) (hlim : s.heap.NoLimit) (hx : s.heap.get? x = some (excO C t0)) (hroom : A.depth < recursionLimit)
    (hq : ∀ h' tk dx, X1.InitEnd "limit" s.heap h' x C dx t0 v → R (.ok (.ret .none)) { s with heap := h', toks := tk }) :
    codeAny (model prog w) A (.call (.ref fI) ⟨[.ref x, v], []⟩) R s := by
  obtain ⟨oc, od, doc, pm, an, cdv, ct, osl, p1, p2, q1, q2, q3, q4, ho, hcd⟩ := T.fn
  refine Att.call_fn (binds := [("self", .ref x), ("limit", v)]) X hlim ho hcd hroom (BindsTo.of_eq (by first | rfl | with_unfolding_all rfl)) (by first | rfl | decide | with_unfolding_all rfl) (fun s₁ IC => ?_) rfl rfl rfl
  obtain ⟨h₁, tk₁, rfl⟩ := IC.toInCall.same
  have k : ∀ b o, s.heap.get? b = some o → h₁.get? b = some o := IC.toInCall.keep
  have hn := IC.toInCall.ns
  have X₁ : K.In h₁ := X.keeps k
  have hx₁ := k _ _ hx
  show wpAny _ _ (execs _ _) _ _ _
  refine wpAny_execs_cons (plainObj_wpAny_Assign_Attribute ?_)
  refine X1.ldC (v := v) hn (by first | rfl | with_unfolding_all rfl | kernel_rfl) (X1.ldC (v := .ref x) hn (by first | rfl | with_unfolding_all rfl | kernel_rfl) ?_)
  refine set_plain X₁ (ox := excO C t0) (od := none) ⟨hx₁, rfl, rfl, trivial⟩ T.sa ?_
  refine X1.osa_first PySem.F.store_OverflowError X₁ hx₁ T.ov T.hdC T.noN (fun h₃ tk₃ dx k₃ dn dne hx₃ hn₃ => ?_)
  show wpAny _ _ (execs _ _) _ _ _
  have z : s.heap.objs.size < h₁.objs.size := hn.lt
  exact wpAny_execs_nil (hq h₃ tk₃ dx ⟨fun b o hb e => k₃ b o hb (k b o e), hx₃, Nat.le_of_lt (Nat.lt_of_lt_of_le z dn), dne, hn₃⟩)
theorem made (T : Txt K mg C fI) {v : Value} (X : K.In s.heap) (hlim : s.heap.NoLimit) (hroom : A.depth + 1 < recursionLimit)
    (hq : ∀ h' tk e d, X1.Made "limit" s.heap h' e C d v → R (.ok (.ret (.ref e))) { s with heap := h', toks := tk }) :
    codeAny (model prog w) A (.call (.ref C) ⟨[v], []⟩) R s := by
  obtain ⟨nm, N, q, bs, bm, hdct, sn, sub, ab, col, dd, k0, k1, k2, k3, k5, hC, hbm⟩ := excInit_of X T.ini
  obtain ⟨hp, g, dr, tk, os⟩ := s
  have k : ∀ b o, hp.get? b = some o → ((hp.push (kdv_tup [v])).push (excO C hp.objs.size)).get? b = some o := fun b o e => Heap.get?_push_of_some _ (Heap.get?_push_of_some _ e)
  have hget : ((hp.push (kdv_tup [v])).push (excO C hp.objs.size)).get? (hp.objs.size + 1) = some (excO C hp.objs.size) := by heap_get
  refine call_own PySem.F.excBase_OverflowError hbm hC (looks_findIn X T.iC) (fun self => bind_fn X self T.tC) (by rw [sizeLine_eq]; exact (by decide : 1 ≤ 16777216)) ?_
  refine init_run (s := ⟨(hp.push (kdv_tup [v])).push (excO C hp.objs.size), g, dr, tk, os⟩) T (X.keeps k) (hlim.keeps k) hget ?_ fun h' tk' dx ⟨k', hx, dn, dne, hns⟩ => ?_
  · show A.depth + 1 < recursionLimit
    exact hroom
  · have old : ∀ b o, hp.get? b = some o → h'.get? b = some o := fun b o e => k' b o (Nat.ne_of_lt (Nat.lt_succ_of_lt (Heap.lt_size e))) (k b o e)
    have z : hp.objs.size + 1 + 1 ≤ dx := by
      first
        | (simpa only [Heap.size_push] using dn)
        | exact dn
        | (have q := dn; rw [Heap.size_push, Heap.size_push] at q; exact q)
    exact ⟨rfl, hq h' tk' (hp.objs.size + 1) dx ⟨old, Nat.le_succ _, ⟨_, _, hx, rfl, rfl, rfl, rfl⟩, Nat.le_trans (Nat.le_trans (Nat.le_succ _) (Nat.le_succ _)) z, dne, hns⟩⟩
end
end XTooMany
end PySem
namespace L3
open PySem PySem.Spec PyProof.Rows L2
section
variable {X : Cx} {C fI : Addr}
theorem pmk_TooMany {a : Expr} {ta : TA} {p pos : Pos} {k : Nat} (T : PySem.XTooMany.Txt X.K X.mg C fI) (hr : Room k X.A) (ha : PA X [a] ta) (hg : Gl X "TooMany" := by rfl)
    (he : starEach (a :: []) X.env = (false, eval a X.env) :: starEach [] X.env := by rfl) (hpl : (backTo pos (starEach [] X.env)).any (·.1) = false := by rfl) :
    PMk X (.Call (.Name "TooMany" p) [a] [] pos) (tMkX "limit" C ta) := by
  intro pins s σ H Q I h
  refine wpAny_Call_Name_kw (ld_glob I hg T.gC ?_)
  refine PySem.W.callWith_K (h₀ := X.base) I.ok.mod.kin T.kC (thn (ha.run pos pins s σ H _ I h) fun us s1 hh => ?_) he hpl
  obtain ⟨vs, H1, I1, r1, v, ev, q1⟩ := hh
  subst ev
  refine ⟨I1.kIn, ?_⟩
  cases r1 with
  | cons rv rn =>
    rename_i v' us'
    cases rn
    show wpAny _ _ (call (.ref C) [v']) _ _ _
    have hlim := I1.nolimit
    obtain ⟨hp, g, dr, tk, os⟩ := s1
    refine wpAny_call (PySem.XTooMany.made T I1.kIn hlim (by have := hr.dp; omega) fun h' tk' e d M => ?_)
    exact mk_back I1 M rv T.exC T.tyC (q1 d (I1.hok.fresh M.dbig))
theorem ps_raiseTooMany {a : Expr} {ta : TA} {W : WX} {p pos pos2 : Pos} {k : Nat} (hc : X.calm = true) (T : PySem.XTooMany.Txt X.K X.mg C fI) (hr : Room k X.A) (tk : Takes X W) (ha : PA X [a] ta) (hg : Gl X "TooMany" := by rfl)
    (he : starEach (a :: []) X.env = (false, eval a X.env) :: starEach [] X.env := by rfl) (hpl : (backTo pos (starEach [] X.env)).any (·.1) = false := by rfl) :
    PS X (.Raise (some (.Call (.Name "TooMany" p) [a] [] pos)) none pos2) (tRaiseX "limit" C W ta) := ps_raise hc tk (pmk_TooMany T hr ha hg he hpl)
theorem pe_fldTooMany {a : Addr} {oe : Obj} {cls : Value} {d : Option Addr} {pn : List (Addr × Obj)} {e : Expr} {te : TE} {pos : Pos} (T : PySem.XTooMany.Txt X.K X.mg C fI) (hz : Zc cls d oe) (hf : ∃ vs, oe.data = .fields vs) (he : PE (X.suite a ((a, oe) :: pn)) e te)
    (hb : attributeBase e "limit" X.env (eval e X.env) = eval e X.env := by rfl) :
    PE (X.suite a ((a, oe) :: pn)) (.Attribute e "limit" pos) (tFldX "limit" C a cls d te) := fldX T.ga T.gg T.exC T.hdC T.noN hz hf he hb
end
end L3

/-! several except clauses, with and without a name -/
namespace L3
open PySem PySem.Spec PyProof.Rows L2
abbrev Suite := Addr → Value → Option Addr → TS
def offAt (i : Nat) (D : Ends) : Ends := { nx := fun σ' H' => D.nx (σ'.set i none) H', rt := D.rt, bk := fun σ' H' => D.bk (σ'.set i none) H', ct := fun σ' H' => D.ct (σ'.set i none) H' }
def wMix (K : PySem.W.Frag) (Wout : WX) (D : Ends) : List (Value × Option Nat × Suite) → WX
  | [] => Wout
  | (c, none, ts) :: r => fun cls d σ H => ∃ b, PySem.W.exmOne K cls c = some b ∧ (b = true → ∀ a, H a = none → ts a cls d D σ H) ∧ (b = false → wMix K Wout D r cls d σ H)
  | (c, some i, ts) :: r => fun cls d σ H => ∃ b, PySem.W.exmOne K cls c = some b ∧ (b = true → ∀ a, H a = none → ts a cls d (offAt i D) (σ.set i (some (.ref a))) H) ∧ (b = false → wMix K Wout D r cls d σ H)
inductive Hds (X : Cx) : List ExceptHandler → List (Value × Option Nat × Suite) → Prop
  | nil : Hds X [] []
  | plain {x : Str} {c : Value} {ts : Suite} {b₀ : Stmt} {suite : List Stmt} {np p : Pos} {hds : List ExceptHandler} {l : List (Value × Option Nat × Suite)} (hc : Names X x c)
      (hsu : ∀ (a : Addr) (oe : Obj) (cls : Value) (d : Option Addr) (pn : List (Addr × Obj)), Zc cls d oe → (∃ vs, oe.data = .fields vs) → PSs (X.suite a ((a, oe) :: pn)) (b₀ :: suite) (ts a cls d)) (r : Hds X hds l) :
      Hds X (.ExceptHandler (some (.Name x np)) none (b₀ :: suite) p :: hds) ((c, none, ts) :: l)
  | named {x n : Str} {i : Nat} {c : Value} {ts : Suite} {b₀ : Stmt} {suite : List Stmt} {np p : Pos} {hds : List ExceptHandler} {l : List (Value × Option Nat × Suite)} (hi : X.N[i]? = some n) (hln : X.env.kindOf n = some .local) (hc : Names X x c)
      (hsu : ∀ (a : Addr) (oe : Obj) (cls : Value) (d : Option Addr) (pn : List (Addr × Obj)), Zc cls d oe → (∃ vs, oe.data = .fields vs) → PSs (X.suite a ((a, oe) :: pn)) (b₀ :: suite) (ts a cls d)) (r : Hds X hds l) :
      Hds X (.ExceptHandler (some (.Name x np)) (some n) (b₀ :: suite) p :: hds) ((c, some i, ts) :: l)

section
variable {X : Cx} {Wout : WX}
/-- an exception that has landed in the frame: what the clauses may use -/
structure Landed (X : Cx) (pins : List (Addr × Obj)) (σ : L2.St) (H : Hp) (B : Heap) (a : Addr) (cls : Value) (d : Option Addr) (sI s' : Shared) (h3 : Heap) : Prop where
  J : Inv X pins σ H sI
  nb : ∀ b o, sI.heap.get? b = some o → b ∉ frs X.stack → B.get? b = some o
  up : sI.heap.UpToSlots h3
  os : s'.os = sI.os
  ag : AllBare s'.gens
  na : H a = none
  fl : HandSPX.FlyingZ B (X.env :: X.outer) a (Zc cls d) h3
theorem Landed.inv {pins : List (Addr × Obj)} {σ : L2.St} {H : Hp} {B : Heap} {a : Addr} {cls : Value} {d : Option Addr} {sI s' : Shared} {h3 : Heap} (L : Landed X pins σ H B a cls d sI s' h3) : Inv X pins σ H { s' with heap := h3 } :=
  L.J.landed L.nb L.fl.1 L.up L.os L.ag
/-- the error's object is none of the frames -/
theorem Landed.apart {pins : List (Addr × Obj)} {σ : L2.St} {H : Hp} {B : Heap} {a : Addr} {cls : Value} {d : Option Addr} {sI s' : Shared} {h3 : Heap} (L : Landed X pins σ H B a cls d sI s' h3) (hf : X.env.frame = some X.env.locals) :
    ∃ oe vs, h3.get? a = some oe ∧ Zc cls d oe ∧ oe.data = .fields vs ∧ a ≠ X.env.locals ∧ a ∉ X.fs := by
  obtain ⟨oe, vs, he, hz, hd⟩ := L.fl.there
  have nfr : a ∉ frs (X.env :: X.outer) := fun hm => by
    obtain ⟨_, o', e', hnf⟩ := L.fl.2.2.1.mem hm
    rw [he] at e'; cases e'
    exact hnf _ hd
  refine ⟨oe, vs, he, hz, hd, fun z => nfr (List.mem_filterMap.mpr ⟨X.env, List.mem_cons_self, by rw [hf, z]⟩), fun hm => ?_⟩
  obtain ⟨e, he, q⟩ := List.mem_filterMap.mp hm
  exact nfr (List.mem_filterMap.mpr ⟨e, List.mem_cons_of_mem _ he, q⟩)
theorem handle_mix (hs : X.stack = X.env :: X.outer) (hf : X.env.frame = some X.env.locals) (hN : X.N.Nodup) (tk : Takes X Wout) (ok : X.Ok) {pins : List (Addr × Obj)} {σ : L2.St} {H : Hp} {B : Heap} {a : Addr} {cls : Value} {d : Option Addr} {sI s' : Shared} {h3 : Heap} {D : Ends}
    (L : Landed X pins σ H B a cls d sI s' h3) : ∀ {hds : List ExceptHandler} {l : List (Value × Option Nat × Suite)}, Hds X hds l → wMix X.K Wout D l cls d σ H →
    wpAny (model X.prog X.w) X.A (handleBy (.ref a) X.env hds) (SP X pins D) X.xe { s' with heap := h3 } := by
  obtain ⟨oe3, vs3, he3, hz3, hd3, nL, nF⟩ := L.apart hf
  have J3 := L.inv
  have S3 := J3.suite he3 hd3 L.na nL nF
  have LT : PySem.W.Looks (model X.prog X.w) h3 (typeOf (.ref a)) cls := fun A Q E s k q => wpAny_typeOf_ref (k _ _ he3) (by rw [hz3.1]; exact q)
  have test : ∀ {x : Str} {c : Value} {np : Pos}, Names X x c → ∀ {Q : Value → Shared → Prop} {E : Value → Shared → Prop}, Q c { s' with heap := h3 } → wpAny (model X.prog X.w) (X.A.mark (some (.ref a))) (eval (.Name x np) X.env) Q E { s' with heap := h3 } := fun {x c np} hc {Q E} q => by
    obtain ⟨hg, hdbg, hm | ⟨hm, hv, hnn⟩⟩ := hc
    · exact ld_glob (X := X.suite a ((a, oe3) :: (X.pn ++ pins))) S3 hg hm q hdbg
    · exact ld_blt (X := X.suite a ((a, oe3) :: (X.pn ++ pins))) S3 hg hm hv q hnn hdbg
  intro hds l hk
  induction hk with
  | nil =>
    intro w
    refine wpAny_handleBy_nil ?_
    obtain ⟨_, _, _, oe, vs, T, oT, _, he, _, hd, h1, _⟩ := id L.fl
    unfold PySem.passOn
    refine wpAny_bind (wpAny_field he hd h1 ?_)
    rw [if_neg (show ¬ ((Value.ref T == Value.none) = true) from by simp)]
    have fin : wpAny (model X.prog X.w) X.A (setFlight (.ref a) X.env.frame) (fun _ s4 => wpAny (model X.prog X.w) X.A (throw (.ref a) : Sem Flow) (SP X pins D) X.xe s4) X.xe { s' with heap := h3 } := by
      rw [hf]
      refine HandSPX.setFlight_upZ L.fl fun h4 hh4 up4 => wpAny_throw (tk _ _ ?_)
      exact ⟨a, B, sI, pins, σ, H, cls, d, rfl, L.J, L.nb, L.up.trans up4, .inr (.inr (by rw [hs]; exact hh4)), L.na, L.os, L.ag, w⟩
    first
      | exact wpAny_bind (wpAny_pure (wpAny_bind fin))
      | exact wpAny_bind fin
  | @plain x c ts b₀ suite np p hds2 l2 hc hsu r ih =>
    rintro ⟨b, hb1, hyes, hno⟩
    refine wpAny_handleBy_cons (codeAny_handlers_test ?_) (by intro q; cases q)
    refine test hc ((PySem.W.exm_one (M := model X.prog X.w) J3.kIn LT hb1).here ?_)
    cases b with
    | true =>
      refine codeAny_handlers_suite ?_
      refine HandSPX.lands_againZ L.fl fun h4 fl4 up4 => ?_
      have L4 : Landed X pins σ H B a cls d sI s' h4 := ⟨L.J, L.nb, L.up.trans up4, L.os, L.ag, L.na, fl4⟩
      obtain ⟨oe4, vs4, he4, hz4, hd4, _, _⟩ := L4.apart hf
      refine wpAny_mono ((hsu a oe4 cls d (X.pn ++ pins) hz4 ⟨_, hd4⟩).run [] _ _ H _ (L4.inv.suite he4 hd4 L.na nL nF) (hyes rfl a L.na)) (fun f s6 hsp => ?_) (fun _ _ z => False.elim z)
      cases f with
      | ret u => obtain ⟨v6, σ6, H6, S6, r6, q6⟩ := hsp; exact ⟨_, _, _, S6.unsuite ok, r6, q6⟩
      | next => obtain ⟨σ6, H6, S6, q6⟩ := hsp; exact ⟨_, _, S6.unsuite ok, q6⟩
      | brk => obtain ⟨σ6, H6, S6, q6⟩ := hsp; exact ⟨_, _, S6.unsuite ok, q6⟩
      | cont => obtain ⟨σ6, H6, S6, q6⟩ := hsp; exact ⟨_, _, S6.unsuite ok, q6⟩
    | false =>
      show wpAny _ X.A (handleBy (.ref a) X.env hds2) _ _ _
      exact ih (hno rfl)
  | @named x n i c ts b₀ suite np p hds2 l2 hi hln hc hsu r ih =>
    rintro ⟨b, hb1, hyes, hno⟩
    refine wpAny_handleBy_cons (codeAny_handlers_test ?_) (by intro q; cases q)
    refine test hc ((PySem.W.exm_one (M := model X.prog X.w) J3.kIn LT hb1).here ?_)
    cases b with
    | true =>
      refine codeAny_handlers_suite_as ?_
      refine HandSPX.lands_againZ L.fl fun h4 fl4 up4 => ?_
      have L4 : Landed X pins σ H B a cls d sI s' h4 := ⟨L.J, L.nb, L.up.trans up4, L.os, L.ag, L.na, fl4⟩
      obtain ⟨oe4, vs4, he4, hz4, hd4, _, _⟩ := L4.apart hf
      refine store_ok (X := X.suite a ((a, oe4) :: (X.pn ++ pins))) (v := .ref a) (L4.inv.suite he4 hd4 L.na nL nF) hN hi (.inl hln) rfl (fun s5 S5 => ?_) (.inr hln)
      refine wpAny_mono ((hsu a oe4 cls d (X.pn ++ pins) hz4 ⟨_, hd4⟩).run [] s5 _ H _ S5 (hyes rfl a L.na)) (fun f s6 hsp => ?_) (fun _ _ z => False.elim z)
      cases f with
      | ret u => obtain ⟨v6, σ6, H6, S6, r6, q6⟩ := hsp; exact gone_ok (S6.unsuite ok) hN hi hln fun s7 J7 => ⟨_, _, _, J7, r6, q6⟩
      | next => obtain ⟨σ6, H6, S6, q6⟩ := hsp; exact gone_ok (S6.unsuite ok) hN hi hln fun s7 J7 => ⟨_, _, J7, q6⟩
      | brk => obtain ⟨σ6, H6, S6, q6⟩ := hsp; exact gone_ok (S6.unsuite ok) hN hi hln fun s7 J7 => ⟨_, _, J7, q6⟩
      | cont => obtain ⟨σ6, H6, S6, q6⟩ := hsp; exact gone_ok (S6.unsuite ok) hN hi hln fun s7 J7 => ⟨_, _, J7, q6⟩
    | false =>
      show wpAny _ X.A (handleBy (.ref a) X.env hds2) _ _ _
      exact ih (hno rfl)
theorem ps_try_mix {body : List Stmt} {h₀ : ExceptHandler} {hds : List ExceptHandler} {l : List (Value × Option Nat × Suite)} {pos : Pos} {tb : WX → TS} (hs : X.stack = X.env :: X.outer) (hf : X.env.frame = some X.env.locals) (hN : X.N.Nodup) (tk : Takes X Wout)
    (hb : ∀ (W : WX) (pn : List (Addr × Obj)) (xe : Value → Shared → Prop), Takes (X.tr pn xe) W → PassesOwn (model X.prog X.w) X.A X.env xe → PSs (X.tr pn xe) body (tb W))
    (hh : Hds X (h₀ :: hds) l) : PS X (.Try body (h₀ :: hds) [] [] pos) (fun D σ H => tb (wMix X.K Wout D l) D σ H) := by
  refine ⟨fun pins s σ H D I h => ?_⟩
  have ok := I.ok
  have hfr : X.A.frames = some (X.env :: X.outer) := by rw [ok.frames, hs]
  refine wpAny_Try_except ?_
  refine wpAny_mono ((hb (wMix X.K Wout D l) (X.pn ++ pins) (fun e s₁ => wpAny (model X.prog X.w) X.A (noteFrame e X.env) (fun _ s₂ => wpAny (model X.prog X.w) X.A (setFlight e none) (fun _ s₃ =>
    wpAny (model X.prog X.w) X.A (handleBy e X.env (h₀ :: hds)) (SP X pins D) X.xe s₃) X.xe s₂) X.xe s₁) (fun u s' xx => ?_) PassesOwn.looking).run [] s σ H D (I.toTry _) h) (fun f s1 hsp => ?_) (fun e s1 he => he)
  · obtain ⟨a, B, sI, pins', σ', H', cls, d, rfl, J', nb, up, sky, na, os, ag, w⟩ := xx
    have sky' : Sky B (X.env :: X.outer) a (Zc cls d) X.env.locals s'.heap := by rw [← hs]; exact sky
    show wpAny (model X.prog X.w) X.A (noteFrame (.ref a) X.env) _ _ _
    refine Sky.land Zc.steady hfr hf sky' fun h3 fl3 up3 => ?_
    exact handle_mix hs hf hN tk ok (s' := s') ⟨J'.ofTry ok, nb, up.trans up3, os, ag, na, fl3⟩ hh w
  · cases f with
    | next => obtain ⟨σ', H', J', q⟩ := hsp; exact wpAny_execs_nil ⟨σ', H', J'.ofTry ok, q⟩
    | brk => obtain ⟨σ', H', J', q⟩ := hsp; exact ⟨σ', H', J'.ofTry ok, q⟩
    | cont => obtain ⟨σ', H', J', q⟩ := hsp; exact ⟨σ', H', J'.ofTry ok, q⟩
    | ret u => obtain ⟨v, σ', H', J', r, q⟩ := hsp; exact ⟨v, σ', H', J'.ofTry ok, r, q⟩
end
end L3

namespace L3
open PySem PySem.Spec PyProof.Rows L2
/-- what TyOf asks of an own class -/
structure TyC (K : PySem.W.Frag) (C : Addr) : Prop where
  cl : Cls K C
  t1 : PySem.W.findIn K (.ref C) "__class__" = some (some (.builtin "object.__class__"))
  t2 : PySem.W.specialIn K (.builtin "object.__class__") "__get__" = some (some (.builtin "getset_descriptor.__get__"))
  t3 : PySem.W.takesIn K (.builtin "object.__class__") = some true
  t4 : PySem.W.mroIn K C (.type "object") = some true
theorem TyC.ty {K : PySem.W.Frag} {C : Addr} (T : TyC K C) {H : Hp} {a dx : Addr} {fs : List (Str × V)} (h : H a = some (.ins C dx fs)) : TyOf K H (.ref a) (.ref C) := .ins h T.cl T.t1 T.t2 T.t3 T.t4
theorem exm_of {K : PySem.W.Frag} {A B : Addr} {b : Bool} (h1 : PySem.W.subIn K (.ref B) (.type "BaseException") = some true) (h2 : PySem.W.isClsIn K B = true) (h3 : PySem.W.typeIn K (.ref B) = some (.type "type")) (h4 : PySem.W.subIn K (.ref A) (.ref B) = some b) :
    PySem.W.exmOne K (.ref A) (.ref B) = some b := by
  have e1 : (PySem.W.subIn K (.ref B) (.type "BaseException") == some true) = true := by rw [h1] <;> rfl
  have e2 : ((PySem.W.clsIn K B).isSome && PySem.W.typeIn K (.ref B) == some (.type "type")) = true := by
    have h2' : (PySem.W.clsIn K B).isSome = true := h2
    rw [h2', h3] <;> rfl
  unfold PySem.W.exmOne
  rw [if_pos e1]
  show (if ((PySem.W.clsIn K B).isSome && PySem.W.typeIn K (.ref B) == some (.type "type")) = true then PySem.W.subIn K (.ref A) (.ref B) else none) = some b
  rw [if_pos e2]
  exact h4
theorem binds_full {K : PySem.W.Frag} {fd : FuncData} {ps : List Str} {dvs : List V} {j : Nat} (h : ∃ ds, Vals (dvs.drop j) ds ∧ Binds K fd ps ds) (hj : dvs.length ≤ j := by decide) : Binds K fd ps [] := by
  obtain ⟨ds, r, b⟩ := h
  rw [List.drop_of_length_le hj] at r
  cases r
  exact b
open Builtin in
theorem bool_K {prog : Program} {w : World} {A : Around} {E : Value → Shared → Prop} {s : Shared} {x : Value} {Q : Value → Shared → Prop}
    (h : wpAny (model prog w) A.in1.in1 (truthy x) (fun b s' => Q (.bool b) s') E s) : wpAny (model prog w) A (call (.type "bool") [x]) Q E s := by
  refine callType_codes (T := "bool") (Bi := Builtin.«object.__init__») (Q₁ := fun r s₁ => ∃ b, r = .bool b ∧ Q r s₁) PySem.F.called_bool (PySem.F.typeCall_bool_1 _) PySem.F.entry_object_init ?_ ?_
  · refine codeAny_of_tree ?_
    show wpAny _ A.in1.in1 (do checkBuiltinCall "bool.__new__" ⟨[.type "bool", x], []⟩; again (.builtin "bool.__new__" ⟨[.type "bool", x], []⟩)) _ _ s
    refine wpAny_bind (wpAny_of_eq (PySem.F.newCall_bool_1 _) (wpAny_pure ⟨plainId_quiet (by decide +kernel) _, codeAny_builtin PySem.F.entry_bool_new ?_⟩))
    rw [Around.under_plainId (by decide +kernel) _]
    obtain ⟨hp, g, d, tk, os⟩ := s
    have f1 := PySem.F.conv_sub_bool
    repeat (any_goals (first | assumption | (with_reducible refine wpAny_bind (wpAny_mono h (fun b s' hb => ?_) fun _ _ y => y)) | wp_step))
    exact ⟨b, rfl, hb⟩
  · rintro obj s₁ ⟨b, rfl, hq⟩
    exact ⟨PySem.typeIs_bool _ _, PySem.F.args_object_init_2 _ _, object_init_meets PySem.F.called_bool.init.lookup PySem.F.called_bool.made (by decide) prog w A.in1 _ s₁ ⟨PySem.typeIs_bool _ _, rfl, hq⟩⟩
section
variable {X : Cx}
/-- o.f as a target -/
def gFld (K : PySem.W.Frag) (to : TE) (f : Str) : TG := fun v σ H Q => to σ H fun x H1 => ∃ a C dx fs, x = .ref a ∧ H1 a = some (.ins C dx fs) ∧ Cls K C ∧ NoAttr K C f ∧ fs.length < 1000 ∧ Q σ (upd H1 a (.ins C dx (putF f v fs)))
theorem pg_fld {o : Expr} {f : Str} {pos : Pos} {to : TE} (ho : PE X o to)
    (ha : ∀ v, assign (.Attribute o f pos) X.env v = (do
      let ov ← holding [v] (eval o X.env)
      standAt pos.atName
      holding [v, ov] (setAttr ov f v)
      release [v, ov] []) := by intro _; rfl) : PG X (.Attribute o f pos) (gFld X.K to f) := by
  refine ⟨fun pins s σ H v u Q I r h => ?_⟩
  rw [ha]
  refine wpAny_bind (wpAny_holding (thn (ho.run pins s σ H _ I h) fun ov s1 ⟨x, H1, I1, r1, a, C, dx, fs, ex, ea, c, n, l, q1⟩ => ?_))
  subst ex
  obtain rfl : ov = Value.ref a := r1
  refine wpAny_bind (wpAny_standAt (wpAny_bind (wpAny_holding (setattr_ok I1 ea c n l r fun s3 I3 => ?_))))
  exact wpAny_release ⟨σ, _, I3, q1⟩
/-- // by any divisor but 0, below 2 ^ 9000 in size -/
def CDivS (_ j : Int) : Prop := j ≠ 0 ∧ j.natAbs.log2 < 9000
theorem op_fdivN2 : OpR X (binaryOp .FloorDiv) (rI CDivS fun i j => .int (i.fdiv j)) := opI fun i j _ _ _ _ _ hc q => floordiv_int hc.1 q (.inl (PyProof.noPylong_of_log2 hc.2))
def CPowW (i j : Int) : Prop := 0 ≤ j ∧ (Builtin.Int.intBits i : Int) * j ≤ 2 ^ 27
theorem op_powW : OpR X (binaryOp .Pow) (rI CPowW fun i j => .int (i ^ j.toNat)) := opI fun _ _ _ _ _ _ _ hc q => pow_int hc.1 hc.2 q
/-- bool(x), by a TruR one room deeper -/
theorem call_ownBool {CX : CXT} {k : Nat} {C f : Addr} {fd : FuncData} {ps : List Str} {sp : Sp} {E : XK} (o : Own X.K C "__bool__" f) (F : FnOk X.prog X.w X.K X.mg X.base CX k f fd ps sp) (hr : Room (k + 2) X.A) (hb : Binds X.K fd ps []) (hx : Passes CX X E) :
    CallR X (.type "bool") (fun xs H Q => ∃ x, xs = [x] ∧ rOwn1 C sp E x H (fun v H' => ∃ z, v = .bl z ∧ Q (.bl z) H')) := by
  intro pins s σ H xs us Q I r h
  obtain ⟨_, rfl, a, dx, fs, rfl, ea, h⟩ := h
  obtain ⟨u, rfl, rx⟩ := vals1 r
  cases (show u = Value.ref a from rx)
  obtain ⟨mA, O, _⟩ := ins_get I.hok ea
  obtain ⟨od, J, _⟩ := O.look
  obtain ⟨m, hF⟩ := I.fr
  refine bool_K (PySem.W.truthy_K hF I.ok.mod.kin J o.at_ o.fn (wpAny_mono (run_in (us := [.ref a]) (vs := [.ref a]) F hr.in1.in1 I.env0.in1.in1 hb hx I (.cons rfl .nil) h) (fun u s' q => ?_) fun _ _ y => y))
  obtain ⟨v, H', I', rv, z, rfl, q⟩ := q
  cases (show u = Value.bool z from rv)
  exact ⟨.bl z, H', I', rfl, q⟩
end
end L3

namespace L3
open PySem PySem.Spec PyProof.Rows L2
section
variable {X : Cx}
/-- not e as a value, by a TruR -/
theorem pe_notTru {a : Expr} {ta : TE} {r : V → Hp → (Bool → Hp → Prop) → Prop} {pos : Pos} (ht : TruR X r) (ha : PE X a ta) : PE X (.UnaryOp .Not a pos) (fun σ H Q => ta σ H fun x H' => r x H' fun c H2 => Q (.bl (!c)) H2) := by
  refine ⟨fun pins s σ H Q I h => ?_⟩
  refine UnaryOp_ (thn (ha.run pins s σ H _ I h) fun v s1 ⟨x, H1, I1, r1, q1⟩ => ?_)
  exact not_of (thn (ht pins s1 σ H1 x v _ I1 r1 q1) fun c s2 ⟨H2, I2, q2⟩ => ⟨.bl (!c), H2, I2, rfl, q2⟩)
/-- a text times a number -/
theorem op_rep_str : OpR X (binaryOp .Mult) (fun x y H Q => ∃ z n, x = .str z ∧ y = .int n ∧ PySem.MulOk z n ∧ Q (.str (PySem.Txt.mul z n)) H) := by
  intro pins s σ H x y v u Q I rx ry h
  obtain ⟨i, j, rfl, rfl, hz, q⟩ := h
  obtain ⟨t, rfl⟩ := rx
  obtain ⟨t', rfl⟩ := ry
  exact SB.mul hz (fun t' tk => ⟨.str (PySem.Txt.mul i j), H, I.tok _, ⟨_, rfl⟩, q⟩)
end
end L3

namespace L3
open PySem PySem.Spec PyProof.Rows L2
section
variable {X : Cx}
/-- str of an int of at most 4300 digits -/
theorem call_str_intD (hD : PySem.W.nsIn X.K cStatics "sys.int_max_str_digits" = some none) (hc : X.calm = true) : CallR X (.type "str") (fun xs H Q => ∃ i, xs = [.int i] ∧ i.natAbs < 10 ^ 4300 ∧ Q (.str (toString i)) H) := by
  intro pins s σ H xs us Q I r h
  obtain ⟨i, rfl, hz, q⟩ := h
  obtain ⟨u, rfl, t, rfl⟩ := vals1 r
  obtain ⟨mc, hn, _⟩ := I.nolimit
  refine str_of_int_or (I.ok.hd hc) ⟨mc, hn, PySem.W.ns_none_of I.kIn hn hD⟩ (fun _ => ⟨.str (toString i), H, I.tok _, ⟨_, rfl⟩, q⟩) (fun hge => ?_)
  exact absurd hz (Nat.not_lt.mpr hge)
/-- // by a divisor of any size, or of one so great that the other is not far greater -/
def CDivX (i j : Int) : Prop := j ≠ 0 ∧ (j.natAbs.log2 < 9000 ∨ i.natAbs.log2 ≤ j.natAbs.log2 + 4400)
theorem CDivX.ok {i j : Int} (h : CDivX i j) : Builtin.divisionGoesByPylong i j = false := by
  rcases h.2 with h2 | h2
  · exact PyProof.noPylong_of_log2 h2
  · have hj : (j == 0) = false := by simpa using h.1
    have k1 : (if (j == 0) = true then 0 else j.natAbs.log2 / 30 + 1) = j.natAbs.log2 / 30 + 1 := by rw [hj] <;> rfl
    have k2 : (if (i == 0) = true then 0 else i.natAbs.log2 / 30 + 1) ≤ j.natAbs.log2 / 30 + 1 + 150 := by
      split <;> omega
    show (decide ((if (j == 0) = true then 0 else j.natAbs.log2 / 30 + 1) > 300) && decide ((if (i == 0) = true then 0 else i.natAbs.log2 / 30 + 1) > (if (j == 0) = true then 0 else j.natAbs.log2 / 30 + 1) + 150)) = false
    rw [Bool.and_eq_false_iff]
    exact .inr (decide_eq_false (by omega))
theorem op_fdivX : OpR X (binaryOp .FloorDiv) (rI CDivX fun i j => .int (i.fdiv j)) := opI fun i j _ _ _ _ _ hc q => floordiv_int hc.1 q (.inl hc.ok)
variable {CX : CXT} {k : Nat} {C f : Addr} {fd : FuncData} {ps : List Str} {sp : Sp} {E : XK} {m : Str}
/-- two instances of the class, by the class's own method -/
def rOwnB (C : Addr) (sp : Sp) (E : XK) : R2 := fun x y H Q => ∃ a b dx dy fs gs, x = .ref a ∧ y = .ref b ∧ H a = some (.ins C dx fs) ∧ H b = some (.ins C dy gs) ∧ sp [.ref a, .ref b] H Q E
theorem op_ownBin {op : Operator} (hm : PySem.dunder op.info.2 = m) (sf : PySem.W.selfFirst X.K C = true) (ty : L3.TyC X.K C) (o : Own X.K C m f) (F : FnOk X.prog X.w X.K X.mg X.base CX k f fd ps sp) (hr : Room k X.A) (hb : Binds X.K fd ps []) (hx : Passes CX X E) :
    OpR X (binaryOp op) (rOwnB C sp E) := by
  intro pins s σ H x y v u Q I rx ry h
  obtain ⟨a, b, dx, dy, fs, gs, rfl, rfl, ea, eb, h⟩ := h
  cases (show v = Value.ref a from rx)
  cases (show u = Value.ref b from ry)
  obtain ⟨mA, O, _⟩ := ins_get I.hok ea
  obtain ⟨od, J, _⟩ := O.look
  obtain ⟨m', hF⟩ := I.fr
  subst hm
  refine PySem.W.binop_K hF I.ok.mod.kin J (tyLooks I ry (ty.ty eb)) sf o.at_ o.fn (wpAny_mono (run_in (us := [.ref a, .ref b]) (vs := [.ref a, .ref b]) F hr I.env0 hb hx I (.cons rfl (.cons rfl .nil)) h) (fun u s' q => ?_) fun _ _ y => y)
  obtain ⟨z, H', I', rz, q⟩ := q
  have key : ∀ w : Value, RelV z w → w ≠ .notImplemented := fun w r e => by
    subst e
    cases z <;> first | (cases r; done) | (obtain ⟨_, r⟩ := r; cases r)
  have e := key u rz
  cases u <;> first | exact (e rfl).elim | exact ⟨z, H', I', rz, q⟩
theorem op_ownAdd (sf : PySem.W.selfFirst X.K C = true) (ty : L3.TyC X.K C) (o : Own X.K C "__add__" f) (F : FnOk X.prog X.w X.K X.mg X.base CX k f fd ps sp) (hr : Room k X.A) (hb : Binds X.K fd ps []) (hx : Passes CX X E) : OpR X (binaryOp .Add) (rOwnB C sp E) := op_ownBin (by decide +kernel) sf ty o F hr hb hx
theorem op_ownSub (sf : PySem.W.selfFirst X.K C = true) (ty : L3.TyC X.K C) (o : Own X.K C "__sub__" f) (F : FnOk X.prog X.w X.K X.mg X.base CX k f fd ps sp) (hr : Room k X.A) (hb : Binds X.K fd ps []) (hx : Passes CX X E) : OpR X (binaryOp .Sub) (rOwnB C sp E) := op_ownBin (by decide +kernel) sf ty o F hr hb hx
theorem op_ownMul (sf : PySem.W.selfFirst X.K C = true) (ty : L3.TyC X.K C) (o : Own X.K C "__mul__" f) (F : FnOk X.prog X.w X.K X.mg X.base CX k f fd ps sp) (hr : Room k X.A) (hb : Binds X.K fd ps []) (hx : Passes CX X E) : OpR X (binaryOp .Mult) (rOwnB C sp E) := op_ownBin (by decide +kernel) sf ty o F hr hb hx
end
end L3

namespace L3
open PySem PySem.Spec PyProof.Rows L2
theorem takes_len {X : Cx} {W : WX} (t : Takes X W) : Takes X (fun c d σ H => σ.length = X.N.length → W c d σ H) := fun u s' ⟨a, B, sI, pins, σ, H, cls, d, e, I, nb, up, sky, na, os, ag, w⟩ =>
  t u s' ⟨a, B, sI, pins, σ, H, cls, d, e, I, nb, up, sky, na, os, ag, w I.len⟩
/-- try with its clauses, all that the body lets out told by one word -/
theorem ps_tryE {X : Cx} {t : XK → TS} {body : List Stmt} {h₀ : ExceptHandler} {hds : List ExceptHandler} {l : List (Value × Option Nat × Suite)} {pos : Pos} (hs : X.stack = X.env :: X.outer) (hf : X.env.frame = some X.env.locals) (hN : X.N.Nodup)
    (hb : ∀ (W : WX) (pn : List (Addr × Obj)) (xe : Value → Shared → Prop) (Ech : XK), Takes (X.tr pn xe) W → (∀ cls d σ' H', Ech cls d H' → σ'.length = X.N.length → W cls d σ' H') → PSs (X.tr pn xe) body (t Ech)) (hh : Hds X (h₀ :: hds) l) :
    PS X (.Try body (h₀ :: hds) [] [] pos) (fun D σ H => ∃ Ech : XK, (∀ cls d σ' H', Ech cls d H' → σ'.length = X.N.length → wMix X.K (fun _ _ _ _ => False) D l cls d σ' H') ∧ t Ech D σ H) :=
  ps_try_mix (Wout := fun _ _ _ _ => False) (tb := fun W D σ H => ∃ Ech : XK, (∀ cls d σ' H', Ech cls d H' → σ'.length = X.N.length → W cls d σ' H') ∧ t Ech D σ H) hs hf hN LamX.takes0
    (fun W pn xe tk _ => ⟨fun pins s σ H D I ⟨Ech, hW, h⟩ => (hb W pn xe Ech tk hW).run pins s σ H D I h⟩) hh
end L3

namespace L3
open PySem PySem.Spec PyProof.Rows L2
section
variable {X : Cx}
/-- a list of whatever items against one of another length -/
def rNeLen : R2 := fun x y H Q => ∃ a b xs ys, x = .ref a ∧ y = .ref b ∧ H a = some (.lst xs) ∧ H b = some (.lst ys) ∧ xs.length ≠ ys.length ∧ Q (.bl true) H
def rEqLen : R2 := fun x y H Q => ∃ a b xs ys, x = .ref a ∧ y = .ref b ∧ H a = some (.lst xs) ∧ H b = some (.lst ys) ∧ xs.length ≠ ys.length ∧ Q (.bl false) H
theorem op_neLen (hu : X.A.units < cLine) : OpR X (compareOp .NotEq) rNeLen := by
  intro pins s σ H x y v u Q I rx ry h
  obtain ⟨a, b, xs, ys, rfl, rfl, ea, eb, hl, q⟩ := h
  cases (show v = Value.ref a from rx)
  cases (show u = Value.ref b from ry)
  obtain ⟨_, us, n, r1, g1⟩ := (show ObjOk X.prog X.w H s.heap a (.lst xs) from I.hok a _ ea)
  obtain ⟨_, vs, m, r2, g2⟩ := (show ObjOk X.prog X.w H s.heap b (.lst ys) from I.hok b _ eb)
  have hne : (us.toArray.size != vs.toArray.size) = true := by
    rw [List.size_toArray, List.size_toArray, ← r1.length, ← r2.length]
    simpa using hl
  refine wpAny_richCompare_same_room (op := .NotEq) ⟨_, g1, rfl⟩ ⟨_, g2, rfl⟩ F.slot_list_ne (GQ.call_here F.slot_list_ne ⟨_, g1, rfl⟩ F.entry_list_ne (F.args_list_ne_2 _ _) ?_) hu
  exact SeqAt.list_ne_lengthsAt a b _ _ _ _ _ _ _ _ hne _ _ _ _ _ ⟨g1, g2, (fun z => nomatch z), .bl true, H, I, rfl, q⟩
theorem op_eqLen (hu : X.A.units < cLine) : OpR X (compareOp .Eq) rEqLen := by
  intro pins s σ H x y v u Q I rx ry h
  obtain ⟨a, b, xs, ys, rfl, rfl, ea, eb, hl, q⟩ := h
  cases (show v = Value.ref a from rx)
  cases (show u = Value.ref b from ry)
  obtain ⟨_, us, n, r1, g1⟩ := (show ObjOk X.prog X.w H s.heap a (.lst xs) from I.hok a _ ea)
  obtain ⟨_, vs, m, r2, g2⟩ := (show ObjOk X.prog X.w H s.heap b (.lst ys) from I.hok b _ eb)
  have hne : (us.toArray.size != vs.toArray.size) = true := by
    rw [List.size_toArray, List.size_toArray, ← r1.length, ← r2.length]
    simpa using hl
  refine wpAny_richCompare_same_room (op := .Eq) ⟨_, g1, rfl⟩ ⟨_, g2, rfl⟩ F.slot_list_eq (GQ.call_here F.slot_list_eq ⟨_, g1, rfl⟩ F.entry_list_eq (F.args_list_eq_2 _ _) ?_) hu
  exact SeqAt.list_eq_lengthsAt a b _ _ _ _ _ _ _ _ hne _ _ _ _ _ ⟨g1, g2, (fun z => nomatch z), .bl false, H, I, rfl, q⟩
/-- a tuple of whatever items against the empty one -/
def rNeTup0 : R2 := fun x y H Q => ∃ a b xs, x = .ref a ∧ y = .ref b ∧ H a = some (.tup xs) ∧ H b = some (.tup []) ∧ Q (.bl (!xs.isEmpty)) H
theorem op_neTup0 (hu : X.A.units < cLine) : OpR X (compareOp .NotEq) rNeTup0 := by
  intro pins s σ H x y v u Q I rx ry h
  obtain ⟨a, b, xs, rfl, rfl, ea, eb, q⟩ := h
  cases (show v = Value.ref a from rx)
  cases (show u = Value.ref b from ry)
  obtain ⟨us, r1, g1, z1⟩ := I.tuple (SqT.of ea)
  obtain ⟨vs, r2, g2, z2⟩ := I.tuple (SqT.of eb)
  cases r2
  obtain ⟨⟨cls, dd, data, sl⟩, ho, hc, n, hd⟩ := id g1
  obtain ⟨⟨cls2, dd2, data2, sl2⟩, ho2, hc2, n2, hd2⟩ := id g2
  simp only at hc hd hc2 hd2
  subst hc hd hc2 hd2
  refine wpAny_richCompare_same_room (op := .NotEq) ⟨_, ho, rfl⟩ ⟨_, ho2, rfl⟩ F.slot_tuple_ne (GQ.call_here F.slot_tuple_ne ⟨_, ho, rfl⟩ F.entry_tuple_ne (F.args_tuple_ne_2 _ _) ?_) hu
  refine SeqAt.tuple_neAt a b _ _ _ _ _ _ _ _ (fun _ => true) _ _ _ _ _ ⟨ho, ho2, fun j _ h2 => absurd h2 (Nat.not_lt_zero j), (fun z => nomatch z), .bl (!xs.isEmpty), H, I, ?_, q⟩
  have e : (!((List.range (min us.toArray.size ([] : List Value).toArray.size)).all (fun _ => true) && us.toArray.size == ([] : List Value).toArray.size)) = !xs.isEmpty := by
    cases r1 <;> simp
  show Value.bool _ = Value.bool _
  rw [e]
/-- .. against the empty list -/
def rNeNil (K : PySem.W.Frag) : R2 := fun x y H Q => ∃ a b xs, x = .ref a ∧ y = .ref b ∧ H a = some (.lst xs) ∧ H b = some (.lst []) ∧ Q (.bl (!xs.isEmpty)) H
def rEqNil (K : PySem.W.Frag) : R2 := fun x y H Q => ∃ a b xs, x = .ref a ∧ y = .ref b ∧ H a = some (.lst xs) ∧ H b = some (.lst []) ∧ Q (.bl xs.isEmpty) H
theorem op_neNil (hu : X.A.units + 64 < cLine) : OpR X (compareOp .NotEq) (rNeNil X.K) := by
  intro pins s σ H x y v u Q I rx ry h
  obtain ⟨a, b, xs, rfl, rfl, ea, eb, q⟩ := h
  cases xs with
  | nil => exact op_neD hu pins s σ H _ _ v u Q I rx ry ⟨_, _, .lst (SqL.of ea) .nil, .lst (SqL.of eb) .nil, rfl, rfl, q⟩
  | cons z zs => exact op_neLen (by omega) pins s σ H _ _ v u Q I rx ry ⟨a, b, _, _, rfl, rfl, ea, eb, (by simp), q⟩
theorem op_eqNil (hu : X.A.units + 64 < cLine) : OpR X (compareOp .Eq) (rEqNil X.K) := by
  intro pins s σ H x y v u Q I rx ry h
  obtain ⟨a, b, xs, rfl, rfl, ea, eb, q⟩ := h
  cases xs with
  | nil => exact op_eqD hu pins s σ H _ _ v u Q I rx ry ⟨_, _, .lst (SqL.of ea) .nil, .lst (SqL.of eb) .nil, rfl, rfl, q⟩
  | cons z zs => exact op_eqLen (by omega) pins s σ H _ _ v u Q I rx ry ⟨a, b, _, _, rfl, rfl, ea, eb, (by simp), q⟩
end
end L3

/-! int(text) of up to 4300 digits; {n} of as many -/
namespace L3
open PySem PySem.Spec PySem.W PySem.Calls PySem.NumText PyProof.Rows L2
theorem max_digits {M : Model} {A : Around} {E : Value → Shared → Prop} {s : Shared} {Q : Nat → Shared → Prop} (hn : s.heap.NoDigits) (h : Q 4300 s) : wpAny M A Builtin.intMaxStrDigits Q E s := by
  obtain ⟨mc, hns, hnone⟩ := hn
  unfold Builtin.intMaxStrDigits
  refine wpAny_bind (wpAny_nsGet hns ?_)
  rw [hnone]
  exact wpAny_pure h
theorem wp_textL {M : Model} {A : Around} {E : Value → Shared → Prop} {s : Shared} {Q : Value → Shared → Prop} {v : Value} {text : List Nat} {n : Int} (hn : s.heap.NoDigits)
    (hs : ¬ (text.takeWhile (· != 0)).length ≤ 640) (hr : (int_private% "readNumeral") 4300 10 (text.takeWhile (· != 0)) = (int_private% "Numeral.value") n)
    (ha : ((text.takeWhile (· != 0)).length == text.length) = true) (h : Q (.int n s.toks) { s with toks := s.toks + 1 }) :
    wpAny M A ((int_private% "intFromText") v text 10) Q E s := by
  obtain ⟨hp, g, d, tk, os⟩ := s
  repeat (any_goals (first
    | assumption
    | (with_reducible refine wpAny_ite_false (decide_eq_false hs) ?_)
    | (with_reducible refine wpAny_ite_true (decide_eq_true ha) ?_)
    | ((with_reducible show wpAny _ _ Builtin.intMaxStrDigits _ _ _); refine max_digits hn ?_)
    | wp_step))
  all_goals (try rw [hr])
  all_goals (try dsimp only)
  repeat (any_goals (first
    | assumption
    | (with_reducible refine wpAny_ite_true (decide_eq_true ha) ?_)
    | wp_step))
structure HidL (p : Prop) : Prop where
  out : p
theorem meets_textL {x : PySem.Str} {u : Tok} {n : Int} (hs : ¬ (numSeenOf x).length ≤ 640) (hr : (int_private% "readNumeral") 4300 10 (numSeenOf x) = (int_private% "Numeral.value") n) (ha : ((numSeenOf x).length == (numTextOf x).length) = true) :
    Meets (Builtin.«int.__new__» ⟨[.type "int", .str x u], []⟩) (fun _ R s => s.heap.NoDigits ∧ R (.ok (.ret (.int n s.toks))) { s with toks := s.toks + 1 }) := fun prog w A R s h => by
  obtain ⟨hp, g, d, tk, os⟩ := s
  obtain ⟨hn, h⟩ := h
  have f1 := F.conv_sub_int
  have f2 := F.madeHere_int
  have f3 := KIN.str_int
  have f4 := KIN.str_idx
  have f5 := KIN.str_trunc
  have f6 : typeOf (.str x u) = pure (.type "str") := rfl
  have hk := HidL.mk (And.intro hs (And.intro hr ha))
  have hd := HidL.mk hn
  clear hs hr ha hn
  repeat (any_goals (first
    | assumption
    | ((with_reducible show wpAny _ _ ((int_private% "intFromText") _ _ _) _ _ _); refine wp_textL hd.out hk.out.1 hk.out.2.1 hk.out.2.2 ?_)
    | wp_step))
theorem gives_textS {x : PySem.Str} {u : Tok} {n : Int} (hs : (numSeenOf x).length ≤ 640) (hr : (int_private% "readNumeral") 0 10 (numSeenOf x) = (int_private% "Numeral.value") n) (ha : ((numSeenOf x).length == (numTextOf x).length) = true) :
    Gives (Builtin.«int.__new__» ⟨[.type "int", .str x u], []⟩) (.int n) :=
  .of_wp fun M A E s Q h => by
    obtain ⟨hp, g, d, tk, os⟩ := s
    have f1 := F.conv_sub_int
    have f2 := F.madeHere_int
    have f3 := KIN.str_int
    have f4 := KIN.str_idx
    have f5 := KIN.str_trunc
    have f6 : typeOf (.str x u) = pure (.type "str") := rfl
    have hk := HidL.mk (And.intro hs (And.intro hr ha))
    clear hs hr ha
    repeat (any_goals (first
      | assumption
      | ((with_reducible show wpAny _ _ ((int_private% "intFromText") _ _ _) _ _ _); refine KIN.wp_text hk.out.1 hk.out.2.1 hk.out.2.2 ?_)
      | wp_step))
    all_goals first | exact ⟨_, rfl, h⟩ | skip
section
variable {X : Cx}
theorem call_int_strL (hD : PySem.W.nsIn X.K cStatics "sys.int_max_str_digits" = some none) : CallR X (.type "int") (fun xs H Q => ∃ a n, xs = [.str a] ∧ PySem.intText? a = some n ∧ a.length ≤ sizeLine ∧ Q (.int n) H) := by
  intro pins s σ H xs us Q I rs h
  obtain ⟨a, n, rfl, hn, hl, h⟩ := h
  obtain ⟨u, rfl, t, rfl⟩ := vals1 rs
  have q : EP X pins σ Q (.int n s.toks) { s with toks := s.toks + 1 } := ⟨.int n, H, I.tok _, ⟨_, rfl⟩, h⟩
  by_cases hs : (numSeenOf a).length ≤ 640
  · rcases read0 a hs with ⟨m, h1, h2, h3⟩ | ⟨h1, _⟩
    · rw [hn] at h1
      cases h1
      exact call_int_1 (gives_textS hs h3 h2).meets (show (Made.int n).post _ s from ⟨rfl, q⟩)
    · rw [hn] at h1
      cases h1
  · obtain ⟨mc, hns, _⟩ := I.nolimit
    rcases read4300 a hl with ⟨m, h1, h2, h3⟩ | ⟨h1, _⟩
    · rw [hn] at h1
      cases h1
      exact call_int_1 (meets_textL hs h3 h2) ⟨⟨mc, hns, PySem.W.ns_none_of I.kIn hns hD⟩, rfl, q⟩
    · rw [hn] at h1
      cases h1
end
end L3

/-! {n} of up to 4300 digits -/
namespace L3
open PySem PySem.Spec PySem.W PySem.Calls PyProof.Rows L2
section
variable {prog : Program} {w : World} {A : Around} {E : Value → Shared → Prop} {s : Shared}
theorem formatField_intD {a : Int} {t : Tok} {Q : Value → Shared → Prop} (hh : A.handled = none) (hn : s.heap.NoDigits) (hd : a.natAbs < 10 ^ 4300)
    (h : Q (.str (toString a) (s.toks + 1)) { s with toks := s.toks + 1 + 1 }) : wpAny (model prog w) A (formatField (.int a t) Str.empty) Q E s := by
  show wpAny _ _ (holding [.int a t] (pyFormat (.int a t) Str.empty)) Q E s
  refine wpAny_holding ?_
  unfold pyFormat
  refine wpAny_bind (wpAny_mkStr ?_ (by decide))
  refine wpAny_bind (m := callSpecial? (.int a t) (Str.ofString "__format__") [.str Str.empty s.toks]) (wpAny_callSpecial?_slot (name := Str.ofString "__format__") (typeIs_int _ a t) F.slot_int_format
    (wpAny_call (codeAny_call_builtin F.slot_int_format.plain F.entry_int_format (F.slot_int_format.check _ _ _ _ _ _ _ _ (typeIs_int _ a t) (F.args_int_format_2 _ _) ?_))))
  show wpAny _ _ (do let _kind ← typeNameOf (.str Str.empty s.toks); (do rule "int.format.empty"; again (.builtin "int.__repr__" ⟨[.int a t], []⟩))) _ _ _
  refine wpAny_bind (wpAny_typeNameOf (typeIs_str _ _ _) (by decide) fun n => ?_)
  refine wpAny_bind (wpAny_rule ?_)
  refine wpAny_pure ⟨Code.quiet_builtin _ (by decide +kernel), ?_⟩
  refine code_int_repr hh hn (fun _ => ?_) (fun h2 => absurd hd (Nat.not_lt.mpr h2))
  show wpAny _ _ (do if ← isInstance (.str (toString a) (s.toks + 1)) (.type "str") then return (.str (toString a) (s.toks + 1)) else _) Q E _
  exact wpAny_bind (wpAny_isInstance (typeIs_str _ _ _) isSubtype_str_str (wpAny_pure h))
end
section
variable {X : Cx}
def tFmtD (te : TE) : TE := fun σ H Q => te σ H fun x H1 => ∃ i : Int, x = .int i ∧ i.natAbs < 10 ^ 4300 ∧ Q (.str (toString i)) H1
theorem pe_fmtD {e : Expr} {te : TE} {pos : Pos} (hD : PySem.W.nsIn X.K cStatics "sys.int_max_str_digits" = some none) (hc : X.calm = true) (he : PE X e te) : PE X (.FormattedValue e (-1) none pos) (tFmtD te) := by
  refine ⟨fun pins s σ H Q I h => ?_⟩
  refine wpAny_FormattedValue_plain (thn (he.run pins s σ H _ I h) fun v s1 hv => ?_)
  obtain ⟨x, H1, I1, r1, i, rfl, hz, q⟩ := hv
  obtain ⟨t, rfl⟩ := r1
  obtain ⟨mc, hn, _⟩ := I1.nolimit
  exact formatField_intD (I1.ok.hd hc) ⟨mc, hn, PySem.W.ns_none_of I1.kIn hn hD⟩ hz ⟨.str (toString i), H1, I1.tok _, ⟨_, rfl⟩, q⟩
end
end L3

namespace K02
open PySem PySem.Spec PyProof.Rows L2 L3
def top (i : Nat) : Stmt := PySem.Challenge.pw_worthstead_k02_whole_texts_of_ratios.main.body.getD i (.Pass ⟨0, 0, 0, 0⟩)
abbrev s_is_longer : Stmt := top 10
abbrev s_is_plain_int : Stmt := top 16
abbrev s_lowest_terms : Stmt := top 17
abbrev s_ratio_of : Stmt := top 18
abbrev s_digits_end : Stmt := top 19
abbrev s_wrong_spot : Stmt := top 20
abbrev s_ratio_read : Stmt := top 21
abbrev s__law_urn : Stmt := top 23
abbrev s__law_drawn : Stmt := top 24
abbrev s__law_one_of : Stmt := top 25
abbrev s__law_divisor : Stmt := top 26
abbrev s__law_lowest : Stmt := top 27
abbrev s__law_power : Stmt := top 28
abbrev s__law_whole : Stmt := top 29
abbrev s__law_text : Stmt := top 30
abbrev s__law_run_end : Stmt := top 31
abbrev s__law_read : Stmt := top 32
abbrev s__law_told : Stmt := top 33
abbrev s__law_digits : Stmt := top 34
abbrev s__law_line : Stmt := top 35
abbrev s__law_bent : Stmt := top 36
abbrev s__law_right : Stmt := top 37
abbrev s_law : Stmt := top 38
abbrev s_Ratio___init__ : Stmt := inClass (top 15) 0
abbrev s_Ratio_top : Stmt := inClass (top 15) 1
abbrev s_Ratio_bottom : Stmt := inClass (top 15) 2
abbrev s_Ratio_of_text : Stmt := inClass (top 15) 3
abbrev s_Ratio___str__ : Stmt := inClass (top 15) 11
theorem sc_is_longer : FnScope ["number", "digits", "bits"] ["number", "digits"] (defScope s_is_longer) := ⟨rfl, rfl, rfl, by decide +kernel, rfl, by decide +kernel, by decide +kernel⟩
theorem sc_is_plain_int : FnScope ["value"] ["value"] (defScope s_is_plain_int) := ⟨rfl, rfl, rfl, by decide +kernel, rfl, by decide +kernel, by decide +kernel⟩
theorem sc_lowest_terms : FnScope ["top", "bottom", "shared"] ["top", "bottom"] (defScope s_lowest_terms) := ⟨rfl, rfl, rfl, by decide +kernel, rfl, by decide +kernel, by decide +kernel⟩
theorem sc_ratio_of : FnScope ["top", "bottom", "made"] ["top", "bottom"] (defScope s_ratio_of) := ⟨rfl, rfl, rfl, by decide +kernel, rfl, by decide +kernel, by decide +kernel⟩
theorem sc_digits_end : FnScope ["text", "start", "end"] ["text", "start"] (defScope s_digits_end) := ⟨rfl, rfl, rfl, by decide +kernel, rfl, by decide +kernel, by decide +kernel⟩
theorem sc_wrong_spot : FnScope ["text", "start", "slash", "end", "bottom"] ["text"] (defScope s_wrong_spot) := ⟨rfl, rfl, rfl, by decide +kernel, rfl, by decide +kernel, by decide +kernel⟩
theorem sc_ratio_read : FnScope ["text", "top", "_", "bottom"] ["text"] (defScope s_ratio_read) := ⟨rfl, rfl, rfl, by decide +kernel, rfl, by decide +kernel, by decide +kernel⟩
theorem sc__law_urn : FnScope ["_law_script", "_law_turn", "_law_cell", "_law_great"] ["_law_script", "_law_turn"] (defScope s__law_urn) := ⟨rfl, rfl, rfl, by decide +kernel, rfl, by decide +kernel, by decide +kernel⟩
theorem sc__law_drawn : FnScope ["_law_urn_here", "_law_many", "_law_found", "_law_one", "_law_two"] ["_law_urn_here", "_law_many"] (defScope s__law_drawn) := ⟨rfl, rfl, rfl, by decide +kernel, rfl, by decide +kernel, by decide +kernel⟩
theorem sc__law_one_of : FnScope ["_law_urn_here", "_law_items"] ["_law_urn_here", "_law_items"] (defScope s__law_one_of) := ⟨rfl, rfl, rfl, by decide +kernel, rfl, by decide +kernel, by decide +kernel⟩
theorem sc__law_divisor : FnScope ["_law_one", "_law_other"] ["_law_one", "_law_other"] (defScope s__law_divisor) := ⟨rfl, rfl, rfl, by decide +kernel, rfl, by decide +kernel, by decide +kernel⟩
theorem sc__law_lowest : FnScope ["_law_top", "_law_bottom", "_law_part"] ["_law_top", "_law_bottom"] (defScope s__law_lowest) := ⟨rfl, rfl, rfl, by decide +kernel, rfl, by decide +kernel, by decide +kernel⟩
theorem sc__law_power : FnScope ["_law_base", "_law_times", "_law_found", "_law_lap"] ["_law_base", "_law_times"] (defScope s__law_power) := ⟨rfl, rfl, rfl, by decide +kernel, rfl, by decide +kernel, by decide +kernel⟩
theorem sc__law_whole : FnScope ["_law_urn_here", "_law_way", "_law_found", "_law_lap"] ["_law_urn_here"] (defScope s__law_whole) := ⟨rfl, rfl, rfl, by decide +kernel, rfl, by decide +kernel, by decide +kernel⟩
theorem sc__law_text : FnScope ["_law_pair"] ["_law_pair"] (defScope s__law_text) := ⟨rfl, rfl, rfl, by decide +kernel, rfl, by decide +kernel, by decide +kernel⟩
theorem sc__law_run_end : FnScope ["_law_text_here", "_law_at", "_law_end"] ["_law_text_here", "_law_at"] (defScope s__law_run_end) := ⟨rfl, rfl, rfl, by decide +kernel, rfl, by decide +kernel, by decide +kernel⟩
theorem sc__law_read : FnScope ["_law_text_here", "_law_at", "_law_end", "_law_first", "_law_last", "_law_pair"] ["_law_text_here"] (defScope s__law_read) := ⟨rfl, rfl, rfl, by decide +kernel, rfl, by decide +kernel, by decide +kernel⟩
theorem sc__law_told : FnScope ["_law_text_here", "_law_found", "e"] ["_law_text_here"] (defScope s__law_told) := ⟨rfl, rfl, rfl, by decide +kernel, rfl, by decide +kernel, by decide +kernel⟩
theorem sc__law_digits : FnScope ["_law_urn_here", "_law_size", "_law_some"] ["_law_urn_here", "_law_size"] (defScope s__law_digits) := ⟨rfl, rfl, rfl, by decide +kernel, rfl, by decide +kernel, by decide +kernel⟩
theorem sc__law_line : FnScope ["_law_urn_here", "_law_top", "_law_bottom", "_law_found"] ["_law_urn_here"] (defScope s__law_line) := ⟨rfl, rfl, rfl, by decide +kernel, rfl, by decide +kernel, by decide +kernel⟩
theorem sc__law_bent : FnScope ["_law_urn_here", "_law_text_here", "_law_lap", "_law_at", "_law_sign"] ["_law_urn_here", "_law_text_here"] (defScope s__law_bent) := ⟨rfl, rfl, rfl, by decide +kernel, rfl, by decide +kernel, by decide +kernel⟩
theorem sc__law_right : FnScope ["_law_urn_here", "_law_lap", "_law_text_here", "_law_due"] ["_law_urn_here"] (defScope s__law_right) := ⟨rfl, rfl, rfl, by decide +kernel, rfl, by decide +kernel, by decide +kernel⟩
theorem sc_law : FnScope ["_law_script", "_law_turn", "_law_texts", "_law_due", "_law_text_here"] ["_law_script"] (defScope s_law) := ⟨rfl, rfl, rfl, by decide +kernel, rfl, by decide +kernel, by decide +kernel⟩
theorem sc_Ratio___init__ : FnScope ["self", "top", "bottom"] ["self", "top", "bottom"] (defScope s_Ratio___init__) := ⟨rfl, rfl, rfl, by decide +kernel, rfl, by decide +kernel, by decide +kernel⟩
theorem sc_Ratio_top : FnScope ["self"] ["self"] (defScope s_Ratio_top) := ⟨rfl, rfl, rfl, by decide +kernel, rfl, by decide +kernel, by decide +kernel⟩
theorem sc_Ratio_bottom : FnScope ["self"] ["self"] (defScope s_Ratio_bottom) := ⟨rfl, rfl, rfl, by decide +kernel, rfl, by decide +kernel, by decide +kernel⟩
theorem sc_Ratio_of_text : FnScope ["cls", "text", "spot"] ["cls", "text"] (defScope s_Ratio_of_text) := ⟨rfl, rfl, rfl, by decide +kernel, rfl, by decide +kernel, by decide +kernel⟩
theorem sc_Ratio___str__ : FnScope ["self"] ["self"] (defScope s_Ratio___str__) := ⟨rfl, rfl, rfl, by decide +kernel, rfl, by decide +kernel, by decide +kernel⟩
structure TX (K : PySem.W.Frag) (mg : Str → Option Value) where
  C_ParseError : Addr
  f_ParseError___init__ : Addr
  x_ParseError : PySem.XParseError.Txt K mg C_ParseError f_ParseError___init__
  g_ParseError : mg "ParseError" = some (.ref C_ParseError)
  C_InvalidNumber : Addr
  f_InvalidNumber___init__ : Addr
  x_InvalidNumber : PySem.XInvalidNumber.Txt K mg C_InvalidNumber f_InvalidNumber___init__
  g_InvalidNumber : mg "InvalidNumber" = some (.ref C_InvalidNumber)
  C_TooMany : Addr
  f_TooMany___init__ : Addr
  x_TooMany : PySem.XTooMany.Txt K mg C_TooMany f_TooMany___init__
  g_TooMany : mg "TooMany" = some (.ref C_TooMany)
  C_Ratio : Addr
  g_Ratio : mg "Ratio" = some (.ref C_Ratio)
  cl_Ratio : Cls K C_Ratio
  n_Ratio__top : NoAttr K C_Ratio "_top"
  n_Ratio__bottom : NoAttr K C_Ratio "_bottom"
  tc_Ratio : L3.TyC K C_Ratio
  ne_Ratio : L3.OwnNe K C_Ratio
  kit_Ratio_NoneType : PySem.W.kitOne K (.type "NoneType") (.ref C_Ratio) = some false
  nf_Ratio_NoneType : PySem.W.notFirst K C_Ratio (.type "NoneType") = true
  itk_Ratio_NoneType : PySem.W.kitOne K (.ref C_Ratio) (.type "NoneType") = some false
  kit_Ratio_bool : PySem.W.kitOne K (.type "bool") (.ref C_Ratio) = some false
  nf_Ratio_bool : PySem.W.notFirst K C_Ratio (.type "bool") = true
  itk_Ratio_bool : PySem.W.kitOne K (.ref C_Ratio) (.type "bool") = some false
  kit_Ratio_int : PySem.W.kitOne K (.type "int") (.ref C_Ratio) = some false
  nf_Ratio_int : PySem.W.notFirst K C_Ratio (.type "int") = true
  itk_Ratio_int : PySem.W.kitOne K (.ref C_Ratio) (.type "int") = some false
  kit_Ratio_str : PySem.W.kitOne K (.type "str") (.ref C_Ratio) = some false
  nf_Ratio_str : PySem.W.notFirst K C_Ratio (.type "str") = true
  itk_Ratio_str : PySem.W.kitOne K (.ref C_Ratio) (.type "str") = some false
  kit_Ratio_list : PySem.W.kitOne K (.type "list") (.ref C_Ratio) = some false
  nf_Ratio_list : PySem.W.notFirst K C_Ratio (.type "list") = true
  itk_Ratio_list : PySem.W.kitOne K (.ref C_Ratio) (.type "list") = some false
  kit_Ratio_tuple : PySem.W.kitOne K (.type "tuple") (.ref C_Ratio) = some false
  nf_Ratio_tuple : PySem.W.notFirst K C_Ratio (.type "tuple") = true
  itk_Ratio_tuple : PySem.W.kitOne K (.ref C_Ratio) (.type "tuple") = some false
  kit_Ratio_dict : PySem.W.kitOne K (.type "dict") (.ref C_Ratio) = some false
  nf_Ratio_dict : PySem.W.notFirst K C_Ratio (.type "dict") = true
  itk_Ratio_dict : PySem.W.kitOne K (.ref C_Ratio) (.type "dict") = some false
  kit_Ratio : PySem.W.kitOne K (.ref C_Ratio) (.ref C_Ratio) = some true
  nf_Ratio : PySem.W.notFirst K C_Ratio (.ref C_Ratio) = true
  f_is_longer : Addr
  d_is_longer : FuncData
  F_is_longer : Fun K "is_longer" "is_longer" s_is_longer f_is_longer d_is_longer
  b_is_longer : Binds K d_is_longer ["number", "digits"] []
  g_is_longer : mg "is_longer" = some (.ref f_is_longer)
  f_is_plain_int : Addr
  d_is_plain_int : FuncData
  F_is_plain_int : Fun K "is_plain_int" "is_plain_int" s_is_plain_int f_is_plain_int d_is_plain_int
  b_is_plain_int : Binds K d_is_plain_int ["value"] []
  g_is_plain_int : mg "is_plain_int" = some (.ref f_is_plain_int)
  f_lowest_terms : Addr
  d_lowest_terms : FuncData
  F_lowest_terms : Fun K "lowest_terms" "lowest_terms" s_lowest_terms f_lowest_terms d_lowest_terms
  b_lowest_terms : Binds K d_lowest_terms ["top", "bottom"] []
  g_lowest_terms : mg "lowest_terms" = some (.ref f_lowest_terms)
  f_ratio_of : Addr
  d_ratio_of : FuncData
  F_ratio_of : Fun K "ratio_of" "ratio_of" s_ratio_of f_ratio_of d_ratio_of
  b_ratio_of : Binds K d_ratio_of ["top", "bottom"] []
  g_ratio_of : mg "ratio_of" = some (.ref f_ratio_of)
  f_digits_end : Addr
  d_digits_end : FuncData
  F_digits_end : Fun K "digits_end" "digits_end" s_digits_end f_digits_end d_digits_end
  b_digits_end : Binds K d_digits_end ["text", "start"] []
  g_digits_end : mg "digits_end" = some (.ref f_digits_end)
  f_wrong_spot : Addr
  d_wrong_spot : FuncData
  F_wrong_spot : Fun K "wrong_spot" "wrong_spot" s_wrong_spot f_wrong_spot d_wrong_spot
  b_wrong_spot : Binds K d_wrong_spot ["text"] []
  g_wrong_spot : mg "wrong_spot" = some (.ref f_wrong_spot)
  f_ratio_read : Addr
  d_ratio_read : FuncData
  F_ratio_read : Fun K "ratio_read" "ratio_read" s_ratio_read f_ratio_read d_ratio_read
  b_ratio_read : Binds K d_ratio_read ["text"] []
  g_ratio_read : mg "ratio_read" = some (.ref f_ratio_read)
  f__law_urn : Addr
  d__law_urn : FuncData
  F__law_urn : Fun K "_law_urn" "_law_urn" s__law_urn f__law_urn d__law_urn
  b__law_urn : Binds K d__law_urn ["_law_script", "_law_turn"] []
  g__law_urn : mg "_law_urn" = some (.ref f__law_urn)
  f__law_drawn : Addr
  d__law_drawn : FuncData
  F__law_drawn : Fun K "_law_drawn" "_law_drawn" s__law_drawn f__law_drawn d__law_drawn
  b__law_drawn : Binds K d__law_drawn ["_law_urn_here", "_law_many"] []
  g__law_drawn : mg "_law_drawn" = some (.ref f__law_drawn)
  f__law_one_of : Addr
  d__law_one_of : FuncData
  F__law_one_of : Fun K "_law_one_of" "_law_one_of" s__law_one_of f__law_one_of d__law_one_of
  b__law_one_of : Binds K d__law_one_of ["_law_urn_here", "_law_items"] []
  g__law_one_of : mg "_law_one_of" = some (.ref f__law_one_of)
  f__law_divisor : Addr
  d__law_divisor : FuncData
  F__law_divisor : Fun K "_law_divisor" "_law_divisor" s__law_divisor f__law_divisor d__law_divisor
  b__law_divisor : Binds K d__law_divisor ["_law_one", "_law_other"] []
  g__law_divisor : mg "_law_divisor" = some (.ref f__law_divisor)
  f__law_lowest : Addr
  d__law_lowest : FuncData
  F__law_lowest : Fun K "_law_lowest" "_law_lowest" s__law_lowest f__law_lowest d__law_lowest
  b__law_lowest : Binds K d__law_lowest ["_law_top", "_law_bottom"] []
  g__law_lowest : mg "_law_lowest" = some (.ref f__law_lowest)
  f__law_power : Addr
  d__law_power : FuncData
  F__law_power : Fun K "_law_power" "_law_power" s__law_power f__law_power d__law_power
  b__law_power : Binds K d__law_power ["_law_base", "_law_times"] []
  g__law_power : mg "_law_power" = some (.ref f__law_power)
  f__law_whole : Addr
  d__law_whole : FuncData
  F__law_whole : Fun K "_law_whole" "_law_whole" s__law_whole f__law_whole d__law_whole
  b__law_whole : Binds K d__law_whole ["_law_urn_here"] []
  g__law_whole : mg "_law_whole" = some (.ref f__law_whole)
  f__law_text : Addr
  d__law_text : FuncData
  F__law_text : Fun K "_law_text" "_law_text" s__law_text f__law_text d__law_text
  b__law_text : Binds K d__law_text ["_law_pair"] []
  g__law_text : mg "_law_text" = some (.ref f__law_text)
  f__law_run_end : Addr
  d__law_run_end : FuncData
  F__law_run_end : Fun K "_law_run_end" "_law_run_end" s__law_run_end f__law_run_end d__law_run_end
  b__law_run_end : Binds K d__law_run_end ["_law_text_here", "_law_at"] []
  g__law_run_end : mg "_law_run_end" = some (.ref f__law_run_end)
  f__law_read : Addr
  d__law_read : FuncData
  F__law_read : Fun K "_law_read" "_law_read" s__law_read f__law_read d__law_read
  b__law_read : Binds K d__law_read ["_law_text_here"] []
  g__law_read : mg "_law_read" = some (.ref f__law_read)
  f__law_told : Addr
  d__law_told : FuncData
  F__law_told : Fun K "_law_told" "_law_told" s__law_told f__law_told d__law_told
  b__law_told : Binds K d__law_told ["_law_text_here"] []
  g__law_told : mg "_law_told" = some (.ref f__law_told)
  f__law_digits : Addr
  d__law_digits : FuncData
  F__law_digits : Fun K "_law_digits" "_law_digits" s__law_digits f__law_digits d__law_digits
  b__law_digits : Binds K d__law_digits ["_law_urn_here", "_law_size"] []
  g__law_digits : mg "_law_digits" = some (.ref f__law_digits)
  f__law_line : Addr
  d__law_line : FuncData
  F__law_line : Fun K "_law_line" "_law_line" s__law_line f__law_line d__law_line
  b__law_line : Binds K d__law_line ["_law_urn_here"] []
  g__law_line : mg "_law_line" = some (.ref f__law_line)
  f__law_bent : Addr
  d__law_bent : FuncData
  F__law_bent : Fun K "_law_bent" "_law_bent" s__law_bent f__law_bent d__law_bent
  b__law_bent : Binds K d__law_bent ["_law_urn_here", "_law_text_here"] []
  g__law_bent : mg "_law_bent" = some (.ref f__law_bent)
  f__law_right : Addr
  d__law_right : FuncData
  F__law_right : Fun K "_law_right" "_law_right" s__law_right f__law_right d__law_right
  b__law_right : Binds K d__law_right ["_law_urn_here"] []
  g__law_right : mg "_law_right" = some (.ref f__law_right)
  f_law : Addr
  d_law : FuncData
  F_law : Fun K "law" "law" s_law f_law d_law
  b_law : Binds K d_law ["_law_script"] []
  g_law : mg "law" = some (.ref f_law)
  f_Ratio___init__ : Addr
  d_Ratio___init__ : FuncData
  F_Ratio___init__ : FunD K "__init__" "Ratio.__init__" (defArgs s_Ratio___init__) (defBody s_Ratio___init__) (defScope s_Ratio___init__) [.int 1] [] f_Ratio___init__ d_Ratio___init__
  w_Ratio___init__ : List Value
  v_Ratio___init___2 : Vals [.int 1] w_Ratio___init__
  b_Ratio___init___2 : Binds K d_Ratio___init__ ["self", "top", "bottom"] w_Ratio___init__
  b_Ratio___init__ : Binds K d_Ratio___init__ ["self", "top", "bottom"] []
  f_Ratio_top : Addr
  d_Ratio_top : FuncData
  F_Ratio_top : Fun K "top" "Ratio.top" s_Ratio_top f_Ratio_top d_Ratio_top
  b_Ratio_top : Binds K d_Ratio_top ["self"] []
  pa_Ratio_top : Addr
  p_Ratio_top : PropOf K C_Ratio "top" pa_Ratio_top f_Ratio_top
  f_Ratio_bottom : Addr
  d_Ratio_bottom : FuncData
  F_Ratio_bottom : Fun K "bottom" "Ratio.bottom" s_Ratio_bottom f_Ratio_bottom d_Ratio_bottom
  b_Ratio_bottom : Binds K d_Ratio_bottom ["self"] []
  pa_Ratio_bottom : Addr
  p_Ratio_bottom : PropOf K C_Ratio "bottom" pa_Ratio_bottom f_Ratio_bottom
  f_Ratio_of_text : Addr
  d_Ratio_of_text : FuncData
  F_Ratio_of_text : Fun K "of_text" "Ratio.of_text" s_Ratio_of_text f_Ratio_of_text d_Ratio_of_text
  b_Ratio_of_text : Binds K d_Ratio_of_text ["cls", "text"] []
  pa_Ratio_of_text : Addr
  cm_Ratio_of_text : ClX.CMet K C_Ratio (.type "type") "of_text" pa_Ratio_of_text f_Ratio_of_text
  cr_Ratio_of_text : ClX.CRead K C_Ratio (.type "type")
  f_Ratio___str__ : Addr
  d_Ratio___str__ : FuncData
  F_Ratio___str__ : Fun K "__str__" "Ratio.__str__" s_Ratio___str__ f_Ratio___str__ d_Ratio___str__
  b_Ratio___str__ : Binds K d_Ratio___str__ ["self"] []
  o_Ratio___str__ : L3.Own K C_Ratio "__str__" f_Ratio___str__
  mk_Ratio : Mk K C_Ratio f_Ratio___init__
  ct_FEWEST_BITS : Tok
  c_FEWEST_BITS : mg "FEWEST_BITS" = some (.int 3 ct_FEWEST_BITS)
  ct_MOST_BITS : Tok
  c_MOST_BITS : mg "MOST_BITS" = some (.int 4 ct_MOST_BITS)
  ct_MAX_FIGURES : Tok
  c_MAX_FIGURES : mg "MAX_FIGURES" = some (.int 60 ct_MAX_FIGURES)
  ct_MAX_DIGITS : Tok
  c_MAX_DIGITS : mg "MAX_DIGITS" = some (.int 2000 ct_MAX_DIGITS)
  ct_DIGITS : Tok
  c_DIGITS : mg "DIGITS" = some (.str "0123456789" ct_DIGITS)
  n_isinstance : mg "isinstance" = none
  n_len : mg "len" = none
  n_str : mg "str" = none
  n_abs : mg "abs" = none
  n_int : mg "int" = none
  n_bool : mg "bool" = none
  n_max : mg "max" = none
  n_min : mg "min" = none
  n_range : mg "range" = none
  g_gcd : mg "gcd" = some (.builtin "math.gcd")
  sf_Ratio : PySem.W.selfFirst K C_Ratio = true
  dg : PySem.W.nsIn K cStatics "sys.int_max_str_digits" = some none
theorem mkT {K : PySem.W.Frag} {h : Heap} {mg : Str → Option Value} (X : K.In h) (G : h.Ns mainGlobals mg)
    {C_ParseError f_ParseError___init__ : Addr}
    {od_ParseError___init__ an_ParseError___init__ : Option Addr} {sl_ParseError___init__ : Array (Option Value)} {oc_ParseError___init__ dc_ParseError___init__ pm_ParseError___init__ cd_ParseError___init__ ct_ParseError___init__ : Value}
    {C_InvalidNumber f_InvalidNumber___init__ : Addr}
    {od_InvalidNumber___init__ an_InvalidNumber___init__ : Option Addr} {sl_InvalidNumber___init__ : Array (Option Value)} {oc_InvalidNumber___init__ dc_InvalidNumber___init__ pm_InvalidNumber___init__ cd_InvalidNumber___init__ ct_InvalidNumber___init__ : Value}
    {C_TooMany f_TooMany___init__ : Addr}
    {od_TooMany___init__ an_TooMany___init__ : Option Addr} {sl_TooMany___init__ : Array (Option Value)} {oc_TooMany___init__ dc_TooMany___init__ pm_TooMany___init__ cd_TooMany___init__ ct_TooMany___init__ : Value}
    {C_Ratio : Addr}
    {f_is_longer : Addr}
    {od_is_longer an_is_longer : Option Addr} {sl_is_longer : Array (Option Value)} {oc_is_longer kV_is_longer dc_is_longer pm_is_longer cd_is_longer ct_is_longer : Value}
    {f_is_plain_int : Addr}
    {od_is_plain_int an_is_plain_int : Option Addr} {sl_is_plain_int : Array (Option Value)} {oc_is_plain_int kV_is_plain_int dc_is_plain_int pm_is_plain_int cd_is_plain_int ct_is_plain_int : Value}
    {f_lowest_terms : Addr}
    {od_lowest_terms an_lowest_terms : Option Addr} {sl_lowest_terms : Array (Option Value)} {oc_lowest_terms kV_lowest_terms dc_lowest_terms pm_lowest_terms cd_lowest_terms ct_lowest_terms : Value}
    {f_ratio_of : Addr}
    {od_ratio_of an_ratio_of : Option Addr} {sl_ratio_of : Array (Option Value)} {oc_ratio_of kV_ratio_of dc_ratio_of pm_ratio_of cd_ratio_of ct_ratio_of : Value}
    {f_digits_end : Addr}
    {od_digits_end an_digits_end : Option Addr} {sl_digits_end : Array (Option Value)} {oc_digits_end kV_digits_end dc_digits_end pm_digits_end cd_digits_end ct_digits_end : Value}
    {f_wrong_spot : Addr}
    {od_wrong_spot an_wrong_spot : Option Addr} {sl_wrong_spot : Array (Option Value)} {oc_wrong_spot kV_wrong_spot dc_wrong_spot pm_wrong_spot cd_wrong_spot ct_wrong_spot : Value}
    {f_ratio_read : Addr}
    {od_ratio_read an_ratio_read : Option Addr} {sl_ratio_read : Array (Option Value)} {oc_ratio_read kV_ratio_read dc_ratio_read pm_ratio_read cd_ratio_read ct_ratio_read : Value}
    {f__law_urn : Addr}
    {od__law_urn an__law_urn : Option Addr} {sl__law_urn : Array (Option Value)} {oc__law_urn kV__law_urn dc__law_urn pm__law_urn cd__law_urn ct__law_urn : Value}
    {f__law_drawn : Addr}
    {od__law_drawn an__law_drawn : Option Addr} {sl__law_drawn : Array (Option Value)} {oc__law_drawn kV__law_drawn dc__law_drawn pm__law_drawn cd__law_drawn ct__law_drawn : Value}
    {f__law_one_of : Addr}
    {od__law_one_of an__law_one_of : Option Addr} {sl__law_one_of : Array (Option Value)} {oc__law_one_of kV__law_one_of dc__law_one_of pm__law_one_of cd__law_one_of ct__law_one_of : Value}
    {f__law_divisor : Addr}
    {od__law_divisor an__law_divisor : Option Addr} {sl__law_divisor : Array (Option Value)} {oc__law_divisor kV__law_divisor dc__law_divisor pm__law_divisor cd__law_divisor ct__law_divisor : Value}
    {f__law_lowest : Addr}
    {od__law_lowest an__law_lowest : Option Addr} {sl__law_lowest : Array (Option Value)} {oc__law_lowest kV__law_lowest dc__law_lowest pm__law_lowest cd__law_lowest ct__law_lowest : Value}
    {f__law_power : Addr}
    {od__law_power an__law_power : Option Addr} {sl__law_power : Array (Option Value)} {oc__law_power kV__law_power dc__law_power pm__law_power cd__law_power ct__law_power : Value}
    {f__law_whole : Addr}
    {od__law_whole an__law_whole : Option Addr} {sl__law_whole : Array (Option Value)} {oc__law_whole kV__law_whole dc__law_whole pm__law_whole cd__law_whole ct__law_whole : Value}
    {f__law_text : Addr}
    {od__law_text an__law_text : Option Addr} {sl__law_text : Array (Option Value)} {oc__law_text kV__law_text dc__law_text pm__law_text cd__law_text ct__law_text : Value}
    {f__law_run_end : Addr}
    {od__law_run_end an__law_run_end : Option Addr} {sl__law_run_end : Array (Option Value)} {oc__law_run_end kV__law_run_end dc__law_run_end pm__law_run_end cd__law_run_end ct__law_run_end : Value}
    {f__law_read : Addr}
    {od__law_read an__law_read : Option Addr} {sl__law_read : Array (Option Value)} {oc__law_read kV__law_read dc__law_read pm__law_read cd__law_read ct__law_read : Value}
    {f__law_told : Addr}
    {od__law_told an__law_told : Option Addr} {sl__law_told : Array (Option Value)} {oc__law_told kV__law_told dc__law_told pm__law_told cd__law_told ct__law_told : Value}
    {f__law_digits : Addr}
    {od__law_digits an__law_digits : Option Addr} {sl__law_digits : Array (Option Value)} {oc__law_digits kV__law_digits dc__law_digits pm__law_digits cd__law_digits ct__law_digits : Value}
    {f__law_line : Addr}
    {od__law_line an__law_line : Option Addr} {sl__law_line : Array (Option Value)} {oc__law_line kV__law_line dc__law_line pm__law_line cd__law_line ct__law_line : Value}
    {f__law_bent : Addr}
    {od__law_bent an__law_bent : Option Addr} {sl__law_bent : Array (Option Value)} {oc__law_bent kV__law_bent dc__law_bent pm__law_bent cd__law_bent ct__law_bent : Value}
    {f__law_right : Addr}
    {od__law_right an__law_right : Option Addr} {sl__law_right : Array (Option Value)} {oc__law_right kV__law_right dc__law_right pm__law_right cd__law_right ct__law_right : Value}
    {f_law : Addr}
    {od_law an_law : Option Addr} {sl_law : Array (Option Value)} {oc_law kV_law dc_law pm_law cd_law ct_law : Value}
    {f_Ratio___init__ : Addr}
    {od_Ratio___init__ an_Ratio___init__ : Option Addr} {sl_Ratio___init__ : Array (Option Value)} {oc_Ratio___init__ kV_Ratio___init__ dc_Ratio___init__ pm_Ratio___init__ cd_Ratio___init__ ct_Ratio___init__ : Value}
    {dT_Ratio___init__ : Addr}
    {do_Ratio___init__ : Value} {dd_Ratio___init__ : Option Addr} {ds_Ratio___init__ : Array (Option Value)} {dn_Ratio___init__ : Nat} {dt_Ratio___init__ : Tok}
    {f_Ratio_top : Addr}
    {od_Ratio_top an_Ratio_top : Option Addr} {sl_Ratio_top : Array (Option Value)} {oc_Ratio_top kV_Ratio_top dc_Ratio_top pm_Ratio_top cd_Ratio_top ct_Ratio_top : Value}
    {pa_Ratio_top : Addr} {pr_Ratio_top : List Value}
    {f_Ratio_bottom : Addr}
    {od_Ratio_bottom an_Ratio_bottom : Option Addr} {sl_Ratio_bottom : Array (Option Value)} {oc_Ratio_bottom kV_Ratio_bottom dc_Ratio_bottom pm_Ratio_bottom cd_Ratio_bottom ct_Ratio_bottom : Value}
    {pa_Ratio_bottom : Addr} {pr_Ratio_bottom : List Value}
    {f_Ratio_of_text : Addr}
    {od_Ratio_of_text an_Ratio_of_text : Option Addr} {sl_Ratio_of_text : Array (Option Value)} {oc_Ratio_of_text kV_Ratio_of_text dc_Ratio_of_text pm_Ratio_of_text cd_Ratio_of_text ct_Ratio_of_text : Value}
    {pa_Ratio_of_text : Addr} {pr_Ratio_of_text : List Value}
    {f_Ratio___str__ : Addr}
    {od_Ratio___str__ an_Ratio___str__ : Option Addr} {sl_Ratio___str__ : Array (Option Value)} {oc_Ratio___str__ kV_Ratio___str__ dc_Ratio___str__ pm_Ratio___str__ cd_Ratio___str__ ct_Ratio___str__ : Value}
    {ct0_FEWEST_BITS : Tok}
    {ct0_MOST_BITS : Tok}
    {ct0_MAX_FIGURES : Tok}
    {ct0_MAX_DIGITS : Tok}
    {ct0_DIGITS : Tok}
    (xg_ParseError : PySem.W.nsIn K mainGlobals "ParseError" = some (some (.ref C_ParseError)))
    (xi_ParseError : PySem.W.excInitIn K C_ParseError [.type "ValueError", .type "Exception", .type "BaseException", .type "object"] "ValueError.__new__" = true)
    (xo_ParseError : PySem.W.excOver K C_ParseError [.type "ValueError", .type "Exception", .type "BaseException", .type "object"] = true)
    (x1_ParseError : PySem.W.findIn K (.ref C_ParseError) "__setattr__" = some (some (.builtin "object.__setattr__")))
    (x2_ParseError : PySem.W.findIn K (.ref C_ParseError) "__getattribute__" = some (some (.builtin "BaseException.__getattribute__")))
    (x3_ParseError : PySem.W.findIn K (.ref C_ParseError) "__getattr__" = some none)
    (x4_ParseError : PySem.W.findIn K (.ref C_ParseError) "spot" = some none)
    (x5_ParseError : PySem.W.findIn K (.ref C_ParseError) "__init__" = some (some (.ref f_ParseError___init__)))
    (x6_ParseError : PySem.W.typeIn K (.ref f_ParseError___init__) = some (.type "function"))
    (x7_ParseError : PySem.W.keepIn K (.ref C_ParseError) = true)
    (x8_ParseError : PySem.W.subIn K (.ref C_ParseError) (.type "BaseException") = some true)
    (x9_ParseError : PySem.W.typeIn K (.ref C_ParseError) = some (.type "type"))
    (xa_ParseError : PySem.W.hasDictIn K C_ParseError = true)
    (xb_ParseError : PySem.W.isClsIn K C_ParseError = true)
    (xc_ParseError : PySem.W.subIn K (.ref C_ParseError) (.ref C_ParseError) = some true)
    (xl_ParseError : K.lookup f_ParseError___init__ = some ⟨oc_ParseError___init__, od_ParseError___init__, .func (PySem.W.fnOf "__init__" "ParseError.__init__" (PySem.XParseError.iA ⟨10, 17, 10, 21⟩ ⟨10, 23, 10, 27⟩) (PySem.XParseError.iB ⟨11, 8, 11, 12⟩ ⟨11, 8, 11, 17⟩ ⟨11, 20, 11, 24⟩ ⟨11, 8, 11, 24⟩) PySem.XParseError.iS .none .none dc_ParseError___init__ pm_ParseError___init__ an_ParseError___init__ cd_ParseError___init__ ct_ParseError___init__), sl_ParseError___init__⟩)
    (xd_ParseError : PySem.W.codeIn K cd_ParseError___init__ "ParseError.__init__" = true)
    (xg_InvalidNumber : PySem.W.nsIn K mainGlobals "InvalidNumber" = some (some (.ref C_InvalidNumber)))
    (xi_InvalidNumber : PySem.W.excInitIn K C_InvalidNumber [.type "IndexError", .type "LookupError", .type "Exception", .type "BaseException", .type "object"] "IndexError.__new__" = true)
    (xo_InvalidNumber : PySem.W.excOver K C_InvalidNumber [.type "IndexError", .type "LookupError", .type "Exception", .type "BaseException", .type "object"] = true)
    (x1_InvalidNumber : PySem.W.findIn K (.ref C_InvalidNumber) "__setattr__" = some (some (.builtin "object.__setattr__")))
    (x2_InvalidNumber : PySem.W.findIn K (.ref C_InvalidNumber) "__getattribute__" = some (some (.builtin "BaseException.__getattribute__")))
    (x3_InvalidNumber : PySem.W.findIn K (.ref C_InvalidNumber) "__getattr__" = some none)
    (x4_InvalidNumber : PySem.W.findIn K (.ref C_InvalidNumber) "given" = some none)
    (x5_InvalidNumber : PySem.W.findIn K (.ref C_InvalidNumber) "__init__" = some (some (.ref f_InvalidNumber___init__)))
    (x6_InvalidNumber : PySem.W.typeIn K (.ref f_InvalidNumber___init__) = some (.type "function"))
    (x7_InvalidNumber : PySem.W.keepIn K (.ref C_InvalidNumber) = true)
    (x8_InvalidNumber : PySem.W.subIn K (.ref C_InvalidNumber) (.type "BaseException") = some true)
    (x9_InvalidNumber : PySem.W.typeIn K (.ref C_InvalidNumber) = some (.type "type"))
    (xa_InvalidNumber : PySem.W.hasDictIn K C_InvalidNumber = true)
    (xb_InvalidNumber : PySem.W.isClsIn K C_InvalidNumber = true)
    (xc_InvalidNumber : PySem.W.subIn K (.ref C_InvalidNumber) (.ref C_InvalidNumber) = some true)
    (xl_InvalidNumber : K.lookup f_InvalidNumber___init__ = some ⟨oc_InvalidNumber___init__, od_InvalidNumber___init__, .func (PySem.W.fnOf "__init__" "InvalidNumber.__init__" (PySem.XInvalidNumber.iA ⟨14, 17, 14, 21⟩ ⟨14, 23, 14, 28⟩) (PySem.XInvalidNumber.iB ⟨15, 8, 15, 12⟩ ⟨15, 8, 15, 18⟩ ⟨15, 21, 15, 26⟩ ⟨15, 8, 15, 26⟩) PySem.XInvalidNumber.iS .none .none dc_InvalidNumber___init__ pm_InvalidNumber___init__ an_InvalidNumber___init__ cd_InvalidNumber___init__ ct_InvalidNumber___init__), sl_InvalidNumber___init__⟩)
    (xd_InvalidNumber : PySem.W.codeIn K cd_InvalidNumber___init__ "InvalidNumber.__init__" = true)
    (xg_TooMany : PySem.W.nsIn K mainGlobals "TooMany" = some (some (.ref C_TooMany)))
    (xi_TooMany : PySem.W.excInitIn K C_TooMany [.type "OverflowError", .type "ArithmeticError", .type "Exception", .type "BaseException", .type "object"] "OverflowError.__new__" = true)
    (xo_TooMany : PySem.W.excOver K C_TooMany [.type "OverflowError", .type "ArithmeticError", .type "Exception", .type "BaseException", .type "object"] = true)
    (x1_TooMany : PySem.W.findIn K (.ref C_TooMany) "__setattr__" = some (some (.builtin "object.__setattr__")))
    (x2_TooMany : PySem.W.findIn K (.ref C_TooMany) "__getattribute__" = some (some (.builtin "BaseException.__getattribute__")))
    (x3_TooMany : PySem.W.findIn K (.ref C_TooMany) "__getattr__" = some none)
    (x4_TooMany : PySem.W.findIn K (.ref C_TooMany) "limit" = some none)
    (x5_TooMany : PySem.W.findIn K (.ref C_TooMany) "__init__" = some (some (.ref f_TooMany___init__)))
    (x6_TooMany : PySem.W.typeIn K (.ref f_TooMany___init__) = some (.type "function"))
    (x7_TooMany : PySem.W.keepIn K (.ref C_TooMany) = true)
    (x8_TooMany : PySem.W.subIn K (.ref C_TooMany) (.type "BaseException") = some true)
    (x9_TooMany : PySem.W.typeIn K (.ref C_TooMany) = some (.type "type"))
    (xa_TooMany : PySem.W.hasDictIn K C_TooMany = true)
    (xb_TooMany : PySem.W.isClsIn K C_TooMany = true)
    (xc_TooMany : PySem.W.subIn K (.ref C_TooMany) (.ref C_TooMany) = some true)
    (xl_TooMany : K.lookup f_TooMany___init__ = some ⟨oc_TooMany___init__, od_TooMany___init__, .func (PySem.W.fnOf "__init__" "TooMany.__init__" (PySem.XTooMany.iA ⟨18, 17, 18, 21⟩ ⟨18, 23, 18, 28⟩) (PySem.XTooMany.iB ⟨19, 8, 19, 12⟩ ⟨19, 8, 19, 18⟩ ⟨19, 21, 19, 26⟩ ⟨19, 8, 19, 26⟩) PySem.XTooMany.iS .none .none dc_TooMany___init__ pm_TooMany___init__ an_TooMany___init__ cd_TooMany___init__ ct_TooMany___init__), sl_TooMany___init__⟩)
    (xd_TooMany : PySem.W.codeIn K cd_TooMany___init__ "TooMany.__init__" = true)
    (ac_Ratio : PySem.W.nsIn K mainGlobals "Ratio" = some (some (.ref C_Ratio)))
    (pg_Ratio : PySem.W.plainGet K C_Ratio Str.empty = true)
    (hd_Ratio : PySem.W.hasDictIn K C_Ratio = true)
    (po_Ratio : PySem.W.plainOver K C_Ratio = true)
    (sa_Ratio : PySem.W.findIn K (.ref C_Ratio) "__setattr__" = some (some (.builtin "object.__setattr__")))
    (nA_Ratio__top : PySem.W.findIn K (.ref C_Ratio) "_top" = some none)
    (nA_Ratio__bottom : PySem.W.findIn K (.ref C_Ratio) "_bottom" = some none)
    (t1_Ratio : PySem.W.findIn K (.ref C_Ratio) "__class__" = some (some (.builtin "object.__class__")))
    (t2_Ratio : PySem.W.specialIn K (.builtin "object.__class__") "__get__" = some (some (.builtin "getset_descriptor.__get__")))
    (t3_Ratio : PySem.W.takesIn K (.builtin "object.__class__") = some true)
    (t4_Ratio : PySem.W.mroIn K C_Ratio (.type "object") = some true)
    (ne0_Ratio : PySem.W.findIn K (.ref C_Ratio) "__ne__" = some (some (.builtin "object.__ne__")))
    (kit_Ratio_NoneType : PySem.W.kitOne K (.type "NoneType") (.ref C_Ratio) = some false)
    (nf_Ratio_NoneType : PySem.W.notFirst K C_Ratio (.type "NoneType") = true)
    (itk_Ratio_NoneType : PySem.W.kitOne K (.ref C_Ratio) (.type "NoneType") = some false)
    (kit_Ratio_bool : PySem.W.kitOne K (.type "bool") (.ref C_Ratio) = some false)
    (nf_Ratio_bool : PySem.W.notFirst K C_Ratio (.type "bool") = true)
    (itk_Ratio_bool : PySem.W.kitOne K (.ref C_Ratio) (.type "bool") = some false)
    (kit_Ratio_int : PySem.W.kitOne K (.type "int") (.ref C_Ratio) = some false)
    (nf_Ratio_int : PySem.W.notFirst K C_Ratio (.type "int") = true)
    (itk_Ratio_int : PySem.W.kitOne K (.ref C_Ratio) (.type "int") = some false)
    (kit_Ratio_str : PySem.W.kitOne K (.type "str") (.ref C_Ratio) = some false)
    (nf_Ratio_str : PySem.W.notFirst K C_Ratio (.type "str") = true)
    (itk_Ratio_str : PySem.W.kitOne K (.ref C_Ratio) (.type "str") = some false)
    (kit_Ratio_list : PySem.W.kitOne K (.type "list") (.ref C_Ratio) = some false)
    (nf_Ratio_list : PySem.W.notFirst K C_Ratio (.type "list") = true)
    (itk_Ratio_list : PySem.W.kitOne K (.ref C_Ratio) (.type "list") = some false)
    (kit_Ratio_tuple : PySem.W.kitOne K (.type "tuple") (.ref C_Ratio) = some false)
    (nf_Ratio_tuple : PySem.W.notFirst K C_Ratio (.type "tuple") = true)
    (itk_Ratio_tuple : PySem.W.kitOne K (.ref C_Ratio) (.type "tuple") = some false)
    (kit_Ratio_dict : PySem.W.kitOne K (.type "dict") (.ref C_Ratio) = some false)
    (nf_Ratio_dict : PySem.W.notFirst K C_Ratio (.type "dict") = true)
    (itk_Ratio_dict : PySem.W.kitOne K (.ref C_Ratio) (.type "dict") = some false)
    (kit_Ratio : PySem.W.kitOne K (.ref C_Ratio) (.ref C_Ratio) = some true)
    (nf_Ratio : PySem.W.notFirst K C_Ratio (.ref C_Ratio) = true)
    (a_is_longer : PySem.W.nsIn K mainGlobals "is_longer" = some (some (.ref f_is_longer)))
    (l_is_longer : K.lookup f_is_longer = some ⟨oc_is_longer, od_is_longer, .func (PySem.W.fnOf "is_longer" "is_longer" (defArgs s_is_longer) (defBody s_is_longer) (defScope s_is_longer) .none kV_is_longer dc_is_longer pm_is_longer an_is_longer cd_is_longer ct_is_longer), sl_is_longer⟩)
    (c_is_longer : PySem.W.codeIn K cd_is_longer "is_longer" = true)
    (k_is_longer : PySem.W.keepIn K (.ref f_is_longer) = true)
    (a_is_plain_int : PySem.W.nsIn K mainGlobals "is_plain_int" = some (some (.ref f_is_plain_int)))
    (l_is_plain_int : K.lookup f_is_plain_int = some ⟨oc_is_plain_int, od_is_plain_int, .func (PySem.W.fnOf "is_plain_int" "is_plain_int" (defArgs s_is_plain_int) (defBody s_is_plain_int) (defScope s_is_plain_int) .none kV_is_plain_int dc_is_plain_int pm_is_plain_int an_is_plain_int cd_is_plain_int ct_is_plain_int), sl_is_plain_int⟩)
    (c_is_plain_int : PySem.W.codeIn K cd_is_plain_int "is_plain_int" = true)
    (k_is_plain_int : PySem.W.keepIn K (.ref f_is_plain_int) = true)
    (a_lowest_terms : PySem.W.nsIn K mainGlobals "lowest_terms" = some (some (.ref f_lowest_terms)))
    (l_lowest_terms : K.lookup f_lowest_terms = some ⟨oc_lowest_terms, od_lowest_terms, .func (PySem.W.fnOf "lowest_terms" "lowest_terms" (defArgs s_lowest_terms) (defBody s_lowest_terms) (defScope s_lowest_terms) .none kV_lowest_terms dc_lowest_terms pm_lowest_terms an_lowest_terms cd_lowest_terms ct_lowest_terms), sl_lowest_terms⟩)
    (c_lowest_terms : PySem.W.codeIn K cd_lowest_terms "lowest_terms" = true)
    (k_lowest_terms : PySem.W.keepIn K (.ref f_lowest_terms) = true)
    (a_ratio_of : PySem.W.nsIn K mainGlobals "ratio_of" = some (some (.ref f_ratio_of)))
    (l_ratio_of : K.lookup f_ratio_of = some ⟨oc_ratio_of, od_ratio_of, .func (PySem.W.fnOf "ratio_of" "ratio_of" (defArgs s_ratio_of) (defBody s_ratio_of) (defScope s_ratio_of) .none kV_ratio_of dc_ratio_of pm_ratio_of an_ratio_of cd_ratio_of ct_ratio_of), sl_ratio_of⟩)
    (c_ratio_of : PySem.W.codeIn K cd_ratio_of "ratio_of" = true)
    (k_ratio_of : PySem.W.keepIn K (.ref f_ratio_of) = true)
    (a_digits_end : PySem.W.nsIn K mainGlobals "digits_end" = some (some (.ref f_digits_end)))
    (l_digits_end : K.lookup f_digits_end = some ⟨oc_digits_end, od_digits_end, .func (PySem.W.fnOf "digits_end" "digits_end" (defArgs s_digits_end) (defBody s_digits_end) (defScope s_digits_end) .none kV_digits_end dc_digits_end pm_digits_end an_digits_end cd_digits_end ct_digits_end), sl_digits_end⟩)
    (c_digits_end : PySem.W.codeIn K cd_digits_end "digits_end" = true)
    (k_digits_end : PySem.W.keepIn K (.ref f_digits_end) = true)
    (a_wrong_spot : PySem.W.nsIn K mainGlobals "wrong_spot" = some (some (.ref f_wrong_spot)))
    (l_wrong_spot : K.lookup f_wrong_spot = some ⟨oc_wrong_spot, od_wrong_spot, .func (PySem.W.fnOf "wrong_spot" "wrong_spot" (defArgs s_wrong_spot) (defBody s_wrong_spot) (defScope s_wrong_spot) .none kV_wrong_spot dc_wrong_spot pm_wrong_spot an_wrong_spot cd_wrong_spot ct_wrong_spot), sl_wrong_spot⟩)
    (c_wrong_spot : PySem.W.codeIn K cd_wrong_spot "wrong_spot" = true)
    (k_wrong_spot : PySem.W.keepIn K (.ref f_wrong_spot) = true)
    (a_ratio_read : PySem.W.nsIn K mainGlobals "ratio_read" = some (some (.ref f_ratio_read)))
    (l_ratio_read : K.lookup f_ratio_read = some ⟨oc_ratio_read, od_ratio_read, .func (PySem.W.fnOf "ratio_read" "ratio_read" (defArgs s_ratio_read) (defBody s_ratio_read) (defScope s_ratio_read) .none kV_ratio_read dc_ratio_read pm_ratio_read an_ratio_read cd_ratio_read ct_ratio_read), sl_ratio_read⟩)
    (c_ratio_read : PySem.W.codeIn K cd_ratio_read "ratio_read" = true)
    (k_ratio_read : PySem.W.keepIn K (.ref f_ratio_read) = true)
    (a__law_urn : PySem.W.nsIn K mainGlobals "_law_urn" = some (some (.ref f__law_urn)))
    (l__law_urn : K.lookup f__law_urn = some ⟨oc__law_urn, od__law_urn, .func (PySem.W.fnOf "_law_urn" "_law_urn" (defArgs s__law_urn) (defBody s__law_urn) (defScope s__law_urn) .none kV__law_urn dc__law_urn pm__law_urn an__law_urn cd__law_urn ct__law_urn), sl__law_urn⟩)
    (c__law_urn : PySem.W.codeIn K cd__law_urn "_law_urn" = true)
    (k__law_urn : PySem.W.keepIn K (.ref f__law_urn) = true)
    (a__law_drawn : PySem.W.nsIn K mainGlobals "_law_drawn" = some (some (.ref f__law_drawn)))
    (l__law_drawn : K.lookup f__law_drawn = some ⟨oc__law_drawn, od__law_drawn, .func (PySem.W.fnOf "_law_drawn" "_law_drawn" (defArgs s__law_drawn) (defBody s__law_drawn) (defScope s__law_drawn) .none kV__law_drawn dc__law_drawn pm__law_drawn an__law_drawn cd__law_drawn ct__law_drawn), sl__law_drawn⟩)
    (c__law_drawn : PySem.W.codeIn K cd__law_drawn "_law_drawn" = true)
    (k__law_drawn : PySem.W.keepIn K (.ref f__law_drawn) = true)
    (a__law_one_of : PySem.W.nsIn K mainGlobals "_law_one_of" = some (some (.ref f__law_one_of)))
    (l__law_one_of : K.lookup f__law_one_of = some ⟨oc__law_one_of, od__law_one_of, .func (PySem.W.fnOf "_law_one_of" "_law_one_of" (defArgs s__law_one_of) (defBody s__law_one_of) (defScope s__law_one_of) .none kV__law_one_of dc__law_one_of pm__law_one_of an__law_one_of cd__law_one_of ct__law_one_of), sl__law_one_of⟩)
    (c__law_one_of : PySem.W.codeIn K cd__law_one_of "_law_one_of" = true)
    (k__law_one_of : PySem.W.keepIn K (.ref f__law_one_of) = true)
    (a__law_divisor : PySem.W.nsIn K mainGlobals "_law_divisor" = some (some (.ref f__law_divisor)))
    (l__law_divisor : K.lookup f__law_divisor = some ⟨oc__law_divisor, od__law_divisor, .func (PySem.W.fnOf "_law_divisor" "_law_divisor" (defArgs s__law_divisor) (defBody s__law_divisor) (defScope s__law_divisor) .none kV__law_divisor dc__law_divisor pm__law_divisor an__law_divisor cd__law_divisor ct__law_divisor), sl__law_divisor⟩)
    (c__law_divisor : PySem.W.codeIn K cd__law_divisor "_law_divisor" = true)
    (k__law_divisor : PySem.W.keepIn K (.ref f__law_divisor) = true)
    (a__law_lowest : PySem.W.nsIn K mainGlobals "_law_lowest" = some (some (.ref f__law_lowest)))
    (l__law_lowest : K.lookup f__law_lowest = some ⟨oc__law_lowest, od__law_lowest, .func (PySem.W.fnOf "_law_lowest" "_law_lowest" (defArgs s__law_lowest) (defBody s__law_lowest) (defScope s__law_lowest) .none kV__law_lowest dc__law_lowest pm__law_lowest an__law_lowest cd__law_lowest ct__law_lowest), sl__law_lowest⟩)
    (c__law_lowest : PySem.W.codeIn K cd__law_lowest "_law_lowest" = true)
    (k__law_lowest : PySem.W.keepIn K (.ref f__law_lowest) = true)
    (a__law_power : PySem.W.nsIn K mainGlobals "_law_power" = some (some (.ref f__law_power)))
    (l__law_power : K.lookup f__law_power = some ⟨oc__law_power, od__law_power, .func (PySem.W.fnOf "_law_power" "_law_power" (defArgs s__law_power) (defBody s__law_power) (defScope s__law_power) .none kV__law_power dc__law_power pm__law_power an__law_power cd__law_power ct__law_power), sl__law_power⟩)
    (c__law_power : PySem.W.codeIn K cd__law_power "_law_power" = true)
    (k__law_power : PySem.W.keepIn K (.ref f__law_power) = true)
    (a__law_whole : PySem.W.nsIn K mainGlobals "_law_whole" = some (some (.ref f__law_whole)))
    (l__law_whole : K.lookup f__law_whole = some ⟨oc__law_whole, od__law_whole, .func (PySem.W.fnOf "_law_whole" "_law_whole" (defArgs s__law_whole) (defBody s__law_whole) (defScope s__law_whole) .none kV__law_whole dc__law_whole pm__law_whole an__law_whole cd__law_whole ct__law_whole), sl__law_whole⟩)
    (c__law_whole : PySem.W.codeIn K cd__law_whole "_law_whole" = true)
    (k__law_whole : PySem.W.keepIn K (.ref f__law_whole) = true)
    (a__law_text : PySem.W.nsIn K mainGlobals "_law_text" = some (some (.ref f__law_text)))
    (l__law_text : K.lookup f__law_text = some ⟨oc__law_text, od__law_text, .func (PySem.W.fnOf "_law_text" "_law_text" (defArgs s__law_text) (defBody s__law_text) (defScope s__law_text) .none kV__law_text dc__law_text pm__law_text an__law_text cd__law_text ct__law_text), sl__law_text⟩)
    (c__law_text : PySem.W.codeIn K cd__law_text "_law_text" = true)
    (k__law_text : PySem.W.keepIn K (.ref f__law_text) = true)
    (a__law_run_end : PySem.W.nsIn K mainGlobals "_law_run_end" = some (some (.ref f__law_run_end)))
    (l__law_run_end : K.lookup f__law_run_end = some ⟨oc__law_run_end, od__law_run_end, .func (PySem.W.fnOf "_law_run_end" "_law_run_end" (defArgs s__law_run_end) (defBody s__law_run_end) (defScope s__law_run_end) .none kV__law_run_end dc__law_run_end pm__law_run_end an__law_run_end cd__law_run_end ct__law_run_end), sl__law_run_end⟩)
    (c__law_run_end : PySem.W.codeIn K cd__law_run_end "_law_run_end" = true)
    (k__law_run_end : PySem.W.keepIn K (.ref f__law_run_end) = true)
    (a__law_read : PySem.W.nsIn K mainGlobals "_law_read" = some (some (.ref f__law_read)))
    (l__law_read : K.lookup f__law_read = some ⟨oc__law_read, od__law_read, .func (PySem.W.fnOf "_law_read" "_law_read" (defArgs s__law_read) (defBody s__law_read) (defScope s__law_read) .none kV__law_read dc__law_read pm__law_read an__law_read cd__law_read ct__law_read), sl__law_read⟩)
    (c__law_read : PySem.W.codeIn K cd__law_read "_law_read" = true)
    (k__law_read : PySem.W.keepIn K (.ref f__law_read) = true)
    (a__law_told : PySem.W.nsIn K mainGlobals "_law_told" = some (some (.ref f__law_told)))
    (l__law_told : K.lookup f__law_told = some ⟨oc__law_told, od__law_told, .func (PySem.W.fnOf "_law_told" "_law_told" (defArgs s__law_told) (defBody s__law_told) (defScope s__law_told) .none kV__law_told dc__law_told pm__law_told an__law_told cd__law_told ct__law_told), sl__law_told⟩)
    (c__law_told : PySem.W.codeIn K cd__law_told "_law_told" = true)
    (k__law_told : PySem.W.keepIn K (.ref f__law_told) = true)
    (a__law_digits : PySem.W.nsIn K mainGlobals "_law_digits" = some (some (.ref f__law_digits)))
    (l__law_digits : K.lookup f__law_digits = some ⟨oc__law_digits, od__law_digits, .func (PySem.W.fnOf "_law_digits" "_law_digits" (defArgs s__law_digits) (defBody s__law_digits) (defScope s__law_digits) .none kV__law_digits dc__law_digits pm__law_digits an__law_digits cd__law_digits ct__law_digits), sl__law_digits⟩)
    (c__law_digits : PySem.W.codeIn K cd__law_digits "_law_digits" = true)
    (k__law_digits : PySem.W.keepIn K (.ref f__law_digits) = true)
    (a__law_line : PySem.W.nsIn K mainGlobals "_law_line" = some (some (.ref f__law_line)))
    (l__law_line : K.lookup f__law_line = some ⟨oc__law_line, od__law_line, .func (PySem.W.fnOf "_law_line" "_law_line" (defArgs s__law_line) (defBody s__law_line) (defScope s__law_line) .none kV__law_line dc__law_line pm__law_line an__law_line cd__law_line ct__law_line), sl__law_line⟩)
    (c__law_line : PySem.W.codeIn K cd__law_line "_law_line" = true)
    (k__law_line : PySem.W.keepIn K (.ref f__law_line) = true)
    (a__law_bent : PySem.W.nsIn K mainGlobals "_law_bent" = some (some (.ref f__law_bent)))
    (l__law_bent : K.lookup f__law_bent = some ⟨oc__law_bent, od__law_bent, .func (PySem.W.fnOf "_law_bent" "_law_bent" (defArgs s__law_bent) (defBody s__law_bent) (defScope s__law_bent) .none kV__law_bent dc__law_bent pm__law_bent an__law_bent cd__law_bent ct__law_bent), sl__law_bent⟩)
    (c__law_bent : PySem.W.codeIn K cd__law_bent "_law_bent" = true)
    (k__law_bent : PySem.W.keepIn K (.ref f__law_bent) = true)
    (a__law_right : PySem.W.nsIn K mainGlobals "_law_right" = some (some (.ref f__law_right)))
    (l__law_right : K.lookup f__law_right = some ⟨oc__law_right, od__law_right, .func (PySem.W.fnOf "_law_right" "_law_right" (defArgs s__law_right) (defBody s__law_right) (defScope s__law_right) .none kV__law_right dc__law_right pm__law_right an__law_right cd__law_right ct__law_right), sl__law_right⟩)
    (c__law_right : PySem.W.codeIn K cd__law_right "_law_right" = true)
    (k__law_right : PySem.W.keepIn K (.ref f__law_right) = true)
    (a_law : PySem.W.nsIn K mainGlobals "law" = some (some (.ref f_law)))
    (l_law : K.lookup f_law = some ⟨oc_law, od_law, .func (PySem.W.fnOf "law" "law" (defArgs s_law) (defBody s_law) (defScope s_law) .none kV_law dc_law pm_law an_law cd_law ct_law), sl_law⟩)
    (c_law : PySem.W.codeIn K cd_law "law" = true)
    (k_law : PySem.W.keepIn K (.ref f_law) = true)
    (a_Ratio___init__ : PySem.W.findIn K (.ref C_Ratio) "__init__" = some (some (.ref f_Ratio___init__)))
    (l_Ratio___init__ : K.lookup f_Ratio___init__ = some ⟨oc_Ratio___init__, od_Ratio___init__, .func (PySem.W.fnOf "__init__" "Ratio.__init__" (defArgs s_Ratio___init__) (defBody s_Ratio___init__) (defScope s_Ratio___init__) (.ref dT_Ratio___init__) kV_Ratio___init__ dc_Ratio___init__ pm_Ratio___init__ an_Ratio___init__ cd_Ratio___init__ ct_Ratio___init__), sl_Ratio___init__⟩)
    (c_Ratio___init__ : PySem.W.codeIn K cd_Ratio___init__ "Ratio.__init__" = true)
    (k_Ratio___init__ : PySem.W.keepIn K (.ref f_Ratio___init__) = true)
    (dl_Ratio___init__ : K.lookup dT_Ratio___init__ = some ⟨do_Ratio___init__, dd_Ratio___init__, .seq #[.int 1 dt_Ratio___init__] dn_Ratio___init__, ds_Ratio___init__⟩)
    (i_Ratio___init__ : PySem.W.isFn K (.ref f_Ratio___init__) = true)
    (a1_Ratio_top : PySem.W.findIn K (.ref C_Ratio) "top" = some (some (.ref pa_Ratio_top)))
    (a2_Ratio_top : PySem.W.specialIn K (.ref pa_Ratio_top) "__get__" = some (some (.builtin "property.__get__")))
    (a3_Ratio_top : PySem.W.takesIn K (.ref pa_Ratio_top) = some true)
    (a4_Ratio_top : PySem.W.recIn K pa_Ratio_top "property" = some (.ref f_Ratio_top :: pr_Ratio_top))
    (l_Ratio_top : K.lookup f_Ratio_top = some ⟨oc_Ratio_top, od_Ratio_top, .func (PySem.W.fnOf "top" "Ratio.top" (defArgs s_Ratio_top) (defBody s_Ratio_top) (defScope s_Ratio_top) .none kV_Ratio_top dc_Ratio_top pm_Ratio_top an_Ratio_top cd_Ratio_top ct_Ratio_top), sl_Ratio_top⟩)
    (c_Ratio_top : PySem.W.codeIn K cd_Ratio_top "Ratio.top" = true)
    (k_Ratio_top : PySem.W.keepIn K (.ref f_Ratio_top) = true)
    (a1_Ratio_bottom : PySem.W.findIn K (.ref C_Ratio) "bottom" = some (some (.ref pa_Ratio_bottom)))
    (a2_Ratio_bottom : PySem.W.specialIn K (.ref pa_Ratio_bottom) "__get__" = some (some (.builtin "property.__get__")))
    (a3_Ratio_bottom : PySem.W.takesIn K (.ref pa_Ratio_bottom) = some true)
    (a4_Ratio_bottom : PySem.W.recIn K pa_Ratio_bottom "property" = some (.ref f_Ratio_bottom :: pr_Ratio_bottom))
    (l_Ratio_bottom : K.lookup f_Ratio_bottom = some ⟨oc_Ratio_bottom, od_Ratio_bottom, .func (PySem.W.fnOf "bottom" "Ratio.bottom" (defArgs s_Ratio_bottom) (defBody s_Ratio_bottom) (defScope s_Ratio_bottom) .none kV_Ratio_bottom dc_Ratio_bottom pm_Ratio_bottom an_Ratio_bottom cd_Ratio_bottom ct_Ratio_bottom), sl_Ratio_bottom⟩)
    (c_Ratio_bottom : PySem.W.codeIn K cd_Ratio_bottom "Ratio.bottom" = true)
    (k_Ratio_bottom : PySem.W.keepIn K (.ref f_Ratio_bottom) = true)
    (a1_Ratio_of_text : PySem.W.findCls K (.ref C_Ratio) (.type "type") "of_text" = some (.get (.builtin "classmethod.__get__") (.ref pa_Ratio_of_text) .none (.ref C_Ratio)))
    (a2_Ratio_of_text : PySem.W.recIn K pa_Ratio_of_text "classmethod" = some (.ref f_Ratio_of_text :: pr_Ratio_of_text))
    (a3_Ratio_of_text : PySem.W.fnIn K f_Ratio_of_text = true)
    (a4_Ratio_of_text : PySem.W.readsIn K C_Ratio (.type "type") = true)
    (a5_Ratio_of_text : PySem.W.specialIn K (.ref C_Ratio) "__getattribute__" = some (some (.builtin "type.__getattribute__")))
    (l_Ratio_of_text : K.lookup f_Ratio_of_text = some ⟨oc_Ratio_of_text, od_Ratio_of_text, .func (PySem.W.fnOf "of_text" "Ratio.of_text" (defArgs s_Ratio_of_text) (defBody s_Ratio_of_text) (defScope s_Ratio_of_text) .none kV_Ratio_of_text dc_Ratio_of_text pm_Ratio_of_text an_Ratio_of_text cd_Ratio_of_text ct_Ratio_of_text), sl_Ratio_of_text⟩)
    (c_Ratio_of_text : PySem.W.codeIn K cd_Ratio_of_text "Ratio.of_text" = true)
    (k_Ratio_of_text : PySem.W.keepIn K (.ref f_Ratio_of_text) = true)
    (a_Ratio___str__ : PySem.W.findIn K (.ref C_Ratio) "__str__" = some (some (.ref f_Ratio___str__)))
    (l_Ratio___str__ : K.lookup f_Ratio___str__ = some ⟨oc_Ratio___str__, od_Ratio___str__, .func (PySem.W.fnOf "__str__" "Ratio.__str__" (defArgs s_Ratio___str__) (defBody s_Ratio___str__) (defScope s_Ratio___str__) .none kV_Ratio___str__ dc_Ratio___str__ pm_Ratio___str__ an_Ratio___str__ cd_Ratio___str__ ct_Ratio___str__), sl_Ratio___str__⟩)
    (c_Ratio___str__ : PySem.W.codeIn K cd_Ratio___str__ "Ratio.__str__" = true)
    (k_Ratio___str__ : PySem.W.keepIn K (.ref f_Ratio___str__) = true)
    (i_Ratio___str__ : PySem.W.isFn K (.ref f_Ratio___str__) = true)
    (mk_Ratio : PySem.W.makesIn K C_Ratio = true)
    (kc_Ratio : PySem.W.keepIn K (.ref C_Ratio) = true)
    (ca_FEWEST_BITS : PySem.W.nsIn K mainGlobals "FEWEST_BITS" = some (some (.int 3 ct0_FEWEST_BITS)))
    (ca_MOST_BITS : PySem.W.nsIn K mainGlobals "MOST_BITS" = some (some (.int 4 ct0_MOST_BITS)))
    (ca_MAX_FIGURES : PySem.W.nsIn K mainGlobals "MAX_FIGURES" = some (some (.int 60 ct0_MAX_FIGURES)))
    (ca_MAX_DIGITS : PySem.W.nsIn K mainGlobals "MAX_DIGITS" = some (some (.int 2000 ct0_MAX_DIGITS)))
    (ca_DIGITS : PySem.W.nsIn K mainGlobals "DIGITS" = some (some (.str "0123456789" ct0_DIGITS)))
    (z_isinstance : PySem.W.nsIn K mainGlobals "isinstance" = some none)
    (z_len : PySem.W.nsIn K mainGlobals "len" = some none)
    (z_str : PySem.W.nsIn K mainGlobals "str" = some none)
    (z_abs : PySem.W.nsIn K mainGlobals "abs" = some none)
    (z_int : PySem.W.nsIn K mainGlobals "int" = some none)
    (z_bool : PySem.W.nsIn K mainGlobals "bool" = some none)
    (z_max : PySem.W.nsIn K mainGlobals "max" = some none)
    (z_min : PySem.W.nsIn K mainGlobals "min" = some none)
    (z_range : PySem.W.nsIn K mainGlobals "range" = some none)
    (lb_gcd : PySem.W.nsIn K mainGlobals "gcd" = some (some (.builtin "math.gcd")))
    (q_sf_Ratio : PySem.W.selfFirst K C_Ratio = true)
    (q_dg : PySem.W.nsIn K cStatics "sys.int_max_str_digits" = some none)
    : Nonempty (TX K mg) := ⟨{
    C_ParseError := C_ParseError,
    f_ParseError___init__ := f_ParseError___init__,
    x_ParseError := ⟨PySem.W.mg_of X G xg_ParseError, xi_ParseError, xo_ParseError, x1_ParseError, x2_ParseError, x3_ParseError, x4_ParseError, x5_ParseError, x6_ParseError, x7_ParseError, x8_ParseError, x9_ParseError, xa_ParseError, L3.exm_of x8_ParseError xb_ParseError x9_ParseError xc_ParseError, ⟨_, _, _, _, _, _, _, _, _, _, _, _, _, _, xl_ParseError, xd_ParseError⟩⟩,
    g_ParseError := PySem.W.mg_of X G xg_ParseError,
    C_InvalidNumber := C_InvalidNumber,
    f_InvalidNumber___init__ := f_InvalidNumber___init__,
    x_InvalidNumber := ⟨PySem.W.mg_of X G xg_InvalidNumber, xi_InvalidNumber, xo_InvalidNumber, x1_InvalidNumber, x2_InvalidNumber, x3_InvalidNumber, x4_InvalidNumber, x5_InvalidNumber, x6_InvalidNumber, x7_InvalidNumber, x8_InvalidNumber, x9_InvalidNumber, xa_InvalidNumber, L3.exm_of x8_InvalidNumber xb_InvalidNumber x9_InvalidNumber xc_InvalidNumber, ⟨_, _, _, _, _, _, _, _, _, _, _, _, _, _, xl_InvalidNumber, xd_InvalidNumber⟩⟩,
    g_InvalidNumber := PySem.W.mg_of X G xg_InvalidNumber,
    C_TooMany := C_TooMany,
    f_TooMany___init__ := f_TooMany___init__,
    x_TooMany := ⟨PySem.W.mg_of X G xg_TooMany, xi_TooMany, xo_TooMany, x1_TooMany, x2_TooMany, x3_TooMany, x4_TooMany, x5_TooMany, x6_TooMany, x7_TooMany, x8_TooMany, x9_TooMany, xa_TooMany, L3.exm_of x8_TooMany xb_TooMany x9_TooMany xc_TooMany, ⟨_, _, _, _, _, _, _, _, _, _, _, _, _, _, xl_TooMany, xd_TooMany⟩⟩,
    g_TooMany := PySem.W.mg_of X G xg_TooMany,
    C_Ratio := C_Ratio,
    g_Ratio := PySem.W.mg_of X G ac_Ratio,
    cl_Ratio := ⟨pg_Ratio, hd_Ratio, po_Ratio, sa_Ratio⟩,
    n_Ratio__top := nA_Ratio__top,
    n_Ratio__bottom := nA_Ratio__bottom,
    tc_Ratio := ⟨⟨pg_Ratio, hd_Ratio, po_Ratio, sa_Ratio⟩, t1_Ratio, t2_Ratio, t3_Ratio, t4_Ratio⟩,
    ne_Ratio := ⟨ne0_Ratio, t4_Ratio⟩,
    kit_Ratio_NoneType := kit_Ratio_NoneType,
    nf_Ratio_NoneType := nf_Ratio_NoneType,
    itk_Ratio_NoneType := itk_Ratio_NoneType,
    kit_Ratio_bool := kit_Ratio_bool,
    nf_Ratio_bool := nf_Ratio_bool,
    itk_Ratio_bool := itk_Ratio_bool,
    kit_Ratio_int := kit_Ratio_int,
    nf_Ratio_int := nf_Ratio_int,
    itk_Ratio_int := itk_Ratio_int,
    kit_Ratio_str := kit_Ratio_str,
    nf_Ratio_str := nf_Ratio_str,
    itk_Ratio_str := itk_Ratio_str,
    kit_Ratio_list := kit_Ratio_list,
    nf_Ratio_list := nf_Ratio_list,
    itk_Ratio_list := itk_Ratio_list,
    kit_Ratio_tuple := kit_Ratio_tuple,
    nf_Ratio_tuple := nf_Ratio_tuple,
    itk_Ratio_tuple := itk_Ratio_tuple,
    kit_Ratio_dict := kit_Ratio_dict,
    nf_Ratio_dict := nf_Ratio_dict,
    itk_Ratio_dict := itk_Ratio_dict,
    kit_Ratio := kit_Ratio,
    nf_Ratio := nf_Ratio,
    f_is_longer := f_is_longer,
    d_is_longer := PySem.W.fnOf "is_longer" "is_longer" (defArgs s_is_longer) (defBody s_is_longer) (defScope s_is_longer) .none kV_is_longer dc_is_longer pm_is_longer an_is_longer cd_is_longer ct_is_longer,
    F_is_longer := fun_mk (st := s_is_longer) l_is_longer c_is_longer k_is_longer,
    b_is_longer := (fun_mk (st := s_is_longer) l_is_longer c_is_longer k_is_longer).binds (ps := ["number", "digits"]) fun _ _ _ _ _ _ us hl => match us, hl with | [_, _], _ => rfl,
    g_is_longer := PySem.W.mg_of X G a_is_longer,
    f_is_plain_int := f_is_plain_int,
    d_is_plain_int := PySem.W.fnOf "is_plain_int" "is_plain_int" (defArgs s_is_plain_int) (defBody s_is_plain_int) (defScope s_is_plain_int) .none kV_is_plain_int dc_is_plain_int pm_is_plain_int an_is_plain_int cd_is_plain_int ct_is_plain_int,
    F_is_plain_int := fun_mk (st := s_is_plain_int) l_is_plain_int c_is_plain_int k_is_plain_int,
    b_is_plain_int := (fun_mk (st := s_is_plain_int) l_is_plain_int c_is_plain_int k_is_plain_int).binds (ps := ["value"]) fun _ _ _ _ _ _ us hl => match us, hl with | [_], _ => rfl,
    g_is_plain_int := PySem.W.mg_of X G a_is_plain_int,
    f_lowest_terms := f_lowest_terms,
    d_lowest_terms := PySem.W.fnOf "lowest_terms" "lowest_terms" (defArgs s_lowest_terms) (defBody s_lowest_terms) (defScope s_lowest_terms) .none kV_lowest_terms dc_lowest_terms pm_lowest_terms an_lowest_terms cd_lowest_terms ct_lowest_terms,
    F_lowest_terms := fun_mk (st := s_lowest_terms) l_lowest_terms c_lowest_terms k_lowest_terms,
    b_lowest_terms := (fun_mk (st := s_lowest_terms) l_lowest_terms c_lowest_terms k_lowest_terms).binds (ps := ["top", "bottom"]) fun _ _ _ _ _ _ us hl => match us, hl with | [_, _], _ => rfl,
    g_lowest_terms := PySem.W.mg_of X G a_lowest_terms,
    f_ratio_of := f_ratio_of,
    d_ratio_of := PySem.W.fnOf "ratio_of" "ratio_of" (defArgs s_ratio_of) (defBody s_ratio_of) (defScope s_ratio_of) .none kV_ratio_of dc_ratio_of pm_ratio_of an_ratio_of cd_ratio_of ct_ratio_of,
    F_ratio_of := fun_mk (st := s_ratio_of) l_ratio_of c_ratio_of k_ratio_of,
    b_ratio_of := (fun_mk (st := s_ratio_of) l_ratio_of c_ratio_of k_ratio_of).binds (ps := ["top", "bottom"]) fun _ _ _ _ _ _ us hl => match us, hl with | [_, _], _ => rfl,
    g_ratio_of := PySem.W.mg_of X G a_ratio_of,
    f_digits_end := f_digits_end,
    d_digits_end := PySem.W.fnOf "digits_end" "digits_end" (defArgs s_digits_end) (defBody s_digits_end) (defScope s_digits_end) .none kV_digits_end dc_digits_end pm_digits_end an_digits_end cd_digits_end ct_digits_end,
    F_digits_end := fun_mk (st := s_digits_end) l_digits_end c_digits_end k_digits_end,
    b_digits_end := (fun_mk (st := s_digits_end) l_digits_end c_digits_end k_digits_end).binds (ps := ["text", "start"]) fun _ _ _ _ _ _ us hl => match us, hl with | [_, _], _ => rfl,
    g_digits_end := PySem.W.mg_of X G a_digits_end,
    f_wrong_spot := f_wrong_spot,
    d_wrong_spot := PySem.W.fnOf "wrong_spot" "wrong_spot" (defArgs s_wrong_spot) (defBody s_wrong_spot) (defScope s_wrong_spot) .none kV_wrong_spot dc_wrong_spot pm_wrong_spot an_wrong_spot cd_wrong_spot ct_wrong_spot,
    F_wrong_spot := fun_mk (st := s_wrong_spot) l_wrong_spot c_wrong_spot k_wrong_spot,
    b_wrong_spot := (fun_mk (st := s_wrong_spot) l_wrong_spot c_wrong_spot k_wrong_spot).binds (ps := ["text"]) fun _ _ _ _ _ _ us hl => match us, hl with | [_], _ => rfl,
    g_wrong_spot := PySem.W.mg_of X G a_wrong_spot,
    f_ratio_read := f_ratio_read,
    d_ratio_read := PySem.W.fnOf "ratio_read" "ratio_read" (defArgs s_ratio_read) (defBody s_ratio_read) (defScope s_ratio_read) .none kV_ratio_read dc_ratio_read pm_ratio_read an_ratio_read cd_ratio_read ct_ratio_read,
    F_ratio_read := fun_mk (st := s_ratio_read) l_ratio_read c_ratio_read k_ratio_read,
    b_ratio_read := (fun_mk (st := s_ratio_read) l_ratio_read c_ratio_read k_ratio_read).binds (ps := ["text"]) fun _ _ _ _ _ _ us hl => match us, hl with | [_], _ => rfl,
    g_ratio_read := PySem.W.mg_of X G a_ratio_read,
    f__law_urn := f__law_urn,
    d__law_urn := PySem.W.fnOf "_law_urn" "_law_urn" (defArgs s__law_urn) (defBody s__law_urn) (defScope s__law_urn) .none kV__law_urn dc__law_urn pm__law_urn an__law_urn cd__law_urn ct__law_urn,
    F__law_urn := fun_mk (st := s__law_urn) l__law_urn c__law_urn k__law_urn,
    b__law_urn := (fun_mk (st := s__law_urn) l__law_urn c__law_urn k__law_urn).binds (ps := ["_law_script", "_law_turn"]) fun _ _ _ _ _ _ us hl => match us, hl with | [_, _], _ => rfl,
    g__law_urn := PySem.W.mg_of X G a__law_urn,
    f__law_drawn := f__law_drawn,
    d__law_drawn := PySem.W.fnOf "_law_drawn" "_law_drawn" (defArgs s__law_drawn) (defBody s__law_drawn) (defScope s__law_drawn) .none kV__law_drawn dc__law_drawn pm__law_drawn an__law_drawn cd__law_drawn ct__law_drawn,
    F__law_drawn := fun_mk (st := s__law_drawn) l__law_drawn c__law_drawn k__law_drawn,
    b__law_drawn := (fun_mk (st := s__law_drawn) l__law_drawn c__law_drawn k__law_drawn).binds (ps := ["_law_urn_here", "_law_many"]) fun _ _ _ _ _ _ us hl => match us, hl with | [_, _], _ => rfl,
    g__law_drawn := PySem.W.mg_of X G a__law_drawn,
    f__law_one_of := f__law_one_of,
    d__law_one_of := PySem.W.fnOf "_law_one_of" "_law_one_of" (defArgs s__law_one_of) (defBody s__law_one_of) (defScope s__law_one_of) .none kV__law_one_of dc__law_one_of pm__law_one_of an__law_one_of cd__law_one_of ct__law_one_of,
    F__law_one_of := fun_mk (st := s__law_one_of) l__law_one_of c__law_one_of k__law_one_of,
    b__law_one_of := (fun_mk (st := s__law_one_of) l__law_one_of c__law_one_of k__law_one_of).binds (ps := ["_law_urn_here", "_law_items"]) fun _ _ _ _ _ _ us hl => match us, hl with | [_, _], _ => rfl,
    g__law_one_of := PySem.W.mg_of X G a__law_one_of,
    f__law_divisor := f__law_divisor,
    d__law_divisor := PySem.W.fnOf "_law_divisor" "_law_divisor" (defArgs s__law_divisor) (defBody s__law_divisor) (defScope s__law_divisor) .none kV__law_divisor dc__law_divisor pm__law_divisor an__law_divisor cd__law_divisor ct__law_divisor,
    F__law_divisor := fun_mk (st := s__law_divisor) l__law_divisor c__law_divisor k__law_divisor,
    b__law_divisor := (fun_mk (st := s__law_divisor) l__law_divisor c__law_divisor k__law_divisor).binds (ps := ["_law_one", "_law_other"]) fun _ _ _ _ _ _ us hl => match us, hl with | [_, _], _ => rfl,
    g__law_divisor := PySem.W.mg_of X G a__law_divisor,
    f__law_lowest := f__law_lowest,
    d__law_lowest := PySem.W.fnOf "_law_lowest" "_law_lowest" (defArgs s__law_lowest) (defBody s__law_lowest) (defScope s__law_lowest) .none kV__law_lowest dc__law_lowest pm__law_lowest an__law_lowest cd__law_lowest ct__law_lowest,
    F__law_lowest := fun_mk (st := s__law_lowest) l__law_lowest c__law_lowest k__law_lowest,
    b__law_lowest := (fun_mk (st := s__law_lowest) l__law_lowest c__law_lowest k__law_lowest).binds (ps := ["_law_top", "_law_bottom"]) fun _ _ _ _ _ _ us hl => match us, hl with | [_, _], _ => rfl,
    g__law_lowest := PySem.W.mg_of X G a__law_lowest,
    f__law_power := f__law_power,
    d__law_power := PySem.W.fnOf "_law_power" "_law_power" (defArgs s__law_power) (defBody s__law_power) (defScope s__law_power) .none kV__law_power dc__law_power pm__law_power an__law_power cd__law_power ct__law_power,
    F__law_power := fun_mk (st := s__law_power) l__law_power c__law_power k__law_power,
    b__law_power := (fun_mk (st := s__law_power) l__law_power c__law_power k__law_power).binds (ps := ["_law_base", "_law_times"]) fun _ _ _ _ _ _ us hl => match us, hl with | [_, _], _ => rfl,
    g__law_power := PySem.W.mg_of X G a__law_power,
    f__law_whole := f__law_whole,
    d__law_whole := PySem.W.fnOf "_law_whole" "_law_whole" (defArgs s__law_whole) (defBody s__law_whole) (defScope s__law_whole) .none kV__law_whole dc__law_whole pm__law_whole an__law_whole cd__law_whole ct__law_whole,
    F__law_whole := fun_mk (st := s__law_whole) l__law_whole c__law_whole k__law_whole,
    b__law_whole := (fun_mk (st := s__law_whole) l__law_whole c__law_whole k__law_whole).binds (ps := ["_law_urn_here"]) fun _ _ _ _ _ _ us hl => match us, hl with | [_], _ => rfl,
    g__law_whole := PySem.W.mg_of X G a__law_whole,
    f__law_text := f__law_text,
    d__law_text := PySem.W.fnOf "_law_text" "_law_text" (defArgs s__law_text) (defBody s__law_text) (defScope s__law_text) .none kV__law_text dc__law_text pm__law_text an__law_text cd__law_text ct__law_text,
    F__law_text := fun_mk (st := s__law_text) l__law_text c__law_text k__law_text,
    b__law_text := (fun_mk (st := s__law_text) l__law_text c__law_text k__law_text).binds (ps := ["_law_pair"]) fun _ _ _ _ _ _ us hl => match us, hl with | [_], _ => rfl,
    g__law_text := PySem.W.mg_of X G a__law_text,
    f__law_run_end := f__law_run_end,
    d__law_run_end := PySem.W.fnOf "_law_run_end" "_law_run_end" (defArgs s__law_run_end) (defBody s__law_run_end) (defScope s__law_run_end) .none kV__law_run_end dc__law_run_end pm__law_run_end an__law_run_end cd__law_run_end ct__law_run_end,
    F__law_run_end := fun_mk (st := s__law_run_end) l__law_run_end c__law_run_end k__law_run_end,
    b__law_run_end := (fun_mk (st := s__law_run_end) l__law_run_end c__law_run_end k__law_run_end).binds (ps := ["_law_text_here", "_law_at"]) fun _ _ _ _ _ _ us hl => match us, hl with | [_, _], _ => rfl,
    g__law_run_end := PySem.W.mg_of X G a__law_run_end,
    f__law_read := f__law_read,
    d__law_read := PySem.W.fnOf "_law_read" "_law_read" (defArgs s__law_read) (defBody s__law_read) (defScope s__law_read) .none kV__law_read dc__law_read pm__law_read an__law_read cd__law_read ct__law_read,
    F__law_read := fun_mk (st := s__law_read) l__law_read c__law_read k__law_read,
    b__law_read := (fun_mk (st := s__law_read) l__law_read c__law_read k__law_read).binds (ps := ["_law_text_here"]) fun _ _ _ _ _ _ us hl => match us, hl with | [_], _ => rfl,
    g__law_read := PySem.W.mg_of X G a__law_read,
    f__law_told := f__law_told,
    d__law_told := PySem.W.fnOf "_law_told" "_law_told" (defArgs s__law_told) (defBody s__law_told) (defScope s__law_told) .none kV__law_told dc__law_told pm__law_told an__law_told cd__law_told ct__law_told,
    F__law_told := fun_mk (st := s__law_told) l__law_told c__law_told k__law_told,
    b__law_told := (fun_mk (st := s__law_told) l__law_told c__law_told k__law_told).binds (ps := ["_law_text_here"]) fun _ _ _ _ _ _ us hl => match us, hl with | [_], _ => rfl,
    g__law_told := PySem.W.mg_of X G a__law_told,
    f__law_digits := f__law_digits,
    d__law_digits := PySem.W.fnOf "_law_digits" "_law_digits" (defArgs s__law_digits) (defBody s__law_digits) (defScope s__law_digits) .none kV__law_digits dc__law_digits pm__law_digits an__law_digits cd__law_digits ct__law_digits,
    F__law_digits := fun_mk (st := s__law_digits) l__law_digits c__law_digits k__law_digits,
    b__law_digits := (fun_mk (st := s__law_digits) l__law_digits c__law_digits k__law_digits).binds (ps := ["_law_urn_here", "_law_size"]) fun _ _ _ _ _ _ us hl => match us, hl with | [_, _], _ => rfl,
    g__law_digits := PySem.W.mg_of X G a__law_digits,
    f__law_line := f__law_line,
    d__law_line := PySem.W.fnOf "_law_line" "_law_line" (defArgs s__law_line) (defBody s__law_line) (defScope s__law_line) .none kV__law_line dc__law_line pm__law_line an__law_line cd__law_line ct__law_line,
    F__law_line := fun_mk (st := s__law_line) l__law_line c__law_line k__law_line,
    b__law_line := (fun_mk (st := s__law_line) l__law_line c__law_line k__law_line).binds (ps := ["_law_urn_here"]) fun _ _ _ _ _ _ us hl => match us, hl with | [_], _ => rfl,
    g__law_line := PySem.W.mg_of X G a__law_line,
    f__law_bent := f__law_bent,
    d__law_bent := PySem.W.fnOf "_law_bent" "_law_bent" (defArgs s__law_bent) (defBody s__law_bent) (defScope s__law_bent) .none kV__law_bent dc__law_bent pm__law_bent an__law_bent cd__law_bent ct__law_bent,
    F__law_bent := fun_mk (st := s__law_bent) l__law_bent c__law_bent k__law_bent,
    b__law_bent := (fun_mk (st := s__law_bent) l__law_bent c__law_bent k__law_bent).binds (ps := ["_law_urn_here", "_law_text_here"]) fun _ _ _ _ _ _ us hl => match us, hl with | [_, _], _ => rfl,
    g__law_bent := PySem.W.mg_of X G a__law_bent,
    f__law_right := f__law_right,
    d__law_right := PySem.W.fnOf "_law_right" "_law_right" (defArgs s__law_right) (defBody s__law_right) (defScope s__law_right) .none kV__law_right dc__law_right pm__law_right an__law_right cd__law_right ct__law_right,
    F__law_right := fun_mk (st := s__law_right) l__law_right c__law_right k__law_right,
    b__law_right := (fun_mk (st := s__law_right) l__law_right c__law_right k__law_right).binds (ps := ["_law_urn_here"]) fun _ _ _ _ _ _ us hl => match us, hl with | [_], _ => rfl,
    g__law_right := PySem.W.mg_of X G a__law_right,
    f_law := f_law,
    d_law := PySem.W.fnOf "law" "law" (defArgs s_law) (defBody s_law) (defScope s_law) .none kV_law dc_law pm_law an_law cd_law ct_law,
    F_law := fun_mk (st := s_law) l_law c_law k_law,
    b_law := (fun_mk (st := s_law) l_law c_law k_law).binds (ps := ["_law_script"]) fun _ _ _ _ _ _ us hl => match us, hl with | [_], _ => rfl,
    g_law := PySem.W.mg_of X G a_law,
    f_Ratio___init__ := f_Ratio___init__,
    d_Ratio___init__ := PySem.W.fnOf "__init__" "Ratio.__init__" (defArgs s_Ratio___init__) (defBody s_Ratio___init__) (defScope s_Ratio___init__) (.ref dT_Ratio___init__) kV_Ratio___init__ dc_Ratio___init__ pm_Ratio___init__ an_Ratio___init__ cd_Ratio___init__ ct_Ratio___init__,
    F_Ratio___init__ := (⟨⟨_, _, _, _, _, _, _, _, _, _, rfl, l_Ratio___init__, c_Ratio___init__, .inr ⟨by simp, _, _, [.int 1 dt_Ratio___init__], _, rfl, dl_Ratio___init__, rfl, .cons ⟨_, rfl⟩ .nil⟩, .inl rfl⟩, k_Ratio___init__⟩ : FunD K "__init__" "Ratio.__init__" (defArgs s_Ratio___init__) (defBody s_Ratio___init__) (defScope s_Ratio___init__) [.int 1] [] f_Ratio___init__ (PySem.W.fnOf "__init__" "Ratio.__init__" (defArgs s_Ratio___init__) (defBody s_Ratio___init__) (defScope s_Ratio___init__) (.ref dT_Ratio___init__) kV_Ratio___init__ dc_Ratio___init__ pm_Ratio___init__ an_Ratio___init__ cd_Ratio___init__ ct_Ratio___init__)),
    w_Ratio___init__ := (Classical.choose (((⟨⟨_, _, _, _, _, _, _, _, _, _, rfl, l_Ratio___init__, c_Ratio___init__, .inr ⟨by simp, _, _, [.int 1 dt_Ratio___init__], _, rfl, dl_Ratio___init__, rfl, .cons ⟨_, rfl⟩ .nil⟩, .inl rfl⟩, k_Ratio___init__⟩ : FunD K "__init__" "Ratio.__init__" (defArgs s_Ratio___init__) (defBody s_Ratio___init__) (defScope s_Ratio___init__) [.int 1] [] f_Ratio___init__ (PySem.W.fnOf "__init__" "Ratio.__init__" (defArgs s_Ratio___init__) (defBody s_Ratio___init__) (defScope s_Ratio___init__) (.ref dT_Ratio___init__) kV_Ratio___init__ dc_Ratio___init__ pm_Ratio___init__ an_Ratio___init__ cd_Ratio___init__ ct_Ratio___init__))).binds1 2 0 (by simp) (by rfl) (fun T kV doc pm an cdv ct us its hu hi => match us, its, hu, hi with | [_, _], [_], _, _ => ⟨_, rfl, rfl⟩))),
    v_Ratio___init___2 := (Classical.choose_spec (((⟨⟨_, _, _, _, _, _, _, _, _, _, rfl, l_Ratio___init__, c_Ratio___init__, .inr ⟨by simp, _, _, [.int 1 dt_Ratio___init__], _, rfl, dl_Ratio___init__, rfl, .cons ⟨_, rfl⟩ .nil⟩, .inl rfl⟩, k_Ratio___init__⟩ : FunD K "__init__" "Ratio.__init__" (defArgs s_Ratio___init__) (defBody s_Ratio___init__) (defScope s_Ratio___init__) [.int 1] [] f_Ratio___init__ (PySem.W.fnOf "__init__" "Ratio.__init__" (defArgs s_Ratio___init__) (defBody s_Ratio___init__) (defScope s_Ratio___init__) (.ref dT_Ratio___init__) kV_Ratio___init__ dc_Ratio___init__ pm_Ratio___init__ an_Ratio___init__ cd_Ratio___init__ ct_Ratio___init__))).binds1 2 0 (by simp) (by rfl) (fun T kV doc pm an cdv ct us its hu hi => match us, its, hu, hi with | [_, _], [_], _, _ => ⟨_, rfl, rfl⟩))).1,
    b_Ratio___init___2 := (Classical.choose_spec (((⟨⟨_, _, _, _, _, _, _, _, _, _, rfl, l_Ratio___init__, c_Ratio___init__, .inr ⟨by simp, _, _, [.int 1 dt_Ratio___init__], _, rfl, dl_Ratio___init__, rfl, .cons ⟨_, rfl⟩ .nil⟩, .inl rfl⟩, k_Ratio___init__⟩ : FunD K "__init__" "Ratio.__init__" (defArgs s_Ratio___init__) (defBody s_Ratio___init__) (defScope s_Ratio___init__) [.int 1] [] f_Ratio___init__ (PySem.W.fnOf "__init__" "Ratio.__init__" (defArgs s_Ratio___init__) (defBody s_Ratio___init__) (defScope s_Ratio___init__) (.ref dT_Ratio___init__) kV_Ratio___init__ dc_Ratio___init__ pm_Ratio___init__ an_Ratio___init__ cd_Ratio___init__ ct_Ratio___init__))).binds1 2 0 (by simp) (by rfl) (fun T kV doc pm an cdv ct us its hu hi => match us, its, hu, hi with | [_, _], [_], _, _ => ⟨_, rfl, rfl⟩))).2,
    b_Ratio___init__ := L3.binds_full (((⟨⟨_, _, _, _, _, _, _, _, _, _, rfl, l_Ratio___init__, c_Ratio___init__, .inr ⟨by simp, _, _, [.int 1 dt_Ratio___init__], _, rfl, dl_Ratio___init__, rfl, .cons ⟨_, rfl⟩ .nil⟩, .inl rfl⟩, k_Ratio___init__⟩ : FunD K "__init__" "Ratio.__init__" (defArgs s_Ratio___init__) (defBody s_Ratio___init__) (defScope s_Ratio___init__) [.int 1] [] f_Ratio___init__ (PySem.W.fnOf "__init__" "Ratio.__init__" (defArgs s_Ratio___init__) (defBody s_Ratio___init__) (defScope s_Ratio___init__) (.ref dT_Ratio___init__) kV_Ratio___init__ dc_Ratio___init__ pm_Ratio___init__ an_Ratio___init__ cd_Ratio___init__ ct_Ratio___init__))).binds1 3 1 (by simp) (by rfl) (fun T kV doc pm an cdv ct us its hu hi => match us, its, hu, hi with | [_, _, _], [_], _, _ => ⟨_, rfl, rfl⟩)),
    f_Ratio_top := f_Ratio_top,
    d_Ratio_top := PySem.W.fnOf "top" "Ratio.top" (defArgs s_Ratio_top) (defBody s_Ratio_top) (defScope s_Ratio_top) .none kV_Ratio_top dc_Ratio_top pm_Ratio_top an_Ratio_top cd_Ratio_top ct_Ratio_top,
    F_Ratio_top := fun_mk (st := s_Ratio_top) l_Ratio_top c_Ratio_top k_Ratio_top,
    b_Ratio_top := (fun_mk (st := s_Ratio_top) l_Ratio_top c_Ratio_top k_Ratio_top).binds (ps := ["self"]) fun _ _ _ _ _ _ us hl => match us, hl with | [_], _ => rfl,
    pa_Ratio_top := pa_Ratio_top,
    p_Ratio_top := ⟨a1_Ratio_top, a2_Ratio_top, a3_Ratio_top, ⟨_, a4_Ratio_top⟩⟩,
    f_Ratio_bottom := f_Ratio_bottom,
    d_Ratio_bottom := PySem.W.fnOf "bottom" "Ratio.bottom" (defArgs s_Ratio_bottom) (defBody s_Ratio_bottom) (defScope s_Ratio_bottom) .none kV_Ratio_bottom dc_Ratio_bottom pm_Ratio_bottom an_Ratio_bottom cd_Ratio_bottom ct_Ratio_bottom,
    F_Ratio_bottom := fun_mk (st := s_Ratio_bottom) l_Ratio_bottom c_Ratio_bottom k_Ratio_bottom,
    b_Ratio_bottom := (fun_mk (st := s_Ratio_bottom) l_Ratio_bottom c_Ratio_bottom k_Ratio_bottom).binds (ps := ["self"]) fun _ _ _ _ _ _ us hl => match us, hl with | [_], _ => rfl,
    pa_Ratio_bottom := pa_Ratio_bottom,
    p_Ratio_bottom := ⟨a1_Ratio_bottom, a2_Ratio_bottom, a3_Ratio_bottom, ⟨_, a4_Ratio_bottom⟩⟩,
    f_Ratio_of_text := f_Ratio_of_text,
    d_Ratio_of_text := PySem.W.fnOf "of_text" "Ratio.of_text" (defArgs s_Ratio_of_text) (defBody s_Ratio_of_text) (defScope s_Ratio_of_text) .none kV_Ratio_of_text dc_Ratio_of_text pm_Ratio_of_text an_Ratio_of_text cd_Ratio_of_text ct_Ratio_of_text,
    F_Ratio_of_text := fun_mk (st := s_Ratio_of_text) l_Ratio_of_text c_Ratio_of_text k_Ratio_of_text,
    b_Ratio_of_text := (fun_mk (st := s_Ratio_of_text) l_Ratio_of_text c_Ratio_of_text k_Ratio_of_text).binds (ps := ["cls", "text"]) fun _ _ _ _ _ _ us hl => match us, hl with | [_, _], _ => rfl,
    pa_Ratio_of_text := pa_Ratio_of_text,
    cm_Ratio_of_text := ⟨a1_Ratio_of_text, ⟨_, a2_Ratio_of_text⟩, a3_Ratio_of_text⟩,
    cr_Ratio_of_text := ⟨a4_Ratio_of_text, a5_Ratio_of_text⟩,
    f_Ratio___str__ := f_Ratio___str__,
    d_Ratio___str__ := PySem.W.fnOf "__str__" "Ratio.__str__" (defArgs s_Ratio___str__) (defBody s_Ratio___str__) (defScope s_Ratio___str__) .none kV_Ratio___str__ dc_Ratio___str__ pm_Ratio___str__ an_Ratio___str__ cd_Ratio___str__ ct_Ratio___str__,
    F_Ratio___str__ := fun_mk (st := s_Ratio___str__) l_Ratio___str__ c_Ratio___str__ k_Ratio___str__,
    b_Ratio___str__ := (fun_mk (st := s_Ratio___str__) l_Ratio___str__ c_Ratio___str__ k_Ratio___str__).binds (ps := ["self"]) fun _ _ _ _ _ _ us hl => match us, hl with | [_], _ => rfl,
    o_Ratio___str__ := ⟨a_Ratio___str__, i_Ratio___str__⟩,
    mk_Ratio := ⟨mk_Ratio, a_Ratio___init__, i_Ratio___init__, kc_Ratio⟩,
    ct_FEWEST_BITS := ct0_FEWEST_BITS,
    c_FEWEST_BITS := PySem.W.mg_of X G ca_FEWEST_BITS,
    ct_MOST_BITS := ct0_MOST_BITS,
    c_MOST_BITS := PySem.W.mg_of X G ca_MOST_BITS,
    ct_MAX_FIGURES := ct0_MAX_FIGURES,
    c_MAX_FIGURES := PySem.W.mg_of X G ca_MAX_FIGURES,
    ct_MAX_DIGITS := ct0_MAX_DIGITS,
    c_MAX_DIGITS := PySem.W.mg_of X G ca_MAX_DIGITS,
    ct_DIGITS := ct0_DIGITS,
    c_DIGITS := PySem.W.mg_of X G ca_DIGITS,
    n_isinstance := PySem.W.mg_none_of X G z_isinstance,
    n_len := PySem.W.mg_none_of X G z_len,
    n_str := PySem.W.mg_none_of X G z_str,
    n_abs := PySem.W.mg_none_of X G z_abs,
    n_int := PySem.W.mg_none_of X G z_int,
    n_bool := PySem.W.mg_none_of X G z_bool,
    n_max := PySem.W.mg_none_of X G z_max,
    n_min := PySem.W.mg_none_of X G z_min,
    n_range := PySem.W.mg_none_of X G z_range,
    g_gcd := PySem.W.mg_of X G lb_gcd,
    sf_Ratio := q_sf_Ratio,
    dg := q_dg }⟩
end K02

namespace K02
open PySem PySem.Spec PyProof.Rows L2 L3
theorem if_true_of {c : Bool} {A B : Prop} (hc : c = true) (h : A) : if c = true then A else B := by
  rw [if_pos hc]
  exact h
theorem if_false_of {c : Bool} {A B : Prop} (hc : c = false) (h : B) : if c = true then A else B := by
  rw [hc, if_neg Bool.false_ne_true]
  exact h
/-! ### numbers and their sizes -/
theorem bits_le {n : Int} {k : Nat} : Builtin.Int.intBits n ≤ k ↔ n.natAbs < 2 ^ k := by
  unfold Builtin.Int.intBits
  split
  · rename_i h
    have e : n.natAbs = 0 := by first | simpa using h | omega
    rw [e]
    exact ⟨fun _ => Nat.two_pow_pos k, fun _ => Nat.zero_le _⟩
  · rename_i h
    have e : n.natAbs ≠ 0 := by first | simpa using h | omega
    rw [← Nat.log2_lt e]
    omega
theorem len_nat (m : Nat) : (Str.ofString (toString ((m : Nat) : Int))).length = (Nat.toDigits 10 m).length := by
  have h := congrArg List.length (PySem.W.KIN.signs_num m)
  rw [List.length_map] at h
  rw [← h]
  rfl
theorem len_le {m k : Nat} (hk : 0 < k) : (Str.ofString (toString ((m : Nat) : Int))).length ≤ k ↔ m < 10 ^ k := by
  rw [len_nat, Nat.length_toDigits_le_iff (by decide) hk]
def longer (n : Int) : Bool := decide (10 ^ 60 ≤ n.natAbs)
theorem abs_if (n : Int) : (if n < 0 then -n else n) = ((n.natAbs : Nat) : Int) := by split <;> omega
theorem short_of {n : Int} {k : Nat} (h : longer n = false) (hk : 200 ≤ k) : n.natAbs < 2 ^ k := by
  have h' := of_decide_eq_false h
  have : (10 : Nat) ^ 60 ≤ 2 ^ 200 := by decide
  exact Nat.lt_of_lt_of_le (by omega : n.natAbs < 2 ^ 200) (Nat.pow_le_pow_right (by decide) hk)
theorem longer_few {n : Int} (h : Builtin.Int.intBits n ≤ 180) : longer n = false := by
  rw [bits_le] at h
  have : (2 : Nat) ^ 180 ≤ 10 ^ 60 := by decide
  exact decide_eq_false (by omega)
theorem longer_most {n : Int} (h : ¬ Builtin.Int.intBits n ≤ 240) : longer n = true := by
  rw [bits_le] at h
  have : (10 : Nat) ^ 60 ≤ 2 ^ 240 := by decide
  exact decide_eq_true (by omega)
theorem longer_text {n : Int} : decide ((60 : Int) < ((Str.ofString (toString ((n.natAbs : Nat) : Int))).length : Nat)) = longer n := by
  have h := @len_le n.natAbs 60 (by decide)
  unfold longer
  by_cases c : n.natAbs < 10 ^ 60
  · have := h.mpr c
    rw [decide_eq_false (by omega), decide_eq_false (by omega)]
  · have h2 : ¬ (Str.ofString (toString ((n.natAbs : Nat) : Int))).length ≤ 60 := fun q => c (h.mp q)
    rw [decide_eq_true (by omega), decide_eq_true (by omega)]
theorem log_of {n : Nat} {k : Nat} (hk : 0 < k) (h : n < 2 ^ k) : n.log2 < k := by
  by_cases e : n = 0
  · subst e; exact hk
  · exact (Nat.log2_lt e).mpr h
end K02
namespace K02
open PySem PySem.Spec PyProof.Rows L2 L3
/-! ### lowest terms -/
/-- the divisor that both terms are divided by: its sign is that of the bottom -/
def shr (a b : Int) : Int := if b < 0 then -((Nat.gcd a.natAbs b.natAbs : Nat) : Int) else ((Nat.gcd a.natAbs b.natAbs : Nat) : Int)
def lowT (a b : Int) : Int := a.fdiv (shr a b)
def lowB (a b : Int) : Int := b.fdiv (shr a b)
theorem shr_ne {a b : Int} (h : b ≠ 0) : shr a b ≠ 0 := by
  have : Nat.gcd a.natAbs b.natAbs ≠ 0 := fun z => h (by have := Nat.eq_zero_of_gcd_eq_zero_right z; omega)
  unfold shr
  split <;> omega
theorem shr_abs (a b : Int) : (shr a b).natAbs = Nat.gcd a.natAbs b.natAbs := by
  unfold shr
  split <;> omega
theorem shr_dvd_left (a b : Int) : shr a b ∣ a := by
  rw [← Int.natAbs_dvd_natAbs, shr_abs]
  exact Nat.gcd_dvd_left _ _
theorem shr_dvd_right (a b : Int) : shr a b ∣ b := by
  rw [← Int.natAbs_dvd_natAbs, shr_abs]
  exact Nat.gcd_dvd_right _ _
theorem lowT_mul (a b : Int) : lowT a b * shr a b = a := by
  unfold lowT
  rw [Int.fdiv_eq_ediv_of_dvd (shr_dvd_left a b)]
  exact Int.ediv_mul_cancel (shr_dvd_left a b)
theorem lowB_mul (a b : Int) : lowB a b * shr a b = b := by
  unfold lowB
  rw [Int.fdiv_eq_ediv_of_dvd (shr_dvd_right a b)]
  exact Int.ediv_mul_cancel (shr_dvd_right a b)
theorem lowB_pos {a b : Int} (h : b ≠ 0) : 0 < lowB a b := by
  have e := lowB_mul a b
  have g : 0 < Nat.gcd a.natAbs b.natAbs := by
    have : Nat.gcd a.natAbs b.natAbs ≠ 0 := fun z => h (by have := Nat.eq_zero_of_gcd_eq_zero_right z; omega)
    omega
  by_cases c : b < 0
  · have s : shr a b = -((Nat.gcd a.natAbs b.natAbs : Nat) : Int) := if_pos c
    have sn : shr a b < 0 := by omega
    refine Decidable.byContradiction fun z => ?_
    have := Int.mul_nonneg_of_nonpos_of_nonpos (Int.not_lt.mp z) (Int.le_of_lt sn)
    omega
  · have s : shr a b = ((Nat.gcd a.natAbs b.natAbs : Nat) : Int) := if_neg c
    have sn : 0 < shr a b := by omega
    refine Decidable.byContradiction fun z => ?_
    have q : lowB a b * shr a b ≤ 0 := Int.mul_nonpos_of_nonpos_of_nonneg (Int.not_lt.mp z) (Int.le_of_lt sn)
    have b0 : b = 0 := by omega
    exact h b0
theorem low_cop {a b : Int} (h : b ≠ 0) : Nat.gcd (lowT a b).natAbs (lowB a b).natAbs = 1 := by
  have g : 0 < Nat.gcd a.natAbs b.natAbs := by
    have : Nat.gcd a.natAbs b.natAbs ≠ 0 := fun z => h (by have := Nat.eq_zero_of_gcd_eq_zero_right z; omega)
    omega
  have e1 := congrArg Int.natAbs (lowT_mul a b)
  have e2 := congrArg Int.natAbs (lowB_mul a b)
  rw [Int.natAbs_mul, shr_abs] at e1 e2
  have e3 : Nat.gcd ((lowT a b).natAbs * Nat.gcd a.natAbs b.natAbs) ((lowB a b).natAbs * Nat.gcd a.natAbs b.natAbs) = Nat.gcd a.natAbs b.natAbs := by rw [e1, e2]
  rw [Nat.gcd_mul_right] at e3
  exact Nat.eq_of_mul_eq_mul_right g (by rw [e3, Nat.one_mul])
theorem low_le (a b : Int) (h : b ≠ 0) : (lowT a b).natAbs ≤ a.natAbs ∧ (lowB a b).natAbs ≤ b.natAbs := by
  have e1 := congrArg Int.natAbs (lowT_mul a b)
  have e2 := congrArg Int.natAbs (lowB_mul a b)
  rw [Int.natAbs_mul, shr_abs] at e1 e2
  have g : 0 < Nat.gcd a.natAbs b.natAbs := by
    have : Nat.gcd a.natAbs b.natAbs ≠ 0 := fun z => h (by have := Nat.eq_zero_of_gcd_eq_zero_right z; omega)
    omega
  exact ⟨by rw [← e1]; exact Nat.le_mul_of_pos_right _ g, by rw [← e2]; exact Nat.le_mul_of_pos_right _ g⟩
/-- lowest terms are the only coprime pair over a positive bottom with this value -/
theorem low_eq {a b t u : Int} (h : b ≠ 0) (hu : 0 < u) (hc : Nat.gcd t.natAbs u.natAbs = 1) (e : a * u = t * b) : lowT a b = t ∧ lowB a b = u := by
  have h1 := lowT_mul a b
  have h2 := lowB_mul a b
  have p := lowB_pos (a := a) h
  have c := low_cop (a := a) h
  have s := shr_ne (a := a) h
  have k : lowT a b * u = t * lowB a b := by
    have : (lowT a b * u) * shr a b = (t * lowB a b) * shr a b := by
      rw [Int.mul_right_comm, h1, e, Int.mul_assoc, h2]
    exact Int.eq_of_mul_eq_mul_right s this
  have kn := congrArg Int.natAbs k
  rw [Int.natAbs_mul, Int.natAbs_mul] at kn
  have d1 : u.natAbs ∣ (lowB a b).natAbs := by
    have : u.natAbs ∣ t.natAbs * (lowB a b).natAbs := ⟨(lowT a b).natAbs, by rw [← kn, Nat.mul_comm]⟩
    exact Nat.Coprime.dvd_of_dvd_mul_left (Nat.Coprime.symm hc) this
  have d2 : (lowB a b).natAbs ∣ u.natAbs := by
    have : (lowB a b).natAbs ∣ (lowT a b).natAbs * u.natAbs := ⟨t.natAbs, by rw [kn, Nat.mul_comm]⟩
    exact Nat.Coprime.dvd_of_dvd_mul_left (Nat.Coprime.symm c) this
  have eu : lowB a b = u := by
    have := Nat.dvd_antisymm d2 d1
    omega
  refine ⟨?_, eu⟩
  rw [eu] at k
  exact Int.eq_of_mul_eq_mul_right (by omega) k
theorem tl_le {a : Int} (h : a.natAbs.log2 < 1920) : (Str.ofString (toString a)).length ≤ 1921 := by
  have e := int_text_length_le (k := 1920) (by decide) h
  rw [PySem.ofString_length]; omega
theorem sz_num {a : Int} (h : a.natAbs.log2 < 1920) : (Str.empty ++ Str.ofString (toString a)).length ≤ sizeLine := by
  have e := tl_le h
  rw [PySem.Str.length_append, sizeLine_eq, show Str.empty.length = 0 from rfl]; omega
theorem sz_bar {a : Int} (h : a.natAbs.log2 < 1920) : (Str.empty ++ Str.ofString (toString a) ++ ("/" : Str)).length ≤ sizeLine := by
  have e := tl_le h
  rw [PySem.Str.length_append, PySem.Str.length_append, sizeLine_eq, show Str.empty.length = 0 from rfl, show ("/" : Str).length = 1 from rfl]; omega
theorem sz_all {a b : Int} (h : a.natAbs.log2 < 1920) (h2 : b.natAbs.log2 < 1920) : (Str.empty ++ Str.ofString (toString a) ++ ("/" : Str) ++ Str.ofString (toString b)).length ≤ sizeLine := by
  have e := tl_le h
  have e2 := tl_le h2
  rw [PySem.Str.length_append, PySem.Str.length_append, PySem.Str.length_append, sizeLine_eq, show Str.empty.length = 0 from rfl, show ("/" : Str).length = 1 from rfl]; omega
/-! ### numbers of two thousand digits -/
def many (n : Int) : Bool := decide (10 ^ 2000 ≤ n.natAbs)
theorem many_few {n : Int} (h : Builtin.Int.intBits n ≤ 6000) : many n = false := by
  rw [bits_le] at h
  have : (2 : Nat) ^ 6000 ≤ 10 ^ 2000 := by decide +kernel
  exact decide_eq_false (Nat.not_le.mpr (Nat.lt_of_lt_of_le h this))
theorem many_most {n : Int} (h : ¬ Builtin.Int.intBits n ≤ 8000) : many n = true := by
  rw [bits_le] at h
  have : (10 : Nat) ^ 2000 ≤ 2 ^ 8000 := by decide +kernel
  exact decide_eq_true (Nat.le_trans this (Nat.not_lt.mp h))
theorem many_text {n : Int} : decide ((2000 : Int) < ((Str.ofString (toString ((n.natAbs : Nat) : Int))).length : Nat)) = many n := by
  have h := @len_le n.natAbs 2000 (by decide)
  unfold many
  by_cases c : n.natAbs < 10 ^ 2000
  · have := h.mpr c
    rw [decide_eq_false (by omega), decide_eq_false (Nat.not_le.mpr c)]
  · have h2 : ¬ (Str.ofString (toString ((n.natAbs : Nat) : Int))).length ≤ 2000 := fun q => c (h.mp q)
    rw [decide_eq_true (by omega), decide_eq_true (Nat.not_lt.mp c)]
theorem few_many {n : Int} (h : many n = false) : n.natAbs < 2 ^ 6650 := by
  have h' := of_decide_eq_false h
  have : (10 : Nat) ^ 2000 ≤ 2 ^ 6650 := by decide +kernel
  exact Nat.lt_of_lt_of_le (Nat.not_le.mp h') this
theorem many_of {n : Int} {k : Nat} (h : n.natAbs < 2 ^ k) (hk : k ≤ 6000) : many n = false := by
  have : (2 : Nat) ^ 6000 ≤ 10 ^ 2000 := by decide +kernel
  exact decide_eq_false (Nat.not_le.mpr (Nat.lt_of_lt_of_le (Nat.lt_of_lt_of_le h (Nat.pow_le_pow_right (by decide) hk)) this))
/-! ### the rational numbers -/
theorem low_rat {n m : Int} (h : m ≠ 0) : lowT n m = (Rat.divInt n m).num ∧ lowB n m = ((Rat.divInt n m).den : Int) := by
  have hd : ((Rat.divInt n m).den : Int) ≠ 0 := by have := (Rat.divInt n m).den_pos; omega
  refine low_eq h (by have := (Rat.divInt n m).den_pos; omega) (by rw [Int.natAbs_natCast]; exact (Rat.divInt n m).reduced) ?_
  have e : Rat.divInt n m = Rat.divInt (Rat.divInt n m).num (Rat.divInt n m).den := (Rat.num_divInt_den _).symm
  exact (Rat.divInt_eq_divInt_iff h hd).mp e
theorem den_ne (q : Rat) : ((q.den : Nat) : Int) ≠ 0 := by have := q.den_pos; omega
def big (q : Rat) : Bool := many q.num || many (q.den : Int)
theorem add_low (a b : Rat) : lowT (a.num * b.den + b.num * a.den) (a.den * b.den) = (a + b).num ∧ lowB (a.num * b.den + b.num * a.den) (a.den * b.den) = ((a + b).den : Int) := by
  have h := low_rat (n := a.num * b.den + b.num * a.den) (m := (a.den : Int) * b.den) (Int.mul_ne_zero (den_ne a) (den_ne b))
  have e : Rat.divInt (a.num * b.den + b.num * a.den) ((a.den : Int) * b.den) = a + b := by
    rw [← Rat.divInt_add_divInt _ _ (den_ne a) (den_ne b), Rat.num_divInt_den, Rat.num_divInt_den]
  rw [e] at h
  exact h
theorem neg_q (a : Rat) : (-a).num = -a.num ∧ (-a).den = a.den := ⟨Rat.neg_num a, rfl⟩
theorem sub_low (a b : Rat) : lowT (a.num * b.den - b.num * a.den) (a.den * b.den) = (a - b).num ∧ lowB (a.num * b.den - b.num * a.den) (a.den * b.den) = ((a - b).den : Int) := by
  have h := add_low a (-b)
  rw [(neg_q b).1, (neg_q b).2, Int.neg_mul, ← Int.sub_eq_add_neg, ← Rat.sub_eq_add_neg] at h
  exact h
theorem mul_low (a b : Rat) : lowT (a.num * b.num) (a.den * b.den) = (a * b).num ∧ lowB (a.num * b.num) (a.den * b.den) = ((a * b).den : Int) := by
  have h := low_rat (n := a.num * b.num) (m := (a.den : Int) * b.den) (Int.mul_ne_zero (den_ne a) (den_ne b))
  have e : Rat.divInt (a.num * b.num) ((a.den : Int) * b.den) = a * b := by
    rw [← Rat.divInt_mul_divInt, Rat.num_divInt_den, Rat.num_divInt_den]
  rw [e] at h
  exact h
theorem num_ne {b : Rat} (h : b ≠ 0) : b.num ≠ 0 := fun z => h (Rat.num_eq_zero.mp z)
theorem div_low (a b : Rat) (h : b ≠ 0) : lowT (a.num * b.den) (a.den * b.num) = (a / b).num ∧ lowB (a.num * b.den) (a.den * b.num) = ((a / b).den : Int) := by
  have h := low_rat (n := a.num * b.den) (m := (a.den : Int) * b.num) (Int.mul_ne_zero (den_ne a) (num_ne h))
  have e : Rat.divInt (a.num * b.den) ((a.den : Int) * b.num) = a / b := by
    rw [← Rat.divInt_mul_divInt, Rat.num_divInt_den, Rat.div_def]
    have e2 : Rat.divInt (b.den : Int) b.num = b⁻¹ := by
      rw [← Rat.inv_divInt, Rat.num_divInt_den]
    rw [e2]
  rw [e] at h
  exact h
theorem eq_q (a b : Rat) : (decide (a.num = b.num) && decide ((a.den : Int) = b.den)) = decide (a = b) := by
  by_cases h : a = b
  · subst h
    simp
  · rw [decide_eq_false h]
    by_cases h1 : a.num = b.num
    · by_cases h2 : a.den = b.den
      · exact absurd (Rat.ext h1 h2) h
      · rw [decide_eq_false (show ¬ (a.den : Int) = b.den by omega), Bool.and_false]
    · rw [decide_eq_false h1, Bool.false_and]
def qabs (a : Rat) : Rat := if a.num < 0 then -a else a
theorem abs_q (a : Rat) : (qabs a).num = ((a.num.natAbs : Nat) : Int) ∧ (qabs a).den = a.den := by
  unfold qabs
  split
  · rw [(neg_q a).1, (neg_q a).2]
    exact ⟨by omega, rfl⟩
  · exact ⟨by omega, rfl⟩
theorem lo_self (n : Int) (d : Nat) (hd : d ≠ 0) (hc : n.natAbs.Coprime d) : lowT n d = n ∧ lowB n d = d := low_eq (by omega) (by omega) (by rw [Int.natAbs_natCast]; exact hc) rfl
theorem neg_low (a : Rat) : lowT (-a.num) a.den = (-a).num ∧ lowB (-a.num) a.den = ((-a).den : Int) := by
  have h := lo_self (-a).num (-a).den (-a).den_nz (-a).reduced
  rw [(neg_q a).1, (neg_q a).2] at h
  rw [(neg_q a).1, (neg_q a).2]
  exact h
theorem abs_low (a : Rat) : lowT ((a.num.natAbs : Nat) : Int) a.den = (qabs a).num ∧ lowB ((a.num.natAbs : Nat) : Int) a.den = ((qabs a).den : Int) := by
  have h := lo_self (qabs a).num (qabs a).den (qabs a).den_nz (qabs a).reduced
  rw [(abs_q a).1, (abs_q a).2] at h
  rw [(abs_q a).1, (abs_q a).2]
  exact h
theorem big_neg (a : Rat) : big (-a) = big a := by
  unfold big many
  rw [(neg_q a).1, (neg_q a).2, Int.natAbs_neg]
theorem big_abs (a : Rat) : big (qabs a) = big a := by
  unfold big many
  rw [(abs_q a).1, (abs_q a).2, Int.natAbs_natCast]
theorem big_of {a : Rat} (h : big a = false) : many a.num = false ∧ many (a.den : Int) = false := by
  unfold big at h
  cases h1 : many a.num <;> cases h2 : many (a.den : Int) <;> simp [h1, h2] at h ⊢
theorem w_mul {x y : Int} (hx : many x = false) (hy : many y = false) : (x * y).natAbs < 2 ^ 13300 := by
  have a := few_many hx
  have b := few_many hy
  rw [Int.natAbs_mul, show 13300 = 6650 + 6650 from rfl, Nat.pow_add]
  exact Nat.mul_lt_mul'' a b
theorem w_up {x : Int} (h : x.natAbs < 2 ^ 13300) : x.natAbs < 2 ^ 13400 := Nat.lt_of_lt_of_le h (Nat.pow_le_pow_right (by decide) (by decide))
theorem w_add {x y : Int} (hx : x.natAbs < 2 ^ 13300) (hy : y.natAbs < 2 ^ 13300) : (x + y).natAbs < 2 ^ 13400 := by
  have e : (2 : Nat) ^ 13301 = 2 ^ 13300 * 2 := Nat.pow_succ _ _
  have l : (2 : Nat) ^ 13301 ≤ 2 ^ 13400 := Nat.pow_le_pow_right (by decide) (by decide)
  generalize (2 : Nat) ^ 13300 = P at *
  omega
theorem w_sub {x y : Int} (hx : x.natAbs < 2 ^ 13300) (hy : y.natAbs < 2 ^ 13300) : (x - y).natAbs < 2 ^ 13400 := by
  rw [Int.sub_eq_add_neg]
  exact w_add hx (by rw [Int.natAbs_neg]; exact hy)
theorem cm_many {x y : Int} (hx : many x = false) (hy : many y = false) : CMulW x y := by
  have a := log_of (by decide) (few_many hx)
  have b := log_of (by decide) (few_many hy)
  unfold CMulW
  omega
theorem log_le {n k : Nat} (h : n < 2 ^ k) : n.log2 ≤ k := by
  by_cases e : k = 0
  · subst e
    have : n = 0 := by simpa using h
    subst this
    decide
  · exact Nat.le_of_lt (log_of (by omega) h)
/-- both terms by what they share -/
theorem cd_low {a b z : Int} (hb : b ≠ 0) (h : z.natAbs < 2 ^ 13400) : CDivX z (shr a b) := by
  refine ⟨shr_ne hb, ?_⟩
  have l := log_le h
  by_cases c : (shr a b).natAbs.log2 < 9000
  · exact .inl c
  · exact .inr (by omega)
end K02

namespace K02
open PySem PySem.Spec PyProof.Rows L2 L3

/-! ### what a ratio is in the heap -/
def rf (t b : Int) : List (Str × V) := [("_top", .int t), ("_bottom", .int b)]
theorem tb_ : ¬ (("_top" : Str) = "_bottom") := by decide +kernel
theorem lk_here {k : Str} {v : V} {r : List (Str × V)} : List.lookup k ((k, v) :: r) = some v := by
  have e : (k == k) = true := beq_self_eq_true k
  simp only [List.lookup, e]
theorem lk_past {k g : Str} {v : V} {r : List (Str × V)} (h : (k == g) = false) : List.lookup k ((g, v) :: r) = List.lookup k r := by
  simp only [List.lookup, h]
theorem rf_top (t b : Int) : (rf t b).lookup ("_top" : Str) = some (.int t) := lk_here
theorem rf_bottom (t b : Int) : (rf t b).lookup ("_bottom" : Str) = some (.int b) := (lk_past (by decide +kernel)).trans lk_here
theorem rf_is_less (t b : Int) : (rf t b).lookup ("is_less" : Str) = none := (lk_past (by decide +kernel)).trans ((lk_past (by decide +kernel)).trans rfl)
theorem rf_new (t b : Int) : putF "_bottom" (.int b) (putF "_top" (.int t) []) = rf t b := if_neg tb_
theorem rf_put_top (t b y : Int) : putF "_top" (.int y) (rf t b) = rf y b := if_pos rfl
theorem rf_put_bottom (t b y : Int) : putF "_bottom" (.int y) (rf t b) = rf t y := by
  show (if ("_top" : Str) = "_bottom" then _ else (("_top" : Str), V.int t) :: (if ("_bottom" : Str) = "_bottom" then [(("_bottom" : Str), V.int y)] else _)) = rf t y
  rw [if_neg tb_, if_pos rfl]
  rfl
def RatAt (C : Addr) (H : Hp) (a : Addr) (t b : Int) : Prop := ∃ dx, H a = some (.ins C dx (rf t b))
def Ext (H H' : Hp) : Prop := ∀ a o, H a = some o → H' a = some o
theorem RatAt.ext {C : Addr} {H H' : Hp} {a : Addr} {t b : Int} (r : RatAt C H a t b) (e : Ext H H') : RatAt C H' a t b := r.elim fun dx h => ⟨dx, e _ _ h⟩
theorem Ext.trans {H H1 H2 : Hp} (a : Ext H H1) (b : Ext H1 H2) : Ext H H2 := fun c o h => b c o (a c o h)
theorem Ext.new {H : Hp} {p : Addr} {o : HO} (h : H p = none) : Ext H (upd H p o) := fun a u e => by
  rw [upd_ne (ne_of_none e h)]
  exact e
theorem Ext.free {H H' : Hp} (e : Ext H H') {l : Addr} (h : H' l = none) : H l = none := by
  cases q : H l with
  | none => rfl
  | some o =>
    rw [e l o q] at h
    cases h
/-! ### which values are whole numbers of at most sixty digits -/
def NonInt (K : PySem.W.Frag) (H : Hp) (x : V) : Prop := ∃ t, TyOf K H x t ∧ PySem.W.kitOne K t (.type "int") = some false
def Kn (K : PySem.W.Frag) (H : Hp) (x : V) : Prop := (∃ n, x = .int n) ∨ (∃ b, x = .bl b) ∨ NonInt K H x
def plainV : V → Bool
  | .int n => !longer n
  | _ => false
theorem plain_non {K : PySem.W.Frag} {H : Hp} {x : V} (h : NonInt K H x) : plainV x = false := by
  obtain ⟨t, ty, e⟩ := h
  cases ty with
  | int i => rw [show PySem.W.kitOne K (.type "int") (.type "int") = some true from rfl] at e; cases e
  | _ => rfl
theorem Kn.ext {K : PySem.W.Frag} {H H' : Hp} {x : V} (h : Kn K H x) (e : Ext H H') : Kn K H' x := by
  rcases h with h | h | ⟨t, ty, q⟩
  · exact .inl h
  · exact .inr (.inl h)
  · refine .inr (.inr ⟨t, ?_, q⟩)
    clear q
    cases ty with
    | non => exact .non
    | bl x => exact .bl x
    | int i => exact .int i
    | str x => exact .str x
    | flt x => exact .flt x
    | lst h => exact .lst (e _ _ h)
    | frz h => exact .frz (e _ _ h)
    | tup h => exact .tup (e _ _ h)
    | dK h => exact .dK (e _ _ h)
    | dT h => exact .dT (e _ _ h)
    | ins h a b c d f => exact .ins (e _ _ h) a b c d f
/-! ### the promises -/
def RatQ (C : Addr) (H : Hp) (r : Addr) (q : Rat) : Prop := RatAt C H r q.num q.den
def spLonger : Sp := fun vs H Q _ => ∃ n d : Int, vs = [.int n, .int d] ∧ ((d = 60 ∧ Q (.bl (longer n)) H) ∨ (d = 2000 ∧ Q (.bl (many n)) H))
def spPlain (K : PySem.W.Frag) : Sp := fun vs H Q _ => ∃ x, vs = [x] ∧ Kn K H x ∧ Q (.bl (plainV x)) H
def spLow : Sp := fun vs H Q _ => ∃ a b : Int, vs = [.int a, .int b] ∧ b ≠ 0 ∧ a.natAbs < 2 ^ 13400 ∧ b.natAbs < 2 ^ 13400 ∧ ∀ p, H p = none → Q (.ref p) (upd H p (.tup [.int (lowT a b), .int (lowB a b)]))
def Ext1 (p : Addr) (H H' : Hp) : Prop := ∀ c o, c ≠ p → H c = some o → H' c = some o
def spInit (K : PySem.W.Frag) (C : Addr) : Sp := fun vs H Q _ => ∃ (p dx : Addr) (a b : Int), vs = [.ref p, .int a, .int b] ∧ H p = some (.ins C dx []) ∧ longer a = false ∧ longer b = false ∧ b ≠ 0 ∧ ∀ H', Ext1 p H H' → H' p = some (.ins C dx (rf (lowT a b) (lowB a b))) → Q .non H'
def spRatio (C N : Addr) : Sp := fun vs H Q E => ∃ a b : Int, vs = [.int a, .int b] ∧ b ≠ 0 ∧ a.natAbs < 2 ^ 13400 ∧ b.natAbs < 2 ^ 13400 ∧
  ((many (lowT a b) || many (lowB a b)) = true → ∀ d H', Ext H H' → H' d = some (.xd [("limit", .int 2000)]) → E (.ref N) (some d) H') ∧
  ((many (lowT a b) || many (lowB a b)) = false → ∀ r H', Ext H H' → RatAt C H' r (lowT a b) (lowB a b) → Q (.ref r) H')
def spGet (C : Addr) (f : Int → Int → V) : Sp := fun vs H Q _ => ∃ p t b, vs = [.ref p] ∧ RatAt C H p t b ∧ Q (f t b) H
def spOne (C : Addr) (f : Rat → Rat) : Sp := fun vs H Q _ => ∃ p a, vs = [.ref p] ∧ RatQ C H p a ∧ big a = false ∧ ∀ r H', Ext H H' → RatQ C H' r (f a) → Q (.ref r) H'
def spTwo (C N : Addr) (f : Rat → Rat → Rat) : Sp := fun vs H Q E => ∃ p q a b, vs = [.ref p, .ref q] ∧ RatQ C H p a ∧ RatQ C H q b ∧ big a = false ∧ big b = false ∧
  (big (f a b) = true → ∀ d H', Ext H H' → H' d = some (.xd [("limit", .int 2000)]) → E (.ref N) (some d) H') ∧
  (big (f a b) = false → ∀ r H', Ext H H' → RatQ C H' r (f a b) → Q (.ref r) H')
def spOver (K : PySem.W.Frag) (C N R : Addr) : Sp := fun vs H Q E => ∃ p y a, vs = [.ref p, y] ∧ RatQ C H p a ∧ big a = false ∧
  ((∃ q b, y = .ref q ∧ RatQ C H q b ∧ big b = false ∧ (b = 0 → E (.type "ZeroDivisionError") none H) ∧
    (b ≠ 0 → big (a / b) = true → ∀ d H', Ext H H' → H' d = some (.xd [("limit", .int 2000)]) → E (.ref N) (some d) H') ∧
    (b ≠ 0 → big (a / b) = false → ∀ r H', Ext H H' → RatQ C H' r (a / b) → Q (.ref r) H')) ∨
   (∃ t, TyX K H y t ∧ PySem.W.kitOne K t (.ref C) = some false ∧ E (.ref R) none H))
def spEq (C : Addr) : Sp := fun vs H Q _ => ∃ p q a b, vs = [.ref p, .ref q] ∧ RatQ C H p a ∧ RatQ C H q b ∧ Q (.bl (decide (a = b))) H
def spLess (C : Addr) : Sp := fun vs H Q _ => ∃ p q a b, vs = [.ref p, .ref q] ∧ RatQ C H p a ∧ RatQ C H q b ∧ big a = false ∧ big b = false ∧ Q (.bl (decide (a < b))) H
def spTrue (C : Addr) : Sp := fun vs H Q _ => ∃ p a, vs = [.ref p] ∧ RatQ C H p a ∧ Q (.bl (decide (a ≠ 0))) H
theorem ps_no {X : Cx} {st : Stmt} : PS X st (fun _ _ _ => False) := ⟨fun _ _ _ _ _ _ h => h.elim⟩
theorem ratq_ext {C : Addr} {H H' : Hp} {r : Addr} {q : Rat} (h : RatQ C H r q) (e : Ext H H') : RatQ C H' r q := RatAt.ext h e
section
variable {P : Program} {w : World} {K : PySem.W.Frag} {mg : Str → Option Value} {base : Heap}
theorem ok_is_longer (T : TX K mg) : FnOk P w K mg base (L2.CX P w) 1 T.f_is_longer T.d_is_longer ["number", "digits"] (spLonger) := by
  refine T.F_is_longer.okX sc_is_longer (fun vs H Q E h => ?_) (fun cdv A outer s H vs Q E hr h => ?_)
  · obtain ⟨n, d, rfl, _⟩ := h
    rfl
  · refine ⟨_, (pss_cons (ps_set (i := 2) sc_is_longer.nd rfl (Or.inl rfl) (pe_bits (pv 0)))
    (pss_cons (ps_if (pt_cmpR op_le (pv 2) (pe_op op_mulW (pe_glob (v := .int 3) rfl T.c_FEWEST_BITS ⟨_, rfl⟩) (pv 1)) (nomark _)) (pss_one (ps_ret pe_bl)) pss_nil)
    (pss_one (ps_ret (pe_or (pe_cmpR op_gt (pv 2) (pe_op op_mulW (pe_glob (v := .int 4) rfl T.c_MOST_BITS ⟨_, rfl⟩) (pv 1)) (nomark _)) (pe_one (pe_cmpR op_gt (pe_callB call_len_str (by rfl) T.n_len (by decide +kernel) (pa_cons (pe_callTy (call_str_intD T.dg rfl) (by rfl) T.n_str (by decide +kernel) (pa_cons (pe_callB call_abs (by rfl) T.n_abs (by decide +kernel) (pa_cons (pv 0) pa_nil)) pa_nil)) pa_nil)) (pv 1) (nomark _)))))))), ?_⟩
    obtain ⟨n, d, rfl, h⟩ := h
    refine ⟨_, rfl, _, rfl, ?_⟩
    rcases h with ⟨rfl, k⟩ | ⟨rfl, k⟩
    · refine ⟨_, rfl, _, rfl, _, _, rfl, rfl, (by unfold CMulW; decide), _, _, rfl, rfl, _, rfl, ?_⟩
      refine ite2 (fun c => ?_) (fun c => ?_)
      · have c' := of_decide_eq_true c
        rw [longer_few (by omega)] at k
        exact k
      · refine ⟨_, rfl, _, rfl, _, _, rfl, rfl, (by unfold CMulW; decide), _, _, rfl, rfl, _, rfl, ?_⟩
        refine ite2 (fun c2 => ?_) (fun c2 => ?_)
        · have c' := of_decide_eq_true c2
          rw [longer_most (by omega)] at k
          exact k
        · have c' : ¬ ((4 : Int) * 60 < (Builtin.Int.intBits n : Nat)) := fun z => c2 (decide_eq_true z)
          have hb : n.natAbs < 2 ^ 240 := bits_le.mp (by omega)
          have h10 : n.natAbs < 10 ^ 4300 := Nat.lt_of_lt_of_le hb (by decide +kernel)
          refine ⟨_, rfl, _, rfl, ?_⟩
          rw [abs_if]
          refine ⟨_, rfl, h10, ?_⟩
          refine ⟨_, rfl, int_text_fits10 h10, ?_⟩
          refine ⟨_, rfl, _, _, rfl, rfl, ?_⟩
          show Q (.bl (decide ((60 : Int) < _))) H
          rw [longer_text]
          exact k
    · refine ⟨_, rfl, _, rfl, _, _, rfl, rfl, (by unfold CMulW; decide), _, _, rfl, rfl, _, rfl, ?_⟩
      refine ite2 (fun c => ?_) (fun c => ?_)
      · have c' := of_decide_eq_true c
        rw [many_few (by omega)] at k
        exact k
      · refine ⟨_, rfl, _, rfl, _, _, rfl, rfl, (by unfold CMulW; decide), _, _, rfl, rfl, _, rfl, ?_⟩
        refine ite2 (fun c2 => ?_) (fun c2 => ?_)
        · have c' := of_decide_eq_true c2
          rw [many_most (by omega)] at k
          exact k
        · have c' : ¬ ((4 : Int) * 2000 < (Builtin.Int.intBits n : Nat)) := fun z => c2 (decide_eq_true z)
          have hb : n.natAbs < 2 ^ 8000 := bits_le.mp (by omega)
          have h10 : n.natAbs < 10 ^ 4300 := Nat.lt_of_lt_of_le hb (by decide +kernel)
          refine ⟨_, rfl, _, rfl, ?_⟩
          rw [abs_if]
          refine ⟨_, rfl, h10, ?_⟩
          refine ⟨_, rfl, int_text_fits10 h10, ?_⟩
          refine ⟨_, rfl, _, _, rfl, rfl, ?_⟩
          show Q (.bl (decide ((2000 : Int) < _))) H
          rw [many_text]
          exact k
theorem ok_is_plain_int (T : TX K mg) : FnOk P w K mg base (L2.CX P w) 2 T.f_is_plain_int T.d_is_plain_int ["value"] (spPlain K) := by
  refine T.F_is_plain_int.okX sc_is_plain_int (fun vs H Q E h => ?_) (fun cdv A outer s H vs Q E hr h => ?_)
  · obtain ⟨x, rfl, _⟩ := h
    rfl
  · refine ⟨_, (pss_one (ps_ret (pe_and (pe_callB (id := "isinstance") (r := rIsi K) call_isi (by rfl) T.n_isinstance (by decide +kernel) (pa_cons (pv 0) (pa_cons (pe_bltn (v := .ty "int") (u := .type "int") rfl T.n_int (by decide +kernel) rfl) pa_nil))) (pe_and (pe_not (pe_callB (id := "isinstance") (r := rIsi K) call_isi (by rfl) T.n_isinstance (by decide +kernel) (pa_cons (pv 0) (pa_cons (pe_bltn (v := .ty "bool") (u := .type "bool") rfl T.n_bool (by decide +kernel) rfl) pa_nil)))) (pe_one (pe_not (pe_call (ok_is_longer T) (hr.mono (by decide)) (by rfl) T.g_is_longer T.F_is_longer.kp T.b_is_longer .nil passL (pa_cons (pv 0) (pa_cons (pe_glob (v := .int 60) rfl T.c_MAX_FIGURES ⟨_, rfl⟩) pa_nil))))))))), ?_⟩
    obtain ⟨x, rfl, hk, k⟩ := h
    rcases hk with ⟨n, rfl⟩ | ⟨b, rfl⟩ | hn
    · refine ⟨_, rfl, _, _, _, _, _, rfl, .ty _, .base (.int n), kit_ty (r := true) (by decide +kernel), _, rfl, iteT ?_⟩
      refine ⟨_, rfl, _, _, _, _, _, rfl, .ty _, .base (.int n), kit_ty (r := false) (by decide +kernel), _, rfl, _, rfl, iteT ?_⟩
      exact ⟨_, rfl, n, 60, rfl, .inl ⟨rfl, _, rfl, k⟩⟩
    · refine ⟨_, rfl, _, _, _, _, _, rfl, .ty _, .base (.bl b), kit_ty (r := true) (by decide +kernel), _, rfl, iteT ?_⟩
      refine ⟨_, rfl, _, _, _, _, _, rfl, .ty _, .base (.bl b), kit_ty (r := true) (by decide +kernel), _, rfl, _, rfl, iteF ?_⟩
      exact k
    · rw [plain_non hn] at k
      obtain ⟨t, ty, e⟩ := hn
      refine ⟨_, rfl, _, _, _, _, _, rfl, .ty _, .base ty, e, _, rfl, iteF ?_⟩
      exact k
theorem ok_lowest_terms (T : TX K mg) : FnOk P w K mg base (L2.CX P w) 1 T.f_lowest_terms T.d_lowest_terms ["top", "bottom"] (spLow) := by
  refine T.F_lowest_terms.okX sc_lowest_terms (fun vs H Q E h => ?_) (fun cdv A outer s H vs Q E hr h => ?_)
  · obtain ⟨a, b, rfl, _⟩ := h
    rfl
  · refine ⟨_, (pss_cons (ps_set (i := 2) sc_lowest_terms.nd rfl (Or.inl rfl) (pe_callBfun cr_gcd (by rfl) T.g_gcd (pa_cons (pv 0) (pa_cons (pv 1) pa_nil))))
    (pss_cons (ps_if (pt_cmpR op_lt (pv 1) pe_int (nomark _)) (pss_one (ps_set (i := 2) sc_lowest_terms.nd rfl (Or.inl rfl) (pe_un un_neg (pv 2)))) pss_nil)
    (pss_one (ps_ret (pe_tup (pa_cons (pe_op op_fdivX (pv 0) (pv 2)) (pa_cons (pe_op op_fdivX (pv 1) (pv 2)) pa_nil))))))), ?_⟩
    obtain ⟨a, b, rfl, hb, ha, hz, k⟩ := h
    refine ⟨_, rfl, _, rfl, _, _, rfl, ?_⟩
    refine ⟨_, rfl, _, _, rfl, rfl, _, rfl, ?_⟩
    have fin : ∀ z, z = shr a b → tRet (tTup (tCons (tOp (rI CDivX fun i j => .int (i.fdiv j)) (tVar 0) (tVar 2)) (tCons (tOp (rI CDivX fun i j => .int (i.fdiv j)) (tVar 1) (tVar 2)) tNil))) { nx := fun _ H' => Q .non H', rt := Q } [some (.int a), some (.int b), some (.int z)] H := by
      rintro z rfl
      exact ⟨_, rfl, _, rfl, _, _, rfl, rfl, cd_low hb ha, _, rfl, _, rfl, _, _, rfl, rfl, cd_low hb hz, (by show 2 ≤ sizeLine; decide), k⟩
    refine ite2 (fun c => ?_) (fun c => ?_)
    · refine ⟨_, rfl, _, rfl, fin _ ?_⟩
      exact (if_pos (of_decide_eq_true c)).symm
    · refine fin _ ?_
      exact (if_neg (fun z => c (decide_eq_true z))).symm
theorem ok_Ratio___init__ (T : TX K mg) : FnOk P w K mg base (L2.CX P w) 3 T.f_Ratio___init__ T.d_Ratio___init__ ["self", "top", "bottom"] (spInit K T.C_Ratio) := by
  refine FunD.ok (CX := L2.CX P w) T.F_Ratio___init__ sc_Ratio___init__ (fun vs H Q E h => ?_) (fun cdv A outer s H vs Q E hr h => ?_)
  · obtain ⟨p, dx, a, b, rfl, _⟩ := h
    rfl
  · refine ⟨_, (pss_cons (ps_if (pt_not (pt_val (pe_call (ok_is_plain_int T) (hr.mono (by decide)) (by rfl) T.g_is_plain_int T.F_is_plain_int.kp T.b_is_plain_int .nil passL (pa_cons (pv 1) pa_nil)))) (pss_one (ps_raiseInvalidNumber rfl T.x_InvalidNumber hr (takes_of rfl rfl rfl rfl) (pa_cons (pv 1) pa_nil))) pss_nil)
    (pss_cons (ps_if (PW.pt (pw_or (pt_not (pt_val (pe_call (ok_is_plain_int T) (hr.mono (by decide)) (by rfl) T.g_is_plain_int T.F_is_plain_int.kp T.b_is_plain_int .nil passL (pa_cons (pv 2) pa_nil)))) (pw_or1 (pt_cmpR op_eq (pv 2) pe_int (nomark _))))) (pss_one (ps_raiseInvalidNumber rfl T.x_InvalidNumber hr (takes_of rfl rfl rfl rfl) (pa_cons (pv 2) pa_nil))) pss_nil)
    (pss_one (ps_asg (pe_call (ok_lowest_terms T) (hr.mono (by decide)) (by rfl) T.g_lowest_terms T.F_lowest_terms.kp T.b_lowest_terms .nil passL (pa_cons (pv 1) (pa_cons (pv 2) pa_nil))) (pg_tup (by rfl) (pgs_cons (pg_fld (pv 0)) (pgs_cons (pg_fld (pv 0)) pgs_nil))))))), ?_⟩
    obtain ⟨p, dx, a, b, rfl, hp, la, lb, b0, k3⟩ := h
    have px : plainV (.int a) = true := by simp [plainV, la]
    have py : plainV (.int b) = true := by simp [plainV, lb]
    refine ⟨_, rfl, _, rfl, .inl ⟨a, rfl⟩, _, rfl, if_false_of (by rw [px] <;> rfl) ?_⟩
    refine ⟨_, rfl, _, rfl, .inl ⟨b, rfl⟩, _, rfl, if_false_of (by rw [py] <;> rfl) ?_⟩
    refine ⟨_, rfl, rfl, _, rfl, ?_⟩
    refine if_false_of (decide_eq_false (fun z => b0 (V.int.inj z))) ?_
    refine ⟨_, rfl, _, rfl, a, b, rfl, b0, short_of la (by decide), short_of lb (by decide), fun q hq => ?_⟩
    have npq : p ≠ q := ne_of_none hp hq
    refine ⟨q, _, rfl, SqT.of upd_same, rfl, _, _, rfl, _, rfl, p, T.C_Ratio, dx, [], rfl, (by rw [upd_ne npq]; exact hp), T.cl_Ratio, T.n_Ratio__top, (by show 0 < 1000; decide), ?_⟩
    refine ⟨_, _, rfl, _, rfl, p, T.C_Ratio, dx, _, rfl, upd_same, T.cl_Ratio, T.n_Ratio__bottom, (by show 1 < 1000; decide), rfl, ?_⟩
    refine k3 _ (fun c o hc e => ?_) (by rw [upd_same, rf_new])
    rw [upd_ne hc, upd_ne hc, upd_ne (ne_of_none e hq)]
    exact e
theorem ok_ratio_of (T : TX K mg) : FnOk P w K mg base (L2.CX P w) 5 T.f_ratio_of T.d_ratio_of ["top", "bottom"] (spRatio T.C_Ratio T.C_TooMany) := by
  refine T.F_ratio_of.okX sc_ratio_of (fun vs H Q E h => ?_) (fun cdv A outer s H vs Q E hr h => ?_)
  · obtain ⟨a, b, rfl, _⟩ := h
    rfl
  · refine ⟨_, (pss_cons (ps_asg (pe_call (ok_lowest_terms T) (hr.mono (by decide)) (by rfl) T.g_lowest_terms T.F_lowest_terms.kp T.b_lowest_terms .nil passL (pa_cons (pv 0) (pa_cons (pv 1) pa_nil))) (pg_tup (by rfl) (pgs_cons (pg_name (i := 0) sc_ratio_of.nd rfl (Or.inl rfl)) (pgs_cons (pg_name (i := 1) sc_ratio_of.nd rfl (Or.inl rfl)) pgs_nil))))
    (pss_cons (ps_if (PW.pt (pw_or (pt_val (pe_call (ok_is_longer T) (hr.mono (by decide)) (by rfl) T.g_is_longer T.F_is_longer.kp T.b_is_longer .nil passL (pa_cons (pv 0) (pa_cons (pe_glob (v := .int 2000) rfl T.c_MAX_DIGITS ⟨_, rfl⟩) pa_nil)))) (pw_or1 (pt_val (pe_call (ok_is_longer T) (hr.mono (by decide)) (by rfl) T.g_is_longer T.F_is_longer.kp T.b_is_longer .nil passL (pa_cons (pv 1) (pa_cons (pe_glob (v := .int 2000) rfl T.c_MAX_DIGITS ⟨_, rfl⟩) pa_nil))))))) (pss_one (ps_raiseTooMany rfl T.x_TooMany hr (takes_of rfl rfl rfl rfl) (pa_cons (pe_glob (v := .int 2000) rfl T.c_MAX_DIGITS ⟨_, rfl⟩) pa_nil))) pss_nil)
    (pss_cons (ps_set (i := 2) sc_ratio_of.nd rfl (Or.inl rfl) (pe_make T.mk_Ratio (ok_Ratio___init__ T) (hr.mono (by decide)) (by rfl) T.g_Ratio T.b_Ratio___init___2 T.v_Ratio___init___2 passL (pa_cons pe_int pa_nil)))
    (pss_cons (ps_fld (pv 2) (pv 0) rfl)
    (pss_cons (ps_fld (pv 2) (pv 1) rfl)
    (pss_one (ps_ret (pv 2)))))))), ?_⟩
    obtain ⟨a, b, rfl, b0, ha, hb, kE, k⟩ := h
    refine ⟨_, rfl, _, rfl, a, b, rfl, b0, ha, hb, fun q hq => ?_⟩
    have e0 : Ext H (upd H q (.tup [.int (lowT a b), .int (lowB a b)])) := Ext.new hq
    refine ⟨q, _, rfl, SqT.of upd_same, rfl, _, _, rfl, _, _, rfl, rfl, ?_⟩
    refine ⟨_, rfl, _, _, rfl, .inr ⟨rfl, _, rfl, ?_⟩⟩
    cases m1 : many (lowT a b) with
    | true =>
      rw [m1] at kE
      refine iteT (iteT ?_)
      exact ⟨_, rfl, fun d hd => kE rfl d _ (e0.trans (Ext.new hd)) upd_same⟩
    | false =>
      refine iteF ?_
      refine ⟨_, rfl, _, _, rfl, .inr ⟨rfl, _, rfl, ?_⟩⟩
      rw [m1] at kE k
      cases m2 : many (lowB a b) with
      | true =>
        rw [m2] at kE
        refine iteT ?_
        exact ⟨_, rfl, fun d hd => kE rfl d _ (e0.trans (Ext.new hd)) upd_same⟩
      | false =>
        rw [m2] at k
        refine iteF ?_
        intro x dx nx ndx nex
        refine ⟨x, dx, 0, 1, rfl, upd_same, (by decide +kernel), (by decide +kernel), (by decide), fun H' e1 hx => ⟨rfl, ?_⟩⟩
        refine ⟨_, rfl, _, rfl, x, T.C_Ratio, dx, _, rfl, hx, T.cl_Ratio, T.n_Ratio__top, (by show 2 < 1000; decide), ?_⟩
        refine ⟨_, rfl, _, rfl, x, T.C_Ratio, dx, _, rfl, upd_same, T.cl_Ratio, T.n_Ratio__bottom, (by rw [rf_put_top]; show 2 < 1000; decide), ?_⟩
        refine ⟨_, rfl, k rfl x _ (fun c o e => ?_) ⟨dx, by rw [upd_same, rf_put_top, rf_put_bottom]⟩⟩
        have n1 : c ≠ x := ne_of_none (e0 _ _ e) nx
        rw [upd_ne n1, upd_ne n1]
        refine e1 _ _ n1 ?_
        rw [upd_ne n1, upd_ne (ne_of_none (e0 _ _ e) ndx)]
        exact e0 _ _ e
theorem ok_Ratio_top (T : TX K mg) : FnOk P w K mg base (L2.CX P w) 1 T.f_Ratio_top T.d_Ratio_top ["self"] (spGet T.C_Ratio fun t b => .int t) := by
  refine T.F_Ratio_top.okX sc_Ratio_top (fun vs H Q E h => ?_) (fun cdv A outer s H vs Q E hr h => ?_)
  · obtain ⟨p, t, b, rfl, _⟩ := h
    rfl
  · refine ⟨_, (pss_one (ps_ret (pe_fld (pv 0) rfl))), ?_⟩
    obtain ⟨p, t, b, rfl, ⟨dx, hp⟩, k⟩ := h
    exact ⟨_, rfl, p, T.C_Ratio, dx, _, _, rfl, hp, T.cl_Ratio, T.n_Ratio__top, rf_top _ _, k⟩
theorem ok_Ratio_bottom (T : TX K mg) : FnOk P w K mg base (L2.CX P w) 1 T.f_Ratio_bottom T.d_Ratio_bottom ["self"] (spGet T.C_Ratio fun t b => .int b) := by
  refine T.F_Ratio_bottom.okX sc_Ratio_bottom (fun vs H Q E h => ?_) (fun cdv A outer s H vs Q E hr h => ?_)
  · obtain ⟨p, t, b, rfl, _⟩ := h
    rfl
  · refine ⟨_, (pss_one (ps_ret (pe_fld (pv 0) rfl))), ?_⟩
    obtain ⟨p, t, b, rfl, ⟨dx, hp⟩, k⟩ := h
    exact ⟨_, rfl, p, T.C_Ratio, dx, _, _, rfl, hp, T.cl_Ratio, T.n_Ratio__bottom, rf_bottom _ _, k⟩
end
end K02

namespace K02
open PySem PySem.Spec PyProof.Rows L2 L3

/-! ### the urn and what is drawn -/
def UrnAt (H : Hp) (u : Addr) : Prop := ∃ a b c : Int, H u = some (.lst [.int a, .int b, .int c])
theorem Ext1.trans {p : Addr} {H H1 H2 : Hp} (a : Ext1 p H H1) (b : Ext1 p H1 H2) : Ext1 p H H2 := fun c o n h => b c o n (a c o n h)
theorem Ext1.rfl' {p : Addr} {H : Hp} : Ext1 p H H := fun _ _ _ h => h
theorem Ext.one {p : Addr} {H H1 : Hp} (e : Ext H H1) : Ext1 p H H1 := fun c o _ h => e c o h
theorem Ext1.at {p : Addr} {H : Hp} {o : HO} : Ext1 p H (upd H p o) := fun c u n e => by
  rw [upd_ne n]
  exact e
theorem Ext.rfl' {H : Hp} : Ext H H := fun _ _ h => h
theorem UrnAt.ext {H H' : Hp} {u : Addr} (h : UrnAt H u) (e : Ext H H') : UrnAt H' u := h.elim fun a ⟨b, c, h⟩ => ⟨a, b, c, e _ _ h⟩
theorem rd_one {p q : Addr} {H H' : Hp} {o : HO} (h : L2.Rd H p o) (n : p ≠ q) (e : Ext1 q H H') : L2.Rd H' p o := h.elim (fun h => .inl (e _ _ n h)) fun ⟨x, h⟩ => .inr ⟨x, e _ _ n h⟩
theorem sql_one {K : PySem.W.Frag} {p q : Addr} {H H' : Hp} {xs : List V} (h : SqL K H p xs) (n : p ≠ q) (e : Ext1 q H H') : SqL K H' p xs := h.elim (fun h => .inl (rd_one h n e)) .inr
theorem sqt_one {K : PySem.W.Frag} {p q : Addr} {H H' : Hp} {xs : List V} (h : SqT K H p xs) (n : p ≠ q) (e : Ext1 q H H') : SqT K H' p xs := h.elim (fun h => .inl (rd_one h n e)) .inr
def spUrn (K : PySem.W.Frag) : Sp := fun vs H Q _ => ∃ (s : Addr) (ns : List Int) (i : Nat), vs = [.ref s, .int (i : Nat)] ∧ SqL K H s (ns.map V.int) ∧ ∀ u, H u = none → ∀ a b c : Int, Q (.ref u) (upd H u (.lst [.int a, .int b, .int c]))
def spDrawn : Sp := fun vs H Q _ => ∃ u m, vs = [.ref u, .int m] ∧ UrnAt H u ∧ 0 < m ∧ m < 1073741824 ∧ ∀ r H', 0 ≤ r → r < m → Ext1 u H H' → UrnAt H' u → Q (.int r) H'
def spOneOf (K : PySem.W.Frag) : Sp := fun vs H Q _ => ∃ u l xs, vs = [.ref u, .ref l] ∧ UrnAt H u ∧ SqL K H l xs ∧ l ≠ u ∧ 0 < xs.length ∧ xs.length < 1073741824 ∧ ∀ v ∈ xs, ∀ H', Ext1 u H H' → UrnAt H' u → Q v H'
def spDivisor : Sp := fun vs H Q _ => ∃ a b : Nat, vs = [.int (a : Nat), .int (b : Nat)] ∧ Q (.int ((Nat.gcd a b : Nat) : Int)) H
def spPower : Sp := fun vs H Q _ => ∃ n : Int, vs = [.int 10, .int n] ∧ 0 ≤ n ∧ n < 1000 ∧ Q (.int (10 ^ n.toNat)) H
def spWhole : Sp := fun vs H Q _ => ∃ u, vs = [.ref u] ∧ UrnAt H u ∧ ∀ v H', longer v = false → Ext1 u H H' → UrnAt H' u → Q (.int v) H'
theorem urn_sq {K : PySem.W.Frag} {H : Hp} {u : Addr} {xs : List V} (h : H u = some (.lst xs)) : SqL K H u xs := SqL.of h

theorem lg_lt {x : Int} {k : Nat} (hk : 0 < k) (h : x.natAbs < 2 ^ k) : x.natAbs.log2 < k := log_of hk h
theorem lg_mod {x m : Int} (h0 : 0 < m) (h1 : m < 2 ^ 64) : (x % m).natAbs.log2 < 64 := by
  have a := Int.emod_nonneg x (by omega : m ≠ 0)
  have b := Int.emod_lt_of_pos x h0
  exact log_of (by decide) (by omega)
theorem cm_one (x y : Int) : CMulW (x % 2305843009213693951) (y % 2305843009213693951) := by
  have a := lg_mod (x := x) (m := 2305843009213693951) (by decide) (by decide)
  have b := lg_mod (x := y) (m := 2305843009213693951) (by decide) (by decide)
  unfold CMulW
  omega
theorem cm_two (x y : Int) : CMulW (x % 1152921504606846883) (y % 1009 + 3) := by
  have a := lg_mod (x := x) (m := 1152921504606846883) (by decide) (by decide)
  have b : (y % 1009 + 3).natAbs.log2 < 64 := by
    have a := Int.emod_nonneg y (by decide : (1009 : Int) ≠ 0)
    have b := Int.emod_lt_of_pos y (by decide : (0 : Int) < 1009)
    exact log_of (by decide) (by omega)
  unfold CMulW
  omega
theorem cm_left (i j : Int) (h1 : -(2 ^ 64) < i) (h2 : i < 2 ^ 64) : CMul i j := .inl ⟨h1, h2⟩
theorem cm_right (i j : Int) (h1 : -(2 ^ 64) < j) (h2 : j < 2 ^ 64) : CMul i j := .inr ⟨h1, h2⟩
theorem cdw {i m : Int} (h0 : 0 < m) (h1 : m < 1073741824) : CDivW i m := ⟨h0, Nat.lt_trans (log_of (k := 64) (by decide) (by omega)) (by decide)⟩
theorem at_of {xs : List V} {r : Int} (h0 : 0 ≤ r) (h1 : r < ((xs.length : Nat) : Int)) : ∃ v, atI xs r = some v ∧ v ∈ xs := by
  obtain ⟨n, rfl⟩ := Int.eq_ofNat_of_zero_le h0
  have hn : n < xs.length := by omega
  exact ⟨xs[n], atI_nat (List.getElem?_eq_getElem hn), List.getElem_mem hn⟩
theorem ten_abs (i : Nat) : ((10 : Int) ^ i).natAbs = 10 ^ i := by rw [Int.natAbs_pow]; rfl
theorem cm_pow {i : Nat} (h : i < 1000) : CMulW (10 ^ i) 10 := by
  have a : ((10 : Int) ^ i).natAbs.log2 < 4 * i + 1 := by
    refine log_of (by omega) ?_
    rw [ten_abs]
    refine Nat.lt_of_le_of_lt (Nat.pow_le_pow_left (show 10 ≤ 2 ^ 4 by decide) i) ?_
    rw [← Nat.pow_mul]
    exact Nat.pow_lt_pow_right (by decide) (by omega)
  have b : (10 : Int).natAbs.log2 < 64 := log_of (by decide) (by decide)
  unfold CMulW
  omega
def msr (σ : L2.St) (_ : Hp) : Nat := match σ with
  | [_, some (.int b)] => b.toNat
  | _ => 0
theorem gcd_mod {a b : Nat} : ((a : Nat) : Int) % ((b : Nat) : Int) = ((a % b : Nat) : Int) := rfl
theorem low_is {a b : Int} : (if 0 < b then ((Nat.gcd a.natAbs b.natAbs : Nat) : Int) else -((Nat.gcd a.natAbs b.natAbs : Nat) : Int)) = shr a b ∨ b = 0 := by
  unfold shr
  by_cases c : b < 0
  · left; rw [if_neg (by omega), if_pos c]
  · by_cases d : b = 0
    · right; exact d
    · left; rw [if_pos (by omega), if_neg c]

theorem beq_no {a b : Int} (h : ¬ a = b) : (a == b) = false := by simpa using h
theorem beq_yes {a b : Int} (h : a = b) : (a == b) = true := by simpa using h
theorem few_of {n : Int} (h : n.natAbs < 10 ^ 60) : longer n = false := decide_eq_false (by omega)
theorem w_one {r s : Int} (h0 : 0 ≤ r) (h1 : r < 59) (s0 : 0 ≤ s) (s1 : s < 5) : longer (10 ^ r.toNat + s - 2) = false := by
  have a := ten_abs r.toNat
  have b : (10 : Nat) ^ r.toNat ≤ 10 ^ 58 := Nat.pow_le_pow_right (by decide) (by omega)
  refine few_of ?_
  omega
theorem w_two {f : Int} {i : Nat} (h : f.natAbs ≤ 11 ^ i) (hi : i < 40) : longer f = false ∧ f.natAbs.log2 < 200 := by
  have b : (11 : Nat) ^ i ≤ 11 ^ 40 := Nat.pow_le_pow_right (by decide) (by omega)
  have c : (11 : Nat) ^ 40 < 10 ^ 60 := by decide
  have d : (11 : Nat) ^ 40 < 2 ^ 200 := by decide
  exact ⟨few_of (by omega), log_of (by decide) (by omega)⟩
theorem w_lst {v : V} (h : v ∈ [V.int 2, .int 3, .int 5, .int 7, .int 2, .int 11]) : ∃ z : Int, v = .int z ∧ z.natAbs ≤ 11 := by
  simp only [List.mem_cons, List.not_mem_nil, or_false] at h
  rcases h with rfl | rfl | rfl | rfl | rfl | rfl <;> exact ⟨_, rfl, by decide⟩
theorem w_mulE {f z : Int} {i : Nat} (h : f.natAbs ≤ 11 ^ i) (hz : z.natAbs ≤ 11) : (f * z).natAbs ≤ 11 ^ (i + 1) := by
  rw [Int.natAbs_mul, Nat.pow_succ]
  exact Nat.mul_le_mul h hz
theorem w_cm {f z : Int} {i : Nat} (h : f.natAbs ≤ 11 ^ i) (hi : i < 40) (hz : z.natAbs ≤ 11) : CMulW f z := by
  have a := (w_two h hi).2
  have b : z.natAbs.log2 < 64 := log_of (by decide) (by omega)
  unfold CMulW
  omega
theorem urn_ne {H : Hp} {u p : Addr} (h : UrnAt H u) (hp : H p = none) : p ≠ u := by
  obtain ⟨a, b, c, h⟩ := h
  exact fun z => (ne_of_none h hp) z.symm
section
variable {P : Program} {w : World} {K : PySem.W.Frag} {mg : Str → Option Value} {base : Heap}
theorem ok__law_urn (T : TX K mg) : FnOk P w K mg base (L2.CX P w) 1 T.f__law_urn T.d__law_urn ["_law_script", "_law_turn"] (spUrn K) := by
  refine T.F__law_urn.okX sc__law_urn (fun vs H Q E h => ?_) (fun cdv A outer s H vs Q E hr h => ?_)
  · obtain ⟨s, ns, i, rfl, _⟩ := h
    rfl
  · refine ⟨_, (pss_cons (ps_set (i := 2) sc__law_urn.nd rfl (Or.inl rfl) (pe_ifExp (pt_cmpR op_lt (pv 1) (pe_callB call_len_seq (by rfl) T.n_len (by decide +kernel) (pa_cons (pv 0) pa_nil)) (nomark _)) (pe_callTy call_int1 (by rfl) T.n_int (by decide +kernel) (pa_cons (pe_ix ix_list (pv 0) (pv 1) (fun _ _ => rfl)) pa_nil)) (pe_op op_add (pe_op op_mul pe_int (pv 1)) pe_int)))
    (pss_cons (ps_set (i := 3) sc__law_urn.nd rfl (Or.inl rfl) (pe_op op_mod (pe_callB call_abs (by rfl) T.n_abs (by decide +kernel) (pa_cons (pv 2) pa_nil)) (pe_op op_powW (pe_op op_pow pe_int pe_int) pe_int)))
    (pss_one (ps_ret (pe_lst (pa_cons (pe_callB (call_max2 rfl) (by rfl) T.n_max (by decide +kernel) (pa_cons pe_int (pa_cons (pe_op op_sub (pv 3) (pe_op op_pow pe_int pe_int)) pa_nil))) (pa_cons (pe_op op_add (pe_op op_add (pe_op op_add (pe_op op_mul (pe_op op_mod (pv 3) pe_int) pe_int) (pe_op op_mul pe_int (pv 1))) (pe_op op_mul pe_int (pe_callTy call_int1 (by rfl) T.n_int (by decide +kernel) (pa_cons (pe_cmpR op_lt (pv 2) pe_int (nomark _)) pa_nil)))) pe_int) (pa_cons pe_int pa_nil)))))))), ?_⟩
    obtain ⟨l, ns, i, rfl, hs, k⟩ := h
    refine ⟨_, rfl, _, rfl, l, _, rfl, .inl hs, _, _, rfl, rfl, _, rfl, ite2 (fun c => ?_) (fun c => ?_)⟩
    · have c' := of_decide_eq_true c
      rw [List.length_map] at c'
      obtain ⟨v, e, hv⟩ := at_of (xs := ns.map V.int) (r := (i : Nat)) (by omega) (by rw [List.length_map]; exact c')
      obtain ⟨z, _, rfl⟩ := List.mem_map.mp hv
      refine ⟨_, rfl, _, rfl, l, _, _, _, rfl, rfl, hs, e, .inl ⟨_, rfl, ?_⟩⟩
      refine ⟨_, rfl, _, rfl, _, _, rfl, rfl, ⟨by decide, by decide, by decide⟩, _, _, rfl, rfl, ⟨by decide, by decide⟩, _, _, rfl, rfl, Int.pow_pos (Int.pow_pos (by decide)), ?_⟩
      refine ⟨_, rfl, _, _, rfl, rfl, ⟨by decide, by decide, by decide⟩, _, _, rfl, rfl, _, _, rfl, ?_⟩
      refine ⟨_, rfl, _, _, rfl, rfl, (by show (0 : Int) < _; decide), _, _, rfl, rfl, cm_right _ _ (by decide) (by decide), _, rfl, _, _, rfl, rfl, cm_left _ _ (by decide) (by decide), _, _, rfl, rfl, _, rfl, _, _, rfl, rfl, .inr ⟨_, rfl, ?_⟩⟩
      refine ⟨_, _, rfl, rfl, cm_left _ _ (by decide) (by decide), _, _, rfl, rfl, _, _, rfl, rfl, (by show 3 ≤ sizeLine; decide), fun u hu => k u hu _ _ _⟩
    · refine ⟨_, rfl, _, _, rfl, rfl, cm_left _ _ (by decide) (by decide), _, _, rfl, rfl, ?_⟩
      refine ⟨_, rfl, _, rfl, _, _, rfl, rfl, ⟨by decide, by decide, by decide⟩, _, _, rfl, rfl, ⟨by decide, by decide⟩, _, _, rfl, rfl, Int.pow_pos (Int.pow_pos (by decide)), ?_⟩
      refine ⟨_, rfl, _, _, rfl, rfl, ⟨by decide, by decide, by decide⟩, _, _, rfl, rfl, _, _, rfl, ?_⟩
      refine ⟨_, rfl, _, _, rfl, rfl, (by show (0 : Int) < _; decide), _, _, rfl, rfl, cm_right _ _ (by decide) (by decide), _, rfl, _, _, rfl, rfl, cm_left _ _ (by decide) (by decide), _, _, rfl, rfl, _, rfl, _, _, rfl, rfl, .inr ⟨_, rfl, ?_⟩⟩
      refine ⟨_, _, rfl, rfl, cm_left _ _ (by decide) (by decide), _, _, rfl, rfl, _, _, rfl, rfl, (by show 3 ≤ sizeLine; decide), fun u hu => k u hu _ _ _⟩
theorem ok__law_drawn (T : TX K mg) : FnOk P w K mg base (L2.CX P w) 1 T.f__law_drawn T.d__law_drawn ["_law_urn_here", "_law_many"] (spDrawn) := by
  refine T.F__law_drawn.okX sc__law_drawn (fun vs H Q E h => ?_) (fun cdv A outer s H vs Q E hr h => ?_)
  · obtain ⟨u, m, rfl, _⟩ := h
    rfl
  · refine ⟨_, (pss_cons (ps_if (pt_cmpR op_gt (pe_ix ix_list (pv 0) pe_int (fun _ _ => rfl)) pe_int (nomark _)) (pss_cons (ps_set (i := 2) sc__law_drawn.nd rfl (Or.inl rfl) (pe_op op_mod (pe_callTy call_int1 (by rfl) T.n_int (by decide +kernel) (pa_cons (pe_ix ix_list (pv 0) pe_int (fun _ _ => rfl)) pa_nil)) (pv 1)))
    (pss_cons (ps_asg (pe_op op_fdivW (pe_callTy call_int1 (by rfl) T.n_int (by decide +kernel) (pa_cons (pe_ix ix_list (pv 0) pe_int (fun _ _ => rfl)) pa_nil)) (pv 1)) (pg_sub (pv 0) pe_int set_list))
    (pss_one (ps_ret (pv 2))))) pss_nil)
    (pss_cons (ps_asg (pe_op op_add (pe_ix ix_list (pv 0) pe_int (fun _ _ => rfl)) pe_int) (pg_sub (pv 0) pe_int set_list))
    (pss_cons (ps_set (i := 3) sc__law_drawn.nd rfl (Or.inl rfl) (pe_op op_mod (pe_callTy call_int1 (by rfl) T.n_int (by decide +kernel) (pa_cons (pe_op op_add (pe_ix ix_list (pv 0) pe_int (fun _ _ => rfl)) (pe_op op_mul pe_int (pe_ix ix_list (pv 0) pe_int (fun _ _ => rfl)))) pa_nil)) pe_int))
    (pss_cons (ps_set (i := 4) sc__law_drawn.nd rfl (Or.inl rfl) (pe_op op_mod (pe_callTy call_int1 (by rfl) T.n_int (by decide +kernel) (pa_cons (pe_op op_add (pe_op op_add (pe_op op_mulW (pv 3) (pv 3)) (pe_op op_mul pe_int (pe_ix ix_list (pv 0) pe_int (fun _ _ => rfl)))) pe_int) pa_nil)) pe_int))
    (pss_one (ps_ret (pe_op op_mod (pe_callTy call_int1 (by rfl) T.n_int (by decide +kernel) (pa_cons (pe_op op_fdiv (pe_op op_mulW (pv 4) (pe_op op_add (pe_op op_mod (pv 3) pe_int) pe_int)) pe_int) pa_nil)) (pv 1)))))))), ?_⟩
    obtain ⟨u, m, rfl, ⟨a, b, c, hu⟩, m0, m1, k⟩ := h
    refine ⟨_, rfl, u, _, _, _, rfl, rfl, SqL.of hu, rfl, _, _, rfl, rfl, _, rfl, ite2 (fun q => ?_) (fun q => ?_)⟩
    · refine ⟨_, rfl, u, _, _, _, rfl, rfl, SqL.of hu, rfl, .inl ⟨_, rfl, _, rfl, _, _, rfl, rfl, m0, ?_⟩⟩
      refine ⟨_, rfl, u, _, _, _, rfl, rfl, SqL.of hu, rfl, .inl ⟨_, rfl, _, rfl, _, _, rfl, rfl, cdw m0 m1, ?_⟩⟩
      refine ⟨_, rfl, u, _, _, _, rfl, rfl, hu, rfl, ?_⟩
      exact ⟨_, rfl, k _ _ (Int.emod_nonneg _ (by omega)) (Int.emod_lt_of_pos _ m0) Ext1.at ⟨_, _, _, upd_same⟩⟩
    · refine ⟨_, rfl, u, _, _, _, rfl, rfl, SqL.of hu, rfl, _, _, rfl, rfl, ?_⟩
      refine ⟨_, rfl, u, _, _, _, rfl, rfl, hu, rfl, ?_⟩
      have h2 : ∀ z : Int, upd H u (.lst [V.int a, V.int b, V.int z]) u = some (.lst [V.int a, V.int b, V.int z]) := fun z => upd_same
      refine ⟨_, rfl, u, _, _, _, rfl, rfl, SqL.of (h2 _), rfl, _, rfl, u, _, _, _, rfl, rfl, SqL.of (h2 _), rfl, ?_⟩
      refine ⟨_, _, rfl, rfl, cm_left _ _ (by decide) (by decide), _, _, rfl, rfl, .inl ⟨_, rfl, _, _, rfl, rfl, (by show (0 : Int) < _; decide), ?_⟩⟩
      refine ⟨_, rfl, _, rfl, _, _, rfl, rfl, cm_one _ _, _, rfl, u, _, _, _, rfl, rfl, SqL.of (h2 _), rfl, _, _, rfl, rfl, cm_left _ _ (by decide) (by decide), _, _, rfl, rfl, _, _, rfl, rfl, .inl ⟨_, rfl, _, _, rfl, rfl, (by show (0 : Int) < _; decide), ?_⟩⟩
      refine ⟨_, rfl, _, rfl, _, _, rfl, rfl, (by show (0 : Int) < _; decide), _, _, rfl, rfl, _, _, rfl, rfl, cm_two _ _, _, _, rfl, rfl, ⟨by decide, by decide⟩, .inl ⟨_, rfl, _, rfl, _, _, rfl, rfl, m0, ?_⟩⟩
      exact k _ _ (Int.emod_nonneg _ (by omega)) (Int.emod_lt_of_pos _ m0) Ext1.at ⟨_, _, _, upd_same⟩
theorem ok__law_one_of (T : TX K mg) : FnOk P w K mg base (L2.CX P w) 2 T.f__law_one_of T.d__law_one_of ["_law_urn_here", "_law_items"] (spOneOf K) := by
  refine T.F__law_one_of.okX sc__law_one_of (fun vs H Q E h => ?_) (fun cdv A outer s H vs Q E hr h => ?_)
  · obtain ⟨u, l, xs, rfl, _⟩ := h
    rfl
  · refine ⟨_, (pss_one (ps_ret (pe_ix ix_list (pv 1) (pe_call (ok__law_drawn T) (hr.mono (by decide)) (by rfl) T.g__law_drawn T.F__law_drawn.kp T.b__law_drawn .nil passL (pa_cons (pv 0) (pa_cons (pe_callB call_len_seq (by rfl) T.n_len (by decide +kernel) (pa_cons (pv 1) pa_nil)) pa_nil))) (fun _ _ => rfl)))), ?_⟩
    obtain ⟨u, l, xs, rfl, hu, hl, n, l0, l1, k⟩ := h
    refine ⟨_, rfl, _, rfl, _, rfl, l, _, rfl, .inl hl, u, _, rfl, hu, (by omega), (by omega), fun r H' r0 r1 e hu' => ?_⟩
    obtain ⟨v, hv, hm⟩ := at_of r0 r1
    exact ⟨l, _, _, _, rfl, rfl, sql_one hl n e, hv, k v hm H' e hu'⟩
theorem ok__law_divisor (T : TX K mg) : FnOk P w K mg base (L2.CX P w) 1 T.f__law_divisor T.d__law_divisor ["_law_one", "_law_other"] (spDivisor) := by
  refine T.F__law_divisor.okX sc__law_divisor (fun vs H Q E h => ?_) (fun cdv A outer s H vs Q E hr h => ?_)
  · obtain ⟨a, b, rfl, _⟩ := h
    rfl
  · refine ⟨_, (pss_cons (ps_while PassesOwn.leaving (pt_cmpR op_gt (pv 1) pe_int (nomark _)) (pss_one (ps_par (i := 0) (j := 1) (by rfl) sc__law_divisor.nd rfl rfl (by decide) rfl rfl (pa_cons (pv 1) (pa_cons (pe_op op_mod (pe_callTy call_int1 (by rfl) T.n_int (by decide +kernel) (pa_cons (pv 0) pa_nil)) (pv 1)) pa_nil)) (by rfl))))
    (pss_one (ps_ret (pv 0)))), ?_⟩
    obtain ⟨a, b, rfl, k⟩ := h
    refine while_by (fun σ H' => H' = H ∧ ∃ x y : Nat, σ = [some (V.int (x : Nat)), some (V.int (y : Nat))] ∧ Nat.gcd x y = Nat.gcd a b) msr ⟨rfl, a, b, rfl, rfl⟩ ?_ ?_
    · rintro σ H' ⟨rfl, x, y, rfl, e⟩
      refine ⟨_, rfl, _, _, rfl, rfl, _, rfl, ite2 (fun c => ?_) (fun c => ?_)⟩
      · have c' := of_decide_eq_true c
        refine ⟨_, rfl, _, rfl, .inl ⟨_, rfl, _, rfl, _, _, rfl, rfl, c', _, _, rfl, ⟨rfl, y, x % y, rfl, ?_⟩, ?_⟩⟩
        · rw [← e, Nat.gcd_comm x y, Nat.gcd_rec y x, Nat.gcd_comm]
        · show ((x : Int) % (y : Int)).toNat < ((y : Nat) : Int).toNat
          have := Nat.mod_lt x (show 0 < y by omega)
          rw [gcd_mod]
          omega
      · have c' : ¬ ((0 : Int) < (y : Nat)) := fun z => c (decide_eq_true z)
        have y0 : y = 0 := by omega
        subst y0
        rw [Nat.gcd_zero_right] at e
        subst e
        exact ⟨_, rfl, k⟩
    · intro σ H1 Q1 Q2 hq h
      obtain ⟨v, e, i, j, e1, e2, c, e3, q⟩ := h
      exact ⟨v, e, i, j, e1, e2, c, e3, hq _ _ q⟩
theorem ok__law_lowest (T : TX K mg) : FnOk P w K mg base (L2.CX P w) 2 T.f__law_lowest T.d__law_lowest ["_law_top", "_law_bottom"] (spLow) := by
  refine T.F__law_lowest.okX sc__law_lowest (fun vs H Q E h => ?_) (fun cdv A outer s H vs Q E hr h => ?_)
  · obtain ⟨a, b, rfl, _⟩ := h
    rfl
  · refine ⟨_, (pss_cons (ps_set (i := 2) sc__law_lowest.nd rfl (Or.inl rfl) (pe_call (ok__law_divisor T) (hr.mono (by decide)) (by rfl) T.g__law_divisor T.F__law_divisor.kp T.b__law_divisor .nil passL (pa_cons (pe_callB call_abs (by rfl) T.n_abs (by decide +kernel) (pa_cons (pv 0) pa_nil)) (pa_cons (pe_callB call_abs (by rfl) T.n_abs (by decide +kernel) (pa_cons (pv 1) pa_nil)) pa_nil))))
    (pss_cons (ps_set (i := 2) sc__law_lowest.nd rfl (Or.inl rfl) (pe_ifExp (pt_cmpR op_gt (pv 1) pe_int (nomark _)) (pv 2) (pe_un un_neg (pv 2))))
    (pss_one (ps_ret (pe_tup (pa_cons (pe_op op_fdivX (pe_callTy call_int1 (by rfl) T.n_int (by decide +kernel) (pa_cons (pv 0) pa_nil)) (pv 2)) (pa_cons (pe_op op_fdivX (pe_callTy call_int1 (by rfl) T.n_int (by decide +kernel) (pa_cons (pv 1) pa_nil)) (pv 2)) pa_nil))))))), ?_⟩
    obtain ⟨a, b, rfl, hb, ha, hz, k⟩ := h
    refine ⟨_, rfl, _, rfl, _, rfl, _, rfl, a.natAbs, b.natAbs, ?_, ?_⟩
    · rw [abs_if, abs_if]
      rfl
    · have lw := (low_is (a := a) (b := b)).resolve_right hb
      refine ⟨_, rfl, _, _, rfl, rfl, _, rfl, ite2 (fun c => ?_) (fun c => ?_)⟩
      · rw [if_pos (of_decide_eq_true c)] at lw
        rw [lw]
        refine ⟨_, rfl, ?_⟩
        exact ⟨_, rfl, .inl ⟨_, rfl, _, rfl, _, _, rfl, rfl, cd_low hb ha, _, rfl, .inl ⟨_, rfl, _, rfl, _, _, rfl, rfl, cd_low hb hz, (by show 2 ≤ sizeLine; decide), k⟩⟩⟩
      · rw [if_neg (fun z => c (decide_eq_true z))] at lw
        refine ⟨_, rfl, _, rfl, ?_⟩
        show gName 2 (V.int (-((Nat.gcd a.natAbs b.natAbs : Nat) : Int))) _ _ _
        rw [lw]
        exact ⟨_, rfl, .inl ⟨_, rfl, _, rfl, _, _, rfl, rfl, cd_low hb ha, _, rfl, .inl ⟨_, rfl, _, rfl, _, _, rfl, rfl, cd_low hb hz, (by show 2 ≤ sizeLine; decide), k⟩⟩⟩
theorem ok__law_power (T : TX K mg) : FnOk P w K mg base (L2.CX P w) 1 T.f__law_power T.d__law_power ["_law_base", "_law_times"] (spPower) := by
  refine T.F__law_power.okX sc__law_power (fun vs H Q E h => ?_) (fun cdv A outer s H vs Q E hr h => ?_)
  · obtain ⟨n, rfl, _⟩ := h
    rfl
  · refine ⟨_, (pss_cons (ps_set (i := 2) sc__law_power.nd rfl (Or.inl rfl) pe_int)
    (pss_cons (ps_for PassesOwn.leaving rfl (pi_range1 (by rfl) T.n_range (pa_cons (pv 1) pa_nil)) (pg_name (i := 3) sc__law_power.nd rfl (Or.inl rfl)) (pss_one (ps_set (i := 2) sc__law_power.nd rfl (Or.inl rfl) (pe_op op_mulW (pv 2) (pv 0)))))
    (pss_one (ps_ret (pv 2))))), ?_⟩
    obtain ⟨n, rfl, n0, n1, k⟩ := h
    refine ⟨_, rfl, n, rfl, (by omega), (by omega), for_range (fun i σ H' => H' = H ∧ ∃ lap, σ = [some (V.int 10), some (V.int n), some (V.int (10 ^ i)), lap]) ⟨rfl, _, rfl⟩ ?_ ?_⟩
    · rintro i σ H' hi ⟨rfl, lap, rfl⟩
      exact ⟨_, rfl, _, rfl, _, _, rfl, rfl, cm_pow (by omega), rfl, _, rfl⟩
    · rintro σ H' ⟨rfl, lap, rfl⟩
      exact ⟨_, rfl, k⟩
theorem ok__law_whole (T : TX K mg) : FnOk P w K mg base (L2.CX P w) 3 T.f__law_whole T.d__law_whole ["_law_urn_here"] (spWhole) := by
  refine T.F__law_whole.okX sc__law_whole (fun vs H Q E h => ?_) (fun cdv A outer s H vs Q E hr h => ?_)
  · obtain ⟨u, rfl, _⟩ := h
    rfl
  · refine ⟨_, (pss_cons (ps_set (i := 1) sc__law_whole.nd rfl (Or.inl rfl) (pe_call (ok__law_drawn T) (hr.mono (by decide)) (by rfl) T.g__law_drawn T.F__law_drawn.kp T.b__law_drawn .nil passL (pa_cons (pv 0) (pa_cons pe_int pa_nil))))
    (pss_cons (ps_if (pt_cmpR op_eq (pv 1) pe_int (nomark _)) (pss_one (ps_ret (pe_call (ok__law_one_of T) (hr.mono (by decide)) (by rfl) T.g__law_one_of T.F__law_one_of.kp T.b__law_one_of .nil passL (pa_cons (pv 0) (pa_cons (pe_lst (pa_cons pe_int (pa_cons pe_int (pa_cons (pe_un un_neg pe_int) (pa_cons (pe_op op_sub (pe_op op_pow pe_int pe_int) pe_int) (pa_cons (pe_op op_sub pe_int (pe_op op_pow pe_int pe_int)) (pa_cons (pe_op op_pow pe_int pe_int) (pa_cons (pe_un un_neg (pe_op op_pow pe_int pe_int)) pa_nil)))))))) pa_nil))))) pss_nil)
    (pss_cons (ps_if (pt_cmpR op_eq (pv 1) pe_int (nomark _)) (pss_one (ps_ret (pe_op op_sub (pe_op op_add (pe_call (ok__law_power T) (hr.mono (by decide)) (by rfl) T.g__law_power T.F__law_power.kp T.b__law_power .nil passL (pa_cons pe_int (pa_cons (pe_call (ok__law_drawn T) (hr.mono (by decide)) (by rfl) T.g__law_drawn T.F__law_drawn.kp T.b__law_drawn .nil passL (pa_cons (pv 0) (pa_cons pe_int pa_nil))) pa_nil))) (pe_call (ok__law_drawn T) (hr.mono (by decide)) (by rfl) T.g__law_drawn T.F__law_drawn.kp T.b__law_drawn .nil passL (pa_cons (pv 0) (pa_cons pe_int pa_nil)))) pe_int))) pss_nil)
    (pss_cons (ps_if (pt_cmpR op_eq (pv 1) pe_int (nomark _)) (pss_cons (ps_set (i := 2) sc__law_whole.nd rfl (Or.inl rfl) (pe_op op_sub pe_int (pe_op op_mul pe_int (pe_call (ok__law_drawn T) (hr.mono (by decide)) (by rfl) T.g__law_drawn T.F__law_drawn.kp T.b__law_drawn .nil passL (pa_cons (pv 0) (pa_cons pe_int pa_nil))))))
    (pss_cons (ps_for PassesOwn.leaving rfl (pi_range1 (by rfl) T.n_range (pa_cons (pe_call (ok__law_drawn T) (hr.mono (by decide)) (by rfl) T.g__law_drawn T.F__law_drawn.kp T.b__law_drawn .nil passL (pa_cons (pv 0) (pa_cons pe_int pa_nil))) pa_nil)) (pg_name (i := 3) sc__law_whole.nd rfl (Or.inl rfl)) (pss_one (ps_set (i := 2) sc__law_whole.nd rfl (Or.inl rfl) (pe_op op_mulW (pv 2) (pe_call (ok__law_one_of T) (hr.mono (by decide)) (by rfl) T.g__law_one_of T.F__law_one_of.kp T.b__law_one_of .nil passL (pa_cons (pv 0) (pa_cons (pe_lst (pa_cons pe_int (pa_cons pe_int (pa_cons pe_int (pa_cons pe_int (pa_cons pe_int (pa_cons pe_int pa_nil))))))) pa_nil)))))))
    (pss_one (ps_ret (pv 2))))) pss_nil)
    (pss_one (ps_ret (pe_op op_sub (pe_call (ok__law_drawn T) (hr.mono (by decide)) (by rfl) T.g__law_drawn T.F__law_drawn.kp T.b__law_drawn .nil passL (pa_cons (pv 0) (pa_cons pe_int pa_nil))) pe_int))))))), ?_⟩
    obtain ⟨u, rfl, hu, k⟩ := h
    refine ⟨_, rfl, u, 6, rfl, hu, (by decide), (by decide), fun r H1 r0 r1 e1 hu1 => ?_⟩
    refine ⟨_, rfl, rfl, _, rfl, ?_⟩
    rw [dec_int]
    by_cases c0 : r = 0
    · refine if_true_of (beq_yes c0) ?_
      refine ⟨_, rfl, _, rfl, _, _, rfl, rfl, ⟨by decide, by decide, by decide⟩, _, _, rfl, rfl, _, _, rfl, rfl, ⟨by decide, by decide, by decide⟩, _, _, rfl, rfl, _, _, rfl, rfl, ⟨by decide, by decide, by decide⟩, _, _, rfl, rfl, ⟨by decide, by decide, by decide⟩, _, rfl, (by show 7 ≤ sizeLine; decide), fun p hp => ?_⟩
      refine ⟨u, p, _, rfl, hu1.ext (Ext.new hp), SqL.of upd_same, urn_ne hu1 hp, (by show 0 < 7; decide), (by show 7 < 1073741824; decide), fun v hv H2 e2 hu2 => ?_⟩
      have e3 : Ext1 u H H2 := e1.trans ((Ext.new hp).one.trans e2)
      simp only [List.mem_cons, List.not_mem_nil, or_false] at hv
      rcases hv with rfl | rfl | rfl | rfl | rfl | rfl | rfl <;> exact k _ _ (by decide +kernel) e3 hu2
    · refine if_false_of (beq_no c0) ?_
      refine ⟨_, rfl, rfl, _, rfl, ?_⟩
      rw [dec_int]
      by_cases c1 : r = 1
      · refine if_true_of (beq_yes c1) ?_
        refine ⟨_, rfl, u, 59, rfl, hu1, (by decide), (by decide), fun r2 H2 p0 p1 e2 hu2 => ⟨r2, rfl, p0, (by omega), _, rfl, u, 5, rfl, hu2, (by decide), (by decide), fun r3 H3 q0 q1 e3 hu3 => ?_⟩⟩
        exact ⟨_, _, rfl, rfl, _, _, rfl, rfl, k _ _ (w_one p0 p1 q0 q1) (e1.trans (e2.trans e3)) hu3⟩
      · refine if_false_of (beq_no c1) ?_
        refine ⟨_, rfl, rfl, _, rfl, ?_⟩
        rw [dec_int]
        by_cases c2 : r = 2
        · refine if_true_of (beq_yes c2) ?_
          refine ⟨_, rfl, u, 2, rfl, hu1, (by decide), (by decide), fun r2 H2 p0 p1 e2 hu2 => ⟨_, _, rfl, rfl, cm_left _ _ (by decide) (by decide), _, _, rfl, rfl, ?_⟩⟩
          refine ⟨_, rfl, u, 40, rfl, hu2, (by decide), (by decide), fun r3 H3 q0 q1 e3 hu3 => ⟨r3, rfl, (by omega), (by omega), ?_⟩⟩
          refine for_range (fun i σ H' => ∃ f lap, σ = [some (V.ref u), some (V.int r), some (V.int f), lap] ∧ f.natAbs ≤ 11 ^ i ∧ Ext1 u H H' ∧ UrnAt H' u) ⟨_, _, rfl, ?_, e1.trans (e2.trans e3), hu3⟩ ?_ ?_
          · show (1 - 2 * r2).natAbs ≤ 1
            omega
          · rintro i σ H4 hi ⟨f, lap, rfl, hf, e4, hu4⟩
            refine ⟨_, rfl, _, rfl, (by show 6 ≤ sizeLine; decide), fun p hp => ?_⟩
            refine ⟨u, p, _, rfl, hu4.ext (Ext.new hp), SqL.of upd_same, urn_ne hu4 hp, (by show 0 < 6; decide), (by show 6 < 1073741824; decide), fun v hv H5 e5 hu5 => ?_⟩
            obtain ⟨z, rfl, hz⟩ := w_lst hv
            exact ⟨_, _, rfl, rfl, w_cm hf (by omega) hz, _, _, rfl, w_mulE hf hz, e4.trans ((Ext.new hp).one.trans e5), hu5⟩
          · rintro σ H4 ⟨f, lap, rfl, hf, e4, hu4⟩
            exact ⟨_, rfl, k _ _ (w_two hf (by omega)).1 e4 hu4⟩
        · refine if_false_of (beq_no c2) ?_
          refine ⟨_, rfl, u, 40, rfl, hu1, (by decide), (by decide), fun r2 H2 p0 p1 e2 hu2 => ⟨_, _, rfl, rfl, k _ _ (few_of ?_) (e1.trans e2) hu2⟩⟩
          omega
end
end K02

namespace K02
open PySem PySem.Spec PyProof.Rows L2 L3 PySem.NumText TL

/-! ### texts of ratios, by their codes -/
def dg (c : Nat) : Bool := decide (48 ≤ c) && decide (c ≤ 57)
theorem dg_iff {c : Nat} : dg c = true ↔ 48 ≤ c ∧ c ≤ 57 := by
  unfold dg
  rw [Bool.and_eq_true, decide_eq_true_eq, decide_eq_true_eq]
theorem dg_not {c : Nat} : dg c = false ↔ ¬ (48 ≤ c ∧ c ≤ 57) := by
  rw [← dg_iff]
  cases dg c <;> simp
def digs (l : List Nat) : Nat := (l.takeWhile dg).length
def lim (l : List Nat) : Nat := min 2000 (digs l)
theorem digs_le (l : List Nat) : digs l ≤ l.length := len_takeWhile _ _
theorem digs_cons (c : Nat) (l : List Nat) : digs (c :: l) = if dg c = true then digs l + 1 else 0 := by
  unfold digs
  rw [List.takeWhile_cons]
  split <;> rfl
theorem digs_at : ∀ (l : List Nat) (k : Nat), k < digs l → ∃ c, l[k]? = some c ∧ dg c = true
  | [], k, h => absurd h (Nat.not_lt_zero _)
  | c :: l, k, h => by
    rw [digs_cons] at h
    split at h
    · rename_i hc
      cases k with
      | zero => exact ⟨c, rfl, hc⟩
      | succ k =>
        obtain ⟨d, a, b⟩ := digs_at l k (by omega)
        exact ⟨d, by simpa using a, b⟩
    · omega
theorem digs_end : ∀ (l : List Nat) (c : Nat), l[digs l]? = some c → dg c = false
  | [], c, h => by simp at h
  | d :: l, c, h => by
    rw [digs_cons] at h
    split at h
    · exact digs_end l c (by simpa using h)
    · rename_i hd
      obtain rfl : d = c := by simpa using h
      simpa using hd
theorem digs_all : ∀ (l : List Nat) (k : Nat), k ≤ digs l → AllDigits (l.take k)
  | [], k, _ => by rw [List.take_nil]; exact fun c hc => by simp at hc
  | c :: l, 0, _ => fun c hc => by simp at hc
  | c :: l, k + 1, h => by
    rw [digs_cons] at h
    split at h
    · rename_i hc
      rw [List.take_succ_cons]
      intro d hd
      rcases List.mem_cons.mp hd with rfl | hd
      · exact dg_iff.mp hc
      · exact digs_all l k (by omega) d hd
    · omega
theorem lim_le (l : List Nat) : lim l ≤ l.length := Nat.le_trans (Nat.min_le_right _ _) (digs_le l)
theorem lim_two (l : List Nat) : lim l ≤ 2000 := Nat.min_le_left _ _
theorem lim_digs (l : List Nat) : lim l ≤ digs l := Nat.min_le_right _ _
theorem lim_at {cs : List Nat} {s k : Nat} (h : k < lim (cs.drop s)) : ∃ c, cs[s + k]? = some c ∧ dg c = true := by
  obtain ⟨c, a, b⟩ := digs_at _ k (Nat.lt_of_lt_of_le h (lim_digs _))
  rw [List.getElem?_drop] at a
  exact ⟨c, a, b⟩
theorem lim_end {cs : List Nat} {s : Nat} {c : Nat} (h : lim (cs.drop s) < 2000) (hc : cs[s + lim (cs.drop s)]? = some c) : dg c = false := by
  have e : lim (cs.drop s) = digs (cs.drop s) := by
    unfold lim at h ⊢
    omega
  rw [e, ← List.getElem?_drop] at hc
  exact digs_end _ c hc
theorem lim_zero {cs : List Nat} {s : Nat} (h : lim (cs.drop s) = 0) {c : Nat} (hc : cs[s]? = some c) : dg c = false :=
  lim_end (cs := cs) (s := s) (by omega) (by rw [h]; exact hc)
theorem lim_pos {cs : List Nat} {s c : Nat} (hc : cs[s]? = some c) (hd : dg c = true) : 0 < lim (cs.drop s) := by
  rcases Nat.eq_zero_or_pos (lim (cs.drop s)) with h | h
  · rw [lim_zero h hc] at hd
    cases hd
  · exact h
theorem lim_none {cs : List Nat} {s : Nat} (hc : cs[s]? = none) : lim (cs.drop s) = 0 := by
  have h : cs.length ≤ s := List.getElem?_eq_none_iff.mp hc
  rw [List.drop_eq_nil_of_le h] <;> rfl
theorem lim_not {cs : List Nat} {s c : Nat} (hc : cs[s]? = some c) (hd : dg c = false) : lim (cs.drop s) = 0 := by
  rcases Nat.eq_zero_or_pos (lim (cs.drop s)) with h | h
  · exact h
  · obtain ⟨d, a, b⟩ := lim_at h
    rw [Nat.add_zero, hc] at a
    cases a
    rw [hd] at b
    cases b
theorem lim_len {cs : List Nat} {s : Nat} (h : s ≤ cs.length) : s + lim (cs.drop s) ≤ cs.length := by
  have := lim_le (cs.drop s)
  rw [List.length_drop] at this
  omega
inductive Out
  | spot (k : Nat)
  | val (n : Int) (d : Nat)
def sg (a n : Nat) : Int := if a = 1 then -(n : Int) else n
def judge5 (cs : List Nat) (a e : Nat) : Out :=
  if digitsVal (cs.drop (e + 1)) = 1 ∨ 1 < Nat.gcd (digitsVal ((cs.take e).drop a)) (digitsVal (cs.drop (e + 1))) then .spot (e + 1) else .val (sg a (digitsVal ((cs.take e).drop a))) (digitsVal (cs.drop (e + 1)))
def judge4 (cs : List Nat) (a e : Nat) : Out := if e + 1 + lim (cs.drop (e + 1)) < cs.length then .spot (e + 1 + lim (cs.drop (e + 1))) else judge5 cs a e
def judge3 (cs : List Nat) (a e : Nat) : Out := match cs[e + 1]? with
  | none => .spot (e + 1)
  | some d => if ¬ (49 ≤ d ∧ d ≤ 57) then .spot (e + 1) else judge4 cs a e
def judge2 (cs : List Nat) (a c e : Nat) : Out := if e = cs.length then .val (sg a (digitsVal (cs.drop a))) 1 else if cs[e]? ≠ some 47 ∨ c = 48 then .spot e else judge3 cs a e
def judge1 (cs : List Nat) (a : Nat) : Out := match cs[a]? with
  | none => .spot a
  | some c => if dg c = false ∨ (a = 1 ∧ c = 48) then .spot a else judge2 cs a c (if c = 48 then a + 1 else a + lim (cs.drop a))
def at0 (cs : List Nat) : Nat := if cs[0]? = some 45 then 1 else 0
def judge (cs : List Nat) : Out := judge1 cs (at0 cs)

theorem fold_lt : ∀ (l : List Nat) (a : Nat), AllDigits l → l.foldl (fun acc c => acc * 10 + (c - 48)) a < (a + 1) * 10 ^ l.length
  | [], a, _ => by simp
  | c :: l, a, h => by
    have hc := h.head
    have ih := fold_lt l (a * 10 + (c - 48)) h.tail
    rw [List.foldl_cons, List.length_cons, Nat.pow_succ]
    refine Nat.lt_of_lt_of_le ih ?_
    rw [Nat.mul_comm (10 ^ l.length) 10, ← Nat.mul_assoc]
    exact Nat.mul_le_mul_right _ (by omega)
theorem dv_lt (l : List Nat) (h : AllDigits l) : digitsVal l < 10 ^ l.length := by
  have := fold_lt l 0 h
  rw [Nat.zero_add, Nat.one_mul] at this
  exact this
theorem char_back {c : Nat} (h : 48 ≤ c ∧ c ≤ 57) : (Char.ofNat c).toNat = c := by
  have : ∀ d, d < 10 → (Char.ofNat (48 + d)).toNat = 48 + d := by decide
  have e := this (c - 48) (by omega)
  rw [show 48 + (c - 48) = c by omega] at e
  exact e
theorem back_digits {l : List Nat} (h : AllDigits l) : (l.map Char.ofNat).map Char.toNat = l := by
  rw [List.map_map]
  refine (List.map_congr_left fun c hc => ?_).trans (List.map_id l)
  exact char_back (h c hc)
theorem codes_nat {l : List Nat} (h : AllDigits l) (hh : l.length = 1 ∨ ∃ c r, l = c :: r ∧ 49 ≤ c) : (Str.ofString (toString ((digitsVal l : Nat) : Int))).cps.toList = l := by
  rw [PySem.W.KIN.signs_num]
  have e : Nat.toDigits 10 (digitsVal l) = l.map Char.ofNat := by
    have ne : l.length = (l.length - 1) + 1 := by
      rcases hh with h1 | ⟨c, r, rfl, _⟩
      · omega
      · simp
    exact toDigits_digitsVal (l.length - 1) l ne h (hh.imp (fun h1 => by omega) id)
  rw [e, back_digits h]
theorem codes_neg {m : Nat} (h : 0 < m) : (Str.ofString (toString (-(m : Int)))).cps.toList = 45 :: (Str.ofString (toString ((m : Nat) : Int))).cps.toList := by
  obtain ⟨k, rfl⟩ : ∃ k, m = k + 1 := ⟨m - 1, by omega⟩
  have e : toString (-((k + 1 : Nat) : Int)) = "-" ++ toString ((k + 1 : Nat) : Int) := rfl
  rw [e, PyProof.Rows.signs_ofString, PyProof.Rows.signs_ofString, String.toList_append, List.map_append] <;> rfl
theorem at0_cases (cs : List Nat) : (at0 cs = 1 ∧ ∃ r, cs = 45 :: r) ∨ (at0 cs = 0 ∧ cs[0]? ≠ some 45) := by
  unfold at0
  split
  · rename_i h
    refine .inl ⟨rfl, ?_⟩
    cases cs with
    | nil => simp at h
    | cons c r => exact ⟨r, by simp at h; rw [h]⟩
  · rename_i h
    exact .inr ⟨rfl, h⟩
theorem at0_le {cs : List Nat} : at0 cs ≤ cs.length := by
  rcases at0_cases cs with ⟨h, r, e⟩ | ⟨h, _⟩
  · rw [h, e]
    simp
  · omega
theorem seg_of (cs : List Nat) (a l : Nat) : (cs.take (a + l)).drop a = (cs.drop a).take l := by
  rw [List.drop_take]
  congr 1
  omega
theorem len_tl (z : Str) : (tl z).length = z.length := Array.length_toList
/-- the number of the first run -/
theorem top_int {p : Str} {cs : List Nat} {l : Nat} (h0 : 0 < l) (hl : l ≤ lim (cs.drop (at0 cs))) (hp : tl p = cs.take (at0 cs + l)) : PySem.intText? p = some (sg (at0 cs) (digitsVal ((cs.take (at0 cs + l)).drop (at0 cs)))) := by
  have ad : AllDigits ((cs.drop (at0 cs)).take l) := digs_all _ _ (Nat.le_trans hl (lim_digs _))
  have l2 := lim_two (cs.drop (at0 cs))
  have l3 := lim_le (cs.drop (at0 cs))
  rw [List.length_drop] at l3
  have ln : ((cs.drop (at0 cs)).take l).length = l := by rw [List.length_take, List.length_drop]; omega
  have ne : (cs.drop (at0 cs)).take l ≠ [] := fun e => by rw [e] at ln; simp at ln; omega
  rw [seg_of]
  rcases at0_cases cs with ⟨h, r, e⟩ | ⟨h, _⟩
  · rw [h] at hp ad ne ln ⊢
    have tp : tl p = 45 :: (cs.drop 1).take l := by
      rw [hp, e, Nat.add_comm 1 l, List.take_succ_cons] <;> rfl
    have q := intText_neg tp ad ne (by rw [← len_tl, tp, List.length_cons, ln]; omega)
    rw [q] <;> rfl
  · rw [h] at hp ad ne ln ⊢
    rw [Nat.zero_add] at hp
    have tp : p.cps.toList = (cs.drop 0).take l := by
      have hp' : p.cps.toList = _ := hp
      rw [hp', List.drop_zero]
    have q := intText_digits (x := p) (by rw [tp]; exact ad) (by rw [tp]; exact ne) (by rw [← len_tl, show tl p = _ from tp, ln]; omega)
    rw [q, tp] <;> rfl
theorem bot_int {p : Str} {l : List Nat} (h0 : l ≠ []) (hl : lim l = l.length) (hp : tl p = l) : PySem.intText? p = some ((digitsVal l : Nat) : Int) := by
  have ad : AllDigits l := by
    have := digs_all l l.length (by rw [← hl]; exact lim_digs _)
    rw [List.take_length] at this
    exact this
  have l2 := lim_two l
  have hp' : p.cps.toList = l := hp
  have q := intText_digits (x := p) (by rw [hp']; exact ad) (by rw [hp']; exact h0) (by rw [← len_tl, hp]; omega)
  rw [q, hp']
theorem all_of_lim {l : List Nat} (hl : lim l = l.length) : AllDigits l := by
  have := digs_all l l.length (by rw [← hl]; exact lim_digs _)
  rw [List.take_length] at this
  exact this
/-- the signs of a number whose first run is so -/
theorem top_back {cs : List Nat} {l : Nat} (h0 : 0 < l) (hl : l ≤ lim (cs.drop (at0 cs))) (hh : cs[at0 cs]? ≠ some 48 ∨ (at0 cs = 0 ∧ l = 1)) : tl (Str.ofString (toString (sg (at0 cs) (digitsVal ((cs.take (at0 cs + l)).drop (at0 cs)))))) = cs.take (at0 cs + l) := by
  have ad : AllDigits ((cs.drop (at0 cs)).take l) := digs_all _ _ (Nat.le_trans hl (lim_digs _))
  have l3 := lim_le (cs.drop (at0 cs))
  rw [List.length_drop] at l3
  have ln : ((cs.drop (at0 cs)).take l).length = l := by rw [List.length_take, List.length_drop]; omega
  obtain ⟨c, hc, hd⟩ := lim_at (cs := cs) (s := at0 cs) (k := 0) (by omega)
  rw [Nat.add_zero] at hc
  have hd' := dg_iff.mp hd
  have hs : (cs.drop (at0 cs)).take l = c :: ((cs.drop (at0 cs)).take l).tail := by
    obtain ⟨k, rfl⟩ : ∃ k, l = k + 1 := ⟨l - 1, by omega⟩
    have e : cs.drop (at0 cs) = c :: cs.drop (at0 cs + 1) := by
      obtain ⟨i, hi⟩ := List.getElem?_eq_some_iff.mp hc
      rw [List.drop_eq_getElem_cons i, hi]
    rw [e, List.take_succ_cons] <;> rfl
  have hh' : ((cs.drop (at0 cs)).take l).length = 1 ∨ ∃ c r, (cs.drop (at0 cs)).take l = c :: r ∧ 49 ≤ c := by
    rcases hh with h | ⟨_, h⟩
    · refine .inr ⟨c, _, hs, ?_⟩
      have : c ≠ 48 := fun e => h (by rw [hc, e])
      omega
    · exact .inl (by rw [ln, h])
  have cb := codes_nat ad hh'
  rw [seg_of]
  rcases at0_cases cs with ⟨h, r, e⟩ | ⟨h, _⟩
  · have pos : 0 < digitsVal ((cs.drop (at0 cs)).take l) := by
      rcases hh with h2 | ⟨h2, _⟩
      · have c49 : 49 ≤ c := by
          have : c ≠ 48 := fun e => h2 (by rw [hc, e])
          omega
        rw [hs]
        exact digitsVal_pos c49
      · omega
    have e1 : sg (at0 cs) (digitsVal ((cs.drop (at0 cs)).take l)) = -((digitsVal ((cs.drop (at0 cs)).take l) : Nat) : Int) := by
      unfold sg
      rw [if_pos h]
    rw [e1]
    show (Str.ofString (toString (-((digitsVal ((cs.drop (at0 cs)).take l) : Nat) : Int)))).cps.toList = _
    rw [codes_neg pos, cb, h, e, Nat.add_comm 1 l, List.take_succ_cons] <;> rfl
  · have e1 : sg (at0 cs) (digitsVal ((cs.drop (at0 cs)).take l)) = ((digitsVal ((cs.drop (at0 cs)).take l) : Nat) : Int) := by
      unfold sg
      rw [if_neg (by omega)]
    rw [e1]
    show (Str.ofString (toString ((digitsVal ((cs.drop (at0 cs)).take l) : Nat) : Int))).cps.toList = _
    rw [cb, h, List.drop_zero, Nat.zero_add]
def ratS (t b : Int) : Str := if b = 1 then toString t else (((Str.empty ++ (toString t : Str)) ++ ("/" : Str)) ++ (toString b : Str))
structure Fit (z : Str) (n : Int) (d : Nat) : Prop where
  pos : 0 < d
  sn : n.natAbs < 10 ^ 2000
  sd : d < 10 ^ 2000
  cop : Nat.gcd n.natAbs d = 1
  back : ratS n d = z
  shape : (d = 1 ∧ 47 ∉ tl z ∧ PySem.intText? z = some n) ∨ (d ≠ 1 ∧ ∃ p q : Str, z = p ++ ("/" : Str) ++ q ∧ 47 ∉ tl p ∧ q.length ≠ 0 ∧ PySem.intText? p = some n ∧ PySem.intText? q = some (d : Int))
theorem sg_abs (a n : Nat) : (sg a n).natAbs = n := by
  unfold sg
  split <;> omega
theorem str_ext {x y : Str} (h : tl x = tl y) : x = y := by
  cases x
  cases y
  congr 1
  exact Array.toList_inj.mp h
theorem seg_codes {cs : List Nat} {l : Nat} (hl : l ≤ lim (cs.drop (at0 cs))) : ∀ c ∈ cs.take (at0 cs + l), c = 45 ∨ (48 ≤ c ∧ c ≤ 57) := by
  have ad : AllDigits ((cs.drop (at0 cs)).take l) := digs_all _ _ (Nat.le_trans hl (lim_digs _))
  intro c hc
  rcases at0_cases cs with ⟨h, r, e⟩ | ⟨h, _⟩
  · rw [h] at hc ad
    rw [e, Nat.add_comm 1 l, List.take_succ_cons] at hc
    rcases List.mem_cons.mp hc with hc | hc
    · exact .inl hc
    · refine .inr (ad c ?_)
      rw [e]
      exact hc
  · rw [h] at hc ad
    rw [Nat.zero_add] at hc
    exact .inr (ad c (by rw [List.drop_zero]; exact hc))
theorem seg_lt {cs : List Nat} {l : Nat} (hl : l ≤ lim (cs.drop (at0 cs))) : digitsVal ((cs.take (at0 cs + l)).drop (at0 cs)) < 10 ^ 2000 := by
  rw [seg_of]
  have ad : AllDigits ((cs.drop (at0 cs)).take l) := digs_all _ _ (Nat.le_trans hl (lim_digs _))
  have l2 := lim_two (cs.drop (at0 cs))
  refine Nat.lt_of_lt_of_le (dv_lt _ ad) (Nat.pow_le_pow_right (by decide) ?_)
  rw [List.length_take]
  omega
theorem whole_fit {z : Str} {l : Nat} (h0 : 0 < l) (hl : l ≤ lim ((tl z).drop (at0 (tl z)))) (hh : (tl z)[at0 (tl z)]? ≠ some 48 ∨ (at0 (tl z) = 0 ∧ l = 1)) (he : at0 (tl z) + l = (tl z).length) : Fit z (sg (at0 (tl z)) (digitsVal ((tl z).drop (at0 (tl z))))) 1 := by
  have tk : (tl z).take (at0 (tl z) + l) = tl z := List.take_of_length_le (by omega)
  have c := seg_codes hl
  have b := top_back h0 hl hh
  have s := seg_lt hl
  have i := top_int (p := z) h0 hl tk.symm
  rw [tk] at c b s i
  refine ⟨by decide, by rw [sg_abs]; exact s, by decide, Nat.gcd_one_right _, ?_, .inl ⟨rfl, fun m => ?_, i⟩⟩
  · refine str_ext ?_
    rw [show ratS (sg (at0 (tl z)) (digitsVal ((tl z).drop (at0 (tl z))))) ((1 : Nat) : Int) = _ from if_pos rfl]
    exact b
  · rcases c 47 m with h | h <;> omega
theorem val_fit {z : Str} {n : Int} {d : Nat} (h : judge (tl z) = .val n d) : Fit z n d := by
  unfold judge judge1 at h
  have al := at0_le (cs := tl z)
  have a01 : at0 (tl z) = 1 ∨ at0 (tl z) = 0 := (at0_cases (tl z)).imp (·.1) (·.1)
  cases hc : (tl z)[at0 (tl z)]? with
  | none => rw [hc] at h; cases h
  | some c =>
    rw [hc] at h
    dsimp only at h
    by_cases h1 : dg c = false ∨ (at0 (tl z) = 1 ∧ c = 48)
    · rw [if_pos h1] at h
      cases h
    rw [if_neg h1] at h
    have hd : dg c = true := by
      cases q : dg c with
      | true => rfl
      | false => exact (h1 (.inl q)).elim
    have lp := lim_pos hc hd
    unfold judge2 at h
    by_cases c48 : c = 48
    · have a0 : at0 (tl z) = 0 := by
        rcases a01 with a | a
        · exact (h1 (.inr ⟨a, c48⟩)).elim
        · exact a
      rw [if_pos c48] at h
      by_cases e : at0 (tl z) + 1 = (tl z).length
      · rw [if_pos e] at h
        cases h
        exact whole_fit (l := 1) (by decide) lp (.inr ⟨a0, rfl⟩) e
      · rw [if_neg e, if_pos (.inr c48)] at h
        cases h
    · rw [if_neg c48] at h
      have hh : (tl z)[at0 (tl z)]? ≠ some 48 := by
        rw [hc]
        exact fun q => c48 (Option.some.inj q)
      generalize hL : lim ((tl z).drop (at0 (tl z))) = L at h lp
      have hLle : L ≤ lim ((tl z).drop (at0 (tl z))) := by rw [hL]; exact Nat.le_refl _
      by_cases e : at0 (tl z) + L = (tl z).length
      · rw [if_pos e] at h
        cases h
        exact whole_fit lp hLle (.inl hh) e
      rw [if_neg e] at h
      by_cases s : (tl z)[at0 (tl z) + L]? ≠ some 47 ∨ c = 48
      · rw [if_pos s] at h
        cases h
      rw [if_neg s] at h
      have s47 : (tl z)[at0 (tl z) + L]? = some 47 := Classical.byContradiction fun q => s (.inl q)
      unfold judge3 at h
      cases hf : (tl z)[at0 (tl z) + L + 1]? with
      | none => rw [hf] at h; cases h
      | some f =>
        rw [hf] at h
        dsimp only at h
        by_cases f9 : 49 ≤ f ∧ f ≤ 57
        · rw [if_neg (fun q => q f9)] at h
          unfold judge4 at h
          by_cases g : at0 (tl z) + L + 1 + lim ((tl z).drop (at0 (tl z) + L + 1)) < (tl z).length
          · rw [if_pos g] at h
            cases h
          rw [if_neg g] at h
          have flt : at0 (tl z) + L + 1 < (tl z).length := (List.getElem?_eq_some_iff.mp hf).1
          have ll := lim_len (cs := tl z) (s := at0 (tl z) + L + 1) (by omega)
          have hB : lim ((tl z).drop (at0 (tl z) + L + 1)) = ((tl z).drop (at0 (tl z) + L + 1)).length := by rw [List.length_drop]; omega
          unfold judge5 at h
          by_cases m1 : digitsVal ((tl z).drop (at0 (tl z) + L + 1)) = 1 ∨ 1 < Nat.gcd (digitsVal (((tl z).take (at0 (tl z) + L)).drop (at0 (tl z)))) (digitsVal ((tl z).drop (at0 (tl z) + L + 1)))
          · rw [if_pos m1] at h
            cases h
          rw [if_neg m1] at h
          have adB := all_of_lim hB
          have hsB : (tl z).drop (at0 (tl z) + L + 1) = f :: ((tl z).drop (at0 (tl z) + L + 1)).tail := by
            obtain ⟨i, hi⟩ := List.getElem?_eq_some_iff.mp hf
            rw [List.drop_eq_getElem_cons i, hi] <;> rfl
          have posB : 0 < digitsVal ((tl z).drop (at0 (tl z) + L + 1)) := by rw [hsB]; exact digitsVal_pos f9.1
          have neB : (tl z).drop (at0 (tl z) + L + 1) ≠ [] := fun q => by rw [q] at hsB; cases hsB
          have ltB : digitsVal ((tl z).drop (at0 (tl z) + L + 1)) < 10 ^ 2000 := Nat.lt_of_lt_of_le (dv_lt _ adB) (Nat.pow_le_pow_right (by decide) (by rw [← hB]; exact lim_two _))
          have cB : tl (Str.ofString (toString ((digitsVal ((tl z).drop (at0 (tl z) + L + 1)) : Nat) : Int))) = (tl z).drop (at0 (tl z) + L + 1) := codes_nat adB (.inr ⟨f, _, hsB, f9.1⟩)
          have zz : tl z = (tl z).take (at0 (tl z) + L) ++ 47 :: (tl z).drop (at0 (tl z) + L + 1) := by
            obtain ⟨i, hi⟩ := List.getElem?_eq_some_iff.mp s47
            have := List.take_append_drop (at0 (tl z) + L) (tl z)
            rw [List.drop_eq_getElem_cons i, hi] at this
            exact this.symm
          have cA := top_back lp hLle (.inl hh)
          have sA := seg_lt hLle
          have kA := seg_codes hLle
          have iA := top_int (p := ⟨((tl z).take (at0 (tl z) + L)).toArray⟩) lp hLle rfl
          have iB := bot_int (p := ⟨((tl z).drop (at0 (tl z) + L + 1)).toArray⟩) neB hB rfl
          cases h
          have m1a : digitsVal ((tl z).drop (at0 (tl z) + L + 1)) ≠ 1 := fun q => m1 (.inl q)
          have m1b : ¬ 1 < Nat.gcd (digitsVal (((tl z).take (at0 (tl z) + L)).drop (at0 (tl z)))) (digitsVal ((tl z).drop (at0 (tl z) + L + 1))) := fun q => m1 (.inr q)
          have gp := Nat.gcd_pos_of_pos_right (digitsVal (((tl z).take (at0 (tl z) + L)).drop (at0 (tl z)))) posB
          refine ⟨posB, by rw [sg_abs]; exact sA, ltB, by rw [sg_abs]; omega, ?_, .inr ⟨m1a, _, _, ?_, fun q => ?_, ?_, iA, iB⟩⟩
          · refine str_ext ?_
            rw [show ratS (sg (at0 (tl z)) (digitsVal (((tl z).take (at0 (tl z) + L)).drop (at0 (tl z))))) ((digitsVal ((tl z).drop (at0 (tl z) + L + 1)) : Nat) : Int) = _ from if_neg (by omega)]
            rw [tl_append, tl_append, tl_append, cA, cB, show tl (Str.ofString "/") = [47] by decide +kernel, show tl Str.empty = [] from rfl, List.nil_append, List.append_assoc]
            exact zz.symm
          · refine str_ext ?_
            rw [tl_append, tl_append, show tl (Str.ofString "/") = [47] by decide +kernel, List.append_assoc]
            exact zz
          · rcases kA 47 q with w | w <;> omega
          · intro q
            have : (tl z).drop (at0 (tl z) + L + 1) = [] := List.length_eq_zero_iff.mp (by rw [← q]; exact (len_tl ⟨((tl z).drop (at0 (tl z) + L + 1)).toArray⟩))
            exact neB this
        · rw [if_pos f9] at h
          cases h
end K02

namespace K02
open PySem PySem.Spec PyProof.Rows L2 L3

open TL PySem.NumText
/-! ### the runs of digits -/
def spEnd : Sp := fun vs H Q _ => ∃ (z : Str) (s : Nat), vs = [.str z, .int (s : Nat)] ∧ z.length ≤ 100000 ∧ s ≤ z.length ∧ Q (.int ((s + (if (tl z)[s]? = some 48 then 0 else lim ((tl z).drop s)) : Nat) : Int)) H
def spRun : Sp := fun vs H Q _ => ∃ (z : Str) (s : Nat), vs = [.str z, .int (s : Nat)] ∧ z.length ≤ 100000 ∧ s ≤ z.length ∧ Q (.int ((s + lim ((tl z).drop s) : Nat) : Int)) H
theorem szl {z : Str} (h : z.length ≤ 100000) : z.length ≤ sizeLine := Nat.le_trans h (by decide)
def msE (m : Nat) (σ : L2.St) (_ : Hp) : Nat := match σ with
  | [_, _, some (.int e)] => m - e.toNat
  | _ => 0
theorem dg_mem (c : Nat) : decide (c ∈ tl (Str.ofString "0123456789")) = dg c := by
  have e : tl (Str.ofString "0123456789") = [48, 49, 50, 51, 52, 53, 54, 55, 56, 57] := by decide +kernel
  rw [e]
  rw [Bool.eq_iff_iff, decide_eq_true_eq, dg_iff]
  simp only [List.mem_cons, List.not_mem_nil, or_false]
  omega
theorem sign_eq (c : Nat) (k : Nat) (s : Str) (hs : s = ⟨#[k]⟩) : decide (V.str ⟨#[c]⟩ = V.str s) = decide (c = k) := by
  subst hs
  rw [Bool.eq_iff_iff, decide_eq_true_eq, decide_eq_true_eq]
  constructor
  · intro h
    injection h with h
    injection h with h
    simpa using h
  · intro h
    rw [h]
/-! what is asked may grow -/
def MT (c : TT) : Prop := ∀ σ H (Q Q' : Bool → Hp → Prop), (∀ b H1, Q b H1 → Q' b H1) → c σ H Q → c σ H Q'
def ME (t : TE) : Prop := ∀ σ H (Q Q' : VK), (∀ x H1, Q x H1 → Q' x H1) → t σ H Q → t σ H Q'
def MR (r : R2) : Prop := ∀ x y H (Q Q' : VK), (∀ x H1, Q x H1 → Q' x H1) → r x y H Q → r x y H Q'
theorem mt_and {c d : TT} (hc : MT c) (hd : MT d) : MT (tAnd c d) := fun σ H Q Q' h q => hc σ H _ _ (fun b H1 k => by
  cases b with
  | true => exact hd σ H1 _ _ h k
  | false => exact h _ _ k) q
theorem mt_test {t : TE} (h : ME t) : MT (tTest t) := fun σ H Q Q' hq q => h σ H _ _ (fun x H1 ⟨k, e, z⟩ => ⟨k, e, hq _ _ z⟩) q
theorem me_op {r : R2} {a b : TE} (hr : MR r) (ha : ME a) (hb : ME b) : ME (tOp r a b) := fun σ H Q Q' hq q => ha σ H _ _ (fun x H1 z => hb σ H1 _ _ (fun y H2 w => hr x y H2 _ _ hq w) z) q
theorem me_var {i : Nat} : ME (tVar i) := fun σ H Q Q' hq ⟨x, e, q⟩ => ⟨x, e, hq _ _ q⟩
theorem me_c {v : V} : ME (tC v) := fun σ H Q Q' hq q => hq _ _ q
theorem mr_i0 {f : Int → Int → V} : MR (rI0 f) := fun x y H Q Q' hq ⟨i, j, a, b, q⟩ => ⟨i, j, a, b, hq _ _ q⟩
theorem mr_ix : MR rIxS := fun x y H Q Q' hq ⟨z, i, c, a, b, d, e, q⟩ => ⟨z, i, c, a, b, d, e, hq _ _ q⟩
theorem mr_sign : MR (fun x y H Q => ∃ (c : Nat) (z : Str), x = V.str { cps := #[c] } ∧ y = V.str z ∧ Q (V.bl (decide (c ∈ z.cps.toList))) H) := fun x y H Q Q' hq ⟨c, z, a, b, q⟩ => ⟨c, z, a, b, hq _ _ q⟩
theorem me_len {t : TE} (h : ME t) : ME (tCB (fun xs H Q => ∃ z : Str, xs = [V.str z] ∧ z.length ≤ sizeLine ∧ Q (V.int (z.length : Nat)) H) (tCons t tNil)) := fun σ H Q Q' hq q => h σ H _ _ (fun x H1 ⟨z, a, b, k⟩ => ⟨z, a, b, hq _ _ k⟩) q
theorem run_end {cs : List Nat} {s k : Nat} (hs : s ≤ cs.length) (hk : k ≤ lim (cs.drop s)) (h : cs.length ≤ s + k ∨ 2000 ≤ k ∨ ∃ c, cs[s + k]? = some c ∧ dg c = false) : k = lim (cs.drop s) := by
  have l := lim_len hs
  have l2 := lim_two (cs.drop s)
  rcases h with h | h | ⟨c, h, d⟩
  · omega
  · omega
  · rcases Nat.lt_or_ge k (lim (cs.drop s)) with q | q
    · obtain ⟨c2, a, b⟩ := lim_at q
      rw [h] at a
      cases a
      rw [d] at b
      cases b
    · omega
theorem run_on {cs : List Nat} {s k c : Nat} (hk : k ≤ lim (cs.drop s)) (h2 : k < 2000) (hc : cs[s + k]? = some c) (hd : dg c = true) : k < lim (cs.drop s) := by
  rcases Nat.lt_or_ge k (lim (cs.drop s)) with q | q
  · exact q
  · have e : k = lim (cs.drop s) := by omega
    rw [e] at h2 hc
    rw [lim_end h2 hc] at hd
    cases hd
theorem mr_ne : MR rNe := fun x y H Q Q' hq ⟨a, q⟩ => ⟨a, hq _ _ q⟩
section
variable {P : Program} {w : World} {K : PySem.W.Frag} {mg : Str → Option Value} {base : Heap}
theorem ok_digits_end (T : TX K mg) : FnOk P w K mg base (L2.CX P w) 1 T.f_digits_end T.d_digits_end ["text", "start"] (spEnd) := by
  refine T.F_digits_end.okX sc_digits_end (fun vs H Q E h => ?_) (fun cdv A outer s H vs Q E hr h => ?_)
  · obtain ⟨z, s, rfl, _⟩ := h
    rfl
  · refine ⟨_, (pss_cons (ps_set (i := 2) sc_digits_end.nd rfl (Or.inl rfl) (pv 1))
    (pss_cons (ps_while PassesOwn.leaving (PW.pt (pw_and (pt_cmpR op_lt (pv 2) (pe_callB call_len_str (by rfl) T.n_len (by decide +kernel) (pa_cons (pv 0) pa_nil)) (nomark _)) (pw_and (pt_cmpR op_lt (pv 2) (pe_op op_add (pv 1) (pe_glob (v := .int 2000) rfl T.c_MAX_DIGITS ⟨_, rfl⟩)) (nomark _)) (pw_and (pt_cmpR op_in_sign (pe_ix ix_str (pv 0) (pv 2) (fun _ _ => rfl)) (pe_glob (v := .str "0123456789") rfl T.c_DIGITS ⟨_, rfl⟩) (by rfl)) (pw_and1 (pt_cmpR op_ne (pe_ix ix_str (pv 0) (pv 1) (fun _ _ => rfl)) pe_str (nomark _))))))) (pss_one (ps_aug (i := 2) sc_digits_end.nd rfl (Or.inl rfl) pe_int ip_add)))
    (pss_one (ps_ret (pv 2))))), ?_⟩
    obtain ⟨z, s, rfl, hz, hs, k⟩ := h
    have hs' : s ≤ (tl z).length := by rw [len_tl]; exact hs
    refine ⟨_, rfl, ?_⟩
    refine while_by (fun σ H' => H' = H ∧ ∃ j : Nat, σ = [some (V.str z), some (V.int (s : Nat)), some (V.int ((s + j : Nat) : Int))] ∧ j ≤ (if (tl z)[s]? = some 48 then 0 else lim ((tl z).drop s))) (msE (s + (if (tl z)[s]? = some 48 then 0 else lim ((tl z).drop s)))) ⟨rfl, 0, rfl, Nat.zero_le _⟩ ?_ ?_
    · rintro σ H1 ⟨rfl, j, rfl, hj⟩
      have hj' : j ≤ lim ((tl z).drop s) := Nat.le_trans hj (by split <;> omega)
      have fin : j = (if (tl z)[s]? = some 48 then 0 else lim ((tl z).drop s)) → (tRet (tVar 2)) { nx := fun x H' => Q V.non H', rt := Q } [some (V.str z), some (V.int (s : Nat)), some (V.int ((s + j : Nat) : Int))] H1 := fun e => ⟨_, rfl, by rw [e]; exact k⟩
      have fin2 : j = lim ((tl z).drop s) → j = (if (tl z)[s]? = some 48 then 0 else lim ((tl z).drop s)) := fun e => by
        split
        · rename_i q
          rw [if_pos q] at hj
          omega
        · exact e
      refine ⟨_, rfl, _, rfl, z, rfl, szl hz, _, _, rfl, rfl, _, rfl, ?_⟩
      by_cases c1 : s + j < z.length
      · refine if_true_of (decide_eq_true (by omega)) ?_
        refine ⟨_, rfl, _, rfl, _, _, rfl, rfl, _, _, rfl, rfl, _, rfl, ?_⟩
        by_cases c2 : j < 2000
        · refine if_true_of (decide_eq_true (by omega)) ?_
          have i1 : s + j < (tl z).length := by rw [len_tl]; exact c1
          have i2 : s < (tl z).length := by omega
          refine ⟨_, rfl, _, rfl, z, _, (tl z)[s + j], rfl, rfl, szl hz, atI_nat (List.getElem?_eq_getElem i1), _, _, rfl, rfl, _, rfl, ?_⟩
          by_cases c3 : dg (tl z)[s + j] = true
          · refine if_true_of (by rw [← c3]; exact dg_mem _) ?_
            refine ⟨_, rfl, _, rfl, z, _, (tl z)[s], rfl, rfl, szl hz, atI_nat (List.getElem?_eq_getElem i2), rfl, _, rfl, ?_⟩
            rw [sign_eq _ 48 _ (by decide +kernel)]
            by_cases c4 : (tl z)[s] = 48
            · have g48 : (tl z)[s]? = some 48 := by rw [List.getElem?_eq_getElem i2, c4]
              refine if_false_of (by rw [decide_eq_true c4] <;> rfl) ?_
              rw [if_pos g48] at hj
              exact fin (by rw [if_pos g48]; omega)
            · have g48 : (tl z)[s]? ≠ some 48 := by
                rw [List.getElem?_eq_getElem i2]
                exact fun q => c4 (Option.some.inj q)
              refine if_true_of (by rw [decide_eq_false c4] <;> rfl) ?_
              have lt := run_on hj' c2 (List.getElem?_eq_getElem i1) c3
              refine ⟨_, rfl, _, _, rfl, rfl, ⟨rfl, j + 1, rfl, by rw [if_neg g48]; omega⟩, ?_⟩
              show _ - (((s + j : Nat) : Int) + 1).toNat < _ - ((s + j : Nat) : Int).toNat
              rw [if_neg g48]
              omega
          · refine if_false_of (by have := dg_mem (tl z)[s + j]; rw [show dg (tl z)[s + j] = false by simpa using c3] at this; exact this) ?_
            exact fin (fin2 (run_end hs' hj' (.inr (.inr ⟨_, List.getElem?_eq_getElem i1, by simpa using c3⟩))))
        · refine if_false_of (decide_eq_false (by omega)) ?_
          exact fin (fin2 (run_end hs' hj' (.inr (.inl (by omega)))))
      · refine if_false_of (decide_eq_false (by omega)) ?_
        exact fin (fin2 (run_end hs' hj' (.inl (by rw [len_tl]; omega))))
    · exact mt_and (mt_test (me_op mr_i0 me_var (me_len me_var))) (mt_and (mt_test (me_op mr_i0 me_var (me_op mr_i0 me_var me_c))) (mt_and (mt_test (me_op mr_sign (me_op mr_ix me_var me_var) me_c)) (mt_test (me_op mr_ne (me_op mr_ix me_var me_var) me_c))))
theorem ok__law_run_end (T : TX K mg) : FnOk P w K mg base (L2.CX P w) 1 T.f__law_run_end T.d__law_run_end ["_law_text_here", "_law_at"] (spRun) := by
  refine T.F__law_run_end.okX sc__law_run_end (fun vs H Q E h => ?_) (fun cdv A outer s H vs Q E hr h => ?_)
  · obtain ⟨z, s, rfl, _⟩ := h
    rfl
  · refine ⟨_, (pss_cons (ps_set (i := 2) sc__law_run_end.nd rfl (Or.inl rfl) (pv 1))
    (pss_cons (ps_while PassesOwn.leaving (PW.pt (pw_and (pt_cmpR op_lt (pv 2) (pe_callB call_len_str (by rfl) T.n_len (by decide +kernel) (pa_cons (pv 0) pa_nil)) (nomark _)) (pw_and (pt_cmpR op_lt (pe_op op_sub (pv 2) (pv 1)) pe_int (nomark _)) (pw_and1 (pt_cmpR op_in_sign (pe_ix ix_str (pv 0) (pv 2) (fun _ _ => rfl)) pe_str (by rfl)))))) (pss_one (ps_set (i := 2) sc__law_run_end.nd rfl (Or.inl rfl) (pe_op op_add (pv 2) pe_int))))
    (pss_one (ps_ret (pv 2))))), ?_⟩
    obtain ⟨z, s, rfl, hz, hs, k⟩ := h
    have hs' : s ≤ (tl z).length := by rw [len_tl]; exact hs
    refine ⟨_, rfl, ?_⟩
    refine while_by (fun σ H' => H' = H ∧ ∃ j : Nat, σ = [some (V.str z), some (V.int (s : Nat)), some (V.int ((s + j : Nat) : Int))] ∧ j ≤ lim ((tl z).drop s)) (msE (s + lim ((tl z).drop s))) ⟨rfl, 0, rfl, Nat.zero_le _⟩ ?_ ?_
    · rintro σ H1 ⟨rfl, j, rfl, hj⟩
      have fin : j = lim ((tl z).drop s) → (tRet (tVar 2)) { nx := fun x H' => Q V.non H', rt := Q } [some (V.str z), some (V.int (s : Nat)), some (V.int ((s + j : Nat) : Int))] H1 := fun e => ⟨_, rfl, by rw [e]; exact k⟩
      refine ⟨_, rfl, _, rfl, z, rfl, szl hz, _, _, rfl, rfl, _, rfl, ?_⟩
      by_cases c1 : s + j < z.length
      · refine if_true_of (decide_eq_true (by omega)) ?_
        refine ⟨_, rfl, _, rfl, _, _, rfl, rfl, _, _, rfl, rfl, _, rfl, ?_⟩
        by_cases c2 : j < 2000
        · refine if_true_of (decide_eq_true (by omega)) ?_
          have i1 : s + j < (tl z).length := by rw [len_tl]; exact c1
          refine ⟨_, rfl, _, rfl, z, _, (tl z)[s + j], rfl, rfl, szl hz, atI_nat (List.getElem?_eq_getElem i1), _, _, rfl, rfl, _, rfl, ?_⟩
          by_cases c3 : dg (tl z)[s + j] = true
          · refine if_true_of (by rw [← c3]; exact dg_mem _) ?_
            have lt := run_on hj c2 (List.getElem?_eq_getElem i1) c3
            refine ⟨_, rfl, _, _, rfl, rfl, ⟨rfl, j + 1, rfl, by omega⟩, ?_⟩
            show _ - (((s + j : Nat) : Int) + 1).toNat < _ - ((s + j : Nat) : Int).toNat
            omega
          · refine if_false_of (by have := dg_mem (tl z)[s + j]; rw [show dg (tl z)[s + j] = false by simpa using c3] at this; exact this) ?_
            exact fin (run_end hs' hj (.inr (.inr ⟨_, List.getElem?_eq_getElem i1, by simpa using c3⟩)))
        · refine if_false_of (decide_eq_false (by omega)) ?_
          exact fin (run_end hs' hj (.inr (.inl (by omega))))
      · refine if_false_of (decide_eq_false (by omega)) ?_
        exact fin (run_end hs' hj (.inl (by rw [len_tl]; omega)))
    · exact mt_and (mt_test (me_op mr_i0 me_var (me_len me_var))) (mt_and (mt_test (me_op mr_i0 (me_op mr_i0 me_var me_var) me_c)) (mt_test (me_op mr_sign (me_op mr_ix me_var me_var) me_c)))
end
end K02

namespace K02
open PySem PySem.Spec PyProof.Rows L2 L3

open TL PySem.NumText
/-! ### the readers -/
def spWrong : Sp := fun vs H Q _ => ∃ z : Str, vs = [.str z] ∧ z.length ≤ 100000 ∧ (∀ k, judge (tl z) = .spot k → Q (.int (k : Nat)) H) ∧ (∀ n d, judge (tl z) = .val n d → Q .non H)
def spFrom (C : Addr) : Sp := fun vs H Q _ => ∃ (z : Str) (n : Int) (d : Nat), vs = [.str z] ∧ z.length ≤ 100000 ∧ Fit z n d ∧ ∀ r H', Ext H H' → RatAt C H' r n (d : Int) → Q (.ref r) H'
def spReadL : Sp := fun vs H Q _ => ∃ z : Str, vs = [.str z] ∧ z.length ≤ 100000 ∧ (∀ k, judge (tl z) = .spot k → ∀ H', Ext H H' → Q (.int (k : Nat)) H') ∧ (∀ n d, judge (tl z) = .val n d → ∀ p, H p = none → Q (.ref p) (upd H p (.tup [.int n, .int (d : Int)])))
def spStr (C : Addr) : Sp := fun vs H Q _ => ∃ p n d, vs = [.ref p] ∧ RatAt C H p n d ∧ n.natAbs < 10 ^ 2000 ∧ d.natAbs < 10 ^ 2000 ∧ Q (.str (ratS n d)) H
def spTextL : Sp := fun vs H Q _ => ∃ p n d, vs = [.ref p] ∧ H p = some (.tup [.int n, .int d]) ∧ longer n = false ∧ longer d = false ∧ ∀ z : Str, z.length ≤ 130 → Q (.str z) H
theorem cut_low {z : Str} {k : Nat} : tl (cutS z none (some (k : Int))) = (tl z).take k := by
  show (((tl z).drop (HT.sIx z.length 0 none)).take (HT.sIx z.length z.length (some (k : Int)) - HT.sIx z.length 0 none)) = _
  rw [HT.sIx_nat, HT.sIx_none, List.drop_zero, Nat.sub_zero]
  rcases Nat.le_total k z.length with h | h
  · rw [Nat.min_eq_left h]
  · rw [Nat.min_eq_right h, List.take_of_length_le (by rw [len_tl]; exact Nat.le_refl _), List.take_of_length_le (by rw [len_tl]; exact h)]
theorem cut_high {z : Str} {k : Nat} (h : k ≤ z.length) : tl (cutS z (some (k : Int)) none) = (tl z).drop k := by
  show (((tl z).drop (HT.sIx z.length 0 (some (k : Int)))).take (HT.sIx z.length z.length none - HT.sIx z.length 0 (some (k : Int)))) = _
  rw [HT.sIx_nat, HT.sIx_none, Nat.min_eq_left h, List.take_of_length_le (by rw [List.length_drop, len_tl]; omega)]
theorem cut_one {z : Str} {k : Nat} (h : k ≤ z.length) : tl (cutS z (some (k : Int)) (some ((k + 1 : Nat) : Int))) = ((tl z).drop k).take 1 := by
  show (((tl z).drop (HT.sIx z.length 0 (some (k : Int)))).take (HT.sIx z.length z.length (some ((k + 1 : Nat) : Int)) - HT.sIx z.length 0 (some (k : Int)))) = _
  rw [HT.sIx_nat, HT.sIx_nat, Nat.min_eq_left h]
  rcases Nat.lt_or_ge k z.length with q | q
  · rw [Nat.min_eq_left (by omega)]
    congr 1
    omega
  · have e : (tl z).drop k = [] := List.drop_eq_nil_of_le (by rw [len_tl]; exact q)
    rw [e, List.take_nil, List.take_nil]
theorem dec_str {x y : Str} : decide (V.str x = V.str y) = decide (tl x = tl y) := by
  rw [Bool.eq_iff_iff, decide_eq_true_eq, decide_eq_true_eq]
  constructor
  · intro h
    injection h with h
    rw [h]
  · intro h
    rw [str_ext h]
theorem take_one {l : List Nat} {c k : Nat} : (l.drop k).take 1 = [c] ↔ l[k]? = some c := by
  rw [← Nat.add_zero k, ← List.getElem?_drop, Nat.add_zero]
  cases l.drop k with
  | nil => simp
  | cons d r => simp
/-! steps of a text -/
theorem seq_asg {te : TE} {g : TG} {u : TS} {D : Ends} {σ : L2.St} {H : Hp} (P : V → Hp → Prop) (h1 : ∀ Q : VK, (∀ x H1, P x H1 → Q x H1) → te σ H Q) (h2 : ∀ x H1, P x H1 → g x σ H1 fun σ' H' => u D σ' H') : tSeq (tAsg te g) u D σ H := h1 _ h2
theorem seq_any {t u : TS} {D : Ends} {σ : L2.St} {H : Hp} (P : L2.St → Hp → Prop) (h1 : ∀ D' : Ends, (∀ σ' H', P σ' H' → D'.nx σ' H') → t D' σ H) (h2 : ∀ σ' H', P σ' H' → u D σ' H') : tSeq t u D σ H := h1 _ h2
theorem seq_ifF {c : TT} {t u : TS} {D : Ends} {σ : L2.St} {H : Hp} (P : Hp → Prop) (h1 : ∀ Q : Bool → Hp → Prop, (∀ H1, P H1 → Q false H1) → c σ H Q) (h2 : ∀ H1, P H1 → u D σ H1) : tSeq (tIfS c t tNext) u D σ H := by
  refine h1 _ fun H1 p => ?_
  show if false = true then _ else _
  exact iteF (h2 H1 p)
theorem j_zero1 {cs : List Nat} (e : cs = [48]) : ∃ n d, judge cs = .val n d := by
  subst e
  exact ⟨_, _, rfl⟩
theorem j_zero2 {cs : List Nat} (h : cs[at0 cs]? = some 48) (ne : cs ≠ [48]) : judge cs = .spot 1 := by
  unfold judge judge1
  rw [h]
  dsimp only
  rcases at0_cases cs with ⟨a, _⟩ | ⟨a, _⟩
  · rw [if_pos (.inr ⟨a, rfl⟩), a]
  · rw [if_neg (fun q => q.elim (fun q => by revert q; decide) (fun q => by omega)), if_pos rfl]
    unfold judge2
    rw [if_neg (fun q => ne ?_), if_pos (.inr rfl), a]
    rw [a] at h q
    match cs, h, q with
    | [c], h, _ => simp at h; rw [h]
theorem j_start {cs : List Nat} (l0 : lim (cs.drop (at0 cs)) = 0) : judge cs = .spot (at0 cs) := by
  unfold judge judge1
  cases hc : cs[at0 cs]? with
  | none => rfl
  | some c =>
    dsimp only
    rw [if_pos (.inl (lim_zero l0 hc))]
theorem j_two {cs : List Nat} (h : cs[at0 cs]? ≠ some 48) (lp : 0 < lim (cs.drop (at0 cs))) : judge cs = (if at0 cs + lim (cs.drop (at0 cs)) = cs.length then .val (sg (at0 cs) (digitsVal (cs.drop (at0 cs)))) 1 else if cs[at0 cs + lim (cs.drop (at0 cs))]? ≠ some 47 then .spot (at0 cs + lim (cs.drop (at0 cs))) else judge3 cs (at0 cs) (at0 cs + lim (cs.drop (at0 cs)))) := by
  obtain ⟨c, hc, hd⟩ := lim_at (cs := cs) (s := at0 cs) (k := 0) lp
  rw [Nat.add_zero] at hc
  have c48 : c ≠ 48 := fun e => h (by rw [hc, e])
  unfold judge judge1
  rw [hc]
  dsimp only
  rw [if_neg (fun q => q.elim (fun q => by rw [hd] at q; cases q) (fun q => c48 q.2)), if_neg c48]
  unfold judge2
  by_cases e : at0 cs + lim (cs.drop (at0 cs)) = cs.length
  · rw [if_pos e, if_pos e]
  · rw [if_neg e, if_neg e]
    by_cases s : cs[at0 cs + lim (cs.drop (at0 cs))]? ≠ some 47
    · rw [if_pos s, if_pos (.inl s)]
    · rw [if_neg s, if_neg (fun q => q.elim s c48)]
theorem j_three_no {cs : List Nat} {a e : Nat} (h : cs[e + 1]? = some 48 ∨ lim (cs.drop (e + 1)) = 0) : judge3 cs a e = .spot (e + 1) := by
  unfold judge3
  cases hf : cs[e + 1]? with
  | none => rfl
  | some f =>
    dsimp only
    rw [if_pos (fun q => ?_)]
    rcases h with h | h
    · rw [hf] at h
      cases h
      omega
    · have := dg_not.mp (lim_zero h hf)
      omega
theorem j_three {cs : List Nat} {a e : Nat} (h : cs[e + 1]? ≠ some 48) (lp : 0 < lim (cs.drop (e + 1))) : judge3 cs a e = judge4 cs a e := by
  obtain ⟨f, hf, hd⟩ := lim_at (cs := cs) (s := e + 1) (k := 0) lp
  rw [Nat.add_zero] at hf
  have f48 : f ≠ 48 := fun e => h (by rw [hf, e])
  have hd' := dg_iff.mp hd
  unfold judge3
  rw [hf]
  dsimp only
  rw [if_neg (fun q => q ⟨by omega, by omega⟩)]
section
variable {P : Program} {w : World} {K : PySem.W.Frag} {mg : Str → Option Value} {base : Heap}
end
end K02

namespace K02
open PySem PySem.Spec PyProof.Rows L2 L3

open TL PySem.NumText
section
variable {P : Program} {w : World} {K : PySem.W.Frag} {mg : Str → Option Value} {base : Heap}
theorem ok_wrong_spot (T : TX K mg) : FnOk P w K mg base (L2.CX P w) 2 T.f_wrong_spot T.d_wrong_spot ["text"] (spWrong) := by
  refine T.F_wrong_spot.okX sc_wrong_spot (fun vs H Q E h => ?_) (fun cdv A outer s H vs Q E hr h => ?_)
  · obtain ⟨z, rfl, _⟩ := h
    rfl
  · refine ⟨_, (pss_cons (ps_set (i := 1) sc_wrong_spot.nd rfl (Or.inl rfl) (pe_ifExp (pt_cmpR op_eq (pe_slice sl_str (pv 0) po_none (po_some pe_int)) pe_str (nomark _)) pe_int pe_int))
    (pss_cons (ps_if (pt_cmpR op_eq (pe_slice sl_str (pv 0) (po_some (pv 1)) (po_some (pe_op op_add (pv 1) pe_int))) pe_str (nomark _)) (pss_one (ps_ret (pe_ifExp (pt_cmpR op_eq (pv 0) pe_str (nomark _)) pe_non pe_int))) pss_nil)
    (pss_cons (ps_set (i := 2) sc_wrong_spot.nd rfl (Or.inl rfl) (pe_call (ok_digits_end T) (hr.mono (by decide)) (by rfl) T.g_digits_end T.F_digits_end.kp T.b_digits_end .nil passL (pa_cons (pv 0) (pa_cons (pv 1) pa_nil))))
    (pss_cons (ps_if (PW.pt (pw_or (pt_cmpR op_eq (pv 2) (pv 1) (nomark _)) (pw_or1 (pt_cmpR op_ne (pe_slice sl_str (pv 0) (po_some (pv 2)) (po_some (pe_op op_add (pv 2) pe_int))) pe_str (nomark _))))) (pss_one (ps_ret (pe_ifExp (pt_chain op_lt op_eq (pv 1) (pv 2) (pe_callB call_len_str (by rfl) T.n_len (by decide +kernel) (pa_cons (pv 0) pa_nil))) pe_non (pv 2)))) pss_nil)
    (pss_cons (ps_set (i := 3) sc_wrong_spot.nd rfl (Or.inl rfl) (pe_call (ok_digits_end T) (hr.mono (by decide)) (by rfl) T.g_digits_end T.F_digits_end.kp T.b_digits_end .nil passL (pa_cons (pv 0) (pa_cons (pe_op op_add (pv 2) pe_int) pa_nil))))
    (pss_cons (ps_if (PW.pt (pw_or (pt_cmpR op_eq (pv 3) (pe_op op_add (pv 2) pe_int) (nomark _)) (pw_or1 (pt_cmpR op_lt (pv 3) (pe_callB call_len_str (by rfl) T.n_len (by decide +kernel) (pa_cons (pv 0) pa_nil)) (nomark _))))) (pss_one (ps_ret (pv 3))) pss_nil)
    (pss_cons (ps_set (i := 4) sc_wrong_spot.nd rfl (Or.inl rfl) (pe_callTy (call_int_strL T.dg) (by rfl) T.n_int (by decide +kernel) (pa_cons (pe_slice sl_str (pv 0) (po_some (pe_op op_add (pv 2) pe_int)) po_none) pa_nil)))
    (pss_one (ps_ret (pe_ifExp (PW.pt (pw_or (pt_cmpR op_eq (pv 4) pe_int (nomark _)) (pw_or1 (pt_cmpR op_gt (pe_callBfun cr_gcd (by rfl) T.g_gcd (pa_cons (pe_callTy (call_int_strL T.dg) (by rfl) T.n_int (by decide +kernel) (pa_cons (pe_slice sl_str (pv 0) po_none (po_some (pv 2))) pa_nil)) (pa_cons (pv 4) pa_nil))) pe_int (nomark _))))) (pe_op op_add (pv 2) pe_int) pe_non)))))))))), ?_⟩
    obtain ⟨z, rfl, hz, k1, k2⟩ := h
    have al : at0 (tl z) ≤ (tl z).length := at0_le
    have al' : at0 (tl z) ≤ z.length := by rw [← len_tl]; exact al
    have t45 : tl (Str.ofString "-") = [45] := by decide +kernel
    have t48 : tl (Str.ofString "0") = [48] := by decide +kernel
    have t47 : tl (Str.ofString "/") = [47] := by decide +kernel
    refine seq_asg (fun x H' => x = .int ((at0 (tl z) : Nat) : Int) ∧ H' = H) (fun Q hQ => ?_) ?_
    · refine ⟨_, rfl, _, rfl, z, rfl, szl hz, rfl, _, rfl, ?_⟩
      have e : decide (V.str (cutS z none (some ((1 : Nat) : Int))) = V.str (Str.ofString "-")) = decide ((tl z)[0]? = some 45) := by
        rw [dec_str, cut_low, t45]
        refine decide_eq_decide.mpr ?_
        have := take_one (l := tl z) (c := 45) (k := 0)
        rw [List.drop_zero] at this
        exact this
      by_cases c : (tl z)[0]? = some 45
      · refine if_true_of (e.trans (decide_eq_true c)) (hQ _ _ ⟨?_, rfl⟩)
        unfold at0
        rw [if_pos c] <;> rfl
      · refine if_false_of (e.trans (decide_eq_false c)) (hQ _ _ ⟨?_, rfl⟩)
        unfold at0
        rw [if_neg c] <;> rfl
    rintro x H1 ⟨rfl, rfl⟩
    dsimp only [gName]
    have one : ∀ k : Nat, ((k : Nat) : Int) + 1 = ((k + 1 : Nat) : Int) := fun _ => rfl
    refine ⟨_, rfl, _, rfl, _, rfl, _, rfl, _, _, rfl, rfl, _, rfl, z, rfl, szl hz, rfl, _, rfl, ?_⟩
    rw [one, dec_str, cut_one al', t48]
    by_cases c0 : (tl z)[at0 (tl z)]? = some 48
    · refine if_true_of (decide_eq_true (take_one.mpr c0)) ?_
      refine ⟨_, rfl, rfl, _, rfl, ?_⟩
      rw [dec_str, t48]
      by_cases c1 : tl z = [48]
      · obtain ⟨n, d, j⟩ := j_zero1 c1
        exact if_true_of (decide_eq_true c1) (k2 n d j)
      · exact if_false_of (decide_eq_false c1) (k1 1 (j_zero2 c0 c1))
    refine if_false_of (decide_eq_false fun q => c0 (take_one.mp q)) ?_
    refine ⟨_, rfl, _, rfl, z, at0 (tl z), rfl, hz, al', ?_⟩
    rw [if_neg c0]
    have el : at0 (tl z) + lim ((tl z).drop (at0 (tl z))) ≤ (tl z).length := lim_len al
    have el' : at0 (tl z) + lim ((tl z).drop (at0 (tl z))) ≤ z.length := by rw [← len_tl]; exact el
    dsimp only [gName]
    by_cases l0 : lim ((tl z).drop (at0 (tl z))) = 0
    · refine ⟨_, rfl, _, rfl, rfl, _, rfl, if_true_of ?_ ?_⟩
      · rw [dec_int, l0]
        simp
      refine if_true_of rfl ?_
      refine ⟨_, rfl, _, rfl, _, _, rfl, rfl, _, rfl, ?_⟩
      refine if_false_of (decide_eq_false (by rw [l0]; omega)) ?_
      refine ⟨_, rfl, if_false_of rfl ⟨_, rfl, ?_⟩⟩
      rw [l0]
      exact k1 _ (j_start l0)
    have lp : 0 < lim ((tl z).drop (at0 (tl z))) := Nat.pos_of_ne_zero l0
    have J := j_two c0 lp
    refine ⟨_, rfl, _, rfl, rfl, _, rfl, if_false_of ?_ ?_⟩
    · rw [dec_int]
      have : ¬ (((at0 (tl z) + lim ((tl z).drop (at0 (tl z))) : Nat) : Int) = ((at0 (tl z) : Nat) : Int)) := by omega
      simpa using this
    refine ⟨_, rfl, _, rfl, _, rfl, _, rfl, _, _, rfl, rfl, _, rfl, z, rfl, szl hz, rfl, _, rfl, ?_⟩
    rw [one, dec_str, cut_one el', t47]
    by_cases c2 : (tl z)[at0 (tl z) + lim ((tl z).drop (at0 (tl z)))]? = some 47
    case neg =>
      refine if_true_of (by rw [decide_eq_false fun q => c2 (take_one.mp q)] <;> rfl) ?_
      refine ⟨_, rfl, _, rfl, _, _, rfl, rfl, _, rfl, if_true_of (decide_eq_true (by omega)) ?_⟩
      refine ⟨_, rfl, z, rfl, szl hz, rfl, _, rfl, ?_⟩
      rw [dec_int]
      by_cases c3 : at0 (tl z) + lim ((tl z).drop (at0 (tl z))) = (tl z).length
      · rw [if_pos c3] at J
        refine if_true_of (beq_yes (by rw [← len_tl]; omega)) (k2 _ _ J)
      · rw [if_neg c3, if_pos c2] at J
        exact if_false_of (beq_no (by rw [← len_tl]; omega)) ⟨_, rfl, k1 _ J⟩
    refine if_false_of (by rw [decide_eq_true (take_one.mpr c2)] <;> rfl) ?_
    have elt : at0 (tl z) + lim ((tl z).drop (at0 (tl z))) < (tl z).length := (List.getElem?_eq_some_iff.mp c2).1
    rw [if_neg (by omega), if_neg (fun q => q c2)] at J
    generalize hE : at0 (tl z) + lim ((tl z).drop (at0 (tl z))) = e at J elt c2 el el'
    refine ⟨_, rfl, _, rfl, _, _, rfl, rfl, z, e + 1, rfl, hz, (by rw [← len_tl]; omega), ?_⟩
    dsimp only [gName]
    by_cases no : (tl z)[e + 1]? = some 48 ∨ lim ((tl z).drop (e + 1)) = 0
    · have r0 : (if (tl z)[e + 1]? = some 48 then 0 else lim ((tl z).drop (e + 1))) = 0 := by
        split
        · rfl
        · rename_i q
          exact no.elim (fun w => (q w).elim) id
      rw [r0]
      rw [j_three_no no] at J
      refine ⟨_, rfl, _, rfl, _, _, rfl, rfl, rfl, _, rfl, if_true_of ?_ (if_true_of rfl ⟨_, rfl, k1 _ J⟩)⟩
      rw [dec_int]
      simp
    have no1 : (tl z)[e + 1]? ≠ some 48 := fun q => no (.inl q)
    have lq : 0 < lim ((tl z).drop (e + 1)) := Nat.pos_of_ne_zero fun q => no (.inr q)
    rw [if_neg no1]
    rw [j_three no1 lq] at J
    have fl : e + 1 + lim ((tl z).drop (e + 1)) ≤ (tl z).length := lim_len (by omega)
    refine ⟨_, rfl, _, rfl, _, _, rfl, rfl, rfl, _, rfl, if_false_of ?_ ?_⟩
    · rw [dec_int]
      have : ¬ (((e + 1 + lim ((tl z).drop (e + 1)) : Nat) : Int) = ((e : Nat) : Int) + 1) := by omega
      simpa using this
    refine ⟨_, rfl, _, rfl, z, rfl, szl hz, _, _, rfl, rfl, _, rfl, ?_⟩
    unfold judge4 at J
    by_cases g : e + 1 + lim ((tl z).drop (e + 1)) < (tl z).length
    · rw [if_pos g] at J
      exact if_true_of (decide_eq_true (by rw [← len_tl]; omega)) ⟨_, rfl, k1 _ J⟩
    rw [if_neg g] at J
    refine if_false_of (decide_eq_false (by rw [← len_tl]; omega)) ?_
    have hB : lim ((tl z).drop (e + 1)) = ((tl z).drop (e + 1)).length := by rw [List.length_drop]; omega
    have neB : (tl z).drop (e + 1) ≠ [] := fun q => by rw [q] at lq; exact absurd lq (by decide)
    have iB := bot_int (p := cutS z (some ((e + 1 : Nat) : Int)) none) neB hB (cut_high (by rw [← len_tl]; omega))
    have iA := top_int (p := cutS z none (some ((e : Nat) : Int))) lp (Nat.le_refl _) (by rw [hE]; exact cut_low)
    rw [hE] at iA
    refine ⟨_, rfl, _, rfl, _, _, rfl, rfl, _, rfl, z, rfl, szl hz, _, _, rfl, iB, Nat.le_trans (cutS_length _ _ _) (szl hz), ?_⟩
    dsimp only [gName]
    refine ⟨_, rfl, rfl, _, rfl, ?_⟩
    rw [dec_int]
    unfold judge5 at J
    by_cases m1 : digitsVal ((tl z).drop (e + 1)) = 1
    · rw [if_pos (.inl m1)] at J
      refine if_true_of (beq_yes (by rw [m1] <;> rfl)) ?_
      exact if_true_of rfl ⟨_, rfl, _, _, rfl, rfl, k1 _ J⟩
    refine if_false_of (beq_no (by omega)) ?_
    refine ⟨_, rfl, _, rfl, _, rfl, z, rfl, szl hz, _, _, rfl, iA, Nat.le_trans (cutS_length _ _ _) (szl hz), _, rfl, ?_⟩
    refine ⟨_, _, rfl, _, _, rfl, rfl, _, rfl, ?_⟩
    rw [sg_abs, Int.natAbs_natCast]
    by_cases m2 : 1 < Nat.gcd (digitsVal (((tl z).take e).drop (at0 (tl z)))) (digitsVal ((tl z).drop (e + 1)))
    · rw [if_pos (.inr m2)] at J
      exact if_true_of (decide_eq_true (by omega)) ⟨_, rfl, _, _, rfl, rfl, k1 _ J⟩
    · rw [if_neg (fun q => q.elim m1 m2)] at J
      exact if_false_of (decide_eq_false (by omega)) (k2 _ _ J)
end
end K02

namespace K02
open PySem PySem.Spec PyProof.Rows L2 L3

open TL PySem.NumText
theorem dg1_mem (c : Nat) : decide (c ∈ tl (Str.ofString "123456789")) = decide (49 ≤ c ∧ c ≤ 57) := by
  have e : tl (Str.ofString "123456789") = [49, 50, 51, 52, 53, 54, 55, 56, 57] := by decide +kernel
  rw [e]
  rw [Bool.eq_iff_iff, decide_eq_true_eq, decide_eq_true_eq]
  simp only [List.mem_cons, List.not_mem_nil, or_false]
  omega
section
variable {P : Program} {w : World} {K : PySem.W.Frag} {mg : Str → Option Value} {base : Heap}
theorem ok_ratio_read (T : TX K mg) : FnOk P w K mg base (L2.CX P w) 6 T.f_ratio_read T.d_ratio_read ["text"] (spFrom T.C_Ratio) := by
  refine T.F_ratio_read.okX sc_ratio_read (fun vs H Q E h => ?_) (fun cdv A outer s H vs Q E hr h => ?_)
  · obtain ⟨z, n, d, rfl, _⟩ := h
    rfl
  · refine ⟨_, (pss_cons (ps_asg (pe_partition (pv 0) pe_str) (pg_tup (by rfl) (pgs_cons (pg_name (i := 1) sc_ratio_read.nd rfl (Or.inl rfl)) (pgs_cons (pg_name (i := 2) sc_ratio_read.nd rfl (Or.inl rfl)) (pgs_cons (pg_name (i := 3) sc_ratio_read.nd rfl (Or.inl rfl)) pgs_nil)))))
    (pss_one (ps_ret (pe_call (ok_ratio_of T) (hr.mono (by decide)) (by rfl) T.g_ratio_of T.F_ratio_of.kp T.b_ratio_of .nil passL (pa_cons (pe_callTy (call_int_strL T.dg) (by rfl) T.n_int (by decide +kernel) (pa_cons (pv 1) pa_nil)) (pa_cons (pe_ifExp (pt_truth (pv 3) (by intro _; rfl)) (pe_callTy (call_int_strL T.dg) (by rfl) T.n_int (by decide +kernel) (pa_cons (pv 3) pa_nil)) pe_int) pa_nil)))))), ?_⟩
    obtain ⟨z, n, d, rfl, hz, F, k⟩ := h
    have t47 : tl (Str.ofString "/") = 47 :: [] := by decide +kernel
    refine ⟨_, rfl, ⟨_, rfl⟩, _, _, rfl, rfl, (by decide +kernel), szl hz, fun p hp => ?_⟩
    have xp := Ext.new (o := .tup [.str (Txt.partition z (Str.ofString "/")).1, .str (Txt.partition z (Str.ofString "/")).2.1, .str (Txt.partition z (Str.ofString "/")).2.2]) hp
    have n0 : (d : Int) ≠ 0 := by have := F.pos; omega
    have bn : n.natAbs < 2 ^ 13400 := Nat.lt_of_lt_of_le F.sn (by decide +kernel)
    have bd : ((d : Nat) : Int).natAbs < 2 ^ 13400 := by rw [Int.natAbs_natCast]; exact Nat.lt_of_lt_of_le F.sd (by decide +kernel)
    have lo : lowT n (d : Int) = n ∧ lowB n (d : Int) = (d : Int) := low_eq n0 (by have := F.pos; omega) (by rw [Int.natAbs_natCast]; exact F.cop) rfl
    have mn : many n = false := decide_eq_false (Nat.not_le.mpr F.sn)
    have md : many (d : Int) = false := decide_eq_false (Nat.not_le.mpr (by rw [Int.natAbs_natCast]; exact F.sd))
    rcases F.shape with ⟨d1, no, it⟩ | ⟨d1, p1, q1, e, no, q0, ip, iq⟩
    · rw [partition_none t47 no] at xp ⊢
      refine ⟨p, _, rfl, SqT.of upd_same, rfl, _, _, rfl, _, _, rfl, _, _, rfl, rfl, ?_⟩
      refine ⟨_, rfl, _, _, rfl, it, szl hz, _, rfl, false, ⟨Nat.zero_le _, rfl⟩, iteF ?_⟩
      refine ⟨_, (d : Int), (by subst d1; rfl), n0, bn, bd, fun q => ?_, fun _ r H' x1 hr => ?_⟩
      · rw [lo.1, lo.2, mn, md] at q
        cases q
      · rw [lo.1, lo.2] at hr
        exact k r H' (xp.trans x1) hr
    · subst e
      rw [partition_app t47 no] at xp ⊢
      have lz : p1.length + 1 + q1.length ≤ 100000 := by
        have := hz
        rw [PySem.Str.length_append, PySem.Str.length_append] at this
        exact this
      have lp : p1.length ≤ 100000 := Nat.le_trans (Nat.le_trans (Nat.le_add_right _ 1) (Nat.le_add_right _ _)) lz
      have lq : q1.length ≤ 100000 := Nat.le_trans (Nat.le_add_left _ _) lz
      refine ⟨p, _, rfl, SqT.of upd_same, rfl, _, _, rfl, _, _, rfl, _, _, rfl, rfl, ?_⟩
      refine ⟨_, rfl, _, _, rfl, ip, szl lp, _, rfl, true, ⟨szl lq, ?_⟩, iteT ⟨_, rfl, _, _, rfl, iq, szl lq, ?_⟩⟩
      · symm
        simpa using q0
      refine ⟨_, _, rfl, n0, bn, bd, fun q => ?_, fun _ r H' x1 hr => ?_⟩
      · rw [lo.1, lo.2, mn, md] at q
        cases q
      · rw [lo.1, lo.2] at hr
        exact k r H' (xp.trans x1) hr
theorem ok_Ratio___str__ (T : TX K mg) : FnOk P w K mg base (L2.CX P w) 1 T.f_Ratio___str__ T.d_Ratio___str__ ["self"] (spStr T.C_Ratio) := by
  refine T.F_Ratio___str__.okX sc_Ratio___str__ (fun vs H Q E h => ?_) (fun cdv A outer s H vs Q E hr h => ?_)
  · obtain ⟨p, n, d, rfl, _⟩ := h
    rfl
  · refine ⟨_, (pss_cons (ps_if (pt_cmpR op_eq (pe_fld (pv 0) rfl) pe_int (nomark _)) (pss_one (ps_ret (pe_callTy (call_str_intD T.dg rfl) (by rfl) T.n_str (by decide +kernel) (pa_cons (pe_fld (pv 0) rfl) pa_nil)))) pss_nil)
    (pss_one (ps_ret (pe_joined (PJ.cons (pe_fmtD T.dg rfl (pe_fld (pv 0) rfl)) (PJ.cons pe_str (PJ.cons (pe_fmtD T.dg rfl (pe_fld (pv 0) rfl)) PJ.nil))))))), ?_⟩
    obtain ⟨p, n, d, rfl, ⟨dx, hp⟩, hn, hd, k⟩ := h
    have b1 : n.natAbs < 10 ^ 4300 := Nat.lt_of_lt_of_le hn (Nat.pow_le_pow_right (by decide) (by decide))
    have b2 : d.natAbs < 10 ^ 4300 := Nat.lt_of_lt_of_le hd (Nat.pow_le_pow_right (by decide) (by decide))
    refine ⟨_, rfl, p, T.C_Ratio, dx, _, _, rfl, hp, T.cl_Ratio, T.n_Ratio__bottom, rf_bottom _ _, rfl, _, rfl, ?_⟩
    rw [dec_int]
    by_cases c1 : d = 1
    · refine if_true_of (beq_iff_eq.mpr c1) ?_
      refine ⟨_, rfl, p, T.C_Ratio, dx, _, _, rfl, hp, T.cl_Ratio, T.n_Ratio__top, rf_top _ _, _, rfl, b1, ?_⟩
      rw [show ratS n d = toString n from if_pos c1] at k
      exact k
    · refine if_false_of (by simpa using c1) ?_
      rw [show ratS n d = _ from if_neg c1] at k
      have l1 : (Str.ofString (toString n)).length ≤ 2001 := by
        have := int_text_length_le10 (a := n) (k := 2000) (by decide) hn
        rw [PySem.ofString_length]
        exact this
      have l2 : (Str.ofString (toString d)).length ≤ 2001 := by
        have := int_text_length_le10 (a := d) (k := 2000) (by decide) hd
        rw [PySem.ofString_length]
        exact this
      refine ⟨_, rfl, p, T.C_Ratio, dx, _, _, rfl, hp, T.cl_Ratio, T.n_Ratio__top, rf_top _ _, _, rfl, b1, _, rfl, ?_, ?_⟩
      · rw [PySem.Str.length_append, sizeLine_eq, show Str.empty.length = 0 from rfl]
        omega
      refine ⟨_, rfl, ?_, _, rfl, p, T.C_Ratio, dx, _, _, rfl, hp, T.cl_Ratio, T.n_Ratio__bottom, rf_bottom _ _, _, rfl, b2, _, rfl, ?_, ?_⟩
      · rw [PySem.Str.length_append, PySem.Str.length_append, sizeLine_eq, show Str.empty.length = 0 from rfl, show ("/" : Str).length = 1 from rfl]
        omega
      · rw [PySem.Str.length_append, PySem.Str.length_append, PySem.Str.length_append, sizeLine_eq, show Str.empty.length = 0 from rfl, show ("/" : Str).length = 1 from rfl]
        omega
      exact k
theorem ok__law_text (T : TX K mg) : FnOk P w K mg base (L2.CX P w) 1 T.f__law_text T.d__law_text ["_law_pair"] (spTextL) := by
  refine T.F__law_text.okX sc__law_text (fun vs H Q E h => ?_) (fun cdv A outer s H vs Q E hr h => ?_)
  · obtain ⟨p, n, d, rfl, _⟩ := h
    rfl
  · refine ⟨_, (pss_one (ps_ret (pe_op op_add_str (pe_callTy call_str_int (by rfl) T.n_str (by decide +kernel) (pa_cons (pe_ix ix_tup (pv 0) pe_int (fun _ _ => rfl)) pa_nil)) (pe_ifExp (pt_cmpR op_eq (pe_ix ix_tup (pv 0) pe_int (fun _ _ => rfl)) pe_int (nomark _)) pe_str (pe_op op_add_str pe_str (pe_callTy call_str_int (by rfl) T.n_str (by decide +kernel) (pa_cons (pe_ix ix_tup (pv 0) pe_int (fun _ _ => rfl)) pa_nil))))))), ?_⟩
    obtain ⟨p, n, d, rfl, hp, hn, hd, k⟩ := h
    have g1 : n.natAbs.log2 < 1920 := Nat.lt_trans (log_of (k := 200) (by decide) (short_of hn (Nat.le_refl _))) (by decide)
    have g2 : d.natAbs.log2 < 1920 := Nat.lt_trans (log_of (k := 200) (by decide) (short_of hd (Nat.le_refl _))) (by decide)
    have l1 : (Str.ofString (toString n)).length ≤ 61 := by
      have := int_text_length_le10 (a := n) (k := 60) (by decide) (Nat.not_le.mp (of_decide_eq_false hn))
      rw [PySem.ofString_length]
      exact this
    have l2 : (Str.ofString (toString d)).length ≤ 61 := by
      have := int_text_length_le10 (a := d) (k := 60) (by decide) (Nat.not_le.mp (of_decide_eq_false hd))
      rw [PySem.ofString_length]
      exact this
    refine ⟨_, rfl, p, _, _, _, rfl, rfl, SqT.of hp, rfl, _, rfl, g1, ?_⟩
    refine ⟨_, rfl, p, _, _, _, rfl, rfl, SqT.of hp, rfl, rfl, _, rfl, ?_⟩
    rw [dec_int]
    by_cases c : d = 1
    · refine if_true_of (beq_iff_eq.mpr c) ?_
      refine ⟨_, _, rfl, rfl, ?_, k _ ?_⟩
      · show _ + 0 ≤ sizeLine
        rw [sizeLine_eq]
        omega
      · rw [PySem.Str.length_append]
        show _ + 0 ≤ _
        omega
    · refine if_false_of (by simpa using c) ?_
      refine ⟨_, rfl, p, _, _, _, rfl, rfl, SqT.of hp, rfl, _, rfl, g2, _, _, rfl, rfl, ?_, _, _, rfl, rfl, ?_, k _ ?_⟩
      · show 1 + _ ≤ sizeLine
        rw [sizeLine_eq]
        omega
      · rw [PySem.Str.length_append, sizeLine_eq]
        show _ + (1 + _) ≤ _
        omega
      · rw [PySem.Str.length_append, PySem.Str.length_append]
        show _ + (1 + _) ≤ _
        omega
theorem ok__law_read (T : TX K mg) : FnOk P w K mg base (L2.CX P w) 2 T.f__law_read T.d__law_read ["_law_text_here"] (spReadL) := by
  refine T.F__law_read.okX sc__law_read (fun vs H Q E h => ?_) (fun cdv A outer s H vs Q E hr h => ?_)
  · obtain ⟨z, rfl, _⟩ := h
    rfl
  · refine ⟨_, (pss_cons (ps_set (i := 1) sc__law_read.nd rfl (Or.inl rfl) (pe_ifExp (pt_cmpR op_eq (pe_slice sl_str (pv 0) po_none (po_some pe_int)) pe_str (nomark _)) pe_int pe_int))
    (pss_cons (ps_if (PW.pt (pw_or (pt_cmpR op_eq (pv 1) (pe_callB call_len_str (by rfl) T.n_len (by decide +kernel) (pa_cons (pv 0) pa_nil)) (nomark _)) (pw_or (pt_cmpR op_notIn_sign (pe_ix ix_str (pv 0) (pv 1) (fun _ _ => rfl)) pe_str (by rfl)) (pw_or1 (PW.pt (pw_and (pt_cmpR op_eq (pv 1) pe_int (nomark _)) (pw_and1 (pt_cmpR op_eq (pe_ix ix_str (pv 0) (pv 1) (fun _ _ => rfl)) pe_str (nomark _))))))))) (pss_one (ps_ret (pv 1))) pss_nil)
    (pss_cons (ps_set (i := 2) sc__law_read.nd rfl (Or.inl rfl) (pe_ifExp (pt_cmpR op_eq (pe_ix ix_str (pv 0) (pv 1) (fun _ _ => rfl)) pe_str (nomark _)) (pe_op op_add (pv 1) pe_int) (pe_call (ok__law_run_end T) (hr.mono (by decide)) (by rfl) T.g__law_run_end T.F__law_run_end.kp T.b__law_run_end .nil passL (pa_cons (pv 0) (pa_cons (pv 1) pa_nil)))))
    (pss_cons (ps_if (pt_cmpR op_eq (pv 2) (pe_callB call_len_str (by rfl) T.n_len (by decide +kernel) (pa_cons (pv 0) pa_nil)) (nomark _)) (pss_one (ps_ret (pe_tup (pa_cons (pe_callTy (call_int_strL T.dg) (by rfl) T.n_int (by decide +kernel) (pa_cons (pv 0) pa_nil)) (pa_cons pe_int pa_nil))))) pss_nil)
    (pss_cons (ps_if (PW.pt (pw_or (pt_cmpR op_ne (pe_ix ix_str (pv 0) (pv 2) (fun _ _ => rfl)) pe_str (nomark _)) (pw_or1 (pt_cmpR op_eq (pe_ix ix_str (pv 0) (pv 1) (fun _ _ => rfl)) pe_str (nomark _))))) (pss_one (ps_ret (pv 2))) pss_nil)
    (pss_cons (ps_set (i := 3) sc__law_read.nd rfl (Or.inl rfl) (pe_op op_add (pv 2) pe_int))
    (pss_cons (ps_if (PW.pt (pw_or (pt_cmpR op_eq (pv 3) (pe_callB call_len_str (by rfl) T.n_len (by decide +kernel) (pa_cons (pv 0) pa_nil)) (nomark _)) (pw_or1 (pt_cmpR op_notIn_sign (pe_ix ix_str (pv 0) (pv 3) (fun _ _ => rfl)) pe_str (by rfl))))) (pss_one (ps_ret (pv 3))) pss_nil)
    (pss_cons (ps_set (i := 4) sc__law_read.nd rfl (Or.inl rfl) (pe_call (ok__law_run_end T) (hr.mono (by decide)) (by rfl) T.g__law_run_end T.F__law_run_end.kp T.b__law_run_end .nil passL (pa_cons (pv 0) (pa_cons (pv 3) pa_nil))))
    (pss_cons (ps_if (pt_cmpR op_lt (pv 4) (pe_callB call_len_str (by rfl) T.n_len (by decide +kernel) (pa_cons (pv 0) pa_nil)) (nomark _)) (pss_one (ps_ret (pv 4))) pss_nil)
    (pss_cons (ps_set (i := 5) sc__law_read.nd rfl (Or.inl rfl) (pe_tup (pa_cons (pe_callTy (call_int_strL T.dg) (by rfl) T.n_int (by decide +kernel) (pa_cons (pe_slice sl_str (pv 0) po_none (po_some (pv 2))) pa_nil)) (pa_cons (pe_callTy (call_int_strL T.dg) (by rfl) T.n_int (by decide +kernel) (pa_cons (pe_slice sl_str (pv 0) (po_some (pv 3)) po_none) pa_nil)) pa_nil))))
    (pss_one (ps_ret (pe_ifExp (PW.pt (pw_or (pt_cmpR op_eq (pe_ix ix_tup (pv 5) pe_int (fun _ _ => rfl)) pe_int (nomark _)) (pw_or1 (pt_cmpR op_gt (pe_call (ok__law_divisor T) (hr.mono (by decide)) (by rfl) T.g__law_divisor T.F__law_divisor.kp T.b__law_divisor .nil passL (pa_cons (pe_callB call_abs (by rfl) T.n_abs (by decide +kernel) (pa_cons (pe_ix ix_tup (pv 5) pe_int (fun _ _ => rfl)) pa_nil)) (pa_cons (pe_ix ix_tup (pv 5) pe_int (fun _ _ => rfl)) pa_nil))) pe_int (nomark _))))) (pv 3) (pv 5)))))))))))))), ?_⟩
    obtain ⟨z, rfl, hz, k1, k2⟩ := h
    have al : at0 (tl z) ≤ (tl z).length := at0_le
    have al' : at0 (tl z) ≤ z.length := by rw [← len_tl]; exact al
    have a01 : at0 (tl z) = 1 ∨ at0 (tl z) = 0 := (at0_cases (tl z)).imp (·.1) (·.1)
    have t45 : tl (Str.ofString "-") = [45] := by decide +kernel
    have one : ∀ k : Nat, ((k : Nat) : Int) + 1 = ((k + 1 : Nat) : Int) := fun _ => rfl
    refine seq_asg (fun x H' => x = .int ((at0 (tl z) : Nat) : Int) ∧ H = H') (fun Q hQ => ?_) ?_
    · refine ⟨_, rfl, _, rfl, z, rfl, szl hz, rfl, _, rfl, ?_⟩
      have e : decide (V.str (cutS z none (some ((1 : Nat) : Int))) = V.str (Str.ofString "-")) = decide ((tl z)[0]? = some 45) := by
        rw [dec_str, cut_low, t45]
        refine decide_eq_decide.mpr ?_
        have := take_one (l := tl z) (c := 45) (k := 0)
        rw [List.drop_zero] at this
        exact this
      by_cases c : (tl z)[0]? = some 45
      · refine if_true_of (e.trans (decide_eq_true c)) (hQ _ _ ⟨?_, rfl⟩)
        unfold at0
        rw [if_pos c] <;> rfl
      · refine if_false_of (e.trans (decide_eq_false c)) (hQ _ _ ⟨?_, rfl⟩)
        unfold at0
        rw [if_neg c] <;> rfl
    rintro x _ ⟨rfl, rfl⟩
    dsimp only [gName]
    unfold judge judge1 at k1 k2
    cases hc : (tl z)[at0 (tl z)]? with
    | none =>
      rw [hc] at k1 k2
      have e : at0 (tl z) = z.length := by
        have := List.getElem?_eq_none_iff.mp hc
        rw [len_tl] at this
        omega
      refine ⟨_, rfl, _, rfl, z, rfl, szl hz, rfl, _, rfl, ?_⟩
      rw [dec_int]
      refine if_true_of (beq_yes (by omega)) ?_
      exact if_true_of rfl ⟨_, rfl, k1 _ rfl _ (Ext.rfl')⟩
    | some c =>
    rw [hc] at k1 k2
    dsimp only at k1 k2
    have lt : at0 (tl z) < (tl z).length := (List.getElem?_eq_some_iff.mp hc).1
    by_cases bad : dg c = false ∨ (at0 (tl z) = 1 ∧ c = 48)
    · rw [if_pos bad] at k1
      refine ⟨_, rfl, _, rfl, z, rfl, szl hz, rfl, _, rfl, ?_⟩
      rw [dec_int]
      refine if_false_of (beq_no (by rw [len_tl] at lt; omega)) ?_
      refine ⟨_, rfl, _, rfl, z, _, c, rfl, rfl, szl hz, atI_nat hc, _, _, rfl, rfl, _, rfl, ?_⟩
      by_cases bd : dg c = false
      · exact if_true_of (by rw [dg_mem, bd] <;> rfl) (if_true_of rfl ⟨_, rfl, k1 _ rfl _ (Ext.rfl')⟩)
      · obtain ⟨a1, c48⟩ := bad.resolve_left bd
        refine if_false_of (by rw [dg_mem, show dg c = true by simpa using bd] <;> rfl) ?_
        refine ⟨_, rfl, rfl, _, rfl, ?_⟩
        rw [dec_int]
        refine if_true_of (beq_yes (by omega)) ?_
        refine ⟨_, rfl, _, rfl, z, _, c, rfl, rfl, szl hz, atI_nat hc, rfl, _, rfl, ?_⟩
        rw [sign_eq _ 48 _ (by decide +kernel)]
        exact if_true_of (decide_eq_true c48) ⟨_, rfl, k1 _ rfl _ (Ext.rfl')⟩
    rw [if_neg bad] at k1 k2
    have dc : dg c = true := by
      cases q : dg c with
      | true => rfl
      | false => exact absurd (.inl q) bad
    refine seq_ifF (fun H' => H = H') (fun Q hQ => ?_) ?_
    · refine ⟨_, rfl, _, rfl, z, rfl, szl hz, rfl, _, rfl, ?_⟩
      rw [dec_int]
      refine if_false_of (beq_no (by rw [len_tl] at lt; omega)) ?_
      refine ⟨_, rfl, _, rfl, z, _, c, rfl, rfl, szl hz, atI_nat hc, _, _, rfl, rfl, _, rfl, ?_⟩
      refine if_false_of (by rw [dg_mem, dc] <;> rfl) ?_
      refine ⟨_, rfl, rfl, _, rfl, ?_⟩
      rw [dec_int]
      by_cases a1 : at0 (tl z) = 1
      · refine if_true_of (beq_yes (by omega)) ?_
        refine ⟨_, rfl, _, rfl, z, _, c, rfl, rfl, szl hz, atI_nat hc, rfl, _, rfl, ?_⟩
        rw [sign_eq _ 48 _ (by decide +kernel), decide_eq_false (fun q => bad (.inr ⟨a1, q⟩))]
        exact hQ _ rfl
      · exact if_false_of (beq_no (by omega)) (hQ _ rfl)
    rintro _ rfl
    obtain ⟨l, l0, hl, he, hh⟩ : ∃ l, 0 < l ∧ l ≤ lim ((tl z).drop (at0 (tl z))) ∧ (if c = 48 then at0 (tl z) + 1 else at0 (tl z) + lim ((tl z).drop (at0 (tl z)))) = at0 (tl z) + l ∧ ((tl z)[at0 (tl z)]? ≠ some 48 ∨ (at0 (tl z) = 0 ∧ l = 1)) := by
      have lp := lim_pos hc dc
      by_cases c48 : c = 48
      · refine ⟨1, by omega, lp, by rw [if_pos c48], .inr ⟨?_, rfl⟩⟩
        rcases a01 with q | q
        · exact absurd (.inr ⟨q, c48⟩) bad
        · exact q
      · refine ⟨_, lp, Nat.le_refl _, by rw [if_neg c48], .inl fun q => ?_⟩
        rw [hc] at q
        exact c48 (Option.some.inj q)
    refine seq_asg (fun x H' => x = .int ((at0 (tl z) + l : Nat) : Int) ∧ H = H') (fun Q hQ => ?_) ?_
    · refine ⟨_, rfl, _, rfl, z, _, c, rfl, rfl, szl hz, atI_nat hc, rfl, _, rfl, ?_⟩
      rw [sign_eq _ 48 _ (by decide +kernel)]
      by_cases c48 : c = 48
      · rw [if_pos c48] at he
        refine if_true_of (decide_eq_true c48) ⟨_, rfl, _, _, rfl, rfl, hQ _ _ ⟨?_, rfl⟩⟩
        rw [← he] <;> rfl
      · rw [if_neg c48] at he
        refine if_false_of (decide_eq_false c48) ⟨_, rfl, _, rfl, z, _, rfl, hz, al', hQ _ _ ⟨?_, rfl⟩⟩
        rw [← he]
    rintro x _ ⟨rfl, rfl⟩
    dsimp only [gName]
    rw [he] at k1 k2
    have ll : l ≤ (tl z).length - at0 (tl z) := by
      have := lim_len (cs := tl z) al
      omega
    unfold judge2 at k1 k2
    refine ⟨_, rfl, _, rfl, z, rfl, szl hz, rfl, _, rfl, ?_⟩
    rw [dec_int]
    by_cases ce : at0 (tl z) + l = (tl z).length
    · rw [if_pos ce] at k2
      refine if_true_of (beq_yes (by rw [← len_tl]; omega)) ?_
      have tk : (tl z).take (at0 (tl z) + l) = tl z := List.take_of_length_le (by omega)
      have ii := top_int (p := z) l0 hl tk.symm
      rw [tk] at ii
      refine ⟨_, rfl, _, _, rfl, ii, szl hz, ?_⟩
      exact ⟨by show 2 ≤ sizeLine; rw [sizeLine_eq]; decide, fun p hp => k2 _ _ rfl p hp⟩
    rw [if_neg ce] at k1 k2
    refine if_false_of (beq_no (by rw [← len_tl]; omega)) ?_
    have elt : at0 (tl z) + l < (tl z).length := by omega
    obtain ⟨f, hf⟩ : ∃ f, (tl z)[at0 (tl z) + l]? = some f := ⟨_, List.getElem?_eq_getElem elt⟩
    have fe : (tl z)[at0 (tl z) + l]? ≠ some 47 ↔ f ≠ 47 := by rw [hf]; exact not_congr ⟨fun q => Option.some.inj q, fun q => congrArg some q⟩
    by_cases bad2 : (tl z)[at0 (tl z) + l]? ≠ some 47 ∨ c = 48
    · rw [if_pos bad2] at k1
      refine ⟨_, rfl, _, rfl, z, _, f, rfl, rfl, szl hz, atI_nat hf, rfl, _, rfl, ?_⟩
      rw [sign_eq _ 47 _ (by decide +kernel)]
      by_cases f47 : f = 47
      · refine if_false_of (by rw [decide_eq_true f47] <;> rfl) ?_
        refine ⟨_, rfl, _, rfl, z, _, c, rfl, rfl, szl hz, atI_nat hc, rfl, _, rfl, ?_⟩
        rw [sign_eq _ 48 _ (by decide +kernel)]
        exact if_true_of (decide_eq_true (bad2.resolve_left fun q => fe.mp q f47)) ⟨_, rfl, k1 _ rfl _ (Ext.rfl')⟩
      · exact if_true_of (by rw [decide_eq_false f47] <;> rfl) (if_true_of rfl ⟨_, rfl, k1 _ rfl _ (Ext.rfl')⟩)
    rw [if_neg bad2] at k1 k2
    have f47 : f = 47 := Classical.byContradiction fun q => bad2 (.inl (fe.mpr q))
    dsimp only [tNext]
    refine seq_ifF (fun H' => H = H') (fun Q hQ => ?_) ?_
    · refine ⟨_, rfl, _, rfl, z, _, f, rfl, rfl, szl hz, atI_nat hf, rfl, _, rfl, ?_⟩
      rw [sign_eq _ 47 _ (by decide +kernel)]
      refine if_false_of (by rw [decide_eq_true f47] <;> rfl) ?_
      refine ⟨_, rfl, _, rfl, z, _, c, rfl, rfl, szl hz, atI_nat hc, rfl, _, rfl, ?_⟩
      rw [sign_eq _ 48 _ (by decide +kernel), decide_eq_false (fun q => bad2 (.inr q))]
      exact hQ _ rfl
    rintro _ rfl
    refine ⟨_, rfl, _, _, rfl, rfl, ?_⟩
    dsimp only [gName]
    rw [one]
    unfold judge3 at k1 k2
    have e1 : at0 (tl z) + l + 1 ≤ z.length := by rw [← len_tl]; omega
    cases hg : (tl z)[at0 (tl z) + l + 1]? with
    | none =>
      rw [hg] at k1
      have e : at0 (tl z) + l + 1 = z.length := by
        have := List.getElem?_eq_none_iff.mp hg
        rw [len_tl] at this
        omega
      refine ⟨_, rfl, _, rfl, z, rfl, szl hz, rfl, _, rfl, ?_⟩
      rw [dec_int]
      exact if_true_of (beq_yes (by omega)) (if_true_of rfl ⟨_, rfl, k1 _ rfl _ (Ext.rfl')⟩)
    | some g =>
    rw [hg] at k1 k2
    dsimp only at k1 k2
    have glt : at0 (tl z) + l + 1 < (tl z).length := (List.getElem?_eq_some_iff.mp hg).1
    by_cases bad3 : ¬ (49 ≤ g ∧ g ≤ 57)
    · rw [if_pos bad3] at k1
      refine ⟨_, rfl, _, rfl, z, rfl, szl hz, rfl, _, rfl, ?_⟩
      rw [dec_int]
      refine if_false_of (beq_no (by rw [← len_tl]; omega)) ?_
      refine ⟨_, rfl, _, rfl, z, _, g, rfl, rfl, szl hz, atI_nat hg, _, _, rfl, rfl, _, rfl, ?_⟩
      exact if_true_of (by rw [dg1_mem, decide_eq_false bad3] <;> rfl) ⟨_, rfl, k1 _ rfl _ (Ext.rfl')⟩
    rw [if_neg bad3] at k1 k2
    have g3 := Classical.not_not.mp bad3
    refine seq_ifF (fun H' => H = H') (fun Q hQ => ?_) ?_
    · refine ⟨_, rfl, _, rfl, z, rfl, szl hz, rfl, _, rfl, ?_⟩
      rw [dec_int]
      refine if_false_of (beq_no (by rw [← len_tl]; omega)) ?_
      refine ⟨_, rfl, _, rfl, z, _, g, rfl, rfl, szl hz, atI_nat hg, _, _, rfl, rfl, _, rfl, ?_⟩
      rw [dg1_mem, decide_eq_true g3]
      exact hQ _ rfl
    rintro _ rfl
    refine ⟨_, rfl, _, rfl, z, at0 (tl z) + l + 1, rfl, hz, e1, ?_⟩
    dsimp only [gName]
    unfold judge4 at k1 k2
    have lq : 0 < lim ((tl z).drop (at0 (tl z) + l + 1)) := lim_pos hg (dg_iff.mpr ⟨by omega, g3.2⟩)
    have fl : at0 (tl z) + l + 1 + lim ((tl z).drop (at0 (tl z) + l + 1)) ≤ (tl z).length := lim_len (by omega)
    refine ⟨_, rfl, _, rfl, z, rfl, szl hz, _, _, rfl, rfl, _, rfl, ?_⟩
    by_cases cl : at0 (tl z) + l + 1 + lim ((tl z).drop (at0 (tl z) + l + 1)) < (tl z).length
    · rw [if_pos cl] at k1
      exact if_true_of (decide_eq_true (by rw [← len_tl]; omega)) ⟨_, rfl, k1 _ rfl _ (Ext.rfl')⟩
    rw [if_neg cl] at k1 k2
    refine if_false_of (decide_eq_false (by rw [← len_tl]; omega)) ?_
    have hB : lim ((tl z).drop (at0 (tl z) + l + 1)) = ((tl z).drop (at0 (tl z) + l + 1)).length := by rw [List.length_drop]; omega
    have neB : (tl z).drop (at0 (tl z) + l + 1) ≠ [] := fun q => by rw [q] at lq; exact absurd lq (by decide)
    have iB := bot_int (p := cutS z (some ((at0 (tl z) + l + 1 : Nat) : Int)) none) neB hB (cut_high e1)
    have iA := top_int (p := cutS z none (some ((at0 (tl z) + l : Nat) : Int))) l0 hl cut_low
    unfold judge5 at k1 k2
    refine ⟨_, rfl, _, rfl, _, rfl, z, rfl, szl hz, _, _, rfl, iA, Nat.le_trans (cutS_length _ _ _) (szl hz), ?_⟩
    refine ⟨_, rfl, _, rfl, _, rfl, z, rfl, szl hz, _, _, rfl, iB, Nat.le_trans (cutS_length _ _ _) (szl hz), ?_⟩
    refine ⟨by show 2 ≤ sizeLine; rw [sizeLine_eq]; decide, fun p hp => ?_⟩
    dsimp only [gName]
    have xp := Ext.new (o := .tup [.int (sg (at0 (tl z)) (digitsVal (((tl z).take (at0 (tl z) + l)).drop (at0 (tl z))))), .int ((digitsVal ((tl z).drop (at0 (tl z) + l + 1)) : Nat) : Int)]) hp
    refine ⟨_, rfl, p, _, _, _, rfl, rfl, SqT.of upd_same, rfl, rfl, _, rfl, ?_⟩
    rw [dec_int]
    by_cases m1 : digitsVal ((tl z).drop (at0 (tl z) + l + 1)) = 1
    · rw [if_pos (.inl m1)] at k1
      refine if_true_of (beq_yes (by rw [m1] <;> rfl)) (if_true_of rfl ⟨_, rfl, k1 _ rfl _ xp⟩)
    refine if_false_of (beq_no (by omega)) ?_
    refine ⟨_, rfl, p, _, _, _, rfl, rfl, SqT.of upd_same, rfl, _, rfl, ?_⟩
    rw [abs_if, sg_abs]
    refine ⟨_, rfl, p, _, _, _, rfl, rfl, SqT.of upd_same, rfl, _, _, rfl, ?_⟩
    refine ⟨_, _, rfl, rfl, _, rfl, ?_⟩
    by_cases m2 : 1 < Nat.gcd (digitsVal (((tl z).take (at0 (tl z) + l)).drop (at0 (tl z)))) (digitsVal ((tl z).drop (at0 (tl z) + l + 1)))
    · rw [if_pos (.inr m2)] at k1
      exact if_true_of (decide_eq_true (by omega)) ⟨_, rfl, k1 _ rfl _ xp⟩
    · rw [if_neg (fun q => q.elim m1 m2)] at k2
      exact if_false_of (decide_eq_false (by omega)) ⟨_, rfl, k2 _ _ rfl p hp⟩
end
end K02

namespace K02
open PySem PySem.Spec PyProof.Rows L2 L3

open TL PySem.NumText
/-! ### what is told of a text -/
def NonStr (K : PySem.W.Frag) (H : Hp) (x : V) : Prop := ∃ t, TyOf K H x t ∧ PySem.W.kitOne K t (.type "str") = some false
def spOf (K : PySem.W.Frag) (C R : Addr) : Sp := fun vs H Q E => ∃ x, vs = [.ref C, x] ∧ ((∃ z, x = .str z ∧ z.length ≤ 100000 ∧ (∀ k, judge (tl z) = .spot k → ∀ d H', Ext H H' → H' d = some (.xd [("spot", .int (k : Nat))]) → E (.ref R) (some d) H') ∧ (∀ n d, judge (tl z) = .val n d → ∀ r H', Ext H H' → RatAt C H' r n (d : Int) → Q (.ref r) H')) ∨ (NonStr K H x ∧ ∀ d H', Ext H H' → H' d = some (.xd [("spot", .non)]) → E (.ref R) (some d) H'))
section
variable {P : Program} {w : World} {K : PySem.W.Frag} {mg : Str → Option Value} {base : Heap}
theorem ok_Ratio_of_text (T : TX K mg) : FnOk P w K mg base (L2.CX P w) 7 T.f_Ratio_of_text T.d_Ratio_of_text ["cls", "text"] (spOf K T.C_Ratio T.C_ParseError) := by
  refine T.F_Ratio_of_text.okX sc_Ratio_of_text (fun vs H Q E h => ?_) (fun cdv A outer s H vs Q E hr h => ?_)
  · obtain ⟨x, rfl, _⟩ := h
    rfl
  · refine ⟨_, (pss_cons (ps_if (pt_not (pt_val (pe_callB (id := "isinstance") (r := rIsi K) call_isi (by rfl) T.n_isinstance (by decide +kernel) (pa_cons (pv 1) (pa_cons (pe_bltn (v := .ty "str") (u := .type "str") rfl T.n_str (by decide +kernel) rfl) pa_nil))))) (pss_one (ps_raiseParseError rfl T.x_ParseError hr (takes_of rfl rfl rfl rfl) (pa_cons pe_non pa_nil))) pss_nil)
    (pss_cons (ps_set (i := 2) sc_Ratio_of_text.nd rfl (Or.inl rfl) (pe_call (ok_wrong_spot T) (hr.mono (by decide)) (by rfl) T.g_wrong_spot T.F_wrong_spot.kp T.b_wrong_spot .nil passL (pa_cons (pv 1) pa_nil)))
    (pss_cons (ps_if (pt_cmpR op_notN (pv 2) pe_non (nomark _)) (pss_one (ps_raiseParseError rfl T.x_ParseError hr (takes_of rfl rfl rfl rfl) (pa_cons (pv 2) pa_nil))) pss_nil)
    (pss_one (ps_ret (pe_call (ok_ratio_read T) (hr.mono (by decide)) (by rfl) T.g_ratio_read T.F_ratio_read.kp T.b_ratio_read .nil passL (pa_cons (pv 1) pa_nil))))))), ?_⟩
    obtain ⟨x, rfl, h⟩ := h
    rcases h with ⟨z, rfl, hz, kE, k⟩ | ⟨⟨t, ty, e⟩, kE⟩
    · refine ⟨_, rfl, _, _, _, _, _, rfl, .ty _, .base (.str z), kit_ty (r := true) (by decide +kernel), _, rfl, iteF ?_⟩
      dsimp only [tNext]
      cases hj : judge (tl z) with
      | spot j =>
        refine ⟨_, rfl, z, rfl, hz, fun m hm => ?_, fun n d hm => by rw [hj] at hm; cases hm⟩
        rw [hj] at hm
        cases hm
        refine ⟨_, rfl, rfl, _, rfl, iteT ⟨_, rfl, _, rfl, fun d hd => kE _ hj d _ (Ext.new hd) upd_same⟩⟩
      | val n d =>
        refine ⟨_, rfl, z, rfl, hz, fun m hm => (by rw [hj] at hm; cases hm), fun n1 d1 hm => ?_⟩
        refine ⟨_, rfl, rfl, _, rfl, iteF ?_⟩
        refine ⟨_, rfl, z, n, d, rfl, hz, val_fit hj, fun r H' x1 hr => k n d hj r H' x1 hr⟩
    · refine ⟨_, rfl, _, _, _, _, _, rfl, .ty _, .base ty, e, _, rfl, iteT ?_⟩
      exact ⟨_, rfl, fun d hd => kE d _ (Ext.new hd) upd_same⟩
end
end K02

namespace K02
open PySem PySem.Spec PyProof.Rows L2 L3

open TL PySem.NumText
def spTold (K : PySem.W.Frag) : Sp := fun vs H Q _ => ∃ x, vs = [x] ∧ ((∃ z, x = .str z ∧ z.length ≤ 100000 ∧ (∀ k, judge (tl z) = .spot k → ∀ H', Ext H H' → Q (.int (k : Nat)) H') ∧ (∀ n d, judge (tl z) = .val n d → ∀ p H', Ext H H' → H p = none → H' p = some (.tup [.int n, .int (d : Int)]) → Q (.ref p) H')) ∨ (NonStr K H x ∧ ∀ H', Ext H H' → Q .non H'))
section
variable {P : Program} {w : World} {K : PySem.W.Frag} {mg : Str → Option Value} {base : Heap}
theorem ok__law_told (T : TX K mg) : FnOk P w K mg base (L2.CX P w) 8 T.f__law_told T.d__law_told ["_law_text_here"] (spTold K) := by
  refine T.F__law_told.okX sc__law_told (fun vs H Q E h => ?_) (fun cdv A outer s H vs Q E hr h => ?_)
  · obtain ⟨x, rfl, _⟩ := h
    rfl
  · refine ⟨_, pss_one (ps_tryE (X := cxOf (L2.CX P w) P w K mg base ["_law_text_here", "_law_found", "e"] "_law_told" (defScope s__law_told) T.f__law_told cdv A outer s H E) rfl rfl sc__law_told.nd (fun W pn xe Ech tk hW => (pss_cons (ps_set (i := 1) sc__law_told.nd rfl (Or.inl rfl) (ClX.pe_cmeth (pe_glob (v := .ref T.C_Ratio) rfl T.g_Ratio rfl) T.cr_Ratio_of_text T.cm_Ratio_of_text ((ok_Ratio_of_text T).raw T.b_Ratio_of_text .nil) (hr.mono (by decide)) (passes_call (takes_len tk) hW) (pa_cons (pv 0) pa_nil)))
    (pss_one (ps_ret (pe_tup (pa_cons (pe_prop (pv 1) T.cl_Ratio T.p_Ratio_top (ok_Ratio_top T) (hr.mono (by decide)) T.b_Ratio_top .nil passL (by rfl)) (pa_cons (pe_prop (pv 1) T.cl_Ratio T.p_Ratio_bottom (ok_Ratio_bottom T) (hr.mono (by decide)) T.b_Ratio_bottom .nil passL (by rfl)) pa_nil)))))))
      (.named (i := 2) rfl rfl ⟨rfl, by decide, .inl T.x_ParseError.gC⟩ (fun a oe cls d pn hz hf => pss_one (ps_ret (pe_fldParseError T.x_ParseError hz hf (pv 2)))) .nil)), ?_⟩
    obtain ⟨x, rfl, h⟩ := h
    refine ⟨fun cls d H' => cls = .ref T.C_ParseError ∧ ∃ dd y, d = some dd ∧ H' dd = some (.xd [("spot", y)]) ∧ Q y H', fun cls d σ' H' e ln => ?_, ?_⟩
    · obtain ⟨rfl, dd, y, rfl, hd, q⟩ := e
      refine ⟨true, T.x_ParseError.te, fun _ a ha => ?_, fun z => nomatch z⟩
      have e1 : (List.set σ' 2 (some (V.ref a)))[2]? = some (some (V.ref a)) := by
        have ln' : σ'.length = 3 := ln
        rw [List.getElem?_set_self (by omega)]
      exact ⟨_, e1, rfl, rfl, dd, _, rfl, hd, q⟩
    rcases h with ⟨z, rfl, hz, k1, k2⟩ | ⟨ty, k⟩
    · refine ⟨rfl, _, rfl, _, rfl, .inl ⟨z, rfl, hz, fun k hk d H' x1 hd => ⟨rfl, d, _, rfl, hd, k1 k hk H' x1⟩, fun n d hv r H' x1 hr1 => ?_⟩⟩
      obtain ⟨dx, hr⟩ := id hr1
      exact ⟨_, rfl, r, dx, _, rfl, hr, r, _, _, rfl, hr1, _, rfl, r, dx, _, rfl, hr, r, _, _, rfl, hr1, (by show 2 ≤ sizeLine; decide), fun p hp => k2 n d hv p _ (x1.trans (Ext.new hp)) (Ext.free x1 hp) upd_same⟩
    · exact ⟨rfl, _, rfl, _, rfl, .inr ⟨ty, fun d H' x1 hd => ⟨rfl, d, _, rfl, hd, k H' x1⟩⟩⟩
end
end K02

namespace K02
open PySem PySem.Spec PyProof.Rows L2 L3

open TL PySem.NumText
theorem sln {n : Nat} (h : n ≤ 100000) : n ≤ sizeLine := Nat.le_trans h (by decide)
theorem low_few {a b : Int} (h : b ≠ 0) (ha : longer a = false) (hb : longer b = false) : longer (lowT a b) = false ∧ longer (lowB a b) = false := by
  have l := low_le a b h
  have h1 := of_decide_eq_false ha
  have h2 := of_decide_eq_false hb
  exact ⟨decide_eq_false (Nat.not_le.mpr (Nat.lt_of_le_of_lt l.1 (Nat.not_le.mp h1))), decide_eq_false (Nat.not_le.mpr (Nat.lt_of_le_of_lt l.2 (Nat.not_le.mp h2)))⟩
theorem cut_llen {z : Str} {k : Nat} : (cutS z none (some (k : Int))).length ≤ min k z.length := by
  rw [← len_tl, cut_low, List.length_take, len_tl]
  exact Nat.le_refl _
theorem cut_hlen {z : Str} {k : Nat} : (cutS z (some (k : Int)) none).length ≤ z.length - k := by
  rw [← len_tl]
  show (((tl z).drop (HT.sIx z.length 0 (some (k : Int)))).take _).length ≤ _
  rw [HT.sIx_nat, List.length_take, List.length_drop, len_tl]
  omega
def spDigL : Sp := fun vs H Q _ => ∃ (u : Addr) (k : Nat), vs = [.ref u, .int (k : Nat)] ∧ UrnAt H u ∧ k ≤ 2001 ∧ ∀ (z : Str) H', z.length ≤ 2001 → Ext1 u H H' → UrnAt H' u → Q (.str z) H'
def spLine : Sp := fun vs H Q _ => ∃ (u : Addr), vs = [.ref u] ∧ UrnAt H u ∧ ∀ (z : Str) H', z.length ≤ 5000 → Ext1 u H H' → UrnAt H' u → Q (.str z) H'
def spBent : Sp := fun vs H Q _ => ∃ (u : Addr) (y : Str), vs = [.ref u, .str y] ∧ UrnAt H u ∧ y.length ≤ 5000 ∧ ∀ (z : Str) H', z.length ≤ 6000 → Ext1 u H H' → UrnAt H' u → Q (.str z) H'
section
variable {P : Program} {w : World} {K : PySem.W.Frag} {mg : Str → Option Value} {base : Heap}
theorem ok__law_digits (T : TX K mg) : FnOk P w K mg base (L2.CX P w) 4 T.f__law_digits T.d__law_digits ["_law_urn_here", "_law_size"] (spDigL) := by
  refine T.F__law_digits.okX sc__law_digits (fun vs H Q E h => ?_) (fun cdv A outer s H vs Q E hr h => ?_)
  · obtain ⟨u, k, rfl, _⟩ := h
    rfl
  · refine ⟨_, (pss_cons (ps_set (i := 2) sc__law_digits.nd rfl (Or.inl rfl) (pe_call (ok__law_one_of T) (hr.mono (by decide)) (by rfl) T.g__law_one_of T.F__law_one_of.kp T.b__law_one_of .nil passL (pa_cons (pv 0) (pa_cons (pe_lst (pa_cons pe_str (pa_cons pe_str (pa_cons pe_str (pa_cons pe_str (pa_cons pe_str pa_nil)))))) pa_nil))))
    (pss_one (ps_ret (pe_slice sl_str (pe_op op_rep_str (pv 2) (pe_op op_add (pe_op op_fdivW (pv 1) (pe_callB call_len_str (by rfl) T.n_len (by decide +kernel) (pa_cons (pv 2) pa_nil))) pe_int)) po_none (po_some (pv 1)))))), ?_⟩
    obtain ⟨u, k, rfl, hu, hk, q⟩ := h
    refine ⟨_, rfl, (by show 5 ≤ sizeLine; decide), fun p hp => ?_⟩
    refine ⟨u, p, _, rfl, hu.ext (Ext.new hp), SqL.of upd_same, urn_ne hu hp, (by show 0 < 5; decide), (by show 5 < 1073741824; decide), fun v hv H2 e2 hu2 => ?_⟩
    have e3 : Ext1 u H H2 := (Ext.new hp).one.trans e2
    obtain ⟨s1, rfl, l0, l1⟩ : ∃ s1 : Str, v = .str s1 ∧ 1 ≤ s1.length ∧ s1.length ≤ 9 := by
      simp only [List.mem_cons, List.not_mem_nil, or_false] at hv
      rcases hv with rfl | rfl | rfl | rfl | rfl <;> exact ⟨_, rfl, by decide, by decide⟩
    dsimp only [gName]
    have hd0 : (0 : Int) ≤ (k : Int) / (s1.length : Nat) := Int.ediv_nonneg (by omega) (by omega)
    have hd1 : (k : Int) / (s1.length : Nat) ≤ (k : Int) := Int.ediv_le_self _ (by omega)
    have hn : (k : Int) / (s1.length : Nat) + 1 ≤ ((2002 : Nat) : Int) := by omega
    have sz : (Txt.mul s1 ((k : Int) / (s1.length : Nat) + 1)).length ≤ 9 * 2002 := len_mul_leN l1 hn
    refine ⟨_, rfl, _, rfl, _, rfl, s1, rfl, szl (by omega), _, _, rfl, rfl, ⟨by omega, ?_⟩, _, _, rfl, rfl, s1, _, rfl, rfl, mulOk_of 9 2002 l1 hn (by omega) (by decide) (by decide), _, rfl, _, rfl, _, rfl, szl (by omega), q _ _ ?_ e3 hu2⟩
    · rw [Int.natAbs_natCast]
      exact Nat.lt_of_le_of_lt (Nat.log2_le_self _) (by omega)
    · exact Nat.le_trans cut_llen (by omega)
theorem ok__law_line (T : TX K mg) : FnOk P w K mg base (L2.CX P w) 5 T.f__law_line T.d__law_line ["_law_urn_here"] (spLine) := by
  refine T.F__law_line.okX sc__law_line (fun vs H Q E h => ?_) (fun cdv A outer s H vs Q E hr h => ?_)
  · obtain ⟨u, rfl, _⟩ := h
    rfl
  · refine ⟨_, (pss_cons (ps_if (pt_cmpR op_gt (pe_call (ok__law_drawn T) (hr.mono (by decide)) (by rfl) T.g__law_drawn T.F__law_drawn.kp T.b__law_drawn .nil passL (pa_cons (pv 0) (pa_cons pe_int pa_nil))) pe_int (nomark _)) (pss_cons (ps_par (i := 1) (j := 2) (by rfl) sc__law_line.nd rfl rfl (by decide) rfl rfl (pa_cons (pe_call (ok__law_whole T) (hr.mono (by decide)) (by rfl) T.g__law_whole T.F__law_whole.kp T.b__law_whole .nil passL (pa_cons (pv 0) pa_nil)) (pa_cons (pe_call (ok__law_whole T) (hr.mono (by decide)) (by rfl) T.g__law_whole T.F__law_whole.kp T.b__law_whole .nil passL (pa_cons (pv 0) pa_nil)) pa_nil)) (by rfl))
    (pss_one (ps_ret (pe_call (ok__law_text T) (hr.mono (by decide)) (by rfl) T.g__law_text T.F__law_text.kp T.b__law_text .nil passL (pa_cons (pe_call (ok__law_lowest T) (hr.mono (by decide)) (by rfl) T.g__law_lowest T.F__law_lowest.kp T.b__law_lowest .nil passL (pa_cons (pv 1) (pa_cons (pe_ifExp (pt_cmpR op_ne (pv 2) pe_int (nomark _)) (pv 2) pe_int) pa_nil))) pa_nil))))) pss_nil)
    (pss_cons (ps_set (i := 3) sc__law_line.nd rfl (Or.inl rfl) (pe_op op_add_str (pe_call (ok__law_one_of T) (hr.mono (by decide)) (by rfl) T.g__law_one_of T.F__law_one_of.kp T.b__law_one_of .nil passL (pa_cons (pv 0) (pa_cons (pe_lst (pa_cons pe_str (pa_cons pe_str pa_nil))) pa_nil))) (pe_call (ok__law_digits T) (hr.mono (by decide)) (by rfl) T.g__law_digits T.F__law_digits.kp T.b__law_digits .nil passL (pa_cons (pv 0) (pa_cons (pe_call (ok__law_one_of T) (hr.mono (by decide)) (by rfl) T.g__law_one_of T.F__law_one_of.kp T.b__law_one_of .nil passL (pa_cons (pv 0) (pa_cons (pe_lst (pa_cons pe_int (pa_cons pe_int (pa_cons pe_int (pa_cons pe_int (pa_cons pe_int (pa_cons pe_int pa_nil))))))) pa_nil))) pa_nil)))))
    (pss_one (ps_ret (pe_op op_add_str (pe_op op_add_str (pv 3) (pe_call (ok__law_one_of T) (hr.mono (by decide)) (by rfl) T.g__law_one_of T.F__law_one_of.kp T.b__law_one_of .nil passL (pa_cons (pv 0) (pa_cons (pe_lst (pa_cons pe_str (pa_cons pe_str pa_nil))) pa_nil)))) (pe_call (ok__law_digits T) (hr.mono (by decide)) (by rfl) T.g__law_digits T.F__law_digits.kp T.b__law_digits .nil passL (pa_cons (pv 0) (pa_cons (pe_call (ok__law_one_of T) (hr.mono (by decide)) (by rfl) T.g__law_one_of T.F__law_one_of.kp T.b__law_one_of .nil passL (pa_cons (pv 0) (pa_cons (pe_lst (pa_cons pe_int (pa_cons pe_int (pa_cons pe_int (pa_cons pe_int (pa_cons pe_int (pa_cons pe_int pa_nil))))))) pa_nil))) pa_nil)))))))), ?_⟩
    obtain ⟨u, rfl, hu, k⟩ := h
    refine ⟨_, rfl, u, 4, rfl, hu, (by decide), (by decide), fun r H1 r0 r1 e1 hu1 => ?_⟩
    refine ⟨_, _, rfl, rfl, _, rfl, ?_⟩
    by_cases c : 0 < r
    · refine if_true_of (decide_eq_true c) ?_
      refine ⟨_, rfl, u, rfl, hu1, fun v1 H2 l1 e2 hu2 => ⟨_, rfl, u, rfl, hu2, fun v2 H3 l2 e3 hu3 => ?_⟩⟩
      refine ⟨_, _, rfl, ?_⟩
      refine ⟨_, rfl, _, rfl, rfl, _, rfl, ?_⟩
      rw [dec_int]
      have fin : ∀ b : Int, b ≠ 0 → longer b = false → spLow [.int v1, .int b] H3 (fun x H1 => spTextL [x] H1 Q E0) E0 := fun b b0 lb => by
        refine ⟨_, _, rfl, b0, Nat.lt_of_lt_of_le (short_of l1 (Nat.le_refl _)) (by decide +kernel), Nat.lt_of_lt_of_le (short_of lb (Nat.le_refl _)) (by decide +kernel), fun p hp => ?_⟩
        have lf := low_few b0 l1 lb
        exact ⟨p, _, _, rfl, upd_same, lf.1, lf.2, fun z hz => k z _ (by omega) ((e1.trans (e2.trans e3)).trans (Ext.new hp).one) (hu3.ext (Ext.new hp))⟩
      by_cases b0 : v2 = 0
      · exact if_false_of (by rw [beq_yes b0] <;> rfl) (fin 1 (by decide) (by decide +kernel))
      · exact if_true_of (by rw [beq_no b0] <;> rfl) ⟨_, rfl, fin v2 b0 l2⟩
    · refine if_false_of (decide_eq_false c) ?_
      refine ⟨_, rfl, (by show 2 ≤ sizeLine; decide), fun p hp => ?_⟩
      refine ⟨u, p, _, rfl, hu1.ext (Ext.new hp), SqL.of upd_same, urn_ne hu1 hp, (by show 0 < 2; decide), (by show 2 < 1073741824; decide), fun v hv H2 e2 hu2 => ?_⟩
      have e3 : Ext1 u H H2 := e1.trans ((Ext.new hp).one.trans e2)
      obtain ⟨s1, rfl, l1⟩ : ∃ s1 : Str, v = .str s1 ∧ s1.length ≤ 1 := by
        simp only [List.mem_cons, List.not_mem_nil, or_false] at hv
        rcases hv with rfl | rfl <;> exact ⟨_, rfl, by decide⟩
      refine ⟨_, rfl, _, rfl, (by show 6 ≤ sizeLine; decide), fun p2 hp2 => ?_⟩
      refine ⟨u, p2, _, rfl, hu2.ext (Ext.new hp2), SqL.of upd_same, urn_ne hu2 hp2, (by show 0 < 6; decide), (by show 6 < 1073741824; decide), fun v2 hv2 H3 e4 hu3 => ?_⟩
      have e5 : Ext1 u H H3 := e3.trans ((Ext.new hp2).one.trans e4)
      obtain ⟨k1, rfl, g1⟩ : ∃ k1 : Nat, v2 = .int (k1 : Nat) ∧ k1 ≤ 2001 := by
        simp only [List.mem_cons, List.not_mem_nil, or_false] at hv2
        rcases hv2 with rfl | rfl | rfl | rfl | rfl | rfl
        · exact ⟨1, rfl, by decide⟩
        · exact ⟨5, rfl, by decide⟩
        · exact ⟨60, rfl, by decide⟩
        · exact ⟨1999, rfl, by decide⟩
        · exact ⟨2000, rfl, by decide⟩
        · exact ⟨2001, rfl, by decide⟩
      refine ⟨u, k1, rfl, hu3, g1, fun z1 H4 lz1 e6 hu4 => ?_⟩
      refine ⟨_, _, rfl, rfl, sln (by omega), ?_⟩
      dsimp only [gName]
      refine ⟨_, rfl, _, rfl, (by show 2 ≤ sizeLine; decide), fun p3 hp3 => ?_⟩
      refine ⟨u, p3, _, rfl, hu4.ext (Ext.new hp3), SqL.of upd_same, urn_ne hu4 hp3, (by show 0 < 2; decide), (by show 2 < 1073741824; decide), fun v3 hv3 H5 e7 hu5 => ?_⟩
      have e8 : Ext1 u H H5 := (e5.trans e6).trans ((Ext.new hp3).one.trans e7)
      obtain ⟨s3, rfl, l3⟩ : ∃ s3 : Str, v3 = .str s3 ∧ s3.length ≤ 1 := by
        simp only [List.mem_cons, List.not_mem_nil, or_false] at hv3
        rcases hv3 with rfl | rfl <;> exact ⟨_, rfl, by decide⟩
      refine ⟨_, _, rfl, rfl, sln (by rw [PySem.Str.length_append]; omega), ?_⟩
      refine ⟨_, rfl, _, rfl, (by show 6 ≤ sizeLine; decide), fun p4 hp4 => ?_⟩
      refine ⟨u, p4, _, rfl, hu5.ext (Ext.new hp4), SqL.of upd_same, urn_ne hu5 hp4, (by show 0 < 6; decide), (by show 6 < 1073741824; decide), fun v4 hv4 H6 e9 hu6 => ?_⟩
      obtain ⟨k2, rfl, g2⟩ : ∃ k2 : Nat, v4 = .int (k2 : Nat) ∧ k2 ≤ 2001 := by
        simp only [List.mem_cons, List.not_mem_nil, or_false] at hv4
        rcases hv4 with rfl | rfl | rfl | rfl | rfl | rfl
        · exact ⟨1, rfl, by decide⟩
        · exact ⟨2, rfl, by decide⟩
        · exact ⟨61, rfl, by decide⟩
        · exact ⟨1999, rfl, by decide⟩
        · exact ⟨2000, rfl, by decide⟩
        · exact ⟨2001, rfl, by decide⟩
      refine ⟨u, k2, rfl, hu6, g2, fun z2 H7 lz2 e10 hu7 => ?_⟩
      refine ⟨_, _, rfl, rfl, sln (by rw [PySem.Str.length_append, PySem.Str.length_append]; omega), k _ _ ?_ (e8.trans (((Ext.new hp4).one.trans e9).trans e10)) hu7⟩
      rw [PySem.Str.length_append, PySem.Str.length_append, PySem.Str.length_append]
      omega
theorem ok__law_bent (T : TX K mg) : FnOk P w K mg base (L2.CX P w) 5 T.f__law_bent T.d__law_bent ["_law_urn_here", "_law_text_here"] (spBent) := by
  refine T.F__law_bent.okX sc__law_bent (fun vs H Q E h => ?_) (fun cdv A outer s H vs Q E hr h => ?_)
  · obtain ⟨u, y, rfl, _⟩ := h
    rfl
  · refine ⟨_, (pss_cons (ps_for PassesOwn.leaving rfl (pi_range1 (by rfl) T.n_range (pa_cons (pe_op op_add pe_int (pe_call (ok__law_drawn T) (hr.mono (by decide)) (by rfl) T.g__law_drawn T.F__law_drawn.kp T.b__law_drawn .nil passL (pa_cons (pv 0) (pa_cons pe_int pa_nil)))) pa_nil)) (pg_name (i := 2) sc__law_bent.nd rfl (Or.inl rfl)) (pss_cons (ps_set (i := 3) sc__law_bent.nd rfl (Or.inl rfl) (pe_call (ok__law_one_of T) (hr.mono (by decide)) (by rfl) T.g__law_one_of T.F__law_one_of.kp T.b__law_one_of .nil passL (pa_cons (pv 0) (pa_cons (pe_lst (pa_cons pe_int (pa_cons pe_int (pa_cons (pe_callB call_len_str (by rfl) T.n_len (by decide +kernel) (pa_cons (pv 1) pa_nil)) (pa_cons (pe_call (ok__law_drawn T) (hr.mono (by decide)) (by rfl) T.g__law_drawn T.F__law_drawn.kp T.b__law_drawn .nil passL (pa_cons (pv 0) (pa_cons (pe_op op_add (pe_callB call_len_str (by rfl) T.n_len (by decide +kernel) (pa_cons (pv 1) pa_nil)) pe_int) pa_nil))) pa_nil))))) pa_nil))))
    (pss_cons (ps_set (i := 4) sc__law_bent.nd rfl (Or.inl rfl) (pe_call (ok__law_one_of T) (hr.mono (by decide)) (by rfl) T.g__law_one_of T.F__law_one_of.kp T.b__law_one_of .nil passL (pa_cons (pv 0) (pa_cons (pe_lst (pa_cons pe_str (pa_cons pe_str (pa_cons pe_str (pa_cons pe_str (pa_cons pe_str (pa_cons pe_str (pa_cons pe_str (pa_cons pe_str (pa_cons pe_str (pa_cons pe_str (pa_cons pe_str (pa_cons pe_str pa_nil))))))))))))) pa_nil))))
    (pss_one (ps_set (i := 1) sc__law_bent.nd rfl (Or.inl rfl) (pe_op op_add_str (pe_op op_add_str (pe_slice sl_str (pv 1) po_none (po_some (pv 3))) (pv 4)) (pe_slice sl_str (pv 1) (po_some (pe_op op_add (pv 3) (pe_call (ok__law_drawn T) (hr.mono (by decide)) (by rfl) T.g__law_drawn T.F__law_drawn.kp T.b__law_drawn .nil passL (pa_cons (pv 0) (pa_cons pe_int pa_nil))))) po_none)))))))
    (pss_one (ps_ret (pv 1)))), ?_⟩
    obtain ⟨u, y, rfl, hu, hy, k⟩ := h
    refine ⟨_, rfl, u, 2, rfl, hu, (by decide), (by decide), fun r H1 r0 r1 e1 hu1 => ?_⟩
    refine ⟨_, _, rfl, rfl, _, rfl, (by omega), (by omega), ?_⟩
    refine for_range (fun i σ H' => ∃ (y' : Str) (x2 x3 x4 : Option V), σ = [some (V.ref u), some (V.str y'), x2, x3, x4] ∧ y'.length ≤ y.length + 2 * i ∧ Ext1 u H H' ∧ UrnAt H' u) ⟨y, _, _, _, rfl, Nat.le_refl _, e1, hu1⟩ ?_ ?_
    · rintro i σ H2 hi ⟨y', x2, x3, x4, rfl, hy', e2, hu2⟩
      have hi2 : i < 2 := by omega
      refine ⟨_, rfl, _, rfl, y', rfl, sln (by omega), ?_⟩
      refine ⟨_, rfl, _, rfl, y', rfl, sln (by omega), _, _, rfl, rfl, u, _, rfl, hu2, (by omega), (by omega), fun r2 H3 p0 p1 e3 hu3 => ?_⟩
      refine ⟨(by show 4 ≤ sizeLine; decide), fun p hp => ?_⟩
      refine ⟨u, p, _, rfl, hu3.ext (Ext.new hp), SqL.of upd_same, urn_ne hu3 hp, (by show 0 < 4; decide), (by show 4 < 1073741824; decide), fun v hv H4 e4 hu4 => ?_⟩
      have e5 : Ext1 u H H4 := (e2.trans e3).trans ((Ext.new hp).one.trans e4)
      obtain ⟨a, rfl, ha⟩ : ∃ a : Nat, v = .int (a : Nat) ∧ a ≤ 6000 := by
        simp only [List.mem_cons, List.not_mem_nil, or_false] at hv
        rcases hv with rfl | rfl | rfl | rfl
        · exact ⟨0, rfl, by decide⟩
        · exact ⟨1, rfl, by decide⟩
        · exact ⟨_, rfl, by omega⟩
        · exact ⟨r2.toNat, (by rw [Int.toNat_of_nonneg p0]), by omega⟩
      dsimp only [gName]
      refine ⟨_, rfl, (by show 12 ≤ sizeLine; decide), fun p2 hp2 => ?_⟩
      refine ⟨u, p2, _, rfl, hu4.ext (Ext.new hp2), SqL.of upd_same, urn_ne hu4 hp2, (by show 0 < 12; decide), (by show 12 < 1073741824; decide), fun v2 hv2 H5 e6 hu5 => ?_⟩
      have e7 : Ext1 u H H5 := e5.trans ((Ext.new hp2).one.trans e6)
      obtain ⟨s1, rfl, l1⟩ : ∃ s1 : Str, v2 = .str s1 ∧ s1.length ≤ 2 := by
        simp only [List.mem_cons, List.not_mem_nil, or_false] at hv2
        rcases hv2 with rfl | rfl | rfl | rfl | rfl | rfl | rfl | rfl | rfl | rfl | rfl | rfl <;> exact ⟨_, rfl, by decide⟩
      dsimp only [gName]
      have g1 := cut_llen (z := y') (k := a)
      refine ⟨_, rfl, _, rfl, _, rfl, y', rfl, sln (by omega), _, rfl, _, _, rfl, rfl, sln (by omega), ?_⟩
      refine ⟨_, rfl, _, rfl, _, rfl, u, 2, rfl, hu5, (by decide), (by decide), fun r3 H6 q0 q1 e8 hu6 => ?_⟩
      obtain ⟨d, rfl⟩ := Int.eq_ofNat_of_zero_le q0
      have g2 : (cutS y' (some ((a : Int) + (d : Int))) none).length ≤ y'.length - (a + d) := cut_hlen
      refine ⟨_, _, rfl, rfl, _, rfl, y', rfl, sln (by omega), _, _, rfl, rfl, sln ?_, _, _, _, _, rfl, ?_, e7.trans e8, hu6⟩
      · rw [PySem.Str.length_append]
        omega
      · rw [PySem.Str.length_append, PySem.Str.length_append]
        omega
    · rintro σ H2 ⟨y', x2, x3, x4, rfl, hy', e2, hu2⟩
      exact ⟨_, rfl, k y' _ (by omega) e2 hu2⟩
end
end K02

namespace K02
open PySem PySem.Spec PyProof.Rows L2 L3

open TL PySem.NumText
def Due (x : V) (H : Hp) : Out → Prop
  | .spot j => x = .int (j : Nat)
  | .val n d => ∃ p, x = .ref p ∧ H p = some (.tup [.int n, .int (d : Int)])
theorem eqv2 (n d : Int) : PyData.eqv (.tuple [.int n, .int d]) (.tuple [.int n, .int d]) = true := PySem.SeqAt.eqv_refl_plain _ rfl
theorem made_ext {H H5 : Hp} {x dx C : Addr} (nx : H x = none) (ndx : H dx = none) (e5 : Ext1 x (upd (upd H dx (.own x)) x (.ins C dx [])) H5) : Ext H H5 := fun c o h => by
  have n1 := ne_of_none h nx
  refine e5 c o n1 ?_
  rw [upd_ne n1, upd_ne (ne_of_none h ndx)]
  exact h
def spRight : Sp := fun vs H Q _ => ∃ (u : Addr), vs = [.ref u] ∧ UrnAt H u ∧ ∀ H', Ext1 u H H' → UrnAt H' u → Q (.bl true) H'
section
variable {P : Program} {w : World} {K : PySem.W.Frag} {mg : Str → Option Value} {base : Heap}
theorem ok__law_right (T : TX K mg) : FnOk P w K mg base (L2.CX P w) 9 T.f__law_right T.d__law_right ["_law_urn_here"] (spRight) := by
  refine T.F__law_right.okX sc__law_right (fun vs H Q E h => ?_) (fun cdv A outer s H vs Q E hr h => ?_)
  · obtain ⟨u, rfl, _⟩ := h
    rfl
  · refine ⟨_, (pss_cons (ps_for PassesOwn.leaving rfl (pi_range1 (by rfl) T.n_range (pa_cons pe_int pa_nil)) (pg_name (i := 1) sc__law_right.nd rfl (Or.inl rfl)) (pss_cons (ps_set (i := 2) sc__law_right.nd rfl (Or.inl rfl) (pe_call (ok__law_line T) (hr.mono (by decide)) (by rfl) T.g__law_line T.F__law_line.kp T.b__law_line .nil passL (pa_cons (pv 0) pa_nil)))
    (pss_cons (ps_set (i := 3) sc__law_right.nd rfl (Or.inl rfl) (pe_call (ok__law_read T) (hr.mono (by decide)) (by rfl) T.g__law_read T.F__law_read.kp T.b__law_read .nil passL (pa_cons (pv 2) pa_nil)))
    (pss_cons (ps_if (PW.pt (pw_or (pt_cmpR (op_neD hr.units) (pe_call (ok__law_told T) (hr.mono (by decide)) (by rfl) T.g__law_told T.F__law_told.kp T.b__law_told .nil passL (pa_cons (pv 2) pa_nil)) (pv 3) (nomark _)) (pw_or1 (PW.pt (pw_and (pt_not (pt_val (pe_callB (id := "isinstance") (r := rIsi K) call_isi (by rfl) T.n_isinstance (by decide +kernel) (pa_cons (pv 3) (pa_cons (pe_bltn (v := .ty "int") (u := .type "int") rfl T.n_int (by decide +kernel) rfl) pa_nil))))) (pw_and1 (pt_cmpR op_ne (pe_callTy (call_ownStr T.o_Ratio___str__ (ok_Ratio___str__ T) (hr.mono (by decide)) T.b_Ratio___str__ passL) (by rfl) T.n_str (by decide +kernel) (pa_cons (ClX.pe_cmeth (pe_glob (v := .ref T.C_Ratio) rfl T.g_Ratio rfl) T.cr_Ratio_of_text T.cm_Ratio_of_text ((ok_Ratio_of_text T).raw T.b_Ratio_of_text .nil) (hr.mono (by decide)) passL (pa_cons (pv 2) pa_nil)) pa_nil)) (pv 2) (nomark _)))))))) (pss_one (ps_ret pe_bl)) pss_nil)
    (pss_cons (ps_set (i := 2) sc__law_right.nd rfl (Or.inl rfl) (pe_call (ok__law_bent T) (hr.mono (by decide)) (by rfl) T.g__law_bent T.F__law_bent.kp T.b__law_bent .nil passL (pa_cons (pv 0) (pa_cons (pv 2) pa_nil))))
    (pss_one (ps_if (pt_cmpR (op_neD hr.units) (pe_call (ok__law_told T) (hr.mono (by decide)) (by rfl) T.g__law_told T.F__law_told.kp T.b__law_told .nil passL (pa_cons (pv 2) pa_nil)) (pe_call (ok__law_read T) (hr.mono (by decide)) (by rfl) T.g__law_read T.F__law_read.kp T.b__law_read .nil passL (pa_cons (pv 2) pa_nil)) (nomark _)) (pss_one (ps_ret pe_bl)) pss_nil)))))))
    (pss_one (ps_ret (pe_cmpR op_isN (pe_call (ok__law_told T) (hr.mono (by decide)) (by rfl) T.g__law_told T.F__law_told.kp T.b__law_told .nil passL (pa_cons (pe_call (ok__law_one_of T) (hr.mono (by decide)) (by rfl) T.g__law_one_of T.F__law_one_of.kp T.b__law_one_of .nil passL (pa_cons (pv 0) (pa_cons (pe_lst (pa_cons pe_non (pa_cons pe_int (pa_cons pe_bl (pa_cons (pe_tup (pa_cons pe_str pa_nil)) (pa_cons (pe_lst (pa_cons pe_str pa_nil)) (pa_cons pe_dnewK (pa_cons (pe_make T.mk_Ratio (ok_Ratio___init__ T) (hr.mono (by decide)) (by rfl) T.g_Ratio T.b_Ratio___init___2 T.v_Ratio___init___2 passL (pa_cons pe_int pa_nil)) pa_nil)))))))) pa_nil))) pa_nil)) pe_non (nomark _))))), ?_⟩
    obtain ⟨u, rfl, hu, k⟩ := h
    refine ⟨_, rfl, (by decide), (by decide), ?_⟩
    refine for_range (fun i σ H' => ∃ (x1 x2 x3 : Option V), σ = [some (V.ref u), x1, x2, x3] ∧ Ext1 u H H' ∧ UrnAt H' u) ⟨_, _, _, rfl, Ext1.rfl', hu⟩ ?_ ?_
    · rintro i σ H1 hi ⟨x1, x2, x3, rfl, e1, hu1⟩
      refine ⟨_, rfl, u, rfl, hu1, fun z H2 lz e2 hu2 => ?_⟩
      have hz : z.length ≤ 100000 := by omega
      dsimp only [gName]
      refine seq_asg (fun x H' => Ext H2 H' ∧ Due x H' (judge (tl z))) (fun Q hQ => ?_) ?_
      · refine ⟨_, rfl, z, rfl, hz, fun j hj H3 x3 => hQ _ _ ⟨x3, ?_⟩, fun n d hj p hp => hQ _ _ ⟨Ext.new hp, ?_⟩⟩
        · rw [hj]
          rfl
        · rw [hj]
          exact ⟨p, rfl, upd_same⟩
      rintro due H3 ⟨f3, hD⟩
      dsimp only [gName]
      refine seq_ifF (fun H' => Ext H3 H') (fun Q hQ => ?_) ?_
      · cases hj : judge (tl z) with
        | spot j =>
          rw [hj] at hD
          cases hD
          refine ⟨_, rfl, _, rfl, .inl ⟨z, rfl, hz, fun m hm H4 x4 => ?_, fun n d hv => by rw [hj] at hv; cases hv⟩⟩
          rw [hj] at hm
          cases hm
          refine ⟨_, rfl, _, _, .int _, .int _, rfl, rfl, _, rfl, if_false_of (by simp [PyData.eqv]) ?_⟩
          refine ⟨_, rfl, _, _, _, _, _, rfl, .ty _, .base (.int _), kit_ty (r := true) (by decide +kernel), _, rfl, ?_⟩
          exact hQ _ x4
        | val n d =>
          rw [hj] at hD
          obtain ⟨p, rfl, hp⟩ := hD
          have F := val_fit hj
          refine ⟨_, rfl, _, rfl, .inl ⟨z, rfl, hz, fun m hm => (by rw [hj] at hm; cases hm), fun n' d' hv p2 H4 x4 hp2 hp3 => ?_⟩⟩
          rw [hj] at hv
          cases hv
          have hp4 := x4 _ _ hp
          refine ⟨_, rfl, _, _, .tup (SqT.of hp3) (.cons (.int _) (.cons (.int _) .nil)), .tup (SqT.of hp4) (.cons (.int _) (.cons (.int _) .nil)), rfl, rfl, _, rfl, if_false_of (by rw [eqv2] <;> rfl) ?_⟩
          refine ⟨_, rfl, _, _, _, _, _, rfl, .ty _, .base (.tup hp4), kit_ty (r := false) (by decide +kernel), _, rfl, iteT ?_⟩
          refine ⟨rfl, _, rfl, _, rfl, .inl ⟨z, rfl, hz, fun m hm => (by rw [hj] at hm; cases hm), fun n' d' hv r H5 x5 hr => ?_⟩⟩
          rw [hj] at hv
          cases hv
          obtain ⟨dx, hr2⟩ := id hr
          refine ⟨_, rfl, r, dx, _, rfl, hr2, r, n, (d : Int), rfl, hr, F.sn, (by rw [Int.natAbs_natCast]; exact F.sd), _, rfl, ?_⟩
          refine ⟨_, rfl, rfl, _, rfl, ?_⟩
          rw [F.back]
          simp only [decide_true]
          exact hQ _ (x4.trans x5)
      intro H4 x4
      have hu4 : UrnAt H4 u := (hu2.ext f3).ext x4
      refine ⟨_, rfl, _, rfl, u, z, rfl, hu4, lz, fun z2 H5 lz2 e5 hu5 => ?_⟩
      dsimp only [gName]
      have hz2 : z2.length ≤ 100000 := by omega
      have e6 : Ext1 u H H5 := (e1.trans e2).trans ((f3.trans x4).one.trans e5)
      refine ⟨_, rfl, _, rfl, .inl ⟨z2, rfl, hz2, fun m hm H6 x6 => ?_, fun n d hv p2 H6 x6 hp2 hp3 => ?_⟩⟩
      · refine ⟨_, rfl, z2, rfl, hz2, fun m' hm' H7 x7 => ?_, fun n d hv => by rw [hm] at hv; cases hv⟩
        rw [hm] at hm'
        cases hm'
        refine ⟨_, _, .int _, .int _, rfl, rfl, _, rfl, if_false_of (by simp [PyData.eqv]) ?_⟩
        exact ⟨_, _, _, rfl, e6.trans (x6.trans x7).one, hu5.ext (x6.trans x7)⟩
      · refine ⟨_, rfl, z2, rfl, hz2, fun m' hm' => (by rw [hv] at hm'; cases hm'), fun n' d' hv' p3 hp4 => ?_⟩
        rw [hv] at hv'
        cases hv'
        have x7 := Ext.new (o := .tup [.int n, .int (d : Int)]) hp4
        refine ⟨_, _, .tup (SqT.of (x7 _ _ hp3)) (.cons (.int _) (.cons (.int _) .nil)), .tup (SqT.of upd_same) (.cons (.int _) (.cons (.int _) .nil)), rfl, rfl, _, rfl, if_false_of (by rw [eqv2] <;> rfl) ?_⟩
        exact ⟨_, _, _, rfl, e6.trans (x6.trans x7).one, hu5.ext (x6.trans x7)⟩
    · rintro σ H1 ⟨x1, x2, x3, rfl, e1, hu1⟩
      refine ⟨_, rfl, (by show 1 ≤ sizeLine; decide), fun ap hap => ?_⟩
      have f1 := Ext.new (o := .tup [.str "1"]) hap
      refine ⟨(by show 1 ≤ sizeLine; decide), fun lp hlp => fun dp hdp => ?_⟩
      have f2 := Ext.new (o := .lst [.str "1"]) hlp
      have f3 := Ext.new (o := .dK []) hdp
      intro x dx nx ndx nex
      refine ⟨x, dx, 1, 1, rfl, upd_same, (by decide +kernel), (by decide +kernel), (by decide), fun H5 e5 hx => ⟨rfl, ?_⟩⟩
      have f5 : Ext H1 H5 := ((f1.trans f2).trans f3).trans (made_ext nx ndx e5)
      have f6 := made_ext nx ndx e5
      have hap5 : H5 ap = some (.tup [.str "1"]) := f6 _ _ (f3 _ _ (f2 _ _ upd_same))
      have hlp5 : H5 lp = some (.lst [.str "1"]) := f6 _ _ (f3 _ _ upd_same)
      have hdp5 : H5 dp = some (.dK []) := f6 _ _ upd_same
      have ua : ap ≠ u := urn_ne hu1 hap
      have ul : lp ≠ u := urn_ne (hu1.ext f1) hlp
      have ud : dp ≠ u := urn_ne ((hu1.ext f1).ext f2) hdp
      have ux : x ≠ u := urn_ne (((hu1.ext f1).ext f2).ext f3) nx
      have hu5 := hu1.ext f5
      refine ⟨(by show 7 ≤ sizeLine; decide), fun l hl => ?_⟩
      have f7 := Ext.new (o := .lst [.non, .int 5, .bl true, .ref ap, .ref lp, .ref dp, .ref x]) hl
      refine ⟨u, l, _, rfl, hu5.ext f7, SqL.of upd_same, urn_ne hu5 hl, (by show 0 < 7; decide), (by show 7 < 1073741824; decide), fun v hv H6 e6 hu6 => ?_⟩
      refine ⟨v, rfl, .inr ⟨?_, fun H7 x7 => ⟨rfl, ?_⟩⟩⟩
      · simp only [List.mem_cons, List.not_mem_nil, or_false] at hv
        rcases hv with rfl | rfl | rfl | rfl | rfl | rfl | rfl
        · exact ⟨_, .non, kit_ty (r := false) (by decide +kernel)⟩
        · exact ⟨_, .int _, kit_ty (r := false) (by decide +kernel)⟩
        · exact ⟨_, .bl _, kit_ty (r := false) (by decide +kernel)⟩
        · exact ⟨_, .tup (e6 _ _ ua (f7 _ _ hap5)), kit_ty (r := false) (by decide +kernel)⟩
        · exact ⟨_, .lst (e6 _ _ ul (f7 _ _ hlp5)), kit_ty (r := false) (by decide +kernel)⟩
        · exact ⟨_, .dK (e6 _ _ ud (f7 _ _ hdp5)), kit_ty (r := false) (by decide +kernel)⟩
        · exact ⟨_, T.tc_Ratio.ty (e6 _ _ ux (f7 _ _ hx)), T.itk_Ratio_str⟩
      · simp only [decide_true]
        exact k _ (e1.trans ((f5.trans f7).one.trans (e6.trans x7.one))) (hu6.ext x7)
end
end K02

namespace K02
open PySem PySem.Spec PyProof.Rows L2 L3

open TL PySem.NumText
theorem sql_one' {K : PySem.W.Frag} {H H' : Hp} {a u : Addr} {xs : List V} (h : SqL K H a xs) (n : H u = none) (e : Ext1 u H H') : SqL K H' a xs := by
  rcases h with (h | ⟨o, h⟩) | h
  · exact .inl (.inl (e _ _ (ne_of_none h n) h))
  · exact .inl (.inr ⟨o, e _ _ (ne_of_none h n) h⟩)
  · exact .inr h
def sameB : Out → Out → Bool
  | .spot a, .spot b => a == b
  | .val n d, .val m e => n == m && d == e
  | _, _ => false
theorem same_of {x y : Out} (h : sameB x y = true) : x = y := by
  cases x <;> cases y <;> simp [sameB] at h ⊢ <;> exact h
def sameL : List Out → List Out → Bool
  | [], [] => true
  | x :: xs, y :: ys => sameB x y && sameL xs ys
  | _, _ => false
theorem sameL_of : ∀ {xs ys : List Out}, sameL xs ys = true → xs = ys
  | [], [], _ => rfl
  | x :: xs, y :: ys, h => by
    have h' := Bool.and_eq_true_iff.mp h
    rw [same_of h'.1, sameL_of h'.2]
  | [], _ :: _, h => by cases h
  | _ :: _, [], h => by cases h
def dat : Out → PyData
  | .spot k => .int (k : Nat)
  | .val n d => .tuple [.int n, .int (d : Int)]
inductive DueAll (H : Hp) : List V → List Out → Prop
  | nil : DueAll H [] []
  | cons {v : V} {vs : List V} {o : Out} {os : List Out} : Due v H o → DueAll H vs os → DueAll H (v :: vs) (o :: os)
def TExt (H H' : Hp) : Prop := ∀ p xs, H p = some (.tup xs) → H' p = some (.tup xs)
theorem Due.ext {v : V} {H H' : Hp} {o : Out} (d : Due v H o) (e : TExt H H') : Due v H' o := by
  cases o with
  | spot k => exact d
  | val n m =>
    obtain ⟨p, a, b⟩ := d
    exact ⟨p, a, e _ _ b⟩
theorem DueAll.ext {vs : List V} {H H' : Hp} {os : List Out} (d : DueAll H vs os) (e : TExt H H') : DueAll H' vs os := by
  induction d with
  | nil => exact .nil
  | cons a _ ih => exact .cons (a.ext e) ih
theorem DueAll.snoc {vs : List V} {H : Hp} {os : List Out} {v : V} {o : Out} (d : DueAll H vs os) (a : Due v H o) : DueAll H (vs ++ [v]) (os ++ [o]) := by
  induction d with
  | nil => exact .cons a .nil
  | cons b _ ih => exact .cons b ih
theorem Due.dp {K : PySem.W.Frag} {v : V} {H : Hp} {o : Out} (d : Due v H o) : Dp K H v (dat o) := by
  cases o with
  | spot k =>
    cases d
    exact .int _
  | val n m =>
    obtain ⟨p, rfl, b⟩ := d
    exact .tup (SqT.of b) (.cons (.int _) (.cons (.int _) .nil))
theorem DueAll.dp {K : PySem.W.Frag} {vs : List V} {H : Hp} {os : List Out} (d : DueAll H vs os) : DpAll K H vs (os.map dat) := by
  induction d with
  | nil => exact .nil
  | cons a _ ih => exact .cons a.dp ih
def Ts : List Str := ["", "-", "-0", "00", "05", "0/5", "5/", "5/0", "6/4", "5/1", "-12/35", "1/2/3", "+1", " 1", "1 "]
def Os : List Out := [.spot 0, .spot 1, .spot 1, .spot 1, .spot 1, .spot 1, .spot 2, .spot 2, .spot 2, .spot 2, .val (-12) 35, .spot 3, .spot 0, .spot 0, .spot 1]
theorem ts_os : Ts.map (fun z => judge (tl z)) = Os := sameL_of (by decide +kernel)
theorem ts_len : ∀ z ∈ Ts, z.length ≤ 10 := by decide +kernel
theorem long9 : judge (tl (Txt.mul ("9" : Str) 2001)) = .spot 2000 := by
  have e : tl (Txt.mul ("9" : Str) 2001) = List.replicate 2001 57 := by
    have q : ("9" : Str) = ⟨#[57]⟩ := by decide +kernel
    rw [q]
    exact mul_one_list 57 2001
  rw [e]
  exact same_of (by decide +kernel)
theorem long3 : judge (tl (("1/" : Str) ++ Txt.mul ("3" : Str) 2001)) = .spot 2002 := by
  have e : tl (("1/" : Str) ++ Txt.mul ("3" : Str) 2001) = 49 :: 47 :: List.replicate 2001 51 := by
    have q : ("3" : Str) = ⟨#[51]⟩ := by decide +kernel
    have q2 : tl ("1/" : Str) = [49, 47] := by decide +kernel
    rw [tl_append, q2, q]
    show [49, 47] ++ (Txt.mul ⟨#[51]⟩ 2001).cps.toList = _
    rw [mul_one_list 51 2001]
    rfl
  rw [e]
  exact same_of (by decide +kernel)
theorem len9 : (Txt.mul ("9" : Str) 2001).length ≤ 2001 := len_mul_leN (L := 1) (N := 2001) (by decide) (by decide)
theorem len3 : (Txt.mul ("3" : Str) 2001).length ≤ 2001 := len_mul_leN (L := 1) (N := 2001) (by decide) (by decide)
def spLaw (K : PySem.W.Frag) : Sp := fun vs H Q _ => ∃ (a : Addr) (ns : List Int), vs = [.ref a] ∧ SqL K H a (ns.map V.int) ∧ ns.length ≤ 63 ∧ ∀ H', Q (.bl true) H'
section
variable {P : Program} {w : World} {K : PySem.W.Frag} {mg : Str → Option Value} {base : Heap}
theorem ok_law (T : TX K mg) : FnOk P w K mg base (L2.CX P w) 10 T.f_law T.d_law ["_law_script"] (spLaw K) := by
  refine T.F_law.okX sc_law (fun vs H Q E h => ?_) (fun cdv A outer s H vs Q E hr h => ?_)
  · obtain ⟨a, ns, rfl, _⟩ := h
    rfl
  · refine ⟨_, (pss_cons (ps_for PassesOwn.leaving rfl (pi_range1 (by rfl) T.n_range (pa_cons (pe_callB (call_max2 rfl) (by rfl) T.n_max (by decide +kernel) (pa_cons pe_int (pa_cons (pe_callB (call_min2 rfl) (by rfl) T.n_min (by decide +kernel) (pa_cons pe_int (pa_cons (pe_callB call_len_seq (by rfl) T.n_len (by decide +kernel) (pa_cons (pv 0) pa_nil)) pa_nil))) pa_nil))) pa_nil)) (pg_name (i := 1) sc_law.nd rfl (Or.inl rfl)) (pss_one (ps_if (pt_not (pt_val (pe_call (ok__law_right T) (hr.mono (by decide)) (by rfl) T.g__law_right T.F__law_right.kp T.b__law_right .nil passL (pa_cons (pe_call (ok__law_urn T) (hr.mono (by decide)) (by rfl) T.g__law_urn T.F__law_urn.kp T.b__law_urn .nil passL (pa_cons (pv 0) (pa_cons (pv 1) pa_nil))) pa_nil)))) (pss_one (ps_ret pe_bl)) pss_nil)))
    (pss_cons (ps_set (i := 2) sc_law.nd rfl (Or.inl rfl) (pe_lst (pa_cons pe_str (pa_cons pe_str (pa_cons pe_str (pa_cons pe_str (pa_cons pe_str (pa_cons pe_str (pa_cons pe_str (pa_cons pe_str (pa_cons pe_str (pa_cons pe_str (pa_cons pe_str (pa_cons pe_str (pa_cons pe_str (pa_cons pe_str (pa_cons pe_str pa_nil)))))))))))))))))
    (pss_cons (ps_set (i := 3) sc_law.nd rfl (Or.inl rfl) (pe_lst (pa_cons pe_int (pa_cons pe_int (pa_cons pe_int (pa_cons pe_int (pa_cons pe_int (pa_cons pe_int (pa_cons pe_int (pa_cons pe_int (pa_cons pe_int (pa_cons pe_int (pa_cons (pe_tup (pa_cons (pe_un un_neg pe_int) (pa_cons pe_int pa_nil))) (pa_cons pe_int (pa_cons pe_int (pa_cons pe_int (pa_cons pe_int pa_nil)))))))))))))))))
    (pss_one (ps_ret (pe_and (pe_cmpR (op_eqD hr.units) (pe_lc (own := [("_law_text_here", 4)]) (g := gName 4) rfl sc_law.nd (pi_list (pv 2)) (blkOk_by (N := ["_law_script", "_law_turn", "_law_texts", "_law_due", "_law_text_here"]) (sc := defScope s_law) (by decide +kernel)) (fun _ _ _ _ _ => pg_name (i := 4) sc_law.nd rfl (Or.inl rfl)) (fun _ _ _ _ _ => pts_nil) (fun _ _ _ _ _ => (pe_call (ok__law_told T) (hr.mono (by decide)) (by rfl) T.g__law_told T.F__law_told.kp T.b__law_told .nil passL (pa_cons (pv 4) pa_nil)))) (pv 3) (nomark _)) (pe_one (pe_cmpR (op_eqD hr.units) (pe_lst (pa_cons (pe_call (ok__law_told T) (hr.mono (by decide)) (by rfl) T.g__law_told T.F__law_told.kp T.b__law_told .nil passL (pa_cons (pe_op op_rep_str pe_str pe_int) pa_nil)) (pa_cons (pe_call (ok__law_told T) (hr.mono (by decide)) (by rfl) T.g__law_told T.F__law_told.kp T.b__law_told .nil passL (pa_cons (pe_op op_add_str pe_str (pe_op op_rep_str pe_str pe_int)) pa_nil)) pa_nil))) (pe_lst (pa_cons pe_int (pa_cons pe_int pa_nil))) (nomark _))))))))), ?_⟩
    obtain ⟨a, ns, rfl, hs, hl, k⟩ := h
    have hl' : (((ns.map V.int).length : Nat) : Int) ≤ 63 := by rw [List.length_map]; omega
    refine seq_any (fun σ' H' => ∃ x1, σ' = [some (V.ref a), x1, none, none, none]) (fun D' hD => ?_) ?_
    · refine ⟨_, rfl, a, _, rfl, .inl hs, _, _, rfl, _, _, rfl, _, rfl, (by split <;> split <;> omega), (by split <;> split <;> omega), ?_⟩
      refine for_range (fun i σ H' => ∃ x1, σ = [some (V.ref a), x1, none, none, none] ∧ SqL K H' a (ns.map V.int)) ⟨none, rfl, hs⟩ ?_ (fun σ H' ⟨x1, e, _⟩ => hD _ _ ⟨x1, e⟩)
      rintro i σ H1 hi ⟨x1, rfl, hs1⟩
      refine ⟨_, rfl, _, rfl, a, ns, i, (by rw [Int.zero_add] <;> rfl), hs1, fun u hu x y z => ?_⟩
      refine ⟨u, rfl, ⟨x, y, z, upd_same⟩, fun H2 e2 hu2 => ⟨_, rfl, if_false_of rfl ?_⟩⟩
      exact ⟨_, rfl, sql_one' hs1 hu ((Ext.new hu).one.trans e2)⟩
    rintro σ' H1 ⟨x1, rfl⟩
    refine ⟨(by show 15 ≤ sizeLine; decide), fun l hl1 => ?_⟩
    have h2 : upd H1 l (HO.lst [.str "", .str "-", .str "-0", .str "00", .str "05", .str "0/5", .str "5/", .str "5/0", .str "6/4", .str "5/1", .str "-12/35", .str "1/2/3", .str "+1", .str " 1", .str "1 "]) l = some (.lst (Ts.map V.str)) := upd_same
    generalize upd H1 l (HO.lst [.str "", .str "-", .str "-0", .str "00", .str "05", .str "0/5", .str "5/", .str "5/0", .str "6/4", .str "5/1", .str "-12/35", .str "1/2/3", .str "+1", .str " 1", .str "1 "]) = H2 at h2 ⊢
    dsimp only [gName]
    refine ⟨_, rfl, (by show 2 ≤ sizeLine; decide), fun tp htp => ?_⟩
    refine ⟨(by show 15 ≤ sizeLine; decide), fun dl hdl => ?_⟩
    have h3 : DueAll (upd (upd H2 tp (HO.tup [.int (-12), .int 35])) dl (HO.lst [.int 0, .int 1, .int 1, .int 1, .int 1, .int 1, .int 2, .int 2, .int 2, .int 2, .ref tp, .int 3, .int 0, .int 0, .int 1])) [.int 0, .int 1, .int 1, .int 1, .int 1, .int 1, .int 2, .int 2, .int 2, .int 2, .ref tp, .int 3, .int 0, .int 0, .int 1] Os :=
      .cons rfl (.cons rfl (.cons rfl (.cons rfl (.cons rfl (.cons rfl (.cons rfl (.cons rfl (.cons rfl (.cons rfl (.cons ⟨tp, rfl, Ext.new hdl _ _ upd_same⟩ (.cons rfl (.cons rfl (.cons rfl (.cons rfl .nil))))))))))))))
    have f3 : Ext H2 (upd (upd H2 tp (HO.tup [.int (-12), .int 35])) dl (HO.lst [.int 0, .int 1, .int 1, .int 1, .int 1, .int 1, .int 2, .int 2, .int 2, .int 2, .ref tp, .int 3, .int 0, .int 0, .int 1])) := (Ext.new htp).trans (Ext.new hdl)
    have h3l := f3 _ _ h2
    have h3d : upd (upd H2 tp (HO.tup [.int (-12), .int 35])) dl (HO.lst [.int 0, .int 1, .int 1, .int 1, .int 1, .int 1, .int 2, .int 2, .int 2, .int 2, .ref tp, .int 3, .int 0, .int 0, .int 1]) dl = some (HO.lst [.int 0, .int 1, .int 1, .int 1, .int 1, .int 1, .int 2, .int 2, .int 2, .int 2, .ref tp, .int 3, .int 0, .int 0, .int 1]) := upd_same
    generalize upd (upd H2 tp (HO.tup [.int (-12), .int 35])) dl (HO.lst [.int 0, .int 1, .int 1, .int 1, .int 1, .int 1, .int 2, .int 2, .int 2, .int 2, .ref tp, .int 3, .int 0, .int 0, .int 1]) = H3 at h3 f3 h3l h3d ⊢
    dsimp only [gName]
    refine ⟨_, rfl, l, rfl, ⟨_, SqL.of h3l⟩, fun D hD => ?_⟩
    have hD3 : H3 D = none := hD
    have dne : ∀ p o, H3 p = some o → p ≠ D := fun p o h e => by rw [e, hD3] at h; cases h
    refine lc_list (xs := Ts.map V.str) (fun i H' => ∃ vs, H' D = some (.lst vs) ∧ vs.length = i ∧ DueAll H' vs (Os.take i) ∧ ∀ p o, p ≠ D → H3 p = some o → H' p = some o) ⟨[], upd_same, rfl, .nil, fun p o n h => by rw [upd_ne n]; exact h⟩ (fun i H' _ q => ?_) ?_ ?_
    · obtain ⟨vs, _, _, _, e⟩ := q
      exact SqL.of (e _ _ (dne _ _ h3l) h3l)
    · rintro i x H4 hx ⟨vs, hv, vl, hd, e⟩
      have hi : i < 15 := (List.getElem?_eq_some_iff.mp hx).1
      rw [List.getElem?_map] at hx
      obtain ⟨z, hz, rfl⟩ := Option.map_eq_some_iff.mp hx
      have lz : z.length ≤ 10 := ts_len z (List.mem_of_getElem? hz)
      have ho : Os[i]? = some (judge (tl z)) := by rw [← ts_os, List.getElem?_map, hz] <;> rfl
      have te : ∀ H5 o, Ext H4 H5 → TExt H4 (upd H5 D o) := fun H5 o x5 p xs h => by
        have n : p ≠ D := fun q => by rw [q, hv] at h; cases h
        rw [upd_ne n]
        exact x5 _ _ h
      dsimp only [gName]
      refine ⟨rfl, ?_⟩
      refine ⟨_, rfl, _, rfl, .inl ⟨z, rfl, by omega, fun j hj H5 x5 => ?_, fun n d hj p H5 x5 hp hp5 => ?_⟩⟩
      · refine ⟨vs, x5 _ _ hv, Nat.lt_of_lt_of_le (show vs.length < 15 by omega) (by decide), _, upd_same, ?_, ?_, fun p o n h => by rw [upd_ne n]; exact x5 _ _ (e p o n h)⟩
        · rw [List.length_append, vl]
          rfl
        · rw [List.take_succ, ho, hj]
          exact (hd.ext (te _ _ x5)).snoc rfl
      · refine ⟨vs, x5 _ _ hv, Nat.lt_of_lt_of_le (show vs.length < 15 by omega) (by decide), _, upd_same, ?_, ?_, fun p o n h => by rw [upd_ne n]; exact x5 _ _ (e p o n h)⟩
        · rw [List.length_append, vl]
          rfl
        · rw [List.take_succ, ho, hj]
          have n : p ≠ D := fun q => by rw [q, hv] at hp; cases hp
          exact (hd.ext (te _ _ x5)).snoc ⟨p, rfl, by rw [upd_ne n]; exact hp5⟩
    · rintro H4 ⟨vs, hv, vl, hd, e⟩
      have hd' : DueAll H4 vs Os := by
        rw [List.take_of_length_le (by rw [List.length_map]; decide)] at hd
        exact hd
      have h4 := h3.ext (H' := H4) (fun p xs h => e p _ (dne p _ h) h)
      refine ⟨_, rfl, .list (Os.map dat), .list (Os.map dat), .lst (SqL.of hv) hd'.dp, .lst (SqL.of (e _ _ (dne _ _ h3d) h3d)) h4.dp, rfl, rfl, _, rfl, if_true_of (PySem.SeqAt.eqv_refl_plain _ rfl) ?_⟩
      have m9 : MulOk ("9" : Str) 2001 := mulOk_of 1 2001 (by decide) (by decide) (by decide) (by decide) (by decide)
      have m3 : MulOk ("3" : Str) 2001 := mulOk_of 1 2001 (by decide) (by decide) (by decide) (by decide) (by decide)
      refine ⟨_, _, rfl, rfl, m9, _, rfl, .inl ⟨_, rfl, Nat.le_trans len9 (by decide), fun j hj H5 x5 => ?_, fun n d hj => by rw [long9] at hj; cases hj⟩⟩
      rw [long9] at hj
      cases hj
      have l13 : (("1/" : Str) ++ Txt.mul ("3" : Str) 2001).length ≤ 2003 := by
        rw [PySem.Str.length_append]
        have := len3
        have : ("1/" : Str).length = 2 := by decide
        omega
      refine ⟨_, _, rfl, rfl, m3, _, _, rfl, rfl, sln ?_, _, rfl, .inl ⟨_, rfl, Nat.le_trans l13 (by decide), fun j hj H6 x6 => ?_, fun n d hj => by rw [long3] at hj; cases hj⟩⟩
      · have := l13
        rw [PySem.Str.length_append] at this
        exact Nat.le_trans this (by decide)
      rw [long3] at hj
      cases hj
      refine ⟨(by show 2 ≤ sizeLine; decide), fun p hp => ⟨(by show 2 ≤ sizeLine; decide), fun q hq => ⟨.list [.int 2000, .int 2002], .list [.int 2000, .int 2002], .lst (SqL.of (Ext.new hq _ _ upd_same)) (.cons (.int _) (.cons (.int _) .nil)), .lst (SqL.of upd_same) (.cons (.int _) (.cons (.int _) .nil)), rfl, rfl, ?_⟩⟩⟩
      rw [PySem.SeqAt.eqv_refl_plain _ rfl]
      exact k _
end
end K02

namespace K02
open PySem PySem.Spec PyProof.Rows L2 L3
section
variable {P : Program} {w : World} {K : PySem.W.Frag} {mg : Str → Option Value} {base : Heap}

theorem law_at {l : PySem.W.OpenLaw} {h : Heap} {fa : Addr} (T : TX K mg) (hfa : mg "law" = some (.ref fa)) : LamX.LawAtS l w K (L2.CX l.prog w) 10 63 "_law_script" mg fa h := by
  have e : fa = T.f_law := by
    have z := T.g_law
    rw [hfa] at z
    injection z with z
    injection z
  subst e
  obtain ⟨oc, od, kV, dc, pm, an, cdv, ct, osl, eD, lk, hcd⟩ := T.F_law.ex
  refine ⟨T.d_law, [], spLaw K, (fun p hp => by cases hp), (fun p hp => by cases hp), (fun p hp => by cases hp), fun s u => ?_, fun H a ns hn _ hH hS => ?_, fun base _ _ TB => ?_⟩
  · rw [eD]
    exact BindsTo.of_eq rfl
  · exact ⟨a, ns, rfl, hS, hn, fun _ => rfl⟩
  · exact ok_law T
theorem cx_no {H : Hp} {s s' : Shared} {e : Value} (z : L2.CX P w [] H s (fun _ _ _ => False) e s') : False := by
  obtain ⟨_, _, _, _, _, _, _, _, _, _, _, _, z⟩ := z
  exact z
end
end K02

open PySem PySem.W PyProof.Rows L2 in
set_option maxHeartbeats 0 in
theorem PySem.Challenge.cw_worthstead_k02_whole_texts_of_ratios_holds : PySem.Challenge.rw_worthstead_k02_whole_texts_of_ratios.Holds := by
  w_on; o_law; k_head; (case hw => w_witness2)
  k_fill
  refine LamX.walk_ofTs (CX := fun w => L2.CX PySem.Challenge.rw_worthstead_k02_whole_texts_of_ratios.prog w) (k := 10) (n := 63) (x := "_law_script") rfl (by decide) rfl ⟨rfl, by decide, by decide⟩ (fun w h Y => PySem.W.kIn_of Y) (fun w mg fa h Y KX G hfa => ?_) (fun w H s e s' z => K02.cx_no z)
  refine' Nonempty.elim (K02.mkT  KX G ?h0 ?h1 ?h2 ?h3 ?h4 ?h5 ?h6 ?h7 ?h8 ?h9 ?h10 ?h11 ?h12 ?h13 ?h14 ?h15 ?h16 ?h17 ?h18 ?h19 ?h20 ?h21 ?h22 ?h23 ?h24 ?h25 ?h26 ?h27 ?h28 ?h29 ?h30 ?h31 ?h32 ?h33 ?h34 ?h35 ?h36 ?h37 ?h38 ?h39 ?h40 ?h41 ?h42 ?h43 ?h44 ?h45 ?h46 ?h47 ?h48 ?h49 ?h50 ?h51 ?h52 ?h53 ?h54 ?h55 ?h56 ?h57 ?h58 ?h59 ?h60 ?h61 ?h62 ?h63 ?h64 ?h65 ?h66 ?h67 ?h68 ?h69 ?h70 ?h71 ?h72 ?h73 ?h74 ?h75 ?h76 ?h77 ?h78 ?h79 ?h80 ?h81 ?h82 ?h83 ?h84 ?h85 ?h86 ?h87 ?h88 ?h89 ?h90 ?h91 ?h92 ?h93 ?h94 ?h95 ?h96 ?h97 ?h98 ?h99 ?h100 ?h101 ?h102 ?h103 ?h104 ?h105 ?h106 ?h107 ?h108 ?h109 ?h110 ?h111 ?h112 ?h113 ?h114 ?h115 ?h116 ?h117 ?h118 ?h119 ?h120 ?h121 ?h122 ?h123 ?h124 ?h125 ?h126 ?h127 ?h128 ?h129 ?h130 ?h131 ?h132 ?h133 ?h134 ?h135 ?h136 ?h137 ?h138 ?h139 ?h140 ?h141 ?h142 ?h143 ?h144 ?h145 ?h146 ?h147 ?h148 ?h149 ?h150 ?h151 ?h152 ?h153 ?h154 ?h155 ?h156 ?h157 ?h158 ?h159 ?h160 ?h161 ?h162 ?h163 ?h164 ?h165 ?h166 ?h167 ?h168 ?h169 ?h170 ?h171 ?h172 ?h173 ?h174 ?h175 ?h176 ?h177 ?h178 ?h179 ?h180 ?h181 ?h182 ?h183 ?h184 ?h185 ?h186 ?h187 ?h188 ?h189 ?h190 ?h191 ?h192 ?h193 ?h194 ?h195 ?h196 ?h197 ?h198 ?h199 ?h200 ?h201 ?h202 ?h203 ?h204 ?h205 ?h206 ?h207 ?h208 ?h209 ?h210 ?h211 ?h212 ?h213 ?h214 ?h215 ?h216 ?h217 ?h218 ?h219 ?h220 ?h221 ?h222 ?h223 ?h224 ?h225 ?h226 ?h227 ?h228 ?h229) ?hrest
  (case h0 => k_is)
  (case h1 => kx_is)
  (case h2 => kx_is)
  (case h3 => k_is)
  (case h4 => k_is)
  (case h5 => k_is)
  (case h6 => k_is)
  (case h7 => k_is)
  (case h8 => k_is)
  (case h9 => k_is)
  (case h10 => k_is)
  (case h11 => k_is)
  (case h12 => k_is)
  (case h13 => k_is)
  (case h14 => k_is)
  (case h15 => k_is)
  (case h16 => k_is)
  (case h17 => k_is)
  (case h18 => kx_is)
  (case h19 => kx_is)
  (case h20 => k_is)
  (case h21 => k_is)
  (case h22 => k_is)
  (case h23 => k_is)
  (case h24 => k_is)
  (case h25 => k_is)
  (case h26 => k_is)
  (case h27 => k_is)
  (case h28 => k_is)
  (case h29 => k_is)
  (case h30 => k_is)
  (case h31 => k_is)
  (case h32 => k_is)
  (case h33 => k_is)
  (case h34 => k_is)
  (case h35 => kx_is)
  (case h36 => kx_is)
  (case h37 => k_is)
  (case h38 => k_is)
  (case h39 => k_is)
  (case h40 => k_is)
  (case h41 => k_is)
  (case h42 => k_is)
  (case h43 => k_is)
  (case h44 => k_is)
  (case h45 => k_is)
  (case h46 => k_is)
  (case h47 => k_is)
  (case h48 => k_is)
  (case h49 => k_is)
  (case h50 => k_is)
  (case h51 => k_is)
  (case h52 => k_is)
  (case h53 => k_is)
  (case h54 => k_is)
  (case h55 => k_is)
  (case h56 => k_is)
  (case h57 => k_is)
  (case h58 => k_is)
  (case h59 => k_is)
  (case h60 => k_is)
  (case h61 => k_is)
  (case h62 => k_is)
  (case h63 => kit_is)
  (case h64 => k_is)
  (case h65 => kit_is)
  (case h66 => kit_is)
  (case h67 => k_is)
  (case h68 => kit_is)
  (case h69 => kit_is)
  (case h70 => k_is)
  (case h71 => kit_is)
  (case h72 => kit_is)
  (case h73 => k_is)
  (case h74 => kit_is)
  (case h75 => kit_is)
  (case h76 => k_is)
  (case h77 => kit_is)
  (case h78 => kit_is)
  (case h79 => k_is)
  (case h80 => kit_is)
  (case h81 => kit_is)
  (case h82 => k_is)
  (case h83 => kit_is)
  (case h84 => kit_is)
  (case h85 => k_is)
  (case h86 => k_is)
  (case h87 => k_is)
  (case h88 => k_is)
  (case h89 => k_is)
  (case h90 => k_is)
  (case h91 => k_is)
  (case h92 => k_is)
  (case h93 => k_is)
  (case h94 => k_is)
  (case h95 => k_is)
  (case h96 => k_is)
  (case h97 => k_is)
  (case h98 => k_is)
  (case h99 => k_is)
  (case h100 => k_is)
  (case h101 => k_is)
  (case h102 => k_is)
  (case h103 => k_is)
  (case h104 => k_is)
  (case h105 => k_is)
  (case h106 => k_is)
  (case h107 => k_is)
  (case h108 => k_is)
  (case h109 => k_is)
  (case h110 => k_is)
  (case h111 => k_is)
  (case h112 => k_is)
  (case h113 => k_is)
  (case h114 => k_is)
  (case h115 => k_is)
  (case h116 => k_is)
  (case h117 => k_is)
  (case h118 => k_is)
  (case h119 => k_is)
  (case h120 => k_is)
  (case h121 => k_is)
  (case h122 => k_is)
  (case h123 => k_is)
  (case h124 => k_is)
  (case h125 => k_is)
  (case h126 => k_is)
  (case h127 => k_is)
  (case h128 => k_is)
  (case h129 => k_is)
  (case h130 => k_is)
  (case h131 => k_is)
  (case h132 => k_is)
  (case h133 => k_is)
  (case h134 => k_is)
  (case h135 => k_is)
  (case h136 => k_is)
  (case h137 => k_is)
  (case h138 => k_is)
  (case h139 => k_is)
  (case h140 => k_is)
  (case h141 => k_is)
  (case h142 => k_is)
  (case h143 => k_is)
  (case h144 => k_is)
  (case h145 => k_is)
  (case h146 => k_is)
  (case h147 => k_is)
  (case h148 => k_is)
  (case h149 => k_is)
  (case h150 => k_is)
  (case h151 => k_is)
  (case h152 => k_is)
  (case h153 => k_is)
  (case h154 => k_is)
  (case h155 => k_is)
  (case h156 => k_is)
  (case h157 => k_is)
  (case h158 => k_is)
  (case h159 => k_is)
  (case h160 => k_is)
  (case h161 => k_is)
  (case h162 => k_is)
  (case h163 => k_is)
  (case h164 => k_is)
  (case h165 => k_is)
  (case h166 => k_is)
  (case h167 => k_is)
  (case h168 => k_is)
  (case h169 => k_is)
  (case h170 => k_is)
  (case h171 => k_is)
  (case h172 => k_is)
  (case h173 => k_is)
  (case h174 => k_is)
  (case h175 => k_is)
  (case h176 => k_is)
  (case h177 => k_is)
  (case h178 => k_is)
  (case h179 => k_is)
  (case h180 => k_is)
  (case h181 => k_is)
  (case h182 => k_is)
  (case h183 => k_is)
  (case h184 => k_is)
  (case h185 => k_is)
  (case h186 => k_is)
  (case h187 => k_is)
  (case h188 => k_is)
  (case h189 => k_is)
  (case h190 => k_is)
  (case h191 => k_is)
  (case h192 => k_is)
  (case h193 => k_is)
  (case h194 => k_is)
  (case h195 => k_is)
  (case h196 => k_is)
  (case h197 => k_is)
  (case h198 => k_is)
  (case h199 => k_is)
  (case h200 => k_is)
  (case h201 => k_is)
  (case h202 => k_is)
  (case h203 => k_is)
  (case h204 => k_is)
  (case h205 => k_is)
  (case h206 => k_is)
  (case h207 => k_is)
  (case h208 => k_is)
  (case h209 => k_is)
  (case h210 => k_is)
  (case h211 => k_is)
  (case h212 => k_is)
  (case h213 => k_is)
  (case h214 => k_is)
  (case h215 => k_is)
  (case h216 => k_is)
  (case h217 => k_is)
  (case h218 => k_is)
  (case h219 => k_is)
  (case h220 => k_is)
  (case h221 => k_is)
  (case h222 => k_is)
  (case h223 => k_is)
  (case h224 => k_is)
  (case h225 => k_is)
  (case h226 => k_is)
  (case h227 => k_is)
  (case h228 => k_is)
  (case h229 => k_is)
  (case hrest => intro T; exact K02.law_at T hfa)
