import PyProof.Rows.All
import Wide.All
import OpenK.AllK
import Wide.FinOn
import HandS.ForMost
import HandS.ForExc
import HandS.Property
import HandS.IsInst
import KE.KExcInit
import HandS.TryMany
import HandS.Wide
import HandS.WideBits
import HandS.Gcd
import HandS.FStr
import HandS.Defaults
import PyProof.StrBlock2
import PyProof.Rows.StrOr
import HandS.Lambda
import HandS.OwnEq
import PyProof.NeKinds
import KE.KIntText
import PyProof.Rows.Digits
import KE.KMathG
import HandS.EndTab
import HandS.ExcBuiltin
import HandS.Style
import HandS.Comp
import HandS.AnyAll
import HandS.Zip
import HandS.Iter
import HandS.Walk
import HandS.Remove
import HandS.TupAny
import KE.KExcLine
import PySem.Challenge.RW_worthstead_k06_rows_turned_and_multiplie
set_option Elab.async false
set_option linter.all false
set_option maxRecDepth 100000
set_option maxHeartbeats 4000000
namespace L3
open PySem PySem.Spec PyProof.Rows L2

/-- a special method of the class's own, at f -/
structure Own (K : PySem.W.Frag) (C : Addr) (m : Str) (f : Addr) : Prop where
  at_ : PySem.W.findIn K (.ref C) m = some (some (.ref f))
  fn : PySem.W.isFn K (.ref f) = true

section
variable {X : Cx} {CX : CXT} {k : Nat} {C f : Addr} {fd : FuncData} {ps : List Str} {sp : Sp} {E : XK} {pins : List (Addr × Obj)} {σ : L2.St} {H : Hp} {s : Shared}

theorem run_in {A : Around} {Q : VK} {us : List Value} {vs : List V} (F : FnOk X.prog X.w X.K X.mg X.base CX k f fd ps sp) (hr : Room k A) (e0 : Env0 X.prog X.w X.K X.mg X.base A X.stack s H) (hb : Binds X.K fd ps []) (hx : Passes CX X E)
    (I : Inv X pins σ H s) (r : Vals vs us) (h : sp vs H Q E) : wpAny (model X.prog X.w) A (call (.ref f) us) (EP X pins σ Q) X.xe s := by
  have hl : (us ++ []).length = ps.length := by rw [List.append_nil, ← r.length]; exact F.len _ _ _ _ h
  have hb2 := hb s us I.kIn hl
  rw [List.append_nil] at hb2
  refine wpAny_call (codeAny_mono (F.run A X.stack s H ⟨us, []⟩ us vs Q E hr e0 hb2 r h) fun r s' hq => ?_)
  cases r with
  | error e => exact hx pins σ H s e s' I hq
  | ok fl =>
    cases fl with
    | ret u => exact I.after hq
    | next => exact False.elim hq
    | brk => exact False.elim hq
    | cont => exact False.elim hq

/-- the promise of a special method at an instance of C -/
def rOwn1 (C : Addr) (sp : Sp) (E : XK) : V → Hp → VK → Prop := fun x H Q => ∃ a dx fs, x = .ref a ∧ H a = some (.ins C dx fs) ∧ sp [.ref a] H Q E

theorem un_ownNeg (o : Own X.K C "__neg__" f) (F : FnOk X.prog X.w X.K X.mg X.base CX k f fd ps sp) (hr : Room k X.A) (hb : Binds X.K fd ps []) (hx : Passes CX X E) : UnR X (unaryOp .USub) (rOwn1 C sp E) := by
  intro pins s σ H x v Q I rx h
  obtain ⟨a, dx, fs, rfl, ea, h⟩ := h
  cases (show v = Value.ref a from rx)
  obtain ⟨mA, O, _⟩ := ins_get I.hok ea
  obtain ⟨od, J, _⟩ := O.look
  obtain ⟨m, hF⟩ := I.fr
  exact PySem.W.ksp_neg hF I.ok.mod.kin J o.at_ o.fn (run_in (us := [.ref a]) (vs := [.ref a]) F hr I.env0 hb hx I (.cons rfl .nil) h)

theorem abs_K {prog : Program} {w : World} {A : Around} {E : Value → Shared → Prop} {s : Shared} {K : PySem.W.Frag} {x C f : Addr} {ox : Obj} {od : Option Obj} {Q : Value → Shared → Prop} (X : K.In s.heap) (I : PySem.W.InstAt s.heap x ox C od)
    (hs : PySem.W.findIn K (.ref C) "__abs__" = some (some (.ref f))) (hf : PySem.W.isFn K (.ref f) = true)
    (h : wpAny (model prog w) A.in1 (call (.ref f) [.ref x]) Q E s) : wpAny (model prog w) A (call (.builtin "abs") [.ref x]) Q E s := by
  refine Calls.call_function_entry kind_abs plain_abs entry_abs (args_abs _) ?_
  unfold Builtin.«abs»
  refine wpAny_bind (m := oneArg "abs" _) (wpAny_pure ?_)
  refine wpAny_bind (m := callSpecial? (.ref x) (Str.ofString "__abs__")) (PySem.W.special_fn X I hs (beq_iff_eq.mp hf) (wpAny_mono h (fun r s' hr => ?_) fun _ _ y => y))
  exact wpAny_pure ⟨_, rfl, hr⟩

theorem call_ownAbs (o : Own X.K C "__abs__" f) (F : FnOk X.prog X.w X.K X.mg X.base CX k f fd ps sp) (hr : Room (k + 1) X.A) (hb : Binds X.K fd ps []) (hx : Passes CX X E) : CallR X (.builtin "abs") (fun xs H Q => ∃ x, xs = [x] ∧ rOwn1 C sp E x H Q) := by
  intro pins s σ H xs us Q I r h
  obtain ⟨_, rfl, a, dx, fs, rfl, ea, h⟩ := h
  obtain ⟨u, rfl, rx⟩ := vals1 r
  cases (show u = Value.ref a from rx)
  obtain ⟨mA, O, _⟩ := ins_get I.hok ea
  obtain ⟨od, J, _⟩ := O.look
  exact abs_K I.kIn J o.at_ o.fn (run_in (us := [.ref a]) (vs := [.ref a]) F hr.in1 I.env0.in1 hb hx I (.cons rfl .nil) h)

/-- str(x) -/
theorem call_ownStr (o : Own X.K C "__str__" f) (F : FnOk X.prog X.w X.K X.mg X.base CX k f fd ps sp) (hr : Room (k + 2) X.A) (hb : Binds X.K fd ps []) (hx : Passes CX X E) :
    CallR X (.type "str") (fun xs H Q => ∃ x, xs = [x] ∧ rOwn1 C sp E x H (fun v H' => ∃ z, v = .str z ∧ Q (.str z) H')) := by
  intro pins s σ H xs us Q I r h
  obtain ⟨_, rfl, a, dx, fs, rfl, ea, h⟩ := h
  obtain ⟨u, rfl, rx⟩ := vals1 r
  cases (show u = Value.ref a from rx)
  obtain ⟨mA, O, _⟩ := ins_get I.hok ea
  obtain ⟨od, J, _⟩ := O.look
  refine PySem.W.kso_call hr.in1.in1.units0 I.kIn J o.at_ o.fn (wpAny_mono (run_in (us := [.ref a]) (vs := [.ref a]) F hr.in1.in1 I.env0.in1.in1 hb hx I (.cons rfl .nil) h) (fun u s' q => ?_) fun _ _ y => y)
  obtain ⟨v, H', I', rv, z, rfl, q⟩ := q
  obtain ⟨t, rfl⟩ := (show ∃ t, u = Value.str z t from rv)
  exact ⟨.str z, H', I', ⟨_, rfl⟩, q⟩

/-- truth of an instance by its own __bool__ -/
def rTruOwn (C : Addr) (sp : Sp) (E : XK) : V → Hp → (Bool → Hp → Prop) → Prop := fun x H Q => rOwn1 C sp E x H (fun v H' => ∃ b, v = .bl b ∧ Q b H')
theorem tru_own (o : Own X.K C "__bool__" f) (F : FnOk X.prog X.w X.K X.mg X.base CX k f fd ps sp) (hr : Room k X.A) (hb : Binds X.K fd ps []) (hx : Passes CX X E) : TruR X (rTruOwn C sp E) := by
  intro pins s σ H x v Q I rx h
  obtain ⟨a, dx, fs, rfl, ea, h⟩ := h
  cases (show v = Value.ref a from rx)
  obtain ⟨mA, O, _⟩ := ins_get I.hok ea
  obtain ⟨od, J, _⟩ := O.look
  obtain ⟨m, hF⟩ := I.fr
  refine PySem.W.truthy_K hF I.ok.mod.kin J o.at_ o.fn (wpAny_mono (run_in (us := [.ref a]) (vs := [.ref a]) F hr I.env0 hb hx I (.cons rfl .nil) h) (fun u s' q => ?_) fun _ _ y => y)
  obtain ⟨v, H', I', rv, z, rfl, q⟩ := q
  cases (show u = Value.bool z from rv)
  exact ⟨H', I', q⟩
/-- any expression whose test is its value's truth, by a TruR -/
theorem pt_tru {a : Expr} {ta : TE} {r : V → Hp → (Bool → Hp → Prop) → Prop} (ht : TruR X r) (ha : PE X a ta) (he : ∀ whole, isTrue a X.env whole = (do let v ← whole; standAt a.pos; holding [v] (truthy v))) :
    PT X a (fun σ H Q => ta σ H fun x H' => r x H' Q) := by
  refine ⟨fun pins s σ H Q I h => ?_⟩
  exact isTrue_plain (thn (ha.run pins s σ H _ I h) fun v s1 ⟨x, H1, I1, r1, q1⟩ => ht pins s1 σ H1 x v Q I1 r1 q1) (he _)

theorem looks_at {M : Model} {h : Heap} {a : Addr} {o : Obj} {c : Value} (ha : h.get? a = some o) (hc : o.cls = c) : PySem.W.Looks M h (typeOf (.ref a)) c := fun A Q E s k q => wpAny_typeOf_ref (k _ _ ha) (by rw [hc]; exact q)
theorem tyLooks {y : V} {u t : Value} (I : Inv X pins σ H s) (ry : RelV y u) (ty : TyOf X.K H y t) : PySem.W.Looks (model X.prog X.w) s.heap (typeOf u) t := by
  cases ty with
  | non => cases (show u = Value.none from ry); exact PySem.W.Looks.of_pure rfl
  | bl y => cases (show u = Value.bool y from ry); exact PySem.W.Looks.of_pure rfl
  | int i => obtain ⟨t, q⟩ := (show ∃ t, u = Value.int i t from ry); cases q; exact PySem.W.Looks.of_pure rfl
  | str y => obtain ⟨t, q⟩ := (show ∃ t, u = Value.str y t from ry); cases q; exact PySem.W.Looks.of_pure rfl
  | flt y => obtain ⟨t, q⟩ := (show ∃ t, u = Value.float y t from ry); cases q; exact PySem.W.Looks.of_pure rfl
  | @lst a xs ea =>
    cases (show u = Value.ref a from ry)
    obtain ⟨_, _, n, _, h1⟩ := (show ObjOk X.prog X.w H s.heap a (.lst xs) from I.hok a _ ea)
    exact looks_at h1 rfl
  | @frz a ob xs ea =>
    cases (show u = Value.ref a from ry)
    obtain ⟨_, _, _, n, _, h1⟩ := (show ObjOk X.prog X.w H s.heap a (.frz ob (.lst xs)) from I.hok a _ ea)
    exact looks_at h1 rfl
  | @tup a xs ea =>
    cases (show u = Value.ref a from ry)
    obtain ⟨_, _, _, p⟩ := (show ObjOk X.prog X.w H s.heap a (.tup xs) from I.hok a _ ea)
    obtain ⟨o, h1, h2, _⟩ := p
    exact looks_at h1 h2
  | @dK a kvs ea =>
    cases (show u = Value.ref a from ry)
    obtain ⟨_, _, vs, _, p⟩ := (show ObjOk X.prog X.w H s.heap a (.dK kvs) from I.hok a _ ea)
    obtain ⟨o, es, ep, h1, h2, _⟩ := p
    exact looks_at h1 h2.1
  | @dT a kvs ea =>
    cases (show u = Value.ref a from ry)
    obtain ⟨_, _, xs, _, o, es, ep, h1, h2, _⟩ := (show ObjOk X.prog X.w H s.heap a (.dT kvs) from I.hok a _ ea)
    exact looks_at h1 h2.1
  | @ins a C dx fs ea cl ha hn htk hm =>
    cases (show u = Value.ref a from ry)
    obtain ⟨mA, O, _⟩ := ins_get I.hok ea
    obtain ⟨od, J, _⟩ := O.look
    exact J.type

/-- a comparison, a call, .. by the class's own method of two, at an instance x of C and any y of a known type that is no class below C -/
def rOwn2 (K : PySem.W.Frag) (C : Addr) (sp : Sp) (E : XK) : R2 := fun x y H Q => ∃ a dx fs t, x = .ref a ∧ H a = some (.ins C dx fs) ∧ TyOf K H y t ∧ PySem.W.notFirst K C t = true ∧ sp [.ref a, y] H (fun v H' => ∃ b, v = .bl b ∧ Q (.bl b) H') E
theorem op_ownCmp {op : CmpOp} (o : Own X.K C (cmpInfo op).2.1 f) (F : FnOk X.prog X.w X.K X.mg X.base CX k f fd ps sp) (hr : Room k X.A) (hb : Binds X.K fd ps []) (hx : Passes CX X E)
    (hop : ∀ v u, compareOp op v u = richCompare op v u) : OpR X (compareOp op) (rOwn2 X.K C sp E) := by
  intro pins s σ H x y v u Q I rx ry h
  obtain ⟨a, dx, fs, t, rfl, ea, ty, nf, h⟩ := h
  cases (show v = Value.ref a from rx)
  obtain ⟨mA, O, _⟩ := ins_get I.hok ea
  obtain ⟨od, J, _⟩ := O.look
  obtain ⟨m, hF⟩ := I.fr
  rw [hop]
  refine PySem.W.cmp_K hr.units0 hF I.ok.mod.kin J (tyLooks I ry ty) nf o.at_ o.fn (wpAny_mono (run_in (us := [.ref a, u]) (vs := [.ref a, y]) F hr I.env0 hb hx I (.cons rfl (.cons ry .nil)) h) (fun u s' q => ?_) fun _ _ y => y)
  obtain ⟨v, H', I', rv, z, rfl, q⟩ := q
  cases (show u = Value.bool z from rv)
  exact ⟨.bl z, H', I', rfl, q⟩
theorem op_ownEq (o : Own X.K C "__eq__" f) (F : FnOk X.prog X.w X.K X.mg X.base CX k f fd ps sp) (hr : Room k X.A) (hb : Binds X.K fd ps []) (hx : Passes CX X E) : OpR X (compareOp .Eq) (rOwn2 X.K C sp E) :=
  op_ownCmp (op := .Eq) o F hr hb hx fun _ _ => rfl

theorem ifBoundB_K {M : Model} {A : Around} {E : Value → Shared → Prop} {s : Shared} {K : PySem.W.Frag} {x C : Addr} {ox : Obj} {od : Option Obj} {name : Str} {id : String} {args : List Value} {Q : Option Value → Shared → Prop} (X : K.In s.heap) (I : PySem.W.InstAt s.heap x ox C od) (hs : PySem.W.findIn K (.ref C) name = some (some (.builtin id)))
    (hb : ∀ self, bindSpecial (.builtin id) self = pure (.builtin id, [self])) (h : wpAny M A (call (.builtin id) (.ref x :: args)) (fun v => Q (some v)) E s) : wpAny M A (callSpecialIfBound? (.ref x) name args) Q E s := by
  simp only [callSpecialIfBound?, bindSpecialIfBound?]
  refine wpAny_holding (wpAny_bind (wpAny_bind (wpAny_bind (I.type.here ((PySem.W.looks_findIn X hs).here ?_)))))
  refine wpAny_bind (wpAny_askSetting (wpAny_ite ?_))
  have fin : wpAny M A (call (.builtin id) ([.ref x] ++ args) >>= fun v => pure (some v)) Q E s := wpAny_bind (wpAny_mono h (fun v s' h' => wpAny_pure h') fun _ _ h' => h')
  split
  · exact wpAny_bind ((PySem.W.Looks.of_pure (hb _)).here (wpAny_pure (by exact fin)))
  · exact wpAny_tryCatch (wpAny_bind ((PySem.W.Looks.of_pure (hb _)).here (wpAny_pure (by exact fin))))
theorem one_ne {prog : Program} {w : World} {A : Around} {E : Value → Shared → Prop} {s : Shared} {K : PySem.W.Frag} {x C f : Addr} {ox : Obj} {od : Option Obj} {b : Value} {Q : Value → Shared → Prop} (hu : A.units + 1 < cLine) (X : K.In s.heap) (I : PySem.W.InstAt s.heap x ox C od)
    (hs : PySem.W.findIn K (.ref C) "__eq__" = some (some (.ref f))) (hf : PySem.W.isFn K (.ref f) = true) (hne : PySem.W.findIn K (.ref C) "__ne__" = some (some (.builtin "object.__ne__"))) (hm : PySem.W.mroIn K C (.type "object") = some true)
    (h : wpAny (model prog w) A.in1 (call (.ref f) [.ref x, b]) (fun v s' => ∃ k, v = .bool k ∧ Q (.bool (!k)) s') E s) : wpAny (model prog w) A (tryCompare (.ref x) (cmpInfo .NotEq).2.1 b) (fun r s' => ∃ v, r = some v ∧ Q v s') E s := by
  unfold tryCompare
  refine wpAny_bind (ifBoundB_K X I hne PySem.F.slot_object_ne.bind (wpAny_call (codeAny_call_builtin PySem.F.slot_object_ne.plain PySem.F.entry_object_ne
    (PySem.W.check_slot (i := "object.__ne__") (owner := "object") (n := "__ne__") (by decide +kernel) (by decide +kernel) (I.type.andThen (PySem.W.looks_mroIn X hm)) (PySem.F.args_object_ne_2 _ _) ?_))))
  unfold Builtin.«object.__ne__»
  refine wpAny_bind (m := slotArgs "__ne__" 1 _) (wpAny_pure ?_)
  refine wpAny_bind (m := cRoomFor _ _) (wpAny_cRoomFor hu ?_)
  refine wpAny_bind (m := callSpecialIfBound? (.ref x) (Str.ofString "__eq__") _) (PySem.W.ifBound_K X I hs hf (wpAny_mono h (fun r s' hq => ?_) fun _ _ y => y))
  obtain ⟨k, rfl, q⟩ := hq
  dsimp only
  refine wpAny_bind (wpAny_truthy_bool ?_)
  exact wpAny_pure (wpAny_pure ⟨_, rfl, q⟩)

/-- != of an instance whose class has an own == and no own != -/
theorem ne_K {prog : Program} {w : World} {A : Around} {E : Value → Shared → Prop} {s : Shared} {K : PySem.W.Frag} {x C L f : Addr} {h₀ : Heap} {m : Str → Option Value} {ox : Obj} {od : Option Obj} {b tb : Value} {Q : Value → Shared → Prop} (hu : A.units + 1 < cLine) (F : Fr h₀ L s.heap m) (X₀ : K.In h₀) (I : PySem.W.InstAt s.heap x ox C od) (hb : PySem.W.Looks (model prog w) s.heap (typeOf b) tb) (hn : PySem.W.notFirst K C tb = true)
    (hs : PySem.W.findIn K (.ref C) "__eq__" = some (some (.ref f))) (hf : PySem.W.isFn K (.ref f) = true) (hne : PySem.W.findIn K (.ref C) "__ne__" = some (some (.builtin "object.__ne__"))) (hm : PySem.W.mroIn K C (.type "object") = some true)
    (h : wpAny (model prog w) A.in1 (call (.ref f) [.ref x, b]) (fun v s' => ∃ k, v = .bool k ∧ Q (.bool (!k)) s') E s) : wpAny (model prog w) A (richCompare .NotEq (.ref x) b) Q E s := by
  have X := X₀.keeps F.keep
  have one : wpAny (model prog w) A (tryCompare (.ref x) (cmpInfo .NotEq).2.1 b) (fun r s' => ∃ v, r = some v ∧ Q v s') E s := one_ne hu X I hs hf hne hm h
  unfold richCompare
  simp only [oneThing_ref]
  refine wpAny_holding (wpAny_bind (wpAny_cRoomFor (by omega) ?_))
  refine wpAny_bind (I.type.here (wpAny_bind (hb.here ?_)))
  split
  · rename_i q
    have e : PySem.W.subIn K tb (.ref C) = some false := by
      rcases Bool.or_eq_true_iff.mp hn with e | e
      · rw [beq_iff_eq.mp e] at q; simp at q
      · exact beq_iff_eq.mp e
    refine wpAny_bind ((PySem.W.looks_subIn X e).here ?_)
    simp only [Bool.false_eq_true, if_false]
    refine wpAny_bind (wpAny_mono one (fun r s' z => ?_) fun _ _ e => e)
    obtain ⟨v, rfl, hq⟩ := z
    exact wpAny_pure hq
  · refine wpAny_bind (wpAny_pure ?_)
    simp only [Bool.false_eq_true, if_false]
    refine wpAny_bind (wpAny_mono one (fun r s' z => ?_) fun _ _ e => e)
    obtain ⟨v, rfl, hq⟩ := z
    exact wpAny_pure hq
structure OwnNe (K : PySem.W.Frag) (C : Addr) : Prop where
  ne : PySem.W.findIn K (.ref C) "__ne__" = some (some (.builtin "object.__ne__"))
  mr : PySem.W.mroIn K C (.type "object") = some true
theorem op_ownNe (o : Own X.K C "__eq__" f) (on : OwnNe X.K C) (F : FnOk X.prog X.w X.K X.mg X.base CX k f fd ps sp) (hr : Room (k + 1) X.A) (hb : Binds X.K fd ps []) (hx : Passes CX X E) :
    OpR X (compareOp .NotEq) (fun x y H Q => rOwn2 X.K C sp E x y H (fun v H' => ∃ b, v = .bl b ∧ Q (.bl (!b)) H')) := by
  intro pins s σ H x y v u Q I rx ry h
  obtain ⟨a, dx, fs, t, rfl, ea, ty, nf, h⟩ := h
  cases (show v = Value.ref a from rx)
  obtain ⟨mA, O, _⟩ := ins_get I.hok ea
  obtain ⟨od, J, _⟩ := O.look
  obtain ⟨m, hF⟩ := I.fr
  show wpAny (model X.prog X.w) X.A (richCompare .NotEq (Value.ref a) u) _ _ _
  refine ne_K (by have := hr.un; omega) hF I.ok.mod.kin J (tyLooks I ry ty) nf o.at_ o.fn on.ne on.mr (wpAny_mono (run_in (us := [.ref a, u]) (vs := [.ref a, y]) F hr.in1 I.env0.in1 hb hx I (.cons rfl (.cons ry .nil)) h) (fun u s' q => ?_) fun _ _ y => y)
  obtain ⟨v, H', I', rv, z, rfl, b, hb, q⟩ := q
  cases hb
  cases (show u = Value.bool z from rv)
  exact ⟨z, rfl, .bl (!z), H', I', rfl, q⟩
end
end L3

/-! own exceptions, over any built-in error, whose __init__ keeps the one thing that it takes -/
namespace X1
open PySem PySem.W PySem.Calls PyProof.Rows Builtin Builtin.ObjectAttr
theorem osa_first {prog : Program} {w : World} {A : Around} {R : Result → Shared → Prop} {hp : Heap} {g : Array GenState} {d : Drawn} {t : Nat} {os : OsState} {K : Frag} {B : String} {bmB : List Value} {name : Str} {tk : Tok} {v : Value} {x C : Addr} {fv : Array Value}
    (SF : StoreFacts B bmB "object.__setattr__" "object") (X : K.In hp) (hx : hp.get? x = some { cls := .ref C, data := .fields fv }) (ho : excOver K C bmB = true) (hh : hasDictIn K C = true) (ha : findIn K (.ref C) name = some none)
    (hq : ∀ h' tk' dx, (∀ b o, b ≠ x → hp.get? b = some o → h'.get? b = some o) → hp.objs.size ≤ dx → dx ≠ x → h'.get? x = some { cls := .ref C, dict := some dx, data := .fields fv } →
      h'.Ns1 dx (fun y => if y = name then some v else none) → R (.ok (.ret .none)) ⟨h', g, d, tk', os⟩) :
    codeAny (model prog w) A (.call (.builtin "object.__setattr__") ⟨[.ref x, .str name tk, v], []⟩) R ⟨hp, g, d, t, os⟩ := by
  have hxs : x ≠ hp.objs.size := Nat.ne_of_lt (Heap.lt_size hx)
  obtain ⟨cd, hc, hd'⟩ := any_some hh
  have hcls : Looks (model prog w) hp (classData C) cd := looks_clsIn X hc
  refine osa_openX (s := ⟨hp, g, d, t, os⟩) (od := none) (r := none) SF X ⟨hx, rfl, rfl, trivial⟩ ho (by unfold takerIn; rw [ha]; rfl) fun b => ?_
  dsimp only
  obtain ⟨nm, bs, mro, ns, qn, hd, sn, sb, ab, col, del⟩ := cd
  dsimp only at hd'
  subst hd'
  unfold storeInOwnDict ownDictForStores
  repeat (first | with_reducible refine HandSPX.store_in_new ?_ ?_ | with_reducible refine wpAny_loadPart_at hx ?_ | with_reducible refine hcls.at ?_ | wp_step)
  · exact ⟨_, #[], _, (Heap.get?_update_ne _ _ _ _ hxs.symm).trans (Heap.get?_push_at rfl rfl), rfl, fun e he => absurd he (by simp), fun _ => rfl⟩
  · intro h' tk' hn' hs
    have hx₁ : (hp.push { cls := .type "dict", data := .dict #[] }).get? x = some { cls := .ref C, data := .fields fv } := Heap.get?_push_of_some _ hx
    refine hq h' tk' hp.objs.size (fun b o hb ho => ?_) (Nat.le_refl _) hxs.symm ?_ hn'
    · exact (hs.2 b (Nat.ne_of_lt (Heap.lt_size ho))).trans ((Heap.get?_update_ne _ _ _ _ hb).trans (Heap.get?_push_of_some _ ho))
    · exact (hs.2 x hxs).trans (Heap.get?_update_self _ hx₁ rfl)
theorem ldC {M : Model} {s : Shared} {name : Str} {scope : Scope} {L a : Addr} {cd : Value} {m : Str → Option Value} {x : Str} {pos : Pos} {v : Value} {Q : Value → Shared → Prop} {A : Around} {E : Value → Shared → Prop} (hn : s.heap.Ns L m) (hv : m x = some v) (h : Q v s)
    (hk : scope.kind = .function := by rfl) (hl : (envOfC name scope L a cd).kindOf x = some .local := by rfl) (hd : (x == ("__debug__" : Str)) = false := by decide) : wpAny M A (eval (.Name x pos) (envOfC name scope L a cd)) Q E s := wpAny_Name (wpAny_loadName_local hk hl hn hv h) hd
/-- what __init__ leaves of a new exception at x -/
structure InitEnd (f : Str) (h h' : Heap) (x C dx t1 : Addr) (v : Value) : Prop where
  keep : ∀ b o, b ≠ x → h.get? b = some o → h'.get? b = some o
  obj : h'.get? x = some { cls := .ref C, dict := some dx, data := .fields #[.ref t1, .none, .none, .none, .bool false, .none] }
  dbig : h.objs.size ≤ dx
  dne : dx ≠ x
  ns : h'.Ns1 dx (fun y => if y = f then some v else none)
/-- a made exception -/
structure Made (f : Str) (h h' : Heap) (e C d : Addr) (v : Value) : Prop where
  keep : ∀ b o, h.get? b = some o → h'.get? b = some o
  new : h.objs.size ≤ e
  obj : ∃ oe vs, h'.get? e = some oe ∧ oe.cls = .ref C ∧ oe.dict = some d ∧ oe.data = .fields vs ∧ vs[1]? = some .none
  dbig : h.objs.size ≤ d
  dne : d ≠ e
  ns : h'.Ns1 d (fun y => if y = f then some v else none)
end X1
namespace L3
open PySem PySem.Spec PyProof.Rows L2
theorem relO_one {g : Str} {v : V} {v' : Value} (r : RelV v v') (f : Str) : RelO (List.lookup f [((g : Str), v)]) (if f = g then some v' else none) := by
  by_cases hw : f = g
  · subst hw
    rw [if_pos rfl]
    have q : List.lookup f [((f : Str), v)] = some v := by simp [List.lookup]
    rw [q]
    exact r
  · rw [if_neg hw]
    have qw : (f == g) = false := by simpa using hw
    have q2 : List.lookup f [((g : Str), v)] = none := by simp [List.lookup, qw]
    rw [q2]
    trivial
/-- C(e): the error's own dict d is new and holds f -/
def tMkX (f : Str) (C : Addr) (ta : TA) : L2.St → Hp → XK → Prop := fun σ H Q => ta σ H fun vs H1 => ∃ v, vs = [v] ∧ ∀ d, H1 d = none → Q (.ref C) (some d) (upd H1 d (.xd [(f, v)]))
def tRaiseX (f : Str) (C : Addr) (W : WX) (ta : TA) : TS := fun _ σ H => tMkX f C ta σ H fun cls d H' => W cls d σ H'
def tFldX (f : Str) (C : Addr) (a : Addr) (cls : Value) (d : Option Addr) (te : TE) : TE := fun σ H Q => te σ H fun x H1 => x = .ref a ∧ cls = .ref C ∧ ∃ (dd : Addr) (v : V), d = some dd ∧ H1 dd = some (.xd [(f, v)]) ∧ Q v H1
section
variable {X : Cx} {C fI : Addr}
theorem mk_back {f : Str} {pins : List (Addr × Obj)} {σ : L2.St} {H1 : Hp} {Q : XK} {hp h' : Heap} {g : Array GenState} {dr : Drawn} {tk tk' : Nat} {os : OsState} {e d : Addr} {v : V} {v' : Value} (I1 : Inv X pins σ H1 ⟨hp, g, dr, tk, os⟩) (M : X1.Made f hp h' e C d v') (rv : RelV v v')
    (exC : PySem.W.subIn X.K (.ref C) (.type "BaseException") = some true) (tyC : PySem.W.typeIn X.K (.ref C) = some (.type "type")) (q : Q (.ref C) (some d) (upd H1 d (.xd [(f, v)]))) : MkP X pins σ Q (.ref e) ⟨h', g, dr, tk', os⟩ := by
  obtain ⟨oe, fv, hoe, hc, hd, hdat, h1⟩ := M.obj
  have hns := M.ns
  obtain ⟨G', g1, g2⟩ := restrict h' fun b => decide (b ≠ e)
  have gk : ∀ b, b ≠ e → G'.get? b = h'.get? b := fun b hb => g1 b (decide_eq_true hb)
  have ge : G'.get? e = none := g2 e (by simp)
  have old : ∀ b o, hp.get? b = some o → G'.get? b = some o := fun b o q => (gk b (Nat.ne_of_lt (Nat.lt_of_lt_of_le (Heap.lt_size q) M.new))).trans (M.keep b o q)
  have ob : ObjOk X.prog X.w (upd H1 d (.xd [(f, v)])) G' d (.xd [(f, v)]) := ⟨_, hns.at (fun o q => (gk d M.dne).trans q), fun y => relO_one rv y⟩
  have J : Inv X pins σ (upd H1 d (.xd [(f, v)])) ⟨G', g, dr, tk', os⟩ := I1.laid (t' := tk') old M.dbig ob
  refine ⟨e, oe, fv, ⟨G', g, dr, tk', os⟩, _, .ref C, some d, rfl, J, fun b o q => ?_, ge, hoe, ⟨hc, hd⟩, hdat, h1, ?_, rfl, I1.bare, raises_own exC tyC, q⟩
  · by_cases hb : b = e
    · have q' : G'.get? b = some o := q
      rw [hb, ge] at q'; cases q'
    · exact (gk b hb).symm.trans q
  · rw [upd_ne (Ne.symm M.dne)]
    exact I1.hok.fresh M.new
theorem fldX {f : Str} {a : Addr} {oe : Obj} {cls : Value} {d : Option Addr} {pn : List (Addr × Obj)} {e : Expr} {te : TE} {pos : Pos} (ga : PySem.W.findIn X.K (.ref C) "__getattribute__" = some (some (.builtin "BaseException.__getattribute__"))) (gg : PySem.W.findIn X.K (.ref C) "__getattr__" = some none)
    (exC : PySem.W.subIn X.K (.ref C) (.type "BaseException") = some true) (hdC : PySem.W.hasDictIn X.K C = true) (noN : PySem.W.findIn X.K (.ref C) f = some none) (hz : Zc cls d oe) (hf : ∃ vs, oe.data = .fields vs) (he : PE (X.suite a ((a, oe) :: pn)) e te)
    (hb : attributeBase e f X.env (eval e X.env) = eval e X.env) : PE (X.suite a ((a, oe) :: pn)) (.Attribute e f pos) (tFldX f C a cls d te) := by
  refine ⟨fun pins s σ H Q I h => ?_⟩
  refine attr_of hb (thn (he.run pins s σ H _ I h) fun u s1 hh => ?_)
  obtain ⟨x, H1, I1, rx, ex, ec, dd, v, ed, ea, q⟩ := hh
  subst ex
  obtain rfl : u = Value.ref a := rx
  subst ec
  subst ed
  obtain ⟨ha, _⟩ := I1.pin (a, oe) (List.mem_append_left _ List.mem_cons_self)
  obtain ⟨vs, hd⟩ := hf
  have hx : ObjOk X.prog X.w H1 s1.heap dd (.xd [(f, v)]) := I1.hok dd _ ea
  obtain ⟨mA, hns, hr⟩ := hx
  obtain ⟨od, ho, hl⟩ := lookIn_ns hns
  have l : List.lookup f [(f, v)] = some v := by simp [List.lookup]
  obtain ⟨u, hu, ru⟩ := RelO.some_of (v := v) (o := mA f) (by rw [← l]; exact hr f)
  have J : PySem.W.InstAt s1.heap a oe C (some od) := ⟨ha, hz.1, by unfold PySem.W.notCls; rw [hd] <;> rfl, by rw [hz.2]; exact ho⟩
  exact HandSPX.exc_get I1.kIn J ga gg exC (PySem.W.findObj_own hdC noN rfl (by rw [hl, hu])) (handed_of ru) ⟨v, H1, I1.tok _, ru, q⟩
end
end L3

namespace PySem
namespace XInvalidNumber
open PySem.W PySem.Calls PyProof.Rows PySem.HandSPX
def iA (p1 p2 : Pos) : Arguments := { posonlyargs := [], args := [{ arg := "self", annotation := none, pos := p1 }, { arg := "given", annotation := none, pos := p2 }], vararg := none, kwonlyargs := [], kw_defaults := [], kwarg := none, defaults := [] }
def iB (q1 q2 q3 q4 : Pos) : List Stmt := [.Assign [.Attribute (.Name "self" q1) "given" q2] (.Name "given" q3) q4]
def iS : Scope := { kind := .function, names := [(PySem.Str.ofString "self", .local), (PySem.Str.ofString "given", .local)], isGenerator := false, isCoroutine := false, more := [] }
structure Txt (K : Frag) (mg : Str → Option Value) (C fI : Addr) : Prop where
  gC : mg "InvalidNumber" = some (.ref C)
  ini : excInitIn K C [.type "IndexError", .type "LookupError", .type "Exception", .type "BaseException", .type "object"] "IndexError.__new__" = true
  ov : excOver K C [.type "IndexError", .type "LookupError", .type "Exception", .type "BaseException", .type "object"] = true
  sa : findIn K (.ref C) "__setattr__" = some (some (.builtin "object.__setattr__"))
  ga : findIn K (.ref C) "__getattribute__" = some (some (.builtin "BaseException.__getattribute__"))
  gg : findIn K (.ref C) "__getattr__" = some none
  noN : findIn K (.ref C) "given" = some none
  iC : findIn K (.ref C) "__init__" = some (some (.ref fI))
  tC : typeIn K (.ref fI) = some (.type "function")
  kC : keepIn K (.ref C) = true
  exC : subIn K (.ref C) (.type "BaseException") = some true
  tyC : typeIn K (.ref C) = some (.type "type")
  hdC : hasDictIn K C = true
  te : exmOne K (.ref C) (.ref C) = some true
  fn : ∃ (oc : Value) (od : Option Addr) (doc pm : Value) (an : Option Addr) (cdv ct : Value) (osl : Array (Option Value)) (p1 p2 q1 q2 q3 q4 : Pos),
    K.lookup fI = some ⟨oc, od, .func (fnOf "__init__" "InvalidNumber.__init__" (iA p1 p2) (iB q1 q2 q3 q4) iS .none .none doc pm an cdv ct), osl⟩ ∧ codeIn K cdv "InvalidNumber.__init__" = true
section
variable {prog : Program} {w : World} {A : Around} {E : Value → Shared → Prop} {R : Result → Shared → Prop} {s : Shared} {K : Frag} {mg : Str → Option Value} {C fI : Addr}
theorem init_run (T : Txt K mg C fI) {x t0 : Addr} {v : Value} (X : K.In s.heap) (hlim : s.heap.NoLimit) (hx : s.heap.get? x = some (excO C t0)) (hroom : A.depth < recursionLimit)
    (hq : ∀ h' tk dx, X1.InitEnd "given" s.heap h' x C dx t0 v → R (.ok (.ret .none)) { s with heap := h', toks := tk }) :
    codeAny (model prog w) A (.call (.ref fI) ⟨[.ref x, v], []⟩) R s := by
  obtain ⟨oc, od, doc, pm, an, cdv, ct, osl, p1, p2, q1, q2, q3, q4, ho, hcd⟩ := T.fn
  refine Att.call_fn (binds := [("self", .ref x), ("given", v)]) X hlim ho hcd hroom (BindsTo.of_eq (by first | rfl | with_unfolding_all rfl)) (by first | rfl | decide | with_unfolding_all rfl) (fun s₁ IC => ?_) rfl rfl rfl
  obtain ⟨h₁, tk₁, rfl⟩ := IC.toInCall.same
  have k : ∀ b o, s.heap.get? b = some o → h₁.get? b = some o := IC.toInCall.keep
  have hn := IC.toInCall.ns
  have X₁ : K.In h₁ := X.keeps k
  have hx₁ := k _ _ hx
  show wpAny _ _ (execs _ _) _ _ _
  refine wpAny_execs_cons (plainObj_wpAny_Assign_Attribute ?_)
  refine X1.ldC (v := v) hn (by first | rfl | with_unfolding_all rfl | kernel_rfl) (X1.ldC (v := .ref x) hn (by first | rfl | with_unfolding_all rfl | kernel_rfl) ?_)
  refine set_plain X₁ (ox := excO C t0) (od := none) ⟨hx₁, rfl, rfl, trivial⟩ T.sa ?_
  refine X1.osa_first PySem.F.store_IndexError X₁ hx₁ T.ov T.hdC T.noN (fun h₃ tk₃ dx k₃ dn dne hx₃ hn₃ => ?_)
  show wpAny _ _ (execs _ _) _ _ _
  have z : s.heap.objs.size < h₁.objs.size := hn.lt
  exact wpAny_execs_nil (hq h₃ tk₃ dx ⟨fun b o hb e => k₃ b o hb (k b o e), hx₃, Nat.le_of_lt (Nat.lt_of_lt_of_le z dn), dne, hn₃⟩)
theorem made (T : Txt K mg C fI) {v : Value} (X : K.In s.heap) (hlim : s.heap.NoLimit) (hroom : A.depth + 1 < recursionLimit)
    (hq : ∀ h' tk e d, X1.Made "given" s.heap h' e C d v → R (.ok (.ret (.ref e))) { s with heap := h', toks := tk }) :
    codeAny (model prog w) A (.call (.ref C) ⟨[v], []⟩) R s := by
  obtain ⟨nm, N, q, bs, bm, hdct, sn, sub, ab, col, dd, k0, k1, k2, k3, k5, hC, hbm⟩ := excInit_of X T.ini
  obtain ⟨hp, g, dr, tk, os⟩ := s
  have k : ∀ b o, hp.get? b = some o → ((hp.push (kdv_tup [v])).push (excO C hp.objs.size)).get? b = some o := fun b o e => Heap.get?_push_of_some _ (Heap.get?_push_of_some _ e)
  have hget : ((hp.push (kdv_tup [v])).push (excO C hp.objs.size)).get? (hp.objs.size + 1) = some (excO C hp.objs.size) := by heap_get
  refine call_own PySem.F.excBase_IndexError hbm hC (looks_findIn X T.iC) (fun self => bind_fn X self T.tC) (by rw [sizeLine_eq]; exact (by decide : 1 ≤ 16777216)) ?_
  refine init_run (s := ⟨(hp.push (kdv_tup [v])).push (excO C hp.objs.size), g, dr, tk, os⟩) T (X.keeps k) (hlim.keeps k) hget ?_ fun h' tk' dx ⟨k', hx, dn, dne, hns⟩ => ?_
  · show A.depth + 1 < recursionLimit
    exact hroom
  · have old : ∀ b o, hp.get? b = some o → h'.get? b = some o := fun b o e => k' b o (Nat.ne_of_lt (Nat.lt_succ_of_lt (Heap.lt_size e))) (k b o e)
    have z : hp.objs.size + 1 + 1 ≤ dx := by
      first
        | (simpa only [Heap.size_push] using dn)
        | exact dn
        | (have q := dn; rw [Heap.size_push, Heap.size_push] at q; exact q)
    exact ⟨rfl, hq h' tk' (hp.objs.size + 1) dx ⟨old, Nat.le_succ _, ⟨_, _, hx, rfl, rfl, rfl, rfl⟩, Nat.le_trans (Nat.le_trans (Nat.le_succ _) (Nat.le_succ _)) z, dne, hns⟩⟩
end
end XInvalidNumber
end PySem
namespace L3
open PySem PySem.Spec PyProof.Rows L2
section
variable {X : Cx} {C fI : Addr}
theorem pmk_InvalidNumber {a : Expr} {ta : TA} {p pos : Pos} {k : Nat} (T : PySem.XInvalidNumber.Txt X.K X.mg C fI) (hr : Room k X.A) (ha : PA X [a] ta) (hg : Gl X "InvalidNumber" := by rfl)
    (he : starEach (a :: []) X.env = (false, eval a X.env) :: starEach [] X.env := by rfl) (hpl : (backTo pos (starEach [] X.env)).any (·.1) = false := by rfl) :
    PMk X (.Call (.Name "InvalidNumber" p) [a] [] pos) (tMkX "given" C ta) := by
  intro pins s σ H Q I h
  refine wpAny_Call_Name_kw (ld_glob I hg T.gC ?_)
  refine PySem.W.callWith_K (h₀ := X.base) I.ok.mod.kin T.kC (thn (ha.run pos pins s σ H _ I h) fun us s1 hh => ?_) he hpl
  obtain ⟨vs, H1, I1, r1, v, ev, q1⟩ := hh
  subst ev
  refine ⟨I1.kIn, ?_⟩
  cases r1 with
  | cons rv rn =>
    rename_i v' us'
    cases rn
    show wpAny _ _ (call (.ref C) [v']) _ _ _
    have hlim := I1.nolimit
    obtain ⟨hp, g, dr, tk, os⟩ := s1
    refine wpAny_call (PySem.XInvalidNumber.made T I1.kIn hlim (by have := hr.dp; omega) fun h' tk' e d M => ?_)
    exact mk_back I1 M rv T.exC T.tyC (q1 d (I1.hok.fresh M.dbig))
theorem ps_raiseInvalidNumber {a : Expr} {ta : TA} {W : WX} {p pos pos2 : Pos} {k : Nat} (hc : X.calm = true) (T : PySem.XInvalidNumber.Txt X.K X.mg C fI) (hr : Room k X.A) (tk : Takes X W) (ha : PA X [a] ta) (hg : Gl X "InvalidNumber" := by rfl)
    (he : starEach (a :: []) X.env = (false, eval a X.env) :: starEach [] X.env := by rfl) (hpl : (backTo pos (starEach [] X.env)).any (·.1) = false := by rfl) :
    PS X (.Raise (some (.Call (.Name "InvalidNumber" p) [a] [] pos)) none pos2) (tRaiseX "given" C W ta) := ps_raise hc tk (pmk_InvalidNumber T hr ha hg he hpl)
theorem pe_fldInvalidNumber {a : Addr} {oe : Obj} {cls : Value} {d : Option Addr} {pn : List (Addr × Obj)} {e : Expr} {te : TE} {pos : Pos} (T : PySem.XInvalidNumber.Txt X.K X.mg C fI) (hz : Zc cls d oe) (hf : ∃ vs, oe.data = .fields vs) (he : PE (X.suite a ((a, oe) :: pn)) e te)
    (hb : attributeBase e "given" X.env (eval e X.env) = eval e X.env := by rfl) :
    PE (X.suite a ((a, oe) :: pn)) (.Attribute e "given" pos) (tFldX "given" C a cls d te) := fldX T.ga T.gg T.exC T.hdC T.noN hz hf he hb
end
end L3

namespace PySem
namespace XTooMany
open PySem.W PySem.Calls PyProof.Rows PySem.HandSPX
def iA (p1 p2 : Pos) : Arguments := { posonlyargs := [], args := [{ arg := "self", annotation := none, pos := p1 }, { arg := "limit", annotation := none, pos := p2 }], vararg := none, kwonlyargs := [], kw_defaults := [], kwarg := none, defaults := [] }
def iB (q1 q2 q3 q4 : Pos) : List Stmt := [.Assign [.Attribute (.Name "self" q1) "limit" q2] (.Name "limit" q3) q4]
def iS : Scope := { kind := .function, names := [(PySem.Str.ofString "self", .local), (PySem.Str.ofString "limit", .local)], isGenerator := false, isCoroutine := false, more := [] }
structure Txt (K : Frag) (mg : Str → Option Value) (C fI : Addr) : Prop where
  gC : mg "TooMany" = some (.ref C)
  ini : excInitIn K C [.type "OverflowError", .type "ArithmeticError", .type "Exception", .type "BaseException", .type "object"] "OverflowError.__new__" = true
  ov : excOver K C [.type "OverflowError", .type "ArithmeticError", .type "Exception", .type "BaseException", .type "object"] = true
  sa : findIn K (.ref C) "__setattr__" = some (some (.builtin "object.__setattr__"))
  ga : findIn K (.ref C) "__getattribute__" = some (some (.builtin "BaseException.__getattribute__"))
  gg : findIn K (.ref C) "__getattr__" = some none
  noN : findIn K (.ref C) "limit" = some none
  iC : findIn K (.ref C) "__init__" = some (some (.ref fI))
  tC : typeIn K (.ref fI) = some (.type "function")
  kC : keepIn K (.ref C) = true
  exC : subIn K (.ref C) (.type "BaseException") = some true
  tyC : typeIn K (.ref C) = some (.type "type")
  hdC : hasDictIn K C = true
  te : exmOne K (.ref C) (.ref C) = some true
  fn : ∃ (oc : Value) (od : Option Addr) (doc pm : Value) (an : Option Addr) (cdv ct : Value) (osl : Array (Option Value)) (p1 p2 q1 q2 q3 q4 : Pos),
    K.lookup fI = some ⟨oc, od, .func (fnOf "__init__" "TooMany.__init__" (iA p1 p2) (iB q1 q2 q3 q4) iS .none .none doc pm an cdv ct), osl⟩ ∧ codeIn K cdv "TooMany.__init__" = true
section
variable {prog : Program} {w : World} {A : Around} {E : Value → Shared → Prop} {R : Result → Shared → Prop} {s : Shared} {K : Frag} {mg : Str → Option Value} {C fI : Addr}
theorem init_run (T : Txt K mg C fI) {x t0 : Addr} {v : Value} (X : K.In s.heap) (hlim : s.heap.NoLimit) (hx : s.heap.get? x = some (excO C t0)) (hroom : A.depth < recursionLimit)
    (hq : ∀ h' tk dx, X1.InitEnd "limit" s.heap h' x C dx t0 v → R (.ok (.ret .none)) { s with heap := h', toks := tk }) :
    codeAny (model prog w) A (.call (.ref fI) ⟨[.ref x, v], []⟩) R s := by
  obtain ⟨oc, od, doc, pm, an, cdv, ct, osl, p1, p2, q1, q2, q3, q4, ho, hcd⟩ := T.fn
  refine Att.call_fn (binds := [("self", .ref x), ("limit", v)]) X hlim ho hcd hroom (BindsTo.of_eq (by first | rfl | with_unfolding_all rfl)) (by first | rfl | decide | with_unfolding_all rfl) (fun s₁ IC => ?_) rfl rfl rfl
  obtain ⟨h₁, tk₁, rfl⟩ := IC.toInCall.same
  have k : ∀ b o, s.heap.get? b = some o → h₁.get? b = some o := IC.toInCall.keep
  have hn := IC.toInCall.ns
  have X₁ : K.In h₁ := X.keeps k
  have hx₁ := k _ _ hx
  show wpAny _ _ (execs _ _) _ _ _
  refine wpAny_execs_cons (plainObj_wpAny_Assign_Attribute ?_)
  refine X1.ldC (v := v) hn (by first | rfl | with_unfolding_all rfl | kernel_rfl) (X1.ldC (v := .ref x) hn (by first | rfl | with_unfolding_all rfl | kernel_rfl) ?_)
  refine set_plain X₁ (ox := excO C t0) (od := none) ⟨hx₁, rfl, rfl, trivial⟩ T.sa ?_
  refine X1.osa_first PySem.F.store_OverflowError X₁ hx₁ T.ov T.hdC T.noN (fun h₃ tk₃ dx k₃ dn dne hx₃ hn₃ => ?_)
  show wpAny _ _ (execs _ _) _ _ _
  have z : s.heap.objs.size < h₁.objs.size := hn.lt
  exact wpAny_execs_nil (hq h₃ tk₃ dx ⟨fun b o hb e => k₃ b o hb (k b o e), hx₃, Nat.le_of_lt (Nat.lt_of_lt_of_le z dn), dne, hn₃⟩)
theorem made (T : Txt K mg C fI) {v : Value} (X : K.In s.heap) (hlim : s.heap.NoLimit) (hroom : A.depth + 1 < recursionLimit)
    (hq : ∀ h' tk e d, X1.Made "limit" s.heap h' e C d v → R (.ok (.ret (.ref e))) { s with heap := h', toks := tk }) :
    codeAny (model prog w) A (.call (.ref C) ⟨[v], []⟩) R s := by
  obtain ⟨nm, N, q, bs, bm, hdct, sn, sub, ab, col, dd, k0, k1, k2, k3, k5, hC, hbm⟩ := excInit_of X T.ini
  obtain ⟨hp, g, dr, tk, os⟩ := s
  have k : ∀ b o, hp.get? b = some o → ((hp.push (kdv_tup [v])).push (excO C hp.objs.size)).get? b = some o := fun b o e => Heap.get?_push_of_some _ (Heap.get?_push_of_some _ e)
  have hget : ((hp.push (kdv_tup [v])).push (excO C hp.objs.size)).get? (hp.objs.size + 1) = some (excO C hp.objs.size) := by heap_get
  refine call_own PySem.F.excBase_OverflowError hbm hC (looks_findIn X T.iC) (fun self => bind_fn X self T.tC) (by rw [sizeLine_eq]; exact (by decide : 1 ≤ 16777216)) ?_
  refine init_run (s := ⟨(hp.push (kdv_tup [v])).push (excO C hp.objs.size), g, dr, tk, os⟩) T (X.keeps k) (hlim.keeps k) hget ?_ fun h' tk' dx ⟨k', hx, dn, dne, hns⟩ => ?_
  · show A.depth + 1 < recursionLimit
    exact hroom
  · have old : ∀ b o, hp.get? b = some o → h'.get? b = some o := fun b o e => k' b o (Nat.ne_of_lt (Nat.lt_succ_of_lt (Heap.lt_size e))) (k b o e)
    have z : hp.objs.size + 1 + 1 ≤ dx := by
      first
        | (simpa only [Heap.size_push] using dn)
        | exact dn
        | (have q := dn; rw [Heap.size_push, Heap.size_push] at q; exact q)
    exact ⟨rfl, hq h' tk' (hp.objs.size + 1) dx ⟨old, Nat.le_succ _, ⟨_, _, hx, rfl, rfl, rfl, rfl⟩, Nat.le_trans (Nat.le_trans (Nat.le_succ _) (Nat.le_succ _)) z, dne, hns⟩⟩
end
end XTooMany
end PySem
namespace L3
open PySem PySem.Spec PyProof.Rows L2
section
variable {X : Cx} {C fI : Addr}
theorem pmk_TooMany {a : Expr} {ta : TA} {p pos : Pos} {k : Nat} (T : PySem.XTooMany.Txt X.K X.mg C fI) (hr : Room k X.A) (ha : PA X [a] ta) (hg : Gl X "TooMany" := by rfl)
    (he : starEach (a :: []) X.env = (false, eval a X.env) :: starEach [] X.env := by rfl) (hpl : (backTo pos (starEach [] X.env)).any (·.1) = false := by rfl) :
    PMk X (.Call (.Name "TooMany" p) [a] [] pos) (tMkX "limit" C ta) := by
  intro pins s σ H Q I h
  refine wpAny_Call_Name_kw (ld_glob I hg T.gC ?_)
  refine PySem.W.callWith_K (h₀ := X.base) I.ok.mod.kin T.kC (thn (ha.run pos pins s σ H _ I h) fun us s1 hh => ?_) he hpl
  obtain ⟨vs, H1, I1, r1, v, ev, q1⟩ := hh
  subst ev
  refine ⟨I1.kIn, ?_⟩
  cases r1 with
  | cons rv rn =>
    rename_i v' us'
    cases rn
    show wpAny _ _ (call (.ref C) [v']) _ _ _
    have hlim := I1.nolimit
    obtain ⟨hp, g, dr, tk, os⟩ := s1
    refine wpAny_call (PySem.XTooMany.made T I1.kIn hlim (by have := hr.dp; omega) fun h' tk' e d M => ?_)
    exact mk_back I1 M rv T.exC T.tyC (q1 d (I1.hok.fresh M.dbig))
theorem ps_raiseTooMany {a : Expr} {ta : TA} {W : WX} {p pos pos2 : Pos} {k : Nat} (hc : X.calm = true) (T : PySem.XTooMany.Txt X.K X.mg C fI) (hr : Room k X.A) (tk : Takes X W) (ha : PA X [a] ta) (hg : Gl X "TooMany" := by rfl)
    (he : starEach (a :: []) X.env = (false, eval a X.env) :: starEach [] X.env := by rfl) (hpl : (backTo pos (starEach [] X.env)).any (·.1) = false := by rfl) :
    PS X (.Raise (some (.Call (.Name "TooMany" p) [a] [] pos)) none pos2) (tRaiseX "limit" C W ta) := ps_raise hc tk (pmk_TooMany T hr ha hg he hpl)
theorem pe_fldTooMany {a : Addr} {oe : Obj} {cls : Value} {d : Option Addr} {pn : List (Addr × Obj)} {e : Expr} {te : TE} {pos : Pos} (T : PySem.XTooMany.Txt X.K X.mg C fI) (hz : Zc cls d oe) (hf : ∃ vs, oe.data = .fields vs) (he : PE (X.suite a ((a, oe) :: pn)) e te)
    (hb : attributeBase e "limit" X.env (eval e X.env) = eval e X.env := by rfl) :
    PE (X.suite a ((a, oe) :: pn)) (.Attribute e "limit" pos) (tFldX "limit" C a cls d te) := fldX T.ga T.gg T.exC T.hdC T.noN hz hf he hb
end
end L3

/-! several except clauses, with and without a name -/
namespace L3
open PySem PySem.Spec PyProof.Rows L2
abbrev Suite := Addr → Value → Option Addr → TS
def offAt (i : Nat) (D : Ends) : Ends := { nx := fun σ' H' => D.nx (σ'.set i none) H', rt := D.rt, bk := fun σ' H' => D.bk (σ'.set i none) H', ct := fun σ' H' => D.ct (σ'.set i none) H' }
def wMix (K : PySem.W.Frag) (Wout : WX) (D : Ends) : List (Value × Option Nat × Suite) → WX
  | [] => Wout
  | (c, none, ts) :: r => fun cls d σ H => ∃ b, PySem.W.exmOne K cls c = some b ∧ (b = true → ∀ a, H a = none → ts a cls d D σ H) ∧ (b = false → wMix K Wout D r cls d σ H)
  | (c, some i, ts) :: r => fun cls d σ H => ∃ b, PySem.W.exmOne K cls c = some b ∧ (b = true → ∀ a, H a = none → ts a cls d (offAt i D) (σ.set i (some (.ref a))) H) ∧ (b = false → wMix K Wout D r cls d σ H)
inductive Hds (X : Cx) : List ExceptHandler → List (Value × Option Nat × Suite) → Prop
  | nil : Hds X [] []
  | plain {x : Str} {c : Value} {ts : Suite} {b₀ : Stmt} {suite : List Stmt} {np p : Pos} {hds : List ExceptHandler} {l : List (Value × Option Nat × Suite)} (hc : Names X x c)
      (hsu : ∀ (a : Addr) (oe : Obj) (cls : Value) (d : Option Addr) (pn : List (Addr × Obj)), Zc cls d oe → (∃ vs, oe.data = .fields vs) → PSs (X.suite a ((a, oe) :: pn)) (b₀ :: suite) (ts a cls d)) (r : Hds X hds l) :
      Hds X (.ExceptHandler (some (.Name x np)) none (b₀ :: suite) p :: hds) ((c, none, ts) :: l)
  | named {x n : Str} {i : Nat} {c : Value} {ts : Suite} {b₀ : Stmt} {suite : List Stmt} {np p : Pos} {hds : List ExceptHandler} {l : List (Value × Option Nat × Suite)} (hi : X.N[i]? = some n) (hln : X.env.kindOf n = some .local) (hc : Names X x c)
      (hsu : ∀ (a : Addr) (oe : Obj) (cls : Value) (d : Option Addr) (pn : List (Addr × Obj)), Zc cls d oe → (∃ vs, oe.data = .fields vs) → PSs (X.suite a ((a, oe) :: pn)) (b₀ :: suite) (ts a cls d)) (r : Hds X hds l) :
      Hds X (.ExceptHandler (some (.Name x np)) (some n) (b₀ :: suite) p :: hds) ((c, some i, ts) :: l)

section
variable {X : Cx} {Wout : WX}
/-- an exception that has landed in the frame: what the clauses may use -/
structure Landed (X : Cx) (pins : List (Addr × Obj)) (σ : L2.St) (H : Hp) (B : Heap) (a : Addr) (cls : Value) (d : Option Addr) (sI s' : Shared) (h3 : Heap) : Prop where
  J : Inv X pins σ H sI
  nb : ∀ b o, sI.heap.get? b = some o → b ∉ frs X.stack → B.get? b = some o
  up : sI.heap.UpToSlots h3
  os : s'.os = sI.os
  ag : AllBare s'.gens
  na : H a = none
  fl : HandSPX.FlyingZ B (X.env :: X.outer) a (Zc cls d) h3
theorem Landed.inv {pins : List (Addr × Obj)} {σ : L2.St} {H : Hp} {B : Heap} {a : Addr} {cls : Value} {d : Option Addr} {sI s' : Shared} {h3 : Heap} (L : Landed X pins σ H B a cls d sI s' h3) : Inv X pins σ H { s' with heap := h3 } :=
  L.J.landed L.nb L.fl.1 L.up L.os L.ag
/-- the error's object is none of the frames -/
theorem Landed.apart {pins : List (Addr × Obj)} {σ : L2.St} {H : Hp} {B : Heap} {a : Addr} {cls : Value} {d : Option Addr} {sI s' : Shared} {h3 : Heap} (L : Landed X pins σ H B a cls d sI s' h3) (hf : X.env.frame = some X.env.locals) :
    ∃ oe vs, h3.get? a = some oe ∧ Zc cls d oe ∧ oe.data = .fields vs ∧ a ≠ X.env.locals ∧ a ∉ X.fs := by
  obtain ⟨oe, vs, he, hz, hd⟩ := L.fl.there
  have nfr : a ∉ frs (X.env :: X.outer) := fun hm => by
    obtain ⟨_, o', e', hnf⟩ := L.fl.2.2.1.mem hm
    rw [he] at e'; cases e'
    exact hnf _ hd
  refine ⟨oe, vs, he, hz, hd, fun z => nfr (List.mem_filterMap.mpr ⟨X.env, List.mem_cons_self, by rw [hf, z]⟩), fun hm => ?_⟩
  obtain ⟨e, he, q⟩ := List.mem_filterMap.mp hm
  exact nfr (List.mem_filterMap.mpr ⟨e, List.mem_cons_of_mem _ he, q⟩)
theorem handle_mix (hs : X.stack = X.env :: X.outer) (hf : X.env.frame = some X.env.locals) (hN : X.N.Nodup) (tk : Takes X Wout) (ok : X.Ok) {pins : List (Addr × Obj)} {σ : L2.St} {H : Hp} {B : Heap} {a : Addr} {cls : Value} {d : Option Addr} {sI s' : Shared} {h3 : Heap} {D : Ends}
    (L : Landed X pins σ H B a cls d sI s' h3) : ∀ {hds : List ExceptHandler} {l : List (Value × Option Nat × Suite)}, Hds X hds l → wMix X.K Wout D l cls d σ H →
    wpAny (model X.prog X.w) X.A (handleBy (.ref a) X.env hds) (SP X pins D) X.xe { s' with heap := h3 } := by
  obtain ⟨oe3, vs3, he3, hz3, hd3, nL, nF⟩ := L.apart hf
  have J3 := L.inv
  have S3 := J3.suite he3 hd3 L.na nL nF
  have LT : PySem.W.Looks (model X.prog X.w) h3 (typeOf (.ref a)) cls := fun A Q E s k q => wpAny_typeOf_ref (k _ _ he3) (by rw [hz3.1]; exact q)
  have test : ∀ {x : Str} {c : Value} {np : Pos}, Names X x c → ∀ {Q : Value → Shared → Prop} {E : Value → Shared → Prop}, Q c { s' with heap := h3 } → wpAny (model X.prog X.w) (X.A.mark (some (.ref a))) (eval (.Name x np) X.env) Q E { s' with heap := h3 } := fun {x c np} hc {Q E} q => by
    obtain ⟨hg, hdbg, hm | ⟨hm, hv, hnn⟩⟩ := hc
    · exact ld_glob (X := X.suite a ((a, oe3) :: (X.pn ++ pins))) S3 hg hm q hdbg
    · exact ld_blt (X := X.suite a ((a, oe3) :: (X.pn ++ pins))) S3 hg hm hv q hnn hdbg
  intro hds l hk
  induction hk with
  | nil =>
    intro w
    refine wpAny_handleBy_nil ?_
    obtain ⟨_, _, _, oe, vs, T, oT, _, he, _, hd, h1, _⟩ := id L.fl
    unfold PySem.passOn
    refine wpAny_bind (wpAny_field he hd h1 ?_)
    rw [if_neg (show ¬ ((Value.ref T == Value.none) = true) from by simp)]
    have fin : wpAny (model X.prog X.w) X.A (setFlight (.ref a) X.env.frame) (fun _ s4 => wpAny (model X.prog X.w) X.A (throw (.ref a) : Sem Flow) (SP X pins D) X.xe s4) X.xe { s' with heap := h3 } := by
      rw [hf]
      refine HandSPX.setFlight_upZ L.fl fun h4 hh4 up4 => wpAny_throw (tk _ _ ?_)
      exact ⟨a, B, sI, pins, σ, H, cls, d, rfl, L.J, L.nb, L.up.trans up4, .inr (.inr (by rw [hs]; exact hh4)), L.na, L.os, L.ag, w⟩
    first
      | exact wpAny_bind (wpAny_pure (wpAny_bind fin))
      | exact wpAny_bind fin
  | @plain x c ts b₀ suite np p hds2 l2 hc hsu r ih =>
    rintro ⟨b, hb1, hyes, hno⟩
    refine wpAny_handleBy_cons (codeAny_handlers_test ?_) (by intro q; cases q)
    refine test hc ((PySem.W.exm_one (M := model X.prog X.w) J3.kIn LT hb1).here ?_)
    cases b with
    | true =>
      refine codeAny_handlers_suite ?_
      refine HandSPX.lands_againZ L.fl fun h4 fl4 up4 => ?_
      have L4 : Landed X pins σ H B a cls d sI s' h4 := ⟨L.J, L.nb, L.up.trans up4, L.os, L.ag, L.na, fl4⟩
      obtain ⟨oe4, vs4, he4, hz4, hd4, _, _⟩ := L4.apart hf
      refine wpAny_mono ((hsu a oe4 cls d (X.pn ++ pins) hz4 ⟨_, hd4⟩).run [] _ _ H _ (L4.inv.suite he4 hd4 L.na nL nF) (hyes rfl a L.na)) (fun f s6 hsp => ?_) (fun _ _ z => False.elim z)
      cases f with
      | ret u => obtain ⟨v6, σ6, H6, S6, r6, q6⟩ := hsp; exact ⟨_, _, _, S6.unsuite ok, r6, q6⟩
      | next => obtain ⟨σ6, H6, S6, q6⟩ := hsp; exact ⟨_, _, S6.unsuite ok, q6⟩
      | brk => obtain ⟨σ6, H6, S6, q6⟩ := hsp; exact ⟨_, _, S6.unsuite ok, q6⟩
      | cont => obtain ⟨σ6, H6, S6, q6⟩ := hsp; exact ⟨_, _, S6.unsuite ok, q6⟩
    | false =>
      show wpAny _ X.A (handleBy (.ref a) X.env hds2) _ _ _
      exact ih (hno rfl)
  | @named x n i c ts b₀ suite np p hds2 l2 hi hln hc hsu r ih =>
    rintro ⟨b, hb1, hyes, hno⟩
    refine wpAny_handleBy_cons (codeAny_handlers_test ?_) (by intro q; cases q)
    refine test hc ((PySem.W.exm_one (M := model X.prog X.w) J3.kIn LT hb1).here ?_)
    cases b with
    | true =>
      refine codeAny_handlers_suite_as ?_
      refine HandSPX.lands_againZ L.fl fun h4 fl4 up4 => ?_
      have L4 : Landed X pins σ H B a cls d sI s' h4 := ⟨L.J, L.nb, L.up.trans up4, L.os, L.ag, L.na, fl4⟩
      obtain ⟨oe4, vs4, he4, hz4, hd4, _, _⟩ := L4.apart hf
      refine store_ok (X := X.suite a ((a, oe4) :: (X.pn ++ pins))) (v := .ref a) (L4.inv.suite he4 hd4 L.na nL nF) hN hi (.inl hln) rfl (fun s5 S5 => ?_) (.inr hln)
      refine wpAny_mono ((hsu a oe4 cls d (X.pn ++ pins) hz4 ⟨_, hd4⟩).run [] s5 _ H _ S5 (hyes rfl a L.na)) (fun f s6 hsp => ?_) (fun _ _ z => False.elim z)
      cases f with
      | ret u => obtain ⟨v6, σ6, H6, S6, r6, q6⟩ := hsp; exact gone_ok (S6.unsuite ok) hN hi hln fun s7 J7 => ⟨_, _, _, J7, r6, q6⟩
      | next => obtain ⟨σ6, H6, S6, q6⟩ := hsp; exact gone_ok (S6.unsuite ok) hN hi hln fun s7 J7 => ⟨_, _, J7, q6⟩
      | brk => obtain ⟨σ6, H6, S6, q6⟩ := hsp; exact gone_ok (S6.unsuite ok) hN hi hln fun s7 J7 => ⟨_, _, J7, q6⟩
      | cont => obtain ⟨σ6, H6, S6, q6⟩ := hsp; exact gone_ok (S6.unsuite ok) hN hi hln fun s7 J7 => ⟨_, _, J7, q6⟩
    | false =>
      show wpAny _ X.A (handleBy (.ref a) X.env hds2) _ _ _
      exact ih (hno rfl)
theorem ps_try_mix {body : List Stmt} {h₀ : ExceptHandler} {hds : List ExceptHandler} {l : List (Value × Option Nat × Suite)} {pos : Pos} {tb : WX → TS} (hs : X.stack = X.env :: X.outer) (hf : X.env.frame = some X.env.locals) (hN : X.N.Nodup) (tk : Takes X Wout)
    (hb : ∀ (W : WX) (pn : List (Addr × Obj)) (xe : Value → Shared → Prop), Takes (X.tr pn xe) W → PassesOwn (model X.prog X.w) X.A X.env xe → PSs (X.tr pn xe) body (tb W))
    (hh : Hds X (h₀ :: hds) l) : PS X (.Try body (h₀ :: hds) [] [] pos) (fun D σ H => tb (wMix X.K Wout D l) D σ H) := by
  refine ⟨fun pins s σ H D I h => ?_⟩
  have ok := I.ok
  have hfr : X.A.frames = some (X.env :: X.outer) := by rw [ok.frames, hs]
  refine wpAny_Try_except ?_
  refine wpAny_mono ((hb (wMix X.K Wout D l) (X.pn ++ pins) (fun e s₁ => wpAny (model X.prog X.w) X.A (noteFrame e X.env) (fun _ s₂ => wpAny (model X.prog X.w) X.A (setFlight e none) (fun _ s₃ =>
    wpAny (model X.prog X.w) X.A (handleBy e X.env (h₀ :: hds)) (SP X pins D) X.xe s₃) X.xe s₂) X.xe s₁) (fun u s' xx => ?_) PassesOwn.looking).run [] s σ H D (I.toTry _) h) (fun f s1 hsp => ?_) (fun e s1 he => he)
  · obtain ⟨a, B, sI, pins', σ', H', cls, d, rfl, J', nb, up, sky, na, os, ag, w⟩ := xx
    have sky' : Sky B (X.env :: X.outer) a (Zc cls d) X.env.locals s'.heap := by rw [← hs]; exact sky
    show wpAny (model X.prog X.w) X.A (noteFrame (.ref a) X.env) _ _ _
    refine Sky.land Zc.steady hfr hf sky' fun h3 fl3 up3 => ?_
    exact handle_mix hs hf hN tk ok (s' := s') ⟨J'.ofTry ok, nb, up.trans up3, os, ag, na, fl3⟩ hh w
  · cases f with
    | next => obtain ⟨σ', H', J', q⟩ := hsp; exact wpAny_execs_nil ⟨σ', H', J'.ofTry ok, q⟩
    | brk => obtain ⟨σ', H', J', q⟩ := hsp; exact ⟨σ', H', J'.ofTry ok, q⟩
    | cont => obtain ⟨σ', H', J', q⟩ := hsp; exact ⟨σ', H', J'.ofTry ok, q⟩
    | ret u => obtain ⟨v, σ', H', J', r, q⟩ := hsp; exact ⟨v, σ', H', J'.ofTry ok, r, q⟩
end
end L3

namespace L3
open PySem PySem.Spec PyProof.Rows L2
/-- what TyOf asks of an own class -/
structure TyC (K : PySem.W.Frag) (C : Addr) : Prop where
  cl : Cls K C
  t1 : PySem.W.findIn K (.ref C) "__class__" = some (some (.builtin "object.__class__"))
  t2 : PySem.W.specialIn K (.builtin "object.__class__") "__get__" = some (some (.builtin "getset_descriptor.__get__"))
  t3 : PySem.W.takesIn K (.builtin "object.__class__") = some true
  t4 : PySem.W.mroIn K C (.type "object") = some true
theorem TyC.ty {K : PySem.W.Frag} {C : Addr} (T : TyC K C) {H : Hp} {a dx : Addr} {fs : List (Str × V)} (h : H a = some (.ins C dx fs)) : TyOf K H (.ref a) (.ref C) := .ins h T.cl T.t1 T.t2 T.t3 T.t4
theorem exm_of {K : PySem.W.Frag} {A B : Addr} {b : Bool} (h1 : PySem.W.subIn K (.ref B) (.type "BaseException") = some true) (h2 : PySem.W.isClsIn K B = true) (h3 : PySem.W.typeIn K (.ref B) = some (.type "type")) (h4 : PySem.W.subIn K (.ref A) (.ref B) = some b) :
    PySem.W.exmOne K (.ref A) (.ref B) = some b := by
  have e1 : (PySem.W.subIn K (.ref B) (.type "BaseException") == some true) = true := by rw [h1] <;> rfl
  have e2 : ((PySem.W.clsIn K B).isSome && PySem.W.typeIn K (.ref B) == some (.type "type")) = true := by
    have h2' : (PySem.W.clsIn K B).isSome = true := h2
    rw [h2', h3] <;> rfl
  unfold PySem.W.exmOne
  rw [if_pos e1]
  show (if ((PySem.W.clsIn K B).isSome && PySem.W.typeIn K (.ref B) == some (.type "type")) = true then PySem.W.subIn K (.ref A) (.ref B) else none) = some b
  rw [if_pos e2]
  exact h4
theorem binds_full {K : PySem.W.Frag} {fd : FuncData} {ps : List Str} {dvs : List V} {j : Nat} (h : ∃ ds, Vals (dvs.drop j) ds ∧ Binds K fd ps ds) (hj : dvs.length ≤ j := by decide) : Binds K fd ps [] := by
  obtain ⟨ds, r, b⟩ := h
  rw [List.drop_of_length_le hj] at r
  cases r
  exact b
open Builtin in
theorem bool_K {prog : Program} {w : World} {A : Around} {E : Value → Shared → Prop} {s : Shared} {x : Value} {Q : Value → Shared → Prop}
    (h : wpAny (model prog w) A.in1.in1 (truthy x) (fun b s' => Q (.bool b) s') E s) : wpAny (model prog w) A (call (.type "bool") [x]) Q E s := by
  refine callType_codes (T := "bool") (Bi := Builtin.«object.__init__») (Q₁ := fun r s₁ => ∃ b, r = .bool b ∧ Q r s₁) PySem.F.called_bool (PySem.F.typeCall_bool_1 _) PySem.F.entry_object_init ?_ ?_
  · refine codeAny_of_tree ?_
    show wpAny _ A.in1.in1 (do checkBuiltinCall "bool.__new__" ⟨[.type "bool", x], []⟩; again (.builtin "bool.__new__" ⟨[.type "bool", x], []⟩)) _ _ s
    refine wpAny_bind (wpAny_of_eq (PySem.F.newCall_bool_1 _) (wpAny_pure ⟨plainId_quiet (by decide +kernel) _, codeAny_builtin PySem.F.entry_bool_new ?_⟩))
    rw [Around.under_plainId (by decide +kernel) _]
    obtain ⟨hp, g, d, tk, os⟩ := s
    have f1 := PySem.F.conv_sub_bool
    repeat (any_goals (first | assumption | (with_reducible refine wpAny_bind (wpAny_mono h (fun b s' hb => ?_) fun _ _ y => y)) | wp_step))
    exact ⟨b, rfl, hb⟩
  · rintro obj s₁ ⟨b, rfl, hq⟩
    exact ⟨PySem.typeIs_bool _ _, PySem.F.args_object_init_2 _ _, object_init_meets PySem.F.called_bool.init.lookup PySem.F.called_bool.made (by decide) prog w A.in1 _ s₁ ⟨PySem.typeIs_bool _ _, rfl, hq⟩⟩
section
variable {X : Cx}
/-- o.f as a target -/
def gFld (K : PySem.W.Frag) (to : TE) (f : Str) : TG := fun v σ H Q => to σ H fun x H1 => ∃ a C dx fs, x = .ref a ∧ H1 a = some (.ins C dx fs) ∧ Cls K C ∧ NoAttr K C f ∧ fs.length < 1000 ∧ Q σ (upd H1 a (.ins C dx (putF f v fs)))
theorem pg_fld {o : Expr} {f : Str} {pos : Pos} {to : TE} (ho : PE X o to)
    (ha : ∀ v, assign (.Attribute o f pos) X.env v = (do
      let ov ← holding [v] (eval o X.env)
      standAt pos.atName
      holding [v, ov] (setAttr ov f v)
      release [v, ov] []) := by intro _; rfl) : PG X (.Attribute o f pos) (gFld X.K to f) := by
  refine ⟨fun pins s σ H v u Q I r h => ?_⟩
  rw [ha]
  refine wpAny_bind (wpAny_holding (thn (ho.run pins s σ H _ I h) fun ov s1 ⟨x, H1, I1, r1, a, C, dx, fs, ex, ea, c, n, l, q1⟩ => ?_))
  subst ex
  obtain rfl : ov = Value.ref a := r1
  refine wpAny_bind (wpAny_standAt (wpAny_bind (wpAny_holding (setattr_ok I1 ea c n l r fun s3 I3 => ?_))))
  exact wpAny_release ⟨σ, _, I3, q1⟩
/-- // by any divisor but 0, below 2 ^ 9000 in size -/
def CDivS (_ j : Int) : Prop := j ≠ 0 ∧ j.natAbs.log2 < 9000
theorem op_fdivN2 : OpR X (binaryOp .FloorDiv) (rI CDivS fun i j => .int (i.fdiv j)) := opI fun i j _ _ _ _ _ hc q => floordiv_int hc.1 q (.inl (PyProof.noPylong_of_log2 hc.2))
def CPowW (i j : Int) : Prop := 0 ≤ j ∧ (Builtin.Int.intBits i : Int) * j ≤ 2 ^ 27
theorem op_powW : OpR X (binaryOp .Pow) (rI CPowW fun i j => .int (i ^ j.toNat)) := opI fun _ _ _ _ _ _ _ hc q => pow_int hc.1 hc.2 q
/-- bool(x), by a TruR one room deeper -/
theorem call_ownBool {CX : CXT} {k : Nat} {C f : Addr} {fd : FuncData} {ps : List Str} {sp : Sp} {E : XK} (o : Own X.K C "__bool__" f) (F : FnOk X.prog X.w X.K X.mg X.base CX k f fd ps sp) (hr : Room (k + 2) X.A) (hb : Binds X.K fd ps []) (hx : Passes CX X E) :
    CallR X (.type "bool") (fun xs H Q => ∃ x, xs = [x] ∧ rOwn1 C sp E x H (fun v H' => ∃ z, v = .bl z ∧ Q (.bl z) H')) := by
  intro pins s σ H xs us Q I r h
  obtain ⟨_, rfl, a, dx, fs, rfl, ea, h⟩ := h
  obtain ⟨u, rfl, rx⟩ := vals1 r
  cases (show u = Value.ref a from rx)
  obtain ⟨mA, O, _⟩ := ins_get I.hok ea
  obtain ⟨od, J, _⟩ := O.look
  obtain ⟨m, hF⟩ := I.fr
  refine bool_K (PySem.W.truthy_K hF I.ok.mod.kin J o.at_ o.fn (wpAny_mono (run_in (us := [.ref a]) (vs := [.ref a]) F hr.in1.in1 I.env0.in1.in1 hb hx I (.cons rfl .nil) h) (fun u s' q => ?_) fun _ _ y => y))
  obtain ⟨v, H', I', rv, z, rfl, q⟩ := q
  cases (show u = Value.bool z from rv)
  exact ⟨.bl z, H', I', rfl, q⟩
end
end L3

namespace L3
open PySem PySem.Spec PyProof.Rows L2
section
variable {X : Cx}
/-- not e as a value, by a TruR -/
theorem pe_notTru {a : Expr} {ta : TE} {r : V → Hp → (Bool → Hp → Prop) → Prop} {pos : Pos} (ht : TruR X r) (ha : PE X a ta) : PE X (.UnaryOp .Not a pos) (fun σ H Q => ta σ H fun x H' => r x H' fun c H2 => Q (.bl (!c)) H2) := by
  refine ⟨fun pins s σ H Q I h => ?_⟩
  refine UnaryOp_ (thn (ha.run pins s σ H _ I h) fun v s1 ⟨x, H1, I1, r1, q1⟩ => ?_)
  exact not_of (thn (ht pins s1 σ H1 x v _ I1 r1 q1) fun c s2 ⟨H2, I2, q2⟩ => ⟨.bl (!c), H2, I2, rfl, q2⟩)
/-- a text times a number -/
theorem op_rep_str : OpR X (binaryOp .Mult) (fun x y H Q => ∃ z n, x = .str z ∧ y = .int n ∧ PySem.MulOk z n ∧ Q (.str (PySem.Txt.mul z n)) H) := by
  intro pins s σ H x y v u Q I rx ry h
  obtain ⟨i, j, rfl, rfl, hz, q⟩ := h
  obtain ⟨t, rfl⟩ := rx
  obtain ⟨t', rfl⟩ := ry
  exact SB.mul hz (fun t' tk => ⟨.str (PySem.Txt.mul i j), H, I.tok _, ⟨_, rfl⟩, q⟩)
end
end L3

namespace L3
open PySem PySem.Spec PyProof.Rows L2
section
variable {X : Cx}
/-- str of an int of at most 4300 digits -/
theorem call_str_intD (hD : PySem.W.nsIn X.K cStatics "sys.int_max_str_digits" = some none) (hc : X.calm = true) : CallR X (.type "str") (fun xs H Q => ∃ i, xs = [.int i] ∧ i.natAbs < 10 ^ 4300 ∧ Q (.str (toString i)) H) := by
  intro pins s σ H xs us Q I r h
  obtain ⟨i, rfl, hz, q⟩ := h
  obtain ⟨u, rfl, t, rfl⟩ := vals1 r
  obtain ⟨mc, hn, _⟩ := I.nolimit
  refine str_of_int_or (I.ok.hd hc) ⟨mc, hn, PySem.W.ns_none_of I.kIn hn hD⟩ (fun _ => ⟨.str (toString i), H, I.tok _, ⟨_, rfl⟩, q⟩) (fun hge => ?_)
  exact absurd hz (Nat.not_lt.mpr hge)
/-- // by a divisor of any size, or of one so great that the other is not far greater -/
def CDivX (i j : Int) : Prop := j ≠ 0 ∧ (j.natAbs.log2 < 9000 ∨ i.natAbs.log2 ≤ j.natAbs.log2 + 4400)
theorem CDivX.ok {i j : Int} (h : CDivX i j) : Builtin.divisionGoesByPylong i j = false := by
  rcases h.2 with h2 | h2
  · exact PyProof.noPylong_of_log2 h2
  · have hj : (j == 0) = false := by simpa using h.1
    have k1 : (if (j == 0) = true then 0 else j.natAbs.log2 / 30 + 1) = j.natAbs.log2 / 30 + 1 := by rw [hj] <;> rfl
    have k2 : (if (i == 0) = true then 0 else i.natAbs.log2 / 30 + 1) ≤ j.natAbs.log2 / 30 + 1 + 150 := by
      split <;> omega
    show (decide ((if (j == 0) = true then 0 else j.natAbs.log2 / 30 + 1) > 300) && decide ((if (i == 0) = true then 0 else i.natAbs.log2 / 30 + 1) > (if (j == 0) = true then 0 else j.natAbs.log2 / 30 + 1) + 150)) = false
    rw [Bool.and_eq_false_iff]
    exact .inr (decide_eq_false (by omega))
theorem op_fdivX : OpR X (binaryOp .FloorDiv) (rI CDivX fun i j => .int (i.fdiv j)) := opI fun i j _ _ _ _ _ hc q => floordiv_int hc.1 q (.inl hc.ok)
variable {CX : CXT} {k : Nat} {C f : Addr} {fd : FuncData} {ps : List Str} {sp : Sp} {E : XK} {m : Str}
/-- two instances of the class, by the class's own method -/
def rOwnB (C : Addr) (sp : Sp) (E : XK) : R2 := fun x y H Q => ∃ a b dx dy fs gs, x = .ref a ∧ y = .ref b ∧ H a = some (.ins C dx fs) ∧ H b = some (.ins C dy gs) ∧ sp [.ref a, .ref b] H Q E
theorem op_ownBin {op : Operator} (hm : PySem.dunder op.info.2 = m) (sf : PySem.W.selfFirst X.K C = true) (ty : L3.TyC X.K C) (o : Own X.K C m f) (F : FnOk X.prog X.w X.K X.mg X.base CX k f fd ps sp) (hr : Room k X.A) (hb : Binds X.K fd ps []) (hx : Passes CX X E) :
    OpR X (binaryOp op) (rOwnB C sp E) := by
  intro pins s σ H x y v u Q I rx ry h
  obtain ⟨a, b, dx, dy, fs, gs, rfl, rfl, ea, eb, h⟩ := h
  cases (show v = Value.ref a from rx)
  cases (show u = Value.ref b from ry)
  obtain ⟨mA, O, _⟩ := ins_get I.hok ea
  obtain ⟨od, J, _⟩ := O.look
  obtain ⟨m', hF⟩ := I.fr
  subst hm
  refine PySem.W.binop_K hF I.ok.mod.kin J (tyLooks I ry (ty.ty eb)) sf o.at_ o.fn (wpAny_mono (run_in (us := [.ref a, .ref b]) (vs := [.ref a, .ref b]) F hr I.env0 hb hx I (.cons rfl (.cons rfl .nil)) h) (fun u s' q => ?_) fun _ _ y => y)
  obtain ⟨z, H', I', rz, q⟩ := q
  have key : ∀ w : Value, RelV z w → w ≠ .notImplemented := fun w r e => by
    subst e
    cases z <;> first | (cases r; done) | (obtain ⟨_, r⟩ := r; cases r)
  have e := key u rz
  cases u <;> first | exact (e rfl).elim | exact ⟨z, H', I', rz, q⟩
theorem op_ownAdd (sf : PySem.W.selfFirst X.K C = true) (ty : L3.TyC X.K C) (o : Own X.K C "__add__" f) (F : FnOk X.prog X.w X.K X.mg X.base CX k f fd ps sp) (hr : Room k X.A) (hb : Binds X.K fd ps []) (hx : Passes CX X E) : OpR X (binaryOp .Add) (rOwnB C sp E) := op_ownBin (by decide +kernel) sf ty o F hr hb hx
theorem op_ownSub (sf : PySem.W.selfFirst X.K C = true) (ty : L3.TyC X.K C) (o : Own X.K C "__sub__" f) (F : FnOk X.prog X.w X.K X.mg X.base CX k f fd ps sp) (hr : Room k X.A) (hb : Binds X.K fd ps []) (hx : Passes CX X E) : OpR X (binaryOp .Sub) (rOwnB C sp E) := op_ownBin (by decide +kernel) sf ty o F hr hb hx
theorem op_ownMul (sf : PySem.W.selfFirst X.K C = true) (ty : L3.TyC X.K C) (o : Own X.K C "__mul__" f) (F : FnOk X.prog X.w X.K X.mg X.base CX k f fd ps sp) (hr : Room k X.A) (hb : Binds X.K fd ps []) (hx : Passes CX X E) : OpR X (binaryOp .Mult) (rOwnB C sp E) := op_ownBin (by decide +kernel) sf ty o F hr hb hx
end
end L3

namespace L3
open PySem PySem.Spec PyProof.Rows L2
theorem takes_len {X : Cx} {W : WX} (t : Takes X W) : Takes X (fun c d σ H => σ.length = X.N.length → W c d σ H) := fun u s' ⟨a, B, sI, pins, σ, H, cls, d, e, I, nb, up, sky, na, os, ag, w⟩ =>
  t u s' ⟨a, B, sI, pins, σ, H, cls, d, e, I, nb, up, sky, na, os, ag, w I.len⟩
/-- try with its clauses, all that the body lets out told by one word -/
theorem ps_tryE {X : Cx} {t : XK → TS} {body : List Stmt} {h₀ : ExceptHandler} {hds : List ExceptHandler} {l : List (Value × Option Nat × Suite)} {pos : Pos} (hs : X.stack = X.env :: X.outer) (hf : X.env.frame = some X.env.locals) (hN : X.N.Nodup)
    (hb : ∀ (W : WX) (pn : List (Addr × Obj)) (xe : Value → Shared → Prop) (Ech : XK), Takes (X.tr pn xe) W → (∀ cls d σ' H', Ech cls d H' → σ'.length = X.N.length → W cls d σ' H') → PSs (X.tr pn xe) body (t Ech)) (hh : Hds X (h₀ :: hds) l) :
    PS X (.Try body (h₀ :: hds) [] [] pos) (fun D σ H => ∃ Ech : XK, (∀ cls d σ' H', Ech cls d H' → σ'.length = X.N.length → wMix X.K (fun _ _ _ _ => False) D l cls d σ' H') ∧ t Ech D σ H) :=
  ps_try_mix (Wout := fun _ _ _ _ => False) (tb := fun W D σ H => ∃ Ech : XK, (∀ cls d σ' H', Ech cls d H' → σ'.length = X.N.length → W cls d σ' H') ∧ t Ech D σ H) hs hf hN LamX.takes0
    (fun W pn xe tk _ => ⟨fun pins s σ H D I ⟨Ech, hW, h⟩ => (hb W pn xe Ech tk hW).run pins s σ H D I h⟩) hh
end L3

namespace L3
open PySem PySem.Spec PyProof.Rows L2
section
variable {X : Cx}
/-- a list of whatever items against one of another length -/
def rNeLen : R2 := fun x y H Q => ∃ a b xs ys, x = .ref a ∧ y = .ref b ∧ H a = some (.lst xs) ∧ H b = some (.lst ys) ∧ xs.length ≠ ys.length ∧ Q (.bl true) H
def rEqLen : R2 := fun x y H Q => ∃ a b xs ys, x = .ref a ∧ y = .ref b ∧ H a = some (.lst xs) ∧ H b = some (.lst ys) ∧ xs.length ≠ ys.length ∧ Q (.bl false) H
theorem op_neLen (hu : X.A.units < cLine) : OpR X (compareOp .NotEq) rNeLen := by
  intro pins s σ H x y v u Q I rx ry h
  obtain ⟨a, b, xs, ys, rfl, rfl, ea, eb, hl, q⟩ := h
  cases (show v = Value.ref a from rx)
  cases (show u = Value.ref b from ry)
  obtain ⟨_, us, n, r1, g1⟩ := (show ObjOk X.prog X.w H s.heap a (.lst xs) from I.hok a _ ea)
  obtain ⟨_, vs, m, r2, g2⟩ := (show ObjOk X.prog X.w H s.heap b (.lst ys) from I.hok b _ eb)
  have hne : (us.toArray.size != vs.toArray.size) = true := by
    rw [List.size_toArray, List.size_toArray, ← r1.length, ← r2.length]
    simpa using hl
  refine wpAny_richCompare_same_room (op := .NotEq) ⟨_, g1, rfl⟩ ⟨_, g2, rfl⟩ F.slot_list_ne (GQ.call_here F.slot_list_ne ⟨_, g1, rfl⟩ F.entry_list_ne (F.args_list_ne_2 _ _) ?_) hu
  exact SeqAt.list_ne_lengthsAt a b _ _ _ _ _ _ _ _ hne _ _ _ _ _ ⟨g1, g2, (fun z => nomatch z), .bl true, H, I, rfl, q⟩
theorem op_eqLen (hu : X.A.units < cLine) : OpR X (compareOp .Eq) rEqLen := by
  intro pins s σ H x y v u Q I rx ry h
  obtain ⟨a, b, xs, ys, rfl, rfl, ea, eb, hl, q⟩ := h
  cases (show v = Value.ref a from rx)
  cases (show u = Value.ref b from ry)
  obtain ⟨_, us, n, r1, g1⟩ := (show ObjOk X.prog X.w H s.heap a (.lst xs) from I.hok a _ ea)
  obtain ⟨_, vs, m, r2, g2⟩ := (show ObjOk X.prog X.w H s.heap b (.lst ys) from I.hok b _ eb)
  have hne : (us.toArray.size != vs.toArray.size) = true := by
    rw [List.size_toArray, List.size_toArray, ← r1.length, ← r2.length]
    simpa using hl
  refine wpAny_richCompare_same_room (op := .Eq) ⟨_, g1, rfl⟩ ⟨_, g2, rfl⟩ F.slot_list_eq (GQ.call_here F.slot_list_eq ⟨_, g1, rfl⟩ F.entry_list_eq (F.args_list_eq_2 _ _) ?_) hu
  exact SeqAt.list_eq_lengthsAt a b _ _ _ _ _ _ _ _ hne _ _ _ _ _ ⟨g1, g2, (fun z => nomatch z), .bl false, H, I, rfl, q⟩
/-- a tuple of whatever items against the empty one -/
def rNeTup0 : R2 := fun x y H Q => ∃ a b xs, x = .ref a ∧ y = .ref b ∧ H a = some (.tup xs) ∧ H b = some (.tup []) ∧ Q (.bl (!xs.isEmpty)) H
theorem op_neTup0 (hu : X.A.units < cLine) : OpR X (compareOp .NotEq) rNeTup0 := by
  intro pins s σ H x y v u Q I rx ry h
  obtain ⟨a, b, xs, rfl, rfl, ea, eb, q⟩ := h
  cases (show v = Value.ref a from rx)
  cases (show u = Value.ref b from ry)
  obtain ⟨us, r1, g1, z1⟩ := I.tuple (SqT.of ea)
  obtain ⟨vs, r2, g2, z2⟩ := I.tuple (SqT.of eb)
  cases r2
  obtain ⟨⟨cls, dd, data, sl⟩, ho, hc, n, hd⟩ := id g1
  obtain ⟨⟨cls2, dd2, data2, sl2⟩, ho2, hc2, n2, hd2⟩ := id g2
  simp only at hc hd hc2 hd2
  subst hc hd hc2 hd2
  refine wpAny_richCompare_same_room (op := .NotEq) ⟨_, ho, rfl⟩ ⟨_, ho2, rfl⟩ F.slot_tuple_ne (GQ.call_here F.slot_tuple_ne ⟨_, ho, rfl⟩ F.entry_tuple_ne (F.args_tuple_ne_2 _ _) ?_) hu
  refine SeqAt.tuple_neAt a b _ _ _ _ _ _ _ _ (fun _ => true) _ _ _ _ _ ⟨ho, ho2, fun j _ h2 => absurd h2 (Nat.not_lt_zero j), (fun z => nomatch z), .bl (!xs.isEmpty), H, I, ?_, q⟩
  have e : (!((List.range (min us.toArray.size ([] : List Value).toArray.size)).all (fun _ => true) && us.toArray.size == ([] : List Value).toArray.size)) = !xs.isEmpty := by
    cases r1 <;> simp
  show Value.bool _ = Value.bool _
  rw [e]
/-- .. against the empty list -/
def rNeNil (K : PySem.W.Frag) : R2 := fun x y H Q => ∃ a b xs, x = .ref a ∧ y = .ref b ∧ H a = some (.lst xs) ∧ H b = some (.lst []) ∧ Q (.bl (!xs.isEmpty)) H
def rEqNil (K : PySem.W.Frag) : R2 := fun x y H Q => ∃ a b xs, x = .ref a ∧ y = .ref b ∧ H a = some (.lst xs) ∧ H b = some (.lst []) ∧ Q (.bl xs.isEmpty) H
theorem op_neNil (hu : X.A.units + 64 < cLine) : OpR X (compareOp .NotEq) (rNeNil X.K) := by
  intro pins s σ H x y v u Q I rx ry h
  obtain ⟨a, b, xs, rfl, rfl, ea, eb, q⟩ := h
  cases xs with
  | nil => exact op_neD hu pins s σ H _ _ v u Q I rx ry ⟨_, _, .lst (SqL.of ea) .nil, .lst (SqL.of eb) .nil, rfl, rfl, q⟩
  | cons z zs => exact op_neLen (by omega) pins s σ H _ _ v u Q I rx ry ⟨a, b, _, _, rfl, rfl, ea, eb, (by simp), q⟩
theorem op_eqNil (hu : X.A.units + 64 < cLine) : OpR X (compareOp .Eq) (rEqNil X.K) := by
  intro pins s σ H x y v u Q I rx ry h
  obtain ⟨a, b, xs, rfl, rfl, ea, eb, q⟩ := h
  cases xs with
  | nil => exact op_eqD hu pins s σ H _ _ v u Q I rx ry ⟨_, _, .lst (SqL.of ea) .nil, .lst (SqL.of eb) .nil, rfl, rfl, q⟩
  | cons z zs => exact op_eqLen (by omega) pins s σ H _ _ v u Q I rx ry ⟨a, b, _, _, rfl, rfl, ea, eb, (by simp), q⟩
end
end L3

/-! int(text) of up to 4300 digits; {n} of as many -/
namespace L3
open PySem PySem.Spec PySem.W PySem.Calls PySem.NumText PyProof.Rows L2
theorem max_digits {M : Model} {A : Around} {E : Value → Shared → Prop} {s : Shared} {Q : Nat → Shared → Prop} (hn : s.heap.NoDigits) (h : Q 4300 s) : wpAny M A Builtin.intMaxStrDigits Q E s := by
  obtain ⟨mc, hns, hnone⟩ := hn
  unfold Builtin.intMaxStrDigits
  refine wpAny_bind (wpAny_nsGet hns ?_)
  rw [hnone]
  exact wpAny_pure h
theorem wp_textL {M : Model} {A : Around} {E : Value → Shared → Prop} {s : Shared} {Q : Value → Shared → Prop} {v : Value} {text : List Nat} {n : Int} (hn : s.heap.NoDigits)
    (hs : ¬ (text.takeWhile (· != 0)).length ≤ 640) (hr : (int_private% "readNumeral") 4300 10 (text.takeWhile (· != 0)) = (int_private% "Numeral.value") n)
    (ha : ((text.takeWhile (· != 0)).length == text.length) = true) (h : Q (.int n s.toks) { s with toks := s.toks + 1 }) :
    wpAny M A ((int_private% "intFromText") v text 10) Q E s := by
  obtain ⟨hp, g, d, tk, os⟩ := s
  repeat (any_goals (first
    | assumption
    | (with_reducible refine wpAny_ite_false (decide_eq_false hs) ?_)
    | (with_reducible refine wpAny_ite_true (decide_eq_true ha) ?_)
    | ((with_reducible show wpAny _ _ Builtin.intMaxStrDigits _ _ _); refine max_digits hn ?_)
    | wp_step))
  all_goals (try rw [hr])
  all_goals (try dsimp only)
  repeat (any_goals (first
    | assumption
    | (with_reducible refine wpAny_ite_true (decide_eq_true ha) ?_)
    | wp_step))
structure HidL (p : Prop) : Prop where
  out : p
theorem meets_textL {x : PySem.Str} {u : Tok} {n : Int} (hs : ¬ (numSeenOf x).length ≤ 640) (hr : (int_private% "readNumeral") 4300 10 (numSeenOf x) = (int_private% "Numeral.value") n) (ha : ((numSeenOf x).length == (numTextOf x).length) = true) :
    Meets (Builtin.«int.__new__» ⟨[.type "int", .str x u], []⟩) (fun _ R s => s.heap.NoDigits ∧ R (.ok (.ret (.int n s.toks))) { s with toks := s.toks + 1 }) := fun prog w A R s h => by
  obtain ⟨hp, g, d, tk, os⟩ := s
  obtain ⟨hn, h⟩ := h
  have f1 := F.conv_sub_int
  have f2 := F.madeHere_int
  have f3 := KIN.str_int
  have f4 := KIN.str_idx
  have f5 := KIN.str_trunc
  have f6 : typeOf (.str x u) = pure (.type "str") := rfl
  have hk := HidL.mk (And.intro hs (And.intro hr ha))
  have hd := HidL.mk hn
  clear hs hr ha hn
  repeat (any_goals (first
    | assumption
    | ((with_reducible show wpAny _ _ ((int_private% "intFromText") _ _ _) _ _ _); refine wp_textL hd.out hk.out.1 hk.out.2.1 hk.out.2.2 ?_)
    | wp_step))
theorem gives_textS {x : PySem.Str} {u : Tok} {n : Int} (hs : (numSeenOf x).length ≤ 640) (hr : (int_private% "readNumeral") 0 10 (numSeenOf x) = (int_private% "Numeral.value") n) (ha : ((numSeenOf x).length == (numTextOf x).length) = true) :
    Gives (Builtin.«int.__new__» ⟨[.type "int", .str x u], []⟩) (.int n) :=
  .of_wp fun M A E s Q h => by
    obtain ⟨hp, g, d, tk, os⟩ := s
    have f1 := F.conv_sub_int
    have f2 := F.madeHere_int
    have f3 := KIN.str_int
    have f4 := KIN.str_idx
    have f5 := KIN.str_trunc
    have f6 : typeOf (.str x u) = pure (.type "str") := rfl
    have hk := HidL.mk (And.intro hs (And.intro hr ha))
    clear hs hr ha
    repeat (any_goals (first
      | assumption
      | ((with_reducible show wpAny _ _ ((int_private% "intFromText") _ _ _) _ _ _); refine KIN.wp_text hk.out.1 hk.out.2.1 hk.out.2.2 ?_)
      | wp_step))
    all_goals first | exact ⟨_, rfl, h⟩ | skip
section
variable {X : Cx}
theorem call_int_strL (hD : PySem.W.nsIn X.K cStatics "sys.int_max_str_digits" = some none) : CallR X (.type "int") (fun xs H Q => ∃ a n, xs = [.str a] ∧ PySem.intText? a = some n ∧ a.length ≤ sizeLine ∧ Q (.int n) H) := by
  intro pins s σ H xs us Q I rs h
  obtain ⟨a, n, rfl, hn, hl, h⟩ := h
  obtain ⟨u, rfl, t, rfl⟩ := vals1 rs
  have q : EP X pins σ Q (.int n s.toks) { s with toks := s.toks + 1 } := ⟨.int n, H, I.tok _, ⟨_, rfl⟩, h⟩
  by_cases hs : (numSeenOf a).length ≤ 640
  · rcases read0 a hs with ⟨m, h1, h2, h3⟩ | ⟨h1, _⟩
    · rw [hn] at h1
      cases h1
      exact call_int_1 (gives_textS hs h3 h2).meets (show (Made.int n).post _ s from ⟨rfl, q⟩)
    · rw [hn] at h1
      cases h1
  · obtain ⟨mc, hns, _⟩ := I.nolimit
    rcases read4300 a hl with ⟨m, h1, h2, h3⟩ | ⟨h1, _⟩
    · rw [hn] at h1
      cases h1
      exact call_int_1 (meets_textL hs h3 h2) ⟨⟨mc, hns, PySem.W.ns_none_of I.kIn hns hD⟩, rfl, q⟩
    · rw [hn] at h1
      cases h1
end
end L3

/-! {n} of up to 4300 digits -/
namespace L3
open PySem PySem.Spec PySem.W PySem.Calls PyProof.Rows L2
section
variable {prog : Program} {w : World} {A : Around} {E : Value → Shared → Prop} {s : Shared}
theorem formatField_intD {a : Int} {t : Tok} {Q : Value → Shared → Prop} (hh : A.handled = none) (hn : s.heap.NoDigits) (hd : a.natAbs < 10 ^ 4300)
    (h : Q (.str (toString a) (s.toks + 1)) { s with toks := s.toks + 1 + 1 }) : wpAny (model prog w) A (formatField (.int a t) Str.empty) Q E s := by
  show wpAny _ _ (holding [.int a t] (pyFormat (.int a t) Str.empty)) Q E s
  refine wpAny_holding ?_
  unfold pyFormat
  refine wpAny_bind (wpAny_mkStr ?_ (by decide))
  refine wpAny_bind (m := callSpecial? (.int a t) (Str.ofString "__format__") [.str Str.empty s.toks]) (wpAny_callSpecial?_slot (name := Str.ofString "__format__") (typeIs_int _ a t) F.slot_int_format
    (wpAny_call (codeAny_call_builtin F.slot_int_format.plain F.entry_int_format (F.slot_int_format.check _ _ _ _ _ _ _ _ (typeIs_int _ a t) (F.args_int_format_2 _ _) ?_))))
  show wpAny _ _ (do let _kind ← typeNameOf (.str Str.empty s.toks); (do rule "int.format.empty"; again (.builtin "int.__repr__" ⟨[.int a t], []⟩))) _ _ _
  refine wpAny_bind (wpAny_typeNameOf (typeIs_str _ _ _) (by decide) fun n => ?_)
  refine wpAny_bind (wpAny_rule ?_)
  refine wpAny_pure ⟨Code.quiet_builtin _ (by decide +kernel), ?_⟩
  refine code_int_repr hh hn (fun _ => ?_) (fun h2 => absurd hd (Nat.not_lt.mpr h2))
  show wpAny _ _ (do if ← isInstance (.str (toString a) (s.toks + 1)) (.type "str") then return (.str (toString a) (s.toks + 1)) else _) Q E _
  exact wpAny_bind (wpAny_isInstance (typeIs_str _ _ _) isSubtype_str_str (wpAny_pure h))
end
section
variable {X : Cx}
def tFmtD (te : TE) : TE := fun σ H Q => te σ H fun x H1 => ∃ i : Int, x = .int i ∧ i.natAbs < 10 ^ 4300 ∧ Q (.str (toString i)) H1
theorem pe_fmtD {e : Expr} {te : TE} {pos : Pos} (hD : PySem.W.nsIn X.K cStatics "sys.int_max_str_digits" = some none) (hc : X.calm = true) (he : PE X e te) : PE X (.FormattedValue e (-1) none pos) (tFmtD te) := by
  refine ⟨fun pins s σ H Q I h => ?_⟩
  refine wpAny_FormattedValue_plain (thn (he.run pins s σ H _ I h) fun v s1 hv => ?_)
  obtain ⟨x, H1, I1, r1, i, rfl, hz, q⟩ := hv
  obtain ⟨t, rfl⟩ := r1
  obtain ⟨mc, hn, _⟩ := I1.nolimit
  exact formatField_intD (I1.ok.hd hc) ⟨mc, hn, PySem.W.ns_none_of I1.kIn hn hD⟩ hz ⟨.str (toString i), H1, I1.tok _, ⟨_, rfl⟩, q⟩
end
end L3

/-! != of tuples and lists whose items are equal by an own __eq__ -/
namespace L3
open PySem PySem.Spec PyProof.Rows L2
open AutoSeq1 (wpAny_loadPart')
section
variable {prog : Program} {w : World} {A : Around} {R : Result → Shared → Prop} {E : Value → Shared → Prop}
/-- the i-th turn of a comparison says equal and keeps J -/
def Turns (prog : Program) (w : World) (A : Around) (E : Value → Shared → Prop) (us vs : Array Value) (J : Nat → Shared → Prop) : Prop :=
  ∀ i (h1 : i < us.size) (h2 : i < vs.size) (s : Shared), J i s → wpAny (model prog w) A.in1 (eqBool us[i] vs[i]) (fun r s' => r = true ∧ J (i + 1) s') E s
theorem ne_tuple_all {p q : Addr} {us vs : Array Value} {n m : Nat} {d1 d2 : Option Addr} {t1 t2 : Array (Option Value)} (sz : us.size = vs.size) (J : Nat → Shared → Prop) (tn : Turns prog w A (fun e s' => R (.error e) s') us vs J)
    (done : ∀ s, J us.size s → R (.ok (.ret (.bool false))) s) {s : Shared} (hp : s.heap.get? p = some ⟨.type "tuple", d1, .seq us n, t1⟩) (hq : s.heap.get? q = some ⟨.type "tuple", d2, .seq vs m, t2⟩) (j0 : J 0 s) :
    wpAny (model prog w) A.in1 (Builtin.«tuple.__ne__» ⟨[.ref p, .ref q], []⟩) (GQ.FinOf prog w A R) (fun e s' => R (.error e) s') s := by
  have ff := AutoSeq1.sub_tuple_tuple
  have zl : (us.toList.zip vs.toList).length = us.size := by simp [sz]
  have j0' := j0
  obtain ⟨hh, gg, dd, tt, oo⟩ := s
  wp_walk using wpAny_loadPart' hp, wpAny_loadPart' hq, wpAny_forIn_list _ (fun left c z => c.1 = none ∧ ∃ i, left = (us.toList.zip vs.toList).drop i ∧ i ≤ us.size ∧ J i z) _
  case turn =>
    rintro ⟨a, b⟩ left c z ⟨c0, i, el, ile, ji⟩
    have il : i < (us.toList.zip vs.toList).length := by
      refine Nat.lt_of_not_le fun ge => ?_
      rw [List.drop_of_length_le ge] at el
      cases el
    have i1 : i < us.size := zl ▸ il
    have i2 : i < vs.size := sz ▸ i1
    rw [List.drop_eq_getElem_cons il] at el
    injection el with e0 e1
    have ea : a = us[i] := by
      have := congrArg Prod.fst e0
      simpa using this
    have eb : b = vs[i] := by
      have := congrArg Prod.snd e0
      simpa using this
    subst ea eb
    refine wpAny_bind (wpAny_mono (tn i i1 i2 z ji) (fun r z2 k => ?_) fun _ _ y => y)
    obtain ⟨rfl, k⟩ := k
    wp_walk
    exact ⟨rfl, i + 1, e1, i1, k⟩
  case fin =>
    rintro ⟨c1, c2⟩ z ⟨c0, i, el, ile, ji⟩
    simp only at c0
    subst c0
    have ie : i = us.size := by
      refine Nat.le_antisymm ile (Nat.le_of_not_lt fun lt => ?_)
      rw [List.drop_eq_getElem_cons (by rw [zl]; exact lt)] at el
      cases el
    subst ie
    have fin := done z ji
    wp_walk
    simpa [Builtin.Tuple.tupleCompareSizes, sz] using fin
  case h =>
    exact ⟨rfl, 0, rfl, Nat.zero_le _, j0'⟩
end
section
variable {X : Cx} {n : Nat} {D : Eqv}
def rNeG (D : Eqv) : R2 := fun x y H Q => D x y H ∧ ∀ H', L2.Ext H H' → Q (.bl false) H'
/-- != of two tuples, item by item equal -/
theorem op_neGT (mD : Mon D) (h : EqG X n D) (hr : Room (n + 1) X.A) : OpR X (compareOp .NotEq) (rNeG (DTup X.K D)) := by
  intro pins s σ H x y v u Q I rx ry hq
  obtain ⟨⟨a, b, xs, ys, rfl, rfl, ha, hb, p⟩, q⟩ := hq
  cases rx
  cases ry
  obtain ⟨us, r1, g1, z1⟩ := I.tuple ha
  obtain ⟨vs, r2, g2, z2⟩ := I.tuple hb
  have sz : us.toArray.size = vs.toArray.size := by rw [List.size_toArray, List.size_toArray, ← r1.length, ← r2.length]; exact p.1
  obtain ⟨⟨cls, dd, data, sl⟩, ho, hc, k1, hd⟩ := id g1
  obtain ⟨⟨cls2, dd2, data2, sl2⟩, ho2, hc2, k2, hd2⟩ := id g2
  simp only at hc hd hc2 hd2
  subst hc hd hc2 hd2
  have sb : Sub X (n + 1) X.A := ⟨hr, rfl⟩
  refine wpAny_richCompare_same_room (op := .NotEq) ⟨_, ho, rfl⟩ ⟨_, ho2, rfl⟩ F.slot_tuple_ne (GQ.call_here F.slot_tuple_ne ⟨_, ho, rfl⟩ F.entry_tuple_ne (F.args_tuple_ne_2 _ _) ?_) sb.room.units0
  refine ne_tuple_all (R := wants (fun v s' => v ≠ .notImplemented ∧ EP X pins σ Q v s') X.xe) sz (fun _ s' => LoopI X pins σ H s') (fun i h1 h2 s' k => turnG mD h sb p r1 r2 i h1 h2 s' k) (fun s' k => ?_) ho ho2 ⟨H, I, L2.Ext.rfl'⟩
  obtain ⟨H', I', e⟩ := k
  exact ⟨(fun z => nomatch z), .bl false, H', I', rfl, q H' e⟩
end
end L3

/-! math.lcm of two numbers below 2 ** 64 -/
namespace L3
open PySem PySem.Spec PyProof.Rows L2
def rLcm : List V → Hp → VK → Prop := fun vs H Q => ∃ a b : Int, vs = [.int a, .int b] ∧ a.natAbs < 2 ^ 64 ∧ b.natAbs < 2 ^ 64 ∧ Q (.int ((Nat.lcm a.natAbs b.natAbs : Nat) : Int)) H
theorem lcm_low {a b : Nat} (ha : a < 2 ^ 64) (hb : b < 2 ^ 64) : Nat.lcm a b < 2 ^ 128 := by
  rcases Nat.eq_zero_or_pos a with rfl | h1
  · rw [Nat.lcm_zero_left]; decide
  rcases Nat.eq_zero_or_pos b with rfl | h2
  · rw [Nat.lcm_zero_right]; decide
  have h : Nat.lcm a b ≤ a * b := Nat.le_of_dvd (Nat.mul_pos h1 h2) (Nat.lcm_dvd_mul a b)
  have m : a * b < 2 ^ 64 * 2 ^ 64 := Nat.mul_lt_mul'' ha hb
  exact Nat.lt_of_le_of_lt h (Nat.lt_of_lt_of_le m (by decide))
theorem cr_lcm {X : Cx} : CallR X (.builtin "math.lcm") rLcm := by
  intro pins s σ H vs us Q I r h
  obtain ⟨a, b, rfl, ha, hb, q⟩ := h
  obtain ⟨t, u, rfl⟩ := Vals.int2 r
  have e : (Nat.lcm 1 a.natAbs).lcm b.natAbs = Nat.lcm a.natAbs b.natAbs := by rw [Nat.lcm_one_left]
  refine PySem.W.mg_lcm ha hb ?_ ?_
  · rw [e, Int.natAbs_natCast]
    have l := lcm_low ha hb
    rcases Nat.eq_zero_or_pos (Nat.lcm a.natAbs b.natAbs) with z | z
    · rw [z]; decide
    · exact Nat.lt_of_lt_of_le ((Nat.log2_lt (by omega)).mpr l) (by decide)
  · rw [e]
    exact ⟨.int _, H, I.tok _, ⟨_, rfl⟩, q⟩
end L3

namespace K06
open PySem PySem.Spec PyProof.Rows L2 L3
theorem if_true_of {c : Bool} {A B : Prop} (hc : c = true) (h : A) : if c = true then A else B := by
  rw [if_pos hc]
  exact h
theorem if_false_of {c : Bool} {A B : Prop} (hc : c = false) (h : B) : if c = true then A else B := by
  rw [hc, if_neg Bool.false_ne_true]
  exact h
/-! ### numbers and their sizes -/
theorem bits_le {n : Int} {k : Nat} : Builtin.Int.intBits n ≤ k ↔ n.natAbs < 2 ^ k := by
  unfold Builtin.Int.intBits
  split
  · rename_i h
    have e : n.natAbs = 0 := by first | simpa using h | omega
    rw [e]
    exact ⟨fun _ => Nat.two_pow_pos k, fun _ => Nat.zero_le _⟩
  · rename_i h
    have e : n.natAbs ≠ 0 := by first | simpa using h | omega
    rw [← Nat.log2_lt e]
    omega
theorem len_nat (m : Nat) : (Str.ofString (toString ((m : Nat) : Int))).length = (Nat.toDigits 10 m).length := by
  have h := congrArg List.length (PySem.W.KIN.signs_num m)
  rw [List.length_map] at h
  rw [← h]
  rfl
theorem len_le {m k : Nat} (hk : 0 < k) : (Str.ofString (toString ((m : Nat) : Int))).length ≤ k ↔ m < 10 ^ k := by
  rw [len_nat, Nat.length_toDigits_le_iff (by decide) hk]
def longer (n : Int) : Bool := decide (10 ^ 60 ≤ n.natAbs)
theorem abs_if (n : Int) : (if n < 0 then -n else n) = ((n.natAbs : Nat) : Int) := by split <;> omega
theorem short_of {n : Int} {k : Nat} (h : longer n = false) (hk : 200 ≤ k) : n.natAbs < 2 ^ k := by
  have h' := of_decide_eq_false h
  have : (10 : Nat) ^ 60 ≤ 2 ^ 200 := by decide
  exact Nat.lt_of_lt_of_le (by omega : n.natAbs < 2 ^ 200) (Nat.pow_le_pow_right (by decide) hk)
theorem longer_few {n : Int} (h : Builtin.Int.intBits n ≤ 180) : longer n = false := by
  rw [bits_le] at h
  have : (2 : Nat) ^ 180 ≤ 10 ^ 60 := by decide
  exact decide_eq_false (by omega)
theorem longer_most {n : Int} (h : ¬ Builtin.Int.intBits n ≤ 240) : longer n = true := by
  rw [bits_le] at h
  have : (10 : Nat) ^ 60 ≤ 2 ^ 240 := by decide
  exact decide_eq_true (by omega)
theorem longer_text {n : Int} : decide ((60 : Int) < ((Str.ofString (toString ((n.natAbs : Nat) : Int))).length : Nat)) = longer n := by
  have h := @len_le n.natAbs 60 (by decide)
  unfold longer
  by_cases c : n.natAbs < 10 ^ 60
  · have := h.mpr c
    rw [decide_eq_false (by omega), decide_eq_false (by omega)]
  · have h2 : ¬ (Str.ofString (toString ((n.natAbs : Nat) : Int))).length ≤ 60 := fun q => c (h.mp q)
    rw [decide_eq_true (by omega), decide_eq_true (by omega)]
theorem log_of {n : Nat} {k : Nat} (hk : 0 < k) (h : n < 2 ^ k) : n.log2 < k := by
  by_cases e : n = 0
  · subst e; exact hk
  · exact (Nat.log2_lt e).mpr h
end K06
namespace K06
open PySem PySem.Spec PyProof.Rows L2 L3
/-! ### lowest terms -/
/-- the divisor that both terms are divided by: its sign is that of the bottom -/
def shr (a b : Int) : Int := if b < 0 then -((Nat.gcd a.natAbs b.natAbs : Nat) : Int) else ((Nat.gcd a.natAbs b.natAbs : Nat) : Int)
def lowT (a b : Int) : Int := a.fdiv (shr a b)
def lowB (a b : Int) : Int := b.fdiv (shr a b)
theorem shr_ne {a b : Int} (h : b ≠ 0) : shr a b ≠ 0 := by
  have : Nat.gcd a.natAbs b.natAbs ≠ 0 := fun z => h (by have := Nat.eq_zero_of_gcd_eq_zero_right z; omega)
  unfold shr
  split <;> omega
theorem shr_abs (a b : Int) : (shr a b).natAbs = Nat.gcd a.natAbs b.natAbs := by
  unfold shr
  split <;> omega
theorem shr_dvd_left (a b : Int) : shr a b ∣ a := by
  rw [← Int.natAbs_dvd_natAbs, shr_abs]
  exact Nat.gcd_dvd_left _ _
theorem shr_dvd_right (a b : Int) : shr a b ∣ b := by
  rw [← Int.natAbs_dvd_natAbs, shr_abs]
  exact Nat.gcd_dvd_right _ _
theorem lowT_mul (a b : Int) : lowT a b * shr a b = a := by
  unfold lowT
  rw [Int.fdiv_eq_ediv_of_dvd (shr_dvd_left a b)]
  exact Int.ediv_mul_cancel (shr_dvd_left a b)
theorem lowB_mul (a b : Int) : lowB a b * shr a b = b := by
  unfold lowB
  rw [Int.fdiv_eq_ediv_of_dvd (shr_dvd_right a b)]
  exact Int.ediv_mul_cancel (shr_dvd_right a b)
theorem lowB_pos {a b : Int} (h : b ≠ 0) : 0 < lowB a b := by
  have e := lowB_mul a b
  have g : 0 < Nat.gcd a.natAbs b.natAbs := by
    have : Nat.gcd a.natAbs b.natAbs ≠ 0 := fun z => h (by have := Nat.eq_zero_of_gcd_eq_zero_right z; omega)
    omega
  by_cases c : b < 0
  · have s : shr a b = -((Nat.gcd a.natAbs b.natAbs : Nat) : Int) := if_pos c
    have sn : shr a b < 0 := by omega
    refine Decidable.byContradiction fun z => ?_
    have := Int.mul_nonneg_of_nonpos_of_nonpos (Int.not_lt.mp z) (Int.le_of_lt sn)
    omega
  · have s : shr a b = ((Nat.gcd a.natAbs b.natAbs : Nat) : Int) := if_neg c
    have sn : 0 < shr a b := by omega
    refine Decidable.byContradiction fun z => ?_
    have q : lowB a b * shr a b ≤ 0 := Int.mul_nonpos_of_nonpos_of_nonneg (Int.not_lt.mp z) (Int.le_of_lt sn)
    have b0 : b = 0 := by omega
    exact h b0
theorem low_cop {a b : Int} (h : b ≠ 0) : Nat.gcd (lowT a b).natAbs (lowB a b).natAbs = 1 := by
  have g : 0 < Nat.gcd a.natAbs b.natAbs := by
    have : Nat.gcd a.natAbs b.natAbs ≠ 0 := fun z => h (by have := Nat.eq_zero_of_gcd_eq_zero_right z; omega)
    omega
  have e1 := congrArg Int.natAbs (lowT_mul a b)
  have e2 := congrArg Int.natAbs (lowB_mul a b)
  rw [Int.natAbs_mul, shr_abs] at e1 e2
  have e3 : Nat.gcd ((lowT a b).natAbs * Nat.gcd a.natAbs b.natAbs) ((lowB a b).natAbs * Nat.gcd a.natAbs b.natAbs) = Nat.gcd a.natAbs b.natAbs := by rw [e1, e2]
  rw [Nat.gcd_mul_right] at e3
  exact Nat.eq_of_mul_eq_mul_right g (by rw [e3, Nat.one_mul])
theorem low_le (a b : Int) (h : b ≠ 0) : (lowT a b).natAbs ≤ a.natAbs ∧ (lowB a b).natAbs ≤ b.natAbs := by
  have e1 := congrArg Int.natAbs (lowT_mul a b)
  have e2 := congrArg Int.natAbs (lowB_mul a b)
  rw [Int.natAbs_mul, shr_abs] at e1 e2
  have g : 0 < Nat.gcd a.natAbs b.natAbs := by
    have : Nat.gcd a.natAbs b.natAbs ≠ 0 := fun z => h (by have := Nat.eq_zero_of_gcd_eq_zero_right z; omega)
    omega
  exact ⟨by rw [← e1]; exact Nat.le_mul_of_pos_right _ g, by rw [← e2]; exact Nat.le_mul_of_pos_right _ g⟩
/-- lowest terms are the only coprime pair over a positive bottom with this value -/
theorem low_eq {a b t u : Int} (h : b ≠ 0) (hu : 0 < u) (hc : Nat.gcd t.natAbs u.natAbs = 1) (e : a * u = t * b) : lowT a b = t ∧ lowB a b = u := by
  have h1 := lowT_mul a b
  have h2 := lowB_mul a b
  have p := lowB_pos (a := a) h
  have c := low_cop (a := a) h
  have s := shr_ne (a := a) h
  have k : lowT a b * u = t * lowB a b := by
    have : (lowT a b * u) * shr a b = (t * lowB a b) * shr a b := by
      rw [Int.mul_right_comm, h1, e, Int.mul_assoc, h2]
    exact Int.eq_of_mul_eq_mul_right s this
  have kn := congrArg Int.natAbs k
  rw [Int.natAbs_mul, Int.natAbs_mul] at kn
  have d1 : u.natAbs ∣ (lowB a b).natAbs := by
    have : u.natAbs ∣ t.natAbs * (lowB a b).natAbs := ⟨(lowT a b).natAbs, by rw [← kn, Nat.mul_comm]⟩
    exact Nat.Coprime.dvd_of_dvd_mul_left (Nat.Coprime.symm hc) this
  have d2 : (lowB a b).natAbs ∣ u.natAbs := by
    have : (lowB a b).natAbs ∣ (lowT a b).natAbs * u.natAbs := ⟨t.natAbs, by rw [kn, Nat.mul_comm]⟩
    exact Nat.Coprime.dvd_of_dvd_mul_left (Nat.Coprime.symm c) this
  have eu : lowB a b = u := by
    have := Nat.dvd_antisymm d2 d1
    omega
  refine ⟨?_, eu⟩
  rw [eu] at k
  exact Int.eq_of_mul_eq_mul_right (by omega) k
theorem tl_le {a : Int} (h : a.natAbs.log2 < 1920) : (Str.ofString (toString a)).length ≤ 1921 := by
  have e := int_text_length_le (k := 1920) (by decide) h
  rw [PySem.ofString_length]; omega
theorem sz_num {a : Int} (h : a.natAbs.log2 < 1920) : (Str.empty ++ Str.ofString (toString a)).length ≤ sizeLine := by
  have e := tl_le h
  rw [PySem.Str.length_append, sizeLine_eq, show Str.empty.length = 0 from rfl]; omega
theorem sz_bar {a : Int} (h : a.natAbs.log2 < 1920) : (Str.empty ++ Str.ofString (toString a) ++ ("/" : Str)).length ≤ sizeLine := by
  have e := tl_le h
  rw [PySem.Str.length_append, PySem.Str.length_append, sizeLine_eq, show Str.empty.length = 0 from rfl, show ("/" : Str).length = 1 from rfl]; omega
theorem sz_all {a b : Int} (h : a.natAbs.log2 < 1920) (h2 : b.natAbs.log2 < 1920) : (Str.empty ++ Str.ofString (toString a) ++ ("/" : Str) ++ Str.ofString (toString b)).length ≤ sizeLine := by
  have e := tl_le h
  have e2 := tl_le h2
  rw [PySem.Str.length_append, PySem.Str.length_append, PySem.Str.length_append, sizeLine_eq, show Str.empty.length = 0 from rfl, show ("/" : Str).length = 1 from rfl]; omega
/-! ### numbers of two thousand digits -/
def many (n : Int) : Bool := decide (10 ^ 2000 ≤ n.natAbs)
theorem many_few {n : Int} (h : Builtin.Int.intBits n ≤ 6000) : many n = false := by
  rw [bits_le] at h
  have : (2 : Nat) ^ 6000 ≤ 10 ^ 2000 := by decide +kernel
  exact decide_eq_false (Nat.not_le.mpr (Nat.lt_of_lt_of_le h this))
theorem many_most {n : Int} (h : ¬ Builtin.Int.intBits n ≤ 8000) : many n = true := by
  rw [bits_le] at h
  have : (10 : Nat) ^ 2000 ≤ 2 ^ 8000 := by decide +kernel
  exact decide_eq_true (Nat.le_trans this (Nat.not_lt.mp h))
theorem many_text {n : Int} : decide ((2000 : Int) < ((Str.ofString (toString ((n.natAbs : Nat) : Int))).length : Nat)) = many n := by
  have h := @len_le n.natAbs 2000 (by decide)
  unfold many
  by_cases c : n.natAbs < 10 ^ 2000
  · have := h.mpr c
    rw [decide_eq_false (by omega), decide_eq_false (Nat.not_le.mpr c)]
  · have h2 : ¬ (Str.ofString (toString ((n.natAbs : Nat) : Int))).length ≤ 2000 := fun q => c (h.mp q)
    rw [decide_eq_true (by omega), decide_eq_true (Nat.not_lt.mp c)]
theorem few_many {n : Int} (h : many n = false) : n.natAbs < 2 ^ 6650 := by
  have h' := of_decide_eq_false h
  have : (10 : Nat) ^ 2000 ≤ 2 ^ 6650 := by decide +kernel
  exact Nat.lt_of_lt_of_le (Nat.not_le.mp h') this
theorem many_of {n : Int} {k : Nat} (h : n.natAbs < 2 ^ k) (hk : k ≤ 6000) : many n = false := by
  have : (2 : Nat) ^ 6000 ≤ 10 ^ 2000 := by decide +kernel
  exact decide_eq_false (Nat.not_le.mpr (Nat.lt_of_lt_of_le (Nat.lt_of_lt_of_le h (Nat.pow_le_pow_right (by decide) hk)) this))
/-! ### the rational numbers -/
theorem low_rat {n m : Int} (h : m ≠ 0) : lowT n m = (Rat.divInt n m).num ∧ lowB n m = ((Rat.divInt n m).den : Int) := by
  have hd : ((Rat.divInt n m).den : Int) ≠ 0 := by have := (Rat.divInt n m).den_pos; omega
  refine low_eq h (by have := (Rat.divInt n m).den_pos; omega) (by rw [Int.natAbs_natCast]; exact (Rat.divInt n m).reduced) ?_
  have e : Rat.divInt n m = Rat.divInt (Rat.divInt n m).num (Rat.divInt n m).den := (Rat.num_divInt_den _).symm
  exact (Rat.divInt_eq_divInt_iff h hd).mp e
theorem den_ne (q : Rat) : ((q.den : Nat) : Int) ≠ 0 := by have := q.den_pos; omega
def big (q : Rat) : Bool := many q.num || many (q.den : Int)
theorem add_low (a b : Rat) : lowT (a.num * b.den + b.num * a.den) (a.den * b.den) = (a + b).num ∧ lowB (a.num * b.den + b.num * a.den) (a.den * b.den) = ((a + b).den : Int) := by
  have h := low_rat (n := a.num * b.den + b.num * a.den) (m := (a.den : Int) * b.den) (Int.mul_ne_zero (den_ne a) (den_ne b))
  have e : Rat.divInt (a.num * b.den + b.num * a.den) ((a.den : Int) * b.den) = a + b := by
    rw [← Rat.divInt_add_divInt _ _ (den_ne a) (den_ne b), Rat.num_divInt_den, Rat.num_divInt_den]
  rw [e] at h
  exact h
theorem neg_q (a : Rat) : (-a).num = -a.num ∧ (-a).den = a.den := ⟨Rat.neg_num a, rfl⟩
theorem sub_low (a b : Rat) : lowT (a.num * b.den - b.num * a.den) (a.den * b.den) = (a - b).num ∧ lowB (a.num * b.den - b.num * a.den) (a.den * b.den) = ((a - b).den : Int) := by
  have h := add_low a (-b)
  rw [(neg_q b).1, (neg_q b).2, Int.neg_mul, ← Int.sub_eq_add_neg, ← Rat.sub_eq_add_neg] at h
  exact h
theorem mul_low (a b : Rat) : lowT (a.num * b.num) (a.den * b.den) = (a * b).num ∧ lowB (a.num * b.num) (a.den * b.den) = ((a * b).den : Int) := by
  have h := low_rat (n := a.num * b.num) (m := (a.den : Int) * b.den) (Int.mul_ne_zero (den_ne a) (den_ne b))
  have e : Rat.divInt (a.num * b.num) ((a.den : Int) * b.den) = a * b := by
    rw [← Rat.divInt_mul_divInt, Rat.num_divInt_den, Rat.num_divInt_den]
  rw [e] at h
  exact h
theorem num_ne {b : Rat} (h : b ≠ 0) : b.num ≠ 0 := fun z => h (Rat.num_eq_zero.mp z)
theorem div_low (a b : Rat) (h : b ≠ 0) : lowT (a.num * b.den) (a.den * b.num) = (a / b).num ∧ lowB (a.num * b.den) (a.den * b.num) = ((a / b).den : Int) := by
  have h := low_rat (n := a.num * b.den) (m := (a.den : Int) * b.num) (Int.mul_ne_zero (den_ne a) (num_ne h))
  have e : Rat.divInt (a.num * b.den) ((a.den : Int) * b.num) = a / b := by
    rw [← Rat.divInt_mul_divInt, Rat.num_divInt_den, Rat.div_def]
    have e2 : Rat.divInt (b.den : Int) b.num = b⁻¹ := by
      rw [← Rat.inv_divInt, Rat.num_divInt_den]
    rw [e2]
  rw [e] at h
  exact h
theorem eq_q (a b : Rat) : (decide (a.num = b.num) && decide ((a.den : Int) = b.den)) = decide (a = b) := by
  by_cases h : a = b
  · subst h
    simp
  · rw [decide_eq_false h]
    by_cases h1 : a.num = b.num
    · by_cases h2 : a.den = b.den
      · exact absurd (Rat.ext h1 h2) h
      · rw [decide_eq_false (show ¬ (a.den : Int) = b.den by omega), Bool.and_false]
    · rw [decide_eq_false h1, Bool.false_and]
def qabs (a : Rat) : Rat := if a.num < 0 then -a else a
theorem abs_q (a : Rat) : (qabs a).num = ((a.num.natAbs : Nat) : Int) ∧ (qabs a).den = a.den := by
  unfold qabs
  split
  · rw [(neg_q a).1, (neg_q a).2]
    exact ⟨by omega, rfl⟩
  · exact ⟨by omega, rfl⟩
theorem lo_self (n : Int) (d : Nat) (hd : d ≠ 0) (hc : n.natAbs.Coprime d) : lowT n d = n ∧ lowB n d = d := low_eq (by omega) (by omega) (by rw [Int.natAbs_natCast]; exact hc) rfl
theorem neg_low (a : Rat) : lowT (-a.num) a.den = (-a).num ∧ lowB (-a.num) a.den = ((-a).den : Int) := by
  have h := lo_self (-a).num (-a).den (-a).den_nz (-a).reduced
  rw [(neg_q a).1, (neg_q a).2] at h
  rw [(neg_q a).1, (neg_q a).2]
  exact h
theorem abs_low (a : Rat) : lowT ((a.num.natAbs : Nat) : Int) a.den = (qabs a).num ∧ lowB ((a.num.natAbs : Nat) : Int) a.den = ((qabs a).den : Int) := by
  have h := lo_self (qabs a).num (qabs a).den (qabs a).den_nz (qabs a).reduced
  rw [(abs_q a).1, (abs_q a).2] at h
  rw [(abs_q a).1, (abs_q a).2]
  exact h
theorem big_neg (a : Rat) : big (-a) = big a := by
  unfold big many
  rw [(neg_q a).1, (neg_q a).2, Int.natAbs_neg]
theorem big_abs (a : Rat) : big (qabs a) = big a := by
  unfold big many
  rw [(abs_q a).1, (abs_q a).2, Int.natAbs_natCast]
theorem big_of {a : Rat} (h : big a = false) : many a.num = false ∧ many (a.den : Int) = false := by
  unfold big at h
  cases h1 : many a.num <;> cases h2 : many (a.den : Int) <;> simp [h1, h2] at h ⊢
theorem w_mul {x y : Int} (hx : many x = false) (hy : many y = false) : (x * y).natAbs < 2 ^ 13300 := by
  have a := few_many hx
  have b := few_many hy
  rw [Int.natAbs_mul, show 13300 = 6650 + 6650 from rfl, Nat.pow_add]
  exact Nat.mul_lt_mul'' a b
theorem w_up {x : Int} (h : x.natAbs < 2 ^ 13300) : x.natAbs < 2 ^ 13400 := Nat.lt_of_lt_of_le h (Nat.pow_le_pow_right (by decide) (by decide))
theorem w_add {x y : Int} (hx : x.natAbs < 2 ^ 13300) (hy : y.natAbs < 2 ^ 13300) : (x + y).natAbs < 2 ^ 13400 := by
  have e : (2 : Nat) ^ 13301 = 2 ^ 13300 * 2 := Nat.pow_succ _ _
  have l : (2 : Nat) ^ 13301 ≤ 2 ^ 13400 := Nat.pow_le_pow_right (by decide) (by decide)
  generalize (2 : Nat) ^ 13300 = P at *
  omega
theorem w_sub {x y : Int} (hx : x.natAbs < 2 ^ 13300) (hy : y.natAbs < 2 ^ 13300) : (x - y).natAbs < 2 ^ 13400 := by
  rw [Int.sub_eq_add_neg]
  exact w_add hx (by rw [Int.natAbs_neg]; exact hy)
theorem cm_many {x y : Int} (hx : many x = false) (hy : many y = false) : CMulW x y := by
  have a := log_of (by decide) (few_many hx)
  have b := log_of (by decide) (few_many hy)
  unfold CMulW
  omega
theorem log_le {n k : Nat} (h : n < 2 ^ k) : n.log2 ≤ k := by
  by_cases e : k = 0
  · subst e
    have : n = 0 := by simpa using h
    subst this
    decide
  · exact Nat.le_of_lt (log_of (by omega) h)
/-- both terms by what they share -/
theorem cd_low {a b z : Int} (hb : b ≠ 0) (h : z.natAbs < 2 ^ 13400) : CDivX z (shr a b) := by
  refine ⟨shr_ne hb, ?_⟩
  have l := log_le h
  by_cases c : (shr a b).natAbs.log2 < 9000
  · exact .inl c
  · exact .inr (by omega)
end K06

namespace K06
open PySem PySem.Spec PyProof.Rows L2 L3
/-! ### rows of rational numbers -/
def dot : List Rat → List Rat → Rat
  | x :: xs, y :: ys => x * y + dot xs ys
  | _, _ => 0
def col (M : List (List Rat)) (j : Nat) : List Rat := M.map fun r => r.getD j 0
def tr (M : List (List Rat)) (w : Nat) : List (List Rat) := (List.range w).map (col M)
def wid (M : List (List Rat)) : Nat := match M with
  | [] => 0
  | r :: _ => r.length
def mul (A B : List (List Rat)) : List (List Rat) := A.map fun r => (tr B (wid B)).map (dot r)
structure Rect (M : List (List Rat)) (a b : Nat) : Prop where
  len : M.length = a
  row : ∀ r ∈ M, r.length = b
def S : Nat → (Nat → Rat) → Rat
  | 0, _ => 0
  | n + 1, f => S n f + f n
theorem S_congr {n : Nat} {f g : Nat → Rat} (h : ∀ k, k < n → f k = g k) : S n f = S n g := by
  induction n with
  | zero => rfl
  | succ n ih => unfold S; rw [ih (fun k hk => h k (by omega)), h n (by omega)]
theorem S_zero (n : Nat) : S n (fun _ => 0) = 0 := by
  induction n with
  | zero => rfl
  | succ n ih => unfold S; rw [ih]; exact Rat.zero_add 0
theorem S_add (n : Nat) (f g : Nat → Rat) : S n (fun k => f k + g k) = S n f + S n g := by
  induction n with
  | zero => exact (Rat.zero_add 0).symm
  | succ n ih => unfold S; rw [ih]; grind
theorem S_mulL (n : Nat) (a : Rat) (f : Nat → Rat) : S n (fun k => a * f k) = a * S n f := by
  induction n with
  | zero => unfold S; grind
  | succ n ih => unfold S; rw [ih]; grind
theorem S_mulR (n : Nat) (a : Rat) (f : Nat → Rat) : S n (fun k => f k * a) = S n f * a := by
  induction n with
  | zero => unfold S; grind
  | succ n ih => unfold S; rw [ih]; grind
theorem S_swap (n m : Nat) (f : Nat → Nat → Rat) : S n (fun i => S m (fun j => f i j)) = S m (fun j => S n (fun i => f i j)) := by
  induction n with
  | zero => exact (S_zero m).symm
  | succ n ih =>
    show S n (fun i => S m (fun j => f i j)) + S m (fun j => f n j) = S m (fun j => S n (fun i => f i j) + f n j)
    rw [ih, S_add]
theorem S_head (n : Nat) (f : Nat → Rat) : S (n + 1) f = f 0 + S n (fun k => f (k + 1)) := by
  induction n with
  | zero => unfold S S; grind
  | succ n ih =>
    show S (n + 1) f + f (n + 1) = _
    rw [ih]
    show _ = f 0 + (S n (fun k => f (k + 1)) + f (n + 1))
    grind
theorem dot_S : ∀ {xs ys : List Rat} {n : Nat}, xs.length = n → ys.length = n → dot xs ys = S n fun k => xs.getD k 0 * ys.getD k 0
  | [], [], n, h, _ => by subst h; rfl
  | x :: xs, y :: ys, n, h1, h2 => by
    cases n with
    | zero => simp at h1
    | succ n =>
      rw [S_head]
      show x * y + dot xs ys = _
      rw [dot_S (n := n) (by simpa using h1) (by simpa using h2)]
      rfl
  | [], _ :: _, n, h1, h2 => by subst h1; simp at h2
  | _ :: _, [], n, h1, h2 => by subst h2; simp at h1
theorem tr_len (M : List (List Rat)) (w : Nat) : (tr M w).length = w := by unfold tr; simp
theorem col_len (M : List (List Rat)) (j : Nat) : (col M j).length = M.length := by unfold col; simp
theorem tr_at {M : List (List Rat)} {w j : Nat} (h : j < w) : (tr M w)[j]? = some (col M j) := by
  unfold tr
  rw [List.getElem?_map, List.getElem?_range h] <;> rfl
theorem tr_rect (M : List (List Rat)) (w : Nat) : Rect (tr M w) w M.length := ⟨tr_len M w, fun r hr => by
  obtain ⟨j, _, rfl⟩ := List.mem_map.mp hr
  exact col_len M j⟩
theorem col_at {M : List (List Rat)} {i j : Nat} {r : List Rat} (h : M[i]? = some r) : (col M j).getD i 0 = r.getD j 0 := by
  unfold col
  rw [List.getD_eq_getElem?_getD, List.getElem?_map, h]
  rfl
theorem row_ext {x y : List Rat} {n : Nat} (hx : x.length = n) (hy : y.length = n) (h : ∀ k, k < n → x.getD k 0 = y.getD k 0) : x = y := by
  refine List.ext_getElem (by omega) fun k h1 h2 => ?_
  have := h k (by omega)
  rw [List.getD_eq_getElem?_getD, List.getD_eq_getElem?_getD, List.getElem?_eq_getElem h1, List.getElem?_eq_getElem h2] at this
  exact this
theorem mat_ext {X Y : List (List Rat)} {a b : Nat} (hx : Rect X a b) (hy : Rect Y a b) (h : ∀ (i : Nat) (x y : List Rat), X[i]? = some x → Y[i]? = some y → ∀ k, k < b → x.getD k 0 = y.getD k 0) : X = Y := by
  refine List.ext_getElem (by rw [hx.len, hy.len]) fun i h1 h2 => ?_
  exact row_ext (hx.row _ (List.getElem_mem h1)) (hy.row _ (List.getElem_mem h2)) (h i _ _ (List.getElem?_eq_getElem h1) (List.getElem?_eq_getElem h2))
theorem wid_rect {M : List (List Rat)} {a b : Nat} (h : Rect M a b) (h0 : 0 < a) : wid M = b := by
  cases M with
  | nil => have := h.len; simp at this; omega
  | cons r M => exact h.row r List.mem_cons_self
theorem wid_le {M : List (List Rat)} {a b : Nat} (h : Rect M a b) : wid M ≤ b := by
  cases M with
  | nil => exact Nat.zero_le _
  | cons r M => exact Nat.le_of_eq (h.row r List.mem_cons_self)
theorem rect_nil {M : List (List Rat)} {b : Nat} (h : Rect M 0 b) : M = [] := List.length_eq_zero_iff.mp h.len
theorem mul_rect {A B : List (List Rat)} {a : Nat} (h : A.length = a) : Rect (mul A B) a (wid B) := ⟨by unfold mul; rw [List.length_map, h], fun r hr => by
  obtain ⟨x, _, rfl⟩ := List.mem_map.mp hr
  rw [List.length_map, tr_len]⟩
theorem mul_at {A B : List (List Rat)} {i k : Nat} {r : List Rat} (h : A[i]? = some r) (hk : k < wid B) : ∃ x : List Rat, (mul A B)[i]? = some x ∧ x.getD k 0 = dot r (col B k) := by
  refine ⟨_, by unfold mul; rw [List.getElem?_map, h] <;> rfl, ?_⟩
  rw [List.getD_eq_getElem?_getD, List.getElem?_map, tr_at hk] <;> rfl
/-- turned twice -/
theorem tr_tr {M : List (List Rat)} {a b : Nat} (h : Rect M a b) : tr (tr M b) a = M := by
  have r := tr_rect (tr M b) a
  rw [tr_len] at r
  refine mat_ext r h fun i x y hx hy k hk => ?_
  have hi : i < a := by rw [← r.len]; exact (List.getElem?_eq_some_iff.mp hx).1
  rw [tr_at hi] at hx
  rw [← Option.some.inj hx, col_at (tr_at hk), col_at hy]
theorem tr_two {M : List (List Rat)} {a b : Nat} (h : Rect M a b) : tr (tr M (wid M)) (wid (tr M (wid M))) = if 0 < a ∧ 0 < b then M else [] := by
  by_cases c : 0 < a
  · rw [wid_rect h c]
    by_cases d : 0 < b
    · rw [if_pos ⟨c, d⟩, wid_rect (tr_rect M b) d, h.len, tr_tr h]
    · rw [if_neg (fun z => d z.2)]
      have : b = 0 := by omega
      subst this
      rfl
  · have : a = 0 := by omega
    subst this
    rw [if_neg (fun z => c z.1), rect_nil h]
    rfl
theorem mem_of {α : Type} {l : List α} {i : Nat} {x : α} (h : l[i]? = some x) : x ∈ l := List.mem_of_getElem? h
theorem dot_mul {A B C : List (List Rat)} {a b c d : Nat} (hA : Rect A a b) (hB : Rect B b c) (hC : Rect C c d) (b0 : 0 < b) (c0 : 0 < c) : mul (mul A B) C = mul A (mul B C) := by
  have wB := wid_rect hB b0
  have wC := wid_rect hC c0
  have rAB := mul_rect (A := A) (B := B) hA.len
  have rBC := mul_rect (A := B) (B := C) hB.len
  have wBC := wid_rect rBC b0
  have r1 := mul_rect (A := mul A B) (B := C) rAB.len
  have r2 := mul_rect (A := A) (B := mul B C) hA.len
  rw [wBC] at r2
  refine mat_ext r1 r2 fun i x y hx hy k hk => ?_
  obtain ⟨r, hr⟩ : ∃ r, A[i]? = some r := ⟨_, List.getElem?_eq_getElem (by have := (List.getElem?_eq_some_iff.mp hx).1; rw [r1.len] at this; rw [hA.len]; exact this)⟩
  have lr : r.length = b := hA.row r (mem_of hr)
  obtain ⟨p, hp, _⟩ : ∃ p, (mul A B)[i]? = some p ∧ True := ⟨_, by unfold mul; rw [List.getElem?_map, hr] <;> rfl, trivial⟩
  have lp : p.length = c := by rw [← wB]; exact rAB.row p (mem_of hp)
  have pk : ∀ j, j < c → p.getD j 0 = dot r (col B j) := fun j hj => by
    obtain ⟨p', hp', e⟩ := mul_at (B := B) hr (k := j) (by omega)
    rw [hp] at hp'
    rw [Option.some.inj hp', e]
  obtain ⟨x', hx', ex⟩ := mul_at (B := C) hp hk
  rw [hx] at hx'
  obtain ⟨y', hy', ey⟩ := mul_at (B := mul B C) hr (k := k) (by rw [wBC]; exact hk)
  rw [hy] at hy'
  rw [Option.some.inj hx', ex, Option.some.inj hy', ey]
  rw [dot_S lp (by rw [col_len, hC.len]), dot_S lr (by rw [col_len, rBC.len])]
  have e1 : S c (fun j => p.getD j 0 * (col C k).getD j 0) = S c fun j => S b fun t => r.getD t 0 * (col B j).getD t 0 * (col C k).getD j 0 := S_congr fun j hj => by
    rw [pk j hj, dot_S lr (by rw [col_len, hB.len]), ← S_mulR]
  rw [e1, S_swap]
  refine S_congr fun t ht => ?_
  obtain ⟨s, hs⟩ : ∃ s, B[t]? = some s := ⟨_, List.getElem?_eq_getElem (by rw [hB.len]; exact ht)⟩
  obtain ⟨z, hz, ez⟩ := mul_at (B := C) hs hk
  rw [col_at hz, ez, dot_S (hB.row s (mem_of hs)) (by rw [col_len, hC.len]), ← S_mulL]
  refine S_congr fun j hj => ?_
  rw [col_at hs]
  grind
theorem tr_mul {A B : List (List Rat)} {a b c : Nat} (hA : Rect A a b) (hB : Rect B b c) (a0 : 0 < a) (b0 : 0 < b) : tr (mul A B) (wid (mul A B)) = mul (tr B (wid B)) (tr A (wid A)) := by
  have wB := wid_rect hB b0
  have wA := wid_rect hA a0
  have rAB := mul_rect (A := A) (B := B) hA.len
  have wAB := wid_rect rAB a0
  have rA := tr_rect A b
  have rB := tr_rect B c
  rw [wAB, wA, wB]
  have wT := wid_rect rA b0
  rw [hA.len] at wT
  have r1 := tr_rect (mul A B) c
  rw [rAB.len] at r1
  have r2 := mul_rect (A := tr B c) (B := tr A b) rB.len
  rw [wT] at r2
  refine mat_ext r1 r2 fun i x y hx hy k hk => ?_
  have hi : i < c := by rw [← r1.len]; exact (List.getElem?_eq_some_iff.mp hx).1
  rw [tr_at hi] at hx
  obtain ⟨y', hy', ey⟩ := mul_at (B := tr A b) (tr_at (M := B) hi) (k := k) (by rw [wT]; exact hk)
  rw [hy] at hy'
  obtain ⟨r, hr⟩ : ∃ r, A[k]? = some r := ⟨_, List.getElem?_eq_getElem (by rw [hA.len]; exact hk)⟩
  obtain ⟨z, hz, ez⟩ := mul_at (B := B) hr (k := i) (by omega)
  rw [← Option.some.inj hx, Option.some.inj hy', ey, col_at hz, ez, dot_S (hA.row r (mem_of hr)) (by rw [col_len, hB.len]), dot_S (n := b) (by rw [col_len, hB.len]) (by rw [col_len, tr_len])]
  refine S_congr fun t ht => ?_
  rw [col_at (tr_at ht), col_at hr]
  grind
/-! ### the law's own sums: row by row -/
def addm (f s : List Rat) (w : Rat) : List Rat := List.zipWith (fun x y => x + w * y) f s
def mix : List Rat → List Rat → List (List Rat) → List Rat
  | f, w :: ws, s :: ss => mix (addm f s w) ws ss
  | f, _, _ => f
theorem addm_len {f s : List Rat} {w : Rat} {n : Nat} (h1 : f.length = n) (h2 : s.length = n) : (addm f s w).length = n := by
  unfold addm
  rw [List.length_zipWith]
  omega
theorem addm_at {f s : List Rat} {w : Rat} {n k : Nat} (h1 : f.length = n) (h2 : s.length = n) (hk : k < n) : (addm f s w).getD k 0 = f.getD k 0 + w * s.getD k 0 := by
  unfold addm
  rw [List.getD_eq_getElem?_getD, List.getD_eq_getElem?_getD, List.getD_eq_getElem?_getD, List.getElem?_zipWith, List.getElem?_eq_getElem (show k < f.length by omega), List.getElem?_eq_getElem (show k < s.length by omega)]
  rfl
theorem mix_len {n : Nat} : ∀ {ws f : List Rat} {ss : List (List Rat)}, f.length = n → (∀ s ∈ ss, s.length = n) → (mix f ws ss).length = n
  | [], f, _, h, _ => by unfold mix; exact h
  | _ :: _, f, [], h, _ => by unfold mix; exact h
  | w :: ws, f, s :: ss, h, hs => by
    unfold mix
    exact mix_len (addm_len h (hs s List.mem_cons_self)) fun x hx => hs x (List.mem_cons_of_mem _ hx)
theorem mix_at {n k : Nat} (hk : k < n) : ∀ {ws f : List Rat} {ss : List (List Rat)}, ws.length = ss.length → f.length = n → (∀ s ∈ ss, s.length = n) → (mix f ws ss).getD k 0 = f.getD k 0 + dot ws (col ss k)
  | [], f, [], _, h, _ => by
    unfold mix
    show _ = _ + (0 : Rat)
    grind
  | w :: ws, f, s :: ss, hl, h, hs => by
    unfold mix
    rw [mix_at hk (by simpa using hl) (addm_len h (hs s List.mem_cons_self)) (fun x hx => hs x (List.mem_cons_of_mem _ hx)), addm_at h (hs s List.mem_cons_self) hk]
    show _ = _ + (w * s.getD k 0 + dot ws (col ss k))
    grind
  | [], _, _ :: _, hl, _, _ => by simp at hl
  | _ :: _, _, [], hl, _, _ => by simp at hl
theorem zeros_at (n k : Nat) : (List.replicate n (0 : Rat)).getD k 0 = 0 := by
  rw [List.getD_eq_getElem?_getD, List.getElem?_replicate]
  split <;> rfl
theorem mix_is {B : List (List Rat)} {b c : Nat} {r : List Rat} (hB : Rect B b c) (hr : r.length = b) (hw : wid B = c) : mix (List.replicate c 0) r B = (tr B (wid B)).map (dot r) := by
  rw [hw]
  refine row_ext (n := c) (mix_len (List.length_replicate ..) hB.row) (by rw [List.length_map, tr_len]) fun k hk => ?_
  rw [mix_at hk (by rw [hr, hB.len]) (List.length_replicate ..) hB.row, zeros_at, List.getD_eq_getElem?_getD, List.getElem?_map, tr_at hk]
  show _ = dot r (col B k)
  grind
/-! ### sizes -/
def Fi (D N : Nat) (q : Rat) : Prop := ∃ n : Int, n.natAbs ≤ N ∧ q = Rat.divInt n (D : Int)
theorem Fi.num {D N : Nat} {q : Rat} (h : Fi D N q) (d0 : 0 < D) : q.num.natAbs ≤ N ∧ q.den ∣ D := by
  obtain ⟨n, hn, rfl⟩ := h
  have z : (D : Int) ≠ 0 := by omega
  have l := low_rat (n := n) (m := (D : Int)) z
  have e := low_le n (D : Int) z
  rw [l.1, l.2] at e
  refine ⟨by omega, ?_⟩
  have m := lowB_mul n (D : Int)
  rw [l.2] at m
  exact Int.natCast_dvd_natCast.mp ⟨_, m.symm⟩
theorem Fi.mono {D N M : Nat} {q : Rat} (h : Fi D N q) (hn : N ≤ M) : Fi D M q := by
  obtain ⟨n, a, b⟩ := h
  exact ⟨n, by omega, b⟩
theorem fi_add {D N M : Nat} {p q : Rat} (d0 : 0 < D) (hp : Fi D N p) (hq : Fi D M q) : Fi D (N + M) (p + q) := by
  obtain ⟨n, a, rfl⟩ := hp
  obtain ⟨m, b, rfl⟩ := hq
  have z : (D : Int) ≠ 0 := by omega
  refine ⟨n + m, by omega, ?_⟩
  rw [Rat.divInt_add_divInt _ _ z z, Rat.divInt_eq_divInt_iff (Int.mul_ne_zero z z) z]
  grind
theorem fi_mul {D E N M : Nat} {p q : Rat} (hp : Fi D N p) (hq : Fi E M q) : Fi (D * E) (N * M) (p * q) := by
  obtain ⟨n, a, rfl⟩ := hp
  obtain ⟨m, b, rfl⟩ := hq
  refine ⟨n * m, by rw [Int.natAbs_mul]; exact Nat.mul_le_mul a b, ?_⟩
  rw [Rat.divInt_mul_divInt, Int.natCast_mul]
theorem fi_zero {D N : Nat} : Fi D N 0 := ⟨0, Nat.zero_le _, (Rat.zero_divInt _).symm⟩
theorem fi_dot {D E N M : Nat} (d0 : 0 < D * E) : ∀ {xs ys : List Rat} {k : Nat}, xs.length ≤ k → (∀ x ∈ xs, Fi D N x) → (∀ y ∈ ys, Fi E M y) → Fi (D * E) (k * (N * M)) (dot xs ys)
  | [], _, k, _, _, _ => by unfold dot; exact fi_zero
  | _ :: _, [], k, _, _, _ => by unfold dot; exact fi_zero
  | x :: xs, y :: ys, k, hk, hx, hy => by
    cases k with
    | zero => simp at hk
    | succ k =>
      have h1 := fi_mul (hx x List.mem_cons_self) (hy y List.mem_cons_self)
      have h2 := fi_dot d0 (k := k) (by simpa using hk) (fun z hz => hx z (List.mem_cons_of_mem _ hz)) (fun z hz => hy z (List.mem_cons_of_mem _ hz))
      exact (fi_add d0 h1 h2).mono (Nat.le_of_eq (by grind))
def FiM (D N : Nat) (M : List (List Rat)) : Prop := ∀ r ∈ M, ∀ q ∈ r, Fi D N q
theorem col_mem {M : List (List Rat)} {j a b : Nat} (h : Rect M a b) (hj : j < b) {q : Rat} (hq : q ∈ col M j) : ∃ r ∈ M, q ∈ r := by
  obtain ⟨r, hr, rfl⟩ := List.mem_map.mp hq
  refine ⟨r, hr, ?_⟩
  have := h.row r hr
  rw [List.getD_eq_getElem?_getD, List.getElem?_eq_getElem (show j < r.length by omega)]
  exact List.getElem_mem _
theorem fim_tr {D N a b : Nat} {M : List (List Rat)} (h : Rect M a b) (f : FiM D N M) : FiM D N (tr M (wid M)) := by
  intro r hr q hq
  obtain ⟨j, hj, rfl⟩ := List.mem_map.mp hr
  have := List.mem_range.mp hj
  obtain ⟨r, h1, h2⟩ := col_mem h (by have := wid_le h; omega) hq
  exact f r h1 q h2
theorem fim_mul {D E N M a b c d k : Nat} {A B : List (List Rat)} (d0 : 0 < D * E) (hA : Rect A a b) (hB : Rect B c d) (hk : b ≤ k) (fA : FiM D N A) (fB : FiM E M B) : FiM (D * E) (k * (N * M)) (mul A B) := by
  intro r hr q hq
  obtain ⟨x, hx, rfl⟩ := List.mem_map.mp hr
  obtain ⟨y, hy, rfl⟩ := List.mem_map.mp hq
  exact fi_dot d0 (by rw [hA.row x hx]; exact hk) (fA x hx) (fim_tr hB fB y hy)
/-! ### rows over one bottom -/
def lcmL (qs : List Rat) : Nat := qs.foldl (fun b q => Nat.lcm b q.den) 1
theorem lcmL_snoc (qs : List Rat) (q : Rat) : lcmL (qs ++ [q]) = Nat.lcm (lcmL qs) q.den := by
  unfold lcmL
  rw [List.foldl_append] <;> rfl
theorem lcm_go : ∀ {qs : List Rat} {b D : Nat}, (0 < b) → b ∣ D → (∀ q ∈ qs, q.den ∣ D) → 0 < qs.foldl (fun b q => Nat.lcm b q.den) b ∧ qs.foldl (fun b q => Nat.lcm b q.den) b ∣ D ∧ b ∣ qs.foldl (fun b q => Nat.lcm b q.den) b ∧ ∀ q ∈ qs, q.den ∣ qs.foldl (fun b q => Nat.lcm b q.den) b
  | [], b, D, h0, h, _ => ⟨h0, h, Nat.dvd_refl _, fun q hq => by simp at hq⟩
  | q :: qs, b, D, h0, h, hq => by
    have p : 0 < Nat.lcm b q.den := Nat.lcm_pos h0 q.den_pos
    have g := lcm_go (qs := qs) (b := Nat.lcm b q.den) (D := D) p (Nat.lcm_dvd h (hq q List.mem_cons_self)) fun x hx => hq x (List.mem_cons_of_mem _ hx)
    refine ⟨g.1, g.2.1, Nat.dvd_trans (Nat.dvd_lcm_left _ _) g.2.2.1, fun x hx => ?_⟩
    rcases List.mem_cons.mp hx with rfl | hx
    · exact Nat.dvd_trans (Nat.dvd_lcm_right _ _) g.2.2.1
    · exact g.2.2.2 x hx
theorem lcmL_all {qs : List Rat} {D : Nat} (h : ∀ q ∈ qs, q.den ∣ D) : 0 < lcmL qs ∧ lcmL qs ∣ D ∧ ∀ q ∈ qs, q.den ∣ lcmL qs :=
  let g := lcm_go (b := 1) (Nat.one_pos) (Nat.one_dvd D) h
  ⟨g.1, g.2.1, g.2.2.2⟩
def tops (qs : List Rat) (L : Nat) : List Int := qs.map fun q => q.num * ((L / q.den : Nat) : Int)
def idot : List Int → List Int → Int
  | x :: xs, y :: ys => x * y + idot xs ys
  | _, _ => 0
theorem top_is {q : Rat} {L : Nat} (h : q.den ∣ L) (l0 : 0 < L) : Rat.divInt (q.num * ((L / q.den : Nat) : Int)) (L : Int) = q := by
  obtain ⟨k, rfl⟩ := h
  have d0 := q.den_pos
  have k0 : 0 < k := Nat.pos_of_mul_pos_left l0
  rw [Nat.mul_div_cancel_left _ d0]
  have e : Rat.divInt q.num q.den = q := Rat.num_divInt_den q
  refine Eq.trans ?_ e
  rw [Rat.divInt_eq_divInt_iff (by omega) (by omega), Int.natCast_mul]
  grind
theorem dot_over {L M : Nat} (l0 : 0 < L) (m0 : 0 < M) : ∀ {xs ys : List Rat}, (∀ q ∈ xs, q.den ∣ L) → (∀ q ∈ ys, q.den ∣ M) → Rat.divInt (idot (tops xs L) (tops ys M)) ((L : Int) * (M : Int)) = dot xs ys
  | [], _, _, _ => by
    show Rat.divInt 0 _ = (0 : Rat)
    exact Rat.zero_divInt _
  | _ :: _, [], _, _ => by
    show Rat.divInt 0 _ = (0 : Rat)
    exact Rat.zero_divInt _
  | x :: xs, y :: ys, hx, hy => by
    have ih := dot_over l0 m0 (xs := xs) (ys := ys) (fun z hz => hx z (List.mem_cons_of_mem _ hz)) (fun z hz => hy z (List.mem_cons_of_mem _ hz))
    have e1 := top_is (hx x List.mem_cons_self) l0
    have e2 := top_is (hy y List.mem_cons_self) m0
    have z : ((L : Int) * (M : Int)) ≠ 0 := Int.mul_ne_zero (by omega) (by omega)
    show Rat.divInt (x.num * ((L / x.den : Nat) : Int) * (y.num * ((M / y.den : Nat) : Int)) + idot (tops xs L) (tops ys M)) _ = x * y + dot xs ys
    rw [← ih, ← e1, ← e2, Rat.divInt_mul_divInt, Rat.divInt_add_divInt _ _ z z, Rat.divInt_eq_divInt_iff z (Int.mul_ne_zero z z), e1, e2]
    grind
theorem top_le {D N : Nat} {q : Rat} {L : Nat} (h : Fi D N q) (d0 : 0 < D) (hL : L ∣ D) : (q.num * ((L / q.den : Nat) : Int)).natAbs ≤ N * D := by
  rw [Int.natAbs_mul, Int.natAbs_natCast]
  exact Nat.mul_le_mul (h.num d0).1 (Nat.le_trans (Nat.div_le_self _ _) (Nat.le_of_dvd d0 hL))
theorem idot_le {N M : Nat} : ∀ {xs ys : List Int} {k : Nat}, xs.length ≤ k → (∀ x ∈ xs, x.natAbs ≤ N) → (∀ y ∈ ys, y.natAbs ≤ M) → (idot xs ys).natAbs ≤ k * (N * M)
  | [], _, k, _, _, _ => by unfold idot; simp
  | _ :: _, [], k, _, _, _ => by unfold idot; simp
  | x :: xs, y :: ys, k, hk, hx, hy => by
    cases k with
    | zero => simp at hk
    | succ k =>
      have h1 : (x * y).natAbs ≤ N * M := by rw [Int.natAbs_mul]; exact Nat.mul_le_mul (hx x List.mem_cons_self) (hy y List.mem_cons_self)
      have h2 := idot_le (k := k) (by simpa using hk) (fun z hz => hx z (List.mem_cons_of_mem _ hz)) (fun z hz => hy z (List.mem_cons_of_mem _ hz))
      show (x * y + idot xs ys).natAbs ≤ _
      have h3 := Int.natAbs_add_le (x * y) (idot xs ys)
      have e : (k + 1) * (N * M) = k * (N * M) + N * M := by grind
      omega
end K06

namespace K06
open PySem PySem.Spec PyProof.Rows L2 L3
def top (i : Nat) : Stmt := PySem.Challenge.pw_worthstead_k06_rows_turned_and_multiplie.main.body.getD i (.Pass ⟨0, 0, 0, 0⟩)
abbrev s_is_longer : Stmt := top 12
abbrev s_is_plain_int : Stmt := top 17
abbrev s_lowest_terms : Stmt := top 18
abbrev s_ratio_of : Stmt := top 19
abbrev s_is_ratio : Stmt := top 20
abbrev s_are_ratios : Stmt := top 21
abbrev s_product_of : Stmt := top 23
abbrev s_columns_of : Stmt := top 24
abbrev s_common_bottom : Stmt := top 25
abbrev s_tops_over : Stmt := top 26
abbrev s_pairs_of : Stmt := top 28
abbrev s_scaled : Stmt := top 29
abbrev s_is_rows : Stmt := top 35
abbrev s_width_of : Stmt := top 36
abbrev s_check_rows : Stmt := top 37
abbrev s_is_short : Stmt := top 38
abbrev s_check_bounds : Stmt := top 39
abbrev s_turned : Stmt := top 40
abbrev s_multiplied : Stmt := top 41
abbrev s_multiplied_row : Stmt := top 42
abbrev s__law_well : Stmt := top 44
abbrev s__law_dip : Stmt := top 45
abbrev s__law_low : Stmt := top 46
abbrev s__law_plus : Stmt := top 47
abbrev s__law_times : Stmt := top 48
abbrev s__law_less : Stmt := top 49
abbrev s__law_mixed : Stmt := top 50
abbrev s__law_ratios : Stmt := top 51
abbrev s__law_told : Stmt := top 52
abbrev s__law_lot : Stmt := top 53
abbrev s__law_turned : Stmt := top 54
abbrev s__law_right : Stmt := top 55
abbrev s_law : Stmt := top 56
abbrev s_Ratio___init__ : Stmt := inClass (top 16) 0
abbrev s_Ratio_top : Stmt := inClass (top 16) 1
abbrev s_Ratio_bottom : Stmt := inClass (top 16) 2
abbrev s_Ratio___eq__ : Stmt := inClass (top 16) 10
theorem sc_is_longer : FnScope ["number", "digits", "bits"] ["number", "digits"] (defScope s_is_longer) := ⟨rfl, rfl, rfl, by decide +kernel, rfl, by decide +kernel, by decide +kernel⟩
theorem sc_is_plain_int : FnScope ["value"] ["value"] (defScope s_is_plain_int) := ⟨rfl, rfl, rfl, by decide +kernel, rfl, by decide +kernel, by decide +kernel⟩
theorem sc_lowest_terms : FnScope ["top", "bottom", "shared"] ["top", "bottom"] (defScope s_lowest_terms) := ⟨rfl, rfl, rfl, by decide +kernel, rfl, by decide +kernel, by decide +kernel⟩
theorem sc_ratio_of : FnScope ["top", "bottom", "made"] ["top", "bottom"] (defScope s_ratio_of) := ⟨rfl, rfl, rfl, by decide +kernel, rfl, by decide +kernel, by decide +kernel⟩
theorem sc_is_ratio : FnScope ["value"] ["value"] (defScope s_is_ratio) := ⟨rfl, rfl, rfl, by decide +kernel, rfl, by decide +kernel, by decide +kernel⟩
theorem sc_are_ratios : FnScope ["value", "one"] ["value"] (defScope s_are_ratios) := ⟨rfl, rfl, rfl, by decide +kernel, rfl, by decide +kernel, by decide +kernel⟩
theorem sc_product_of : FnScope ["one", "other", "left", "right"] ["one", "other"] (defScope s_product_of) := ⟨rfl, rfl, rfl, by decide +kernel, rfl, by decide +kernel, by decide +kernel⟩
theorem sc_columns_of : FnScope ["rows", "width", "row", "place"] ["rows", "width"] (defScope s_columns_of) := ⟨rfl, rfl, rfl, by decide +kernel, rfl, by decide +kernel, by decide +kernel⟩
theorem sc_common_bottom : FnScope ["pairs", "shared", "_", "bottom"] ["pairs"] (defScope s_common_bottom) := ⟨rfl, rfl, rfl, by decide +kernel, rfl, by decide +kernel, by decide +kernel⟩
theorem sc_tops_over : FnScope ["pairs", "bottom", "top", "below"] ["pairs", "bottom"] (defScope s_tops_over) := ⟨rfl, rfl, rfl, by decide +kernel, rfl, by decide +kernel, by decide +kernel⟩
theorem sc_pairs_of : FnScope ["row", "one"] ["row"] (defScope s_pairs_of) := ⟨rfl, rfl, rfl, by decide +kernel, rfl, by decide +kernel, by decide +kernel⟩
theorem sc_scaled : FnScope ["row", "pairs", "bottom"] ["row"] (defScope s_scaled) := ⟨rfl, rfl, rfl, by decide +kernel, rfl, by decide +kernel, by decide +kernel⟩
theorem sc_is_rows : FnScope ["value", "row"] ["value"] (defScope s_is_rows) := ⟨rfl, rfl, rfl, by decide +kernel, rfl, by decide +kernel, by decide +kernel⟩
theorem sc_width_of : FnScope ["rows"] ["rows"] (defScope s_width_of) := ⟨rfl, rfl, rfl, by decide +kernel, rfl, by decide +kernel, by decide +kernel⟩
theorem sc_check_rows : FnScope ["value"] ["value"] (defScope s_check_rows) := ⟨rfl, rfl, rfl, by decide +kernel, rfl, by decide +kernel, by decide +kernel⟩
theorem sc_is_short : FnScope ["one"] ["one"] (defScope s_is_short) := ⟨rfl, rfl, rfl, by decide +kernel, rfl, by decide +kernel, by decide +kernel⟩
theorem sc_check_bounds : FnScope ["several", "rows", "row", "one"] ["several"] (defScope s_check_bounds) := ⟨rfl, rfl, rfl, by decide +kernel, rfl, by decide +kernel, by decide +kernel⟩
theorem sc_turned : FnScope ["rows", "row", "place"] ["rows"] (defScope s_turned) := ⟨rfl, rfl, rfl, by decide +kernel, rfl, by decide +kernel, by decide +kernel⟩
theorem sc_multiplied : FnScope ["rows", "others", "columns", "column", "row"] ["rows", "others"] (defScope s_multiplied) := ⟨rfl, rfl, rfl, by decide +kernel, rfl, by decide +kernel, by decide +kernel⟩
theorem sc_multiplied_row : FnScope ["row", "columns", "integers", "bottom", "column", "below"] ["row", "columns"] (defScope s_multiplied_row) := ⟨rfl, rfl, rfl, by decide +kernel, rfl, by decide +kernel, by decide +kernel⟩
theorem sc__law_well : FnScope ["_law_script", "_law_at", "_law_cell", "_law_great", "_law_seed"] ["_law_script", "_law_at"] (defScope s__law_well) := ⟨rfl, rfl, rfl, by decide +kernel, rfl, by decide +kernel, by decide +kernel⟩
theorem sc__law_dip : FnScope ["_law_well_here", "_law_total", "_law_found", "_law_one", "_law_two"] ["_law_well_here", "_law_total"] (defScope s__law_dip) := ⟨rfl, rfl, rfl, by decide +kernel, rfl, by decide +kernel, by decide +kernel⟩
theorem sc__law_low : FnScope ["_law_top", "_law_bottom", "_law_one", "_law_other"] ["_law_top", "_law_bottom"] (defScope s__law_low) := ⟨rfl, rfl, rfl, by decide +kernel, rfl, by decide +kernel, by decide +kernel⟩
theorem sc__law_plus : FnScope ["_law_one", "_law_other"] ["_law_one", "_law_other"] (defScope s__law_plus) := ⟨rfl, rfl, rfl, by decide +kernel, rfl, by decide +kernel, by decide +kernel⟩
theorem sc__law_times : FnScope ["_law_one", "_law_other"] ["_law_one", "_law_other"] (defScope s__law_times) := ⟨rfl, rfl, rfl, by decide +kernel, rfl, by decide +kernel, by decide +kernel⟩
theorem sc__law_less : FnScope ["_law_one", "_law_other", "_law_factor", "_law_minus", "_law_a", "_law_b"] ["_law_one", "_law_other", "_law_factor"] (defScope s__law_less) := ⟨rfl, rfl, rfl, by decide +kernel, rfl, by decide +kernel, by decide +kernel⟩
theorem sc__law_mixed : FnScope ["_law_rows", "_law_weights", "_law_width", "_law_found", "_law_row", "_law_weight"] ["_law_rows", "_law_weights", "_law_width"] (defScope s__law_mixed) := ⟨rfl, rfl, rfl, by decide +kernel, rfl, by decide +kernel, by decide +kernel⟩
theorem sc__law_ratios : FnScope ["_law_row", "_law_one"] ["_law_row"] (defScope s__law_ratios) := ⟨rfl, rfl, rfl, by decide +kernel, rfl, by decide +kernel, by decide +kernel⟩
theorem sc__law_told : FnScope ["_law_rows", "_law_row"] ["_law_rows"] (defScope s__law_told) := ⟨rfl, rfl, rfl, by decide +kernel, rfl, by decide +kernel, by decide +kernel⟩
theorem sc__law_lot : FnScope ["_law_well_here", "_law_many", "_law_width", "_law_turn", "_law_one"] ["_law_well_here", "_law_many", "_law_width"] (defScope s__law_lot) := ⟨rfl, rfl, rfl, by decide +kernel, rfl, by decide +kernel, by decide +kernel⟩
theorem sc__law_turned : FnScope ["_law_rows", "_law_width", "_law_row", "_law_at"] ["_law_rows", "_law_width"] (defScope s__law_turned) := ⟨rfl, rfl, rfl, by decide +kernel, rfl, by decide +kernel, by decide +kernel⟩
theorem sc__law_right : FnScope ["_law_well_here", "_law_a", "_law_b", "_law_c", "_law_d", "_law_first", "_law_second", "_law_third", "_law_one", "_law_two", "_law_three", "_law_both", "_law_row"] ["_law_well_here"] (defScope s__law_right) := ⟨rfl, rfl, rfl, by decide +kernel, rfl, by decide +kernel, by decide +kernel⟩
theorem sc_law : FnScope ["_law_script", "_law_at", "_law_rows"] ["_law_script"] (defScope s_law) := ⟨rfl, rfl, rfl, by decide +kernel, rfl, by decide +kernel, by decide +kernel⟩
theorem sc_Ratio___init__ : FnScope ["self", "top", "bottom"] ["self", "top", "bottom"] (defScope s_Ratio___init__) := ⟨rfl, rfl, rfl, by decide +kernel, rfl, by decide +kernel, by decide +kernel⟩
theorem sc_Ratio_top : FnScope ["self"] ["self"] (defScope s_Ratio_top) := ⟨rfl, rfl, rfl, by decide +kernel, rfl, by decide +kernel, by decide +kernel⟩
theorem sc_Ratio_bottom : FnScope ["self"] ["self"] (defScope s_Ratio_bottom) := ⟨rfl, rfl, rfl, by decide +kernel, rfl, by decide +kernel, by decide +kernel⟩
theorem sc_Ratio___eq__ : FnScope ["self", "other"] ["self", "other"] (defScope s_Ratio___eq__) := ⟨rfl, rfl, rfl, by decide +kernel, rfl, by decide +kernel, by decide +kernel⟩
structure TX (K : PySem.W.Frag) (mg : Str → Option Value) where
  C_InvalidNumber : Addr
  f_InvalidNumber___init__ : Addr
  x_InvalidNumber : PySem.XInvalidNumber.Txt K mg C_InvalidNumber f_InvalidNumber___init__
  g_InvalidNumber : mg "InvalidNumber" = some (.ref C_InvalidNumber)
  C_TooMany : Addr
  f_TooMany___init__ : Addr
  x_TooMany : PySem.XTooMany.Txt K mg C_TooMany f_TooMany___init__
  g_TooMany : mg "TooMany" = some (.ref C_TooMany)
  C_InvalidRows : Addr
  g_InvalidRows : mg "InvalidRows" = some (.ref C_InvalidRows)
  x_InvalidRows : PySem.W.excIn K C_InvalidRows [.type "ValueError", .type "Exception", .type "BaseException", .type "object"] "ValueError.__new__" = true
  k_InvalidRows : PySem.W.keepIn K (.ref C_InvalidRows) = true
  bx_InvalidRows : PySem.W.subIn K (.ref C_InvalidRows) (.type "BaseException") = some true
  tx_InvalidRows : PySem.W.typeIn K (.ref C_InvalidRows) = some (.type "type")
  C_InvalidOperation : Addr
  g_InvalidOperation : mg "InvalidOperation" = some (.ref C_InvalidOperation)
  x_InvalidOperation : PySem.W.excIn K C_InvalidOperation [.type "ValueError", .type "Exception", .type "BaseException", .type "object"] "ValueError.__new__" = true
  k_InvalidOperation : PySem.W.keepIn K (.ref C_InvalidOperation) = true
  bx_InvalidOperation : PySem.W.subIn K (.ref C_InvalidOperation) (.type "BaseException") = some true
  tx_InvalidOperation : PySem.W.typeIn K (.ref C_InvalidOperation) = some (.type "type")
  C_Ratio : Addr
  g_Ratio : mg "Ratio" = some (.ref C_Ratio)
  cl_Ratio : Cls K C_Ratio
  n_Ratio__top : NoAttr K C_Ratio "_top"
  n_Ratio__bottom : NoAttr K C_Ratio "_bottom"
  tc_Ratio : L3.TyC K C_Ratio
  ne_Ratio : L3.OwnNe K C_Ratio
  kit_Ratio_NoneType : PySem.W.kitOne K (.type "NoneType") (.ref C_Ratio) = some false
  nf_Ratio_NoneType : PySem.W.notFirst K C_Ratio (.type "NoneType") = true
  itk_Ratio_NoneType : PySem.W.kitOne K (.ref C_Ratio) (.type "NoneType") = some false
  kit_Ratio_bool : PySem.W.kitOne K (.type "bool") (.ref C_Ratio) = some false
  nf_Ratio_bool : PySem.W.notFirst K C_Ratio (.type "bool") = true
  itk_Ratio_bool : PySem.W.kitOne K (.ref C_Ratio) (.type "bool") = some false
  kit_Ratio_int : PySem.W.kitOne K (.type "int") (.ref C_Ratio) = some false
  nf_Ratio_int : PySem.W.notFirst K C_Ratio (.type "int") = true
  itk_Ratio_int : PySem.W.kitOne K (.ref C_Ratio) (.type "int") = some false
  kit_Ratio_str : PySem.W.kitOne K (.type "str") (.ref C_Ratio) = some false
  nf_Ratio_str : PySem.W.notFirst K C_Ratio (.type "str") = true
  itk_Ratio_str : PySem.W.kitOne K (.ref C_Ratio) (.type "str") = some false
  kit_Ratio_list : PySem.W.kitOne K (.type "list") (.ref C_Ratio) = some false
  nf_Ratio_list : PySem.W.notFirst K C_Ratio (.type "list") = true
  itk_Ratio_list : PySem.W.kitOne K (.ref C_Ratio) (.type "list") = some false
  kit_Ratio_tuple : PySem.W.kitOne K (.type "tuple") (.ref C_Ratio) = some false
  nf_Ratio_tuple : PySem.W.notFirst K C_Ratio (.type "tuple") = true
  itk_Ratio_tuple : PySem.W.kitOne K (.ref C_Ratio) (.type "tuple") = some false
  kit_Ratio_dict : PySem.W.kitOne K (.type "dict") (.ref C_Ratio) = some false
  nf_Ratio_dict : PySem.W.notFirst K C_Ratio (.type "dict") = true
  itk_Ratio_dict : PySem.W.kitOne K (.ref C_Ratio) (.type "dict") = some false
  kit_Ratio : PySem.W.kitOne K (.ref C_Ratio) (.ref C_Ratio) = some true
  nf_Ratio : PySem.W.notFirst K C_Ratio (.ref C_Ratio) = true
  f_is_longer : Addr
  d_is_longer : FuncData
  F_is_longer : Fun K "is_longer" "is_longer" s_is_longer f_is_longer d_is_longer
  b_is_longer : Binds K d_is_longer ["number", "digits"] []
  g_is_longer : mg "is_longer" = some (.ref f_is_longer)
  f_is_plain_int : Addr
  d_is_plain_int : FuncData
  F_is_plain_int : Fun K "is_plain_int" "is_plain_int" s_is_plain_int f_is_plain_int d_is_plain_int
  b_is_plain_int : Binds K d_is_plain_int ["value"] []
  g_is_plain_int : mg "is_plain_int" = some (.ref f_is_plain_int)
  f_lowest_terms : Addr
  d_lowest_terms : FuncData
  F_lowest_terms : Fun K "lowest_terms" "lowest_terms" s_lowest_terms f_lowest_terms d_lowest_terms
  b_lowest_terms : Binds K d_lowest_terms ["top", "bottom"] []
  g_lowest_terms : mg "lowest_terms" = some (.ref f_lowest_terms)
  f_ratio_of : Addr
  d_ratio_of : FuncData
  F_ratio_of : Fun K "ratio_of" "ratio_of" s_ratio_of f_ratio_of d_ratio_of
  b_ratio_of : Binds K d_ratio_of ["top", "bottom"] []
  g_ratio_of : mg "ratio_of" = some (.ref f_ratio_of)
  f_is_ratio : Addr
  d_is_ratio : FuncData
  F_is_ratio : Fun K "is_ratio" "is_ratio" s_is_ratio f_is_ratio d_is_ratio
  b_is_ratio : Binds K d_is_ratio ["value"] []
  g_is_ratio : mg "is_ratio" = some (.ref f_is_ratio)
  f_are_ratios : Addr
  d_are_ratios : FuncData
  F_are_ratios : Fun K "are_ratios" "are_ratios" s_are_ratios f_are_ratios d_are_ratios
  b_are_ratios : Binds K d_are_ratios ["value"] []
  g_are_ratios : mg "are_ratios" = some (.ref f_are_ratios)
  f_product_of : Addr
  d_product_of : FuncData
  F_product_of : Fun K "product_of" "product_of" s_product_of f_product_of d_product_of
  b_product_of : Binds K d_product_of ["one", "other"] []
  g_product_of : mg "product_of" = some (.ref f_product_of)
  f_columns_of : Addr
  d_columns_of : FuncData
  F_columns_of : Fun K "columns_of" "columns_of" s_columns_of f_columns_of d_columns_of
  b_columns_of : Binds K d_columns_of ["rows", "width"] []
  g_columns_of : mg "columns_of" = some (.ref f_columns_of)
  f_common_bottom : Addr
  d_common_bottom : FuncData
  F_common_bottom : Fun K "common_bottom" "common_bottom" s_common_bottom f_common_bottom d_common_bottom
  b_common_bottom : Binds K d_common_bottom ["pairs"] []
  g_common_bottom : mg "common_bottom" = some (.ref f_common_bottom)
  f_tops_over : Addr
  d_tops_over : FuncData
  F_tops_over : Fun K "tops_over" "tops_over" s_tops_over f_tops_over d_tops_over
  b_tops_over : Binds K d_tops_over ["pairs", "bottom"] []
  g_tops_over : mg "tops_over" = some (.ref f_tops_over)
  f_pairs_of : Addr
  d_pairs_of : FuncData
  F_pairs_of : Fun K "pairs_of" "pairs_of" s_pairs_of f_pairs_of d_pairs_of
  b_pairs_of : Binds K d_pairs_of ["row"] []
  g_pairs_of : mg "pairs_of" = some (.ref f_pairs_of)
  f_scaled : Addr
  d_scaled : FuncData
  F_scaled : Fun K "scaled" "scaled" s_scaled f_scaled d_scaled
  b_scaled : Binds K d_scaled ["row"] []
  g_scaled : mg "scaled" = some (.ref f_scaled)
  f_is_rows : Addr
  d_is_rows : FuncData
  F_is_rows : Fun K "is_rows" "is_rows" s_is_rows f_is_rows d_is_rows
  b_is_rows : Binds K d_is_rows ["value"] []
  g_is_rows : mg "is_rows" = some (.ref f_is_rows)
  f_width_of : Addr
  d_width_of : FuncData
  F_width_of : Fun K "width_of" "width_of" s_width_of f_width_of d_width_of
  b_width_of : Binds K d_width_of ["rows"] []
  g_width_of : mg "width_of" = some (.ref f_width_of)
  f_check_rows : Addr
  d_check_rows : FuncData
  F_check_rows : Fun K "check_rows" "check_rows" s_check_rows f_check_rows d_check_rows
  b_check_rows : Binds K d_check_rows ["value"] []
  g_check_rows : mg "check_rows" = some (.ref f_check_rows)
  f_is_short : Addr
  d_is_short : FuncData
  F_is_short : Fun K "is_short" "is_short" s_is_short f_is_short d_is_short
  b_is_short : Binds K d_is_short ["one"] []
  g_is_short : mg "is_short" = some (.ref f_is_short)
  f_check_bounds : Addr
  d_check_bounds : FuncData
  F_check_bounds : Fun K "check_bounds" "check_bounds" s_check_bounds f_check_bounds d_check_bounds
  b_check_bounds : Binds K d_check_bounds ["several"] []
  g_check_bounds : mg "check_bounds" = some (.ref f_check_bounds)
  f_turned : Addr
  d_turned : FuncData
  F_turned : Fun K "turned" "turned" s_turned f_turned d_turned
  b_turned : Binds K d_turned ["rows"] []
  g_turned : mg "turned" = some (.ref f_turned)
  f_multiplied : Addr
  d_multiplied : FuncData
  F_multiplied : Fun K "multiplied" "multiplied" s_multiplied f_multiplied d_multiplied
  b_multiplied : Binds K d_multiplied ["rows", "others"] []
  g_multiplied : mg "multiplied" = some (.ref f_multiplied)
  f_multiplied_row : Addr
  d_multiplied_row : FuncData
  F_multiplied_row : Fun K "multiplied_row" "multiplied_row" s_multiplied_row f_multiplied_row d_multiplied_row
  b_multiplied_row : Binds K d_multiplied_row ["row", "columns"] []
  g_multiplied_row : mg "multiplied_row" = some (.ref f_multiplied_row)
  f__law_well : Addr
  d__law_well : FuncData
  F__law_well : Fun K "_law_well" "_law_well" s__law_well f__law_well d__law_well
  b__law_well : Binds K d__law_well ["_law_script", "_law_at"] []
  g__law_well : mg "_law_well" = some (.ref f__law_well)
  f__law_dip : Addr
  d__law_dip : FuncData
  F__law_dip : Fun K "_law_dip" "_law_dip" s__law_dip f__law_dip d__law_dip
  b__law_dip : Binds K d__law_dip ["_law_well_here", "_law_total"] []
  g__law_dip : mg "_law_dip" = some (.ref f__law_dip)
  f__law_low : Addr
  d__law_low : FuncData
  F__law_low : Fun K "_law_low" "_law_low" s__law_low f__law_low d__law_low
  b__law_low : Binds K d__law_low ["_law_top", "_law_bottom"] []
  g__law_low : mg "_law_low" = some (.ref f__law_low)
  f__law_plus : Addr
  d__law_plus : FuncData
  F__law_plus : Fun K "_law_plus" "_law_plus" s__law_plus f__law_plus d__law_plus
  b__law_plus : Binds K d__law_plus ["_law_one", "_law_other"] []
  g__law_plus : mg "_law_plus" = some (.ref f__law_plus)
  f__law_times : Addr
  d__law_times : FuncData
  F__law_times : Fun K "_law_times" "_law_times" s__law_times f__law_times d__law_times
  b__law_times : Binds K d__law_times ["_law_one", "_law_other"] []
  g__law_times : mg "_law_times" = some (.ref f__law_times)
  f__law_less : Addr
  d__law_less : FuncData
  F__law_less : Fun K "_law_less" "_law_less" s__law_less f__law_less d__law_less
  b__law_less : Binds K d__law_less ["_law_one", "_law_other", "_law_factor"] []
  g__law_less : mg "_law_less" = some (.ref f__law_less)
  f__law_mixed : Addr
  d__law_mixed : FuncData
  F__law_mixed : Fun K "_law_mixed" "_law_mixed" s__law_mixed f__law_mixed d__law_mixed
  b__law_mixed : Binds K d__law_mixed ["_law_rows", "_law_weights", "_law_width"] []
  g__law_mixed : mg "_law_mixed" = some (.ref f__law_mixed)
  f__law_ratios : Addr
  d__law_ratios : FuncData
  F__law_ratios : Fun K "_law_ratios" "_law_ratios" s__law_ratios f__law_ratios d__law_ratios
  b__law_ratios : Binds K d__law_ratios ["_law_row"] []
  g__law_ratios : mg "_law_ratios" = some (.ref f__law_ratios)
  f__law_told : Addr
  d__law_told : FuncData
  F__law_told : Fun K "_law_told" "_law_told" s__law_told f__law_told d__law_told
  b__law_told : Binds K d__law_told ["_law_rows"] []
  g__law_told : mg "_law_told" = some (.ref f__law_told)
  f__law_lot : Addr
  d__law_lot : FuncData
  F__law_lot : Fun K "_law_lot" "_law_lot" s__law_lot f__law_lot d__law_lot
  b__law_lot : Binds K d__law_lot ["_law_well_here", "_law_many", "_law_width"] []
  g__law_lot : mg "_law_lot" = some (.ref f__law_lot)
  f__law_turned : Addr
  d__law_turned : FuncData
  F__law_turned : Fun K "_law_turned" "_law_turned" s__law_turned f__law_turned d__law_turned
  b__law_turned : Binds K d__law_turned ["_law_rows", "_law_width"] []
  g__law_turned : mg "_law_turned" = some (.ref f__law_turned)
  f__law_right : Addr
  d__law_right : FuncData
  F__law_right : Fun K "_law_right" "_law_right" s__law_right f__law_right d__law_right
  b__law_right : Binds K d__law_right ["_law_well_here"] []
  g__law_right : mg "_law_right" = some (.ref f__law_right)
  f_law : Addr
  d_law : FuncData
  F_law : Fun K "law" "law" s_law f_law d_law
  b_law : Binds K d_law ["_law_script"] []
  g_law : mg "law" = some (.ref f_law)
  f_Ratio___init__ : Addr
  d_Ratio___init__ : FuncData
  F_Ratio___init__ : FunD K "__init__" "Ratio.__init__" (defArgs s_Ratio___init__) (defBody s_Ratio___init__) (defScope s_Ratio___init__) [.int 1] [] f_Ratio___init__ d_Ratio___init__
  w_Ratio___init__ : List Value
  v_Ratio___init___2 : Vals [.int 1] w_Ratio___init__
  b_Ratio___init___2 : Binds K d_Ratio___init__ ["self", "top", "bottom"] w_Ratio___init__
  b_Ratio___init__ : Binds K d_Ratio___init__ ["self", "top", "bottom"] []
  f_Ratio_top : Addr
  d_Ratio_top : FuncData
  F_Ratio_top : Fun K "top" "Ratio.top" s_Ratio_top f_Ratio_top d_Ratio_top
  b_Ratio_top : Binds K d_Ratio_top ["self"] []
  pa_Ratio_top : Addr
  p_Ratio_top : PropOf K C_Ratio "top" pa_Ratio_top f_Ratio_top
  f_Ratio_bottom : Addr
  d_Ratio_bottom : FuncData
  F_Ratio_bottom : Fun K "bottom" "Ratio.bottom" s_Ratio_bottom f_Ratio_bottom d_Ratio_bottom
  b_Ratio_bottom : Binds K d_Ratio_bottom ["self"] []
  pa_Ratio_bottom : Addr
  p_Ratio_bottom : PropOf K C_Ratio "bottom" pa_Ratio_bottom f_Ratio_bottom
  f_Ratio___eq__ : Addr
  d_Ratio___eq__ : FuncData
  F_Ratio___eq__ : Fun K "__eq__" "Ratio.__eq__" s_Ratio___eq__ f_Ratio___eq__ d_Ratio___eq__
  b_Ratio___eq__ : Binds K d_Ratio___eq__ ["self", "other"] []
  o_Ratio___eq__ : L3.Own K C_Ratio "__eq__" f_Ratio___eq__
  mk_Ratio : Mk K C_Ratio f_Ratio___init__
  ct_FEWEST_BITS : Tok
  c_FEWEST_BITS : mg "FEWEST_BITS" = some (.int 3 ct_FEWEST_BITS)
  ct_MOST_BITS : Tok
  c_MOST_BITS : mg "MOST_BITS" = some (.int 4 ct_MOST_BITS)
  ct_MAX_FIGURES : Tok
  c_MAX_FIGURES : mg "MAX_FIGURES" = some (.int 60 ct_MAX_FIGURES)
  ct_MAX_DIGITS : Tok
  c_MAX_DIGITS : mg "MAX_DIGITS" = some (.int 2000 ct_MAX_DIGITS)
  ct_MAX_ROWS : Tok
  c_MAX_ROWS : mg "MAX_ROWS" = some (.int 512 ct_MAX_ROWS)
  ct_MOST_LONG : Tok
  c_MOST_LONG : mg "MOST_LONG" = some (.int 64 ct_MOST_LONG)
  ct_ENTRY_DIGITS : Tok
  c_ENTRY_DIGITS : mg "ENTRY_DIGITS" = some (.int 20 ct_ENTRY_DIGITS)
  ct_ENTRY_BOUND : Tok
  c_ENTRY_BOUND : mg "ENTRY_BOUND" = some (.int 100000000000000000000 ct_ENTRY_BOUND)
  n_isinstance : mg "isinstance" = none
  n_len : mg "len" = none
  n_str : mg "str" = none
  n_abs : mg "abs" = none
  n_int : mg "int" = none
  n_bool : mg "bool" = none
  n_max : mg "max" = none
  n_min : mg "min" = none
  n_range : mg "range" = none
  n_tuple : mg "tuple" = none
  n_list : mg "list" = none
  n_all : mg "all" = none
  n_sum : mg "sum" = none
  n_zip : mg "zip" = none
  g_gcd : mg "gcd" = some (.builtin "math.gcd")
  g_lcm : mg "lcm" = some (.builtin "math.lcm")
  sf_Ratio : PySem.W.selfFirst K C_Ratio = true
  dg : PySem.W.nsIn K cStatics "sys.int_max_str_digits" = some none
theorem mkT {K : PySem.W.Frag} {h : Heap} {mg : Str → Option Value} (X : K.In h) (G : h.Ns mainGlobals mg)
    {C_InvalidNumber f_InvalidNumber___init__ : Addr}
    {od_InvalidNumber___init__ an_InvalidNumber___init__ : Option Addr} {sl_InvalidNumber___init__ : Array (Option Value)} {oc_InvalidNumber___init__ dc_InvalidNumber___init__ pm_InvalidNumber___init__ cd_InvalidNumber___init__ ct_InvalidNumber___init__ : Value}
    {C_TooMany f_TooMany___init__ : Addr}
    {od_TooMany___init__ an_TooMany___init__ : Option Addr} {sl_TooMany___init__ : Array (Option Value)} {oc_TooMany___init__ dc_TooMany___init__ pm_TooMany___init__ cd_TooMany___init__ ct_TooMany___init__ : Value}
    {C_InvalidRows : Addr}
    {C_InvalidOperation : Addr}
    {C_Ratio : Addr}
    {f_is_longer : Addr}
    {od_is_longer an_is_longer : Option Addr} {sl_is_longer : Array (Option Value)} {oc_is_longer kV_is_longer dc_is_longer pm_is_longer cd_is_longer ct_is_longer : Value}
    {f_is_plain_int : Addr}
    {od_is_plain_int an_is_plain_int : Option Addr} {sl_is_plain_int : Array (Option Value)} {oc_is_plain_int kV_is_plain_int dc_is_plain_int pm_is_plain_int cd_is_plain_int ct_is_plain_int : Value}
    {f_lowest_terms : Addr}
    {od_lowest_terms an_lowest_terms : Option Addr} {sl_lowest_terms : Array (Option Value)} {oc_lowest_terms kV_lowest_terms dc_lowest_terms pm_lowest_terms cd_lowest_terms ct_lowest_terms : Value}
    {f_ratio_of : Addr}
    {od_ratio_of an_ratio_of : Option Addr} {sl_ratio_of : Array (Option Value)} {oc_ratio_of kV_ratio_of dc_ratio_of pm_ratio_of cd_ratio_of ct_ratio_of : Value}
    {f_is_ratio : Addr}
    {od_is_ratio an_is_ratio : Option Addr} {sl_is_ratio : Array (Option Value)} {oc_is_ratio kV_is_ratio dc_is_ratio pm_is_ratio cd_is_ratio ct_is_ratio : Value}
    {f_are_ratios : Addr}
    {od_are_ratios an_are_ratios : Option Addr} {sl_are_ratios : Array (Option Value)} {oc_are_ratios kV_are_ratios dc_are_ratios pm_are_ratios cd_are_ratios ct_are_ratios : Value}
    {f_product_of : Addr}
    {od_product_of an_product_of : Option Addr} {sl_product_of : Array (Option Value)} {oc_product_of kV_product_of dc_product_of pm_product_of cd_product_of ct_product_of : Value}
    {f_columns_of : Addr}
    {od_columns_of an_columns_of : Option Addr} {sl_columns_of : Array (Option Value)} {oc_columns_of kV_columns_of dc_columns_of pm_columns_of cd_columns_of ct_columns_of : Value}
    {f_common_bottom : Addr}
    {od_common_bottom an_common_bottom : Option Addr} {sl_common_bottom : Array (Option Value)} {oc_common_bottom kV_common_bottom dc_common_bottom pm_common_bottom cd_common_bottom ct_common_bottom : Value}
    {f_tops_over : Addr}
    {od_tops_over an_tops_over : Option Addr} {sl_tops_over : Array (Option Value)} {oc_tops_over kV_tops_over dc_tops_over pm_tops_over cd_tops_over ct_tops_over : Value}
    {f_pairs_of : Addr}
    {od_pairs_of an_pairs_of : Option Addr} {sl_pairs_of : Array (Option Value)} {oc_pairs_of kV_pairs_of dc_pairs_of pm_pairs_of cd_pairs_of ct_pairs_of : Value}
    {f_scaled : Addr}
    {od_scaled an_scaled : Option Addr} {sl_scaled : Array (Option Value)} {oc_scaled kV_scaled dc_scaled pm_scaled cd_scaled ct_scaled : Value}
    {f_is_rows : Addr}
    {od_is_rows an_is_rows : Option Addr} {sl_is_rows : Array (Option Value)} {oc_is_rows kV_is_rows dc_is_rows pm_is_rows cd_is_rows ct_is_rows : Value}
    {f_width_of : Addr}
    {od_width_of an_width_of : Option Addr} {sl_width_of : Array (Option Value)} {oc_width_of kV_width_of dc_width_of pm_width_of cd_width_of ct_width_of : Value}
    {f_check_rows : Addr}
    {od_check_rows an_check_rows : Option Addr} {sl_check_rows : Array (Option Value)} {oc_check_rows kV_check_rows dc_check_rows pm_check_rows cd_check_rows ct_check_rows : Value}
    {f_is_short : Addr}
    {od_is_short an_is_short : Option Addr} {sl_is_short : Array (Option Value)} {oc_is_short kV_is_short dc_is_short pm_is_short cd_is_short ct_is_short : Value}
    {f_check_bounds : Addr}
    {od_check_bounds an_check_bounds : Option Addr} {sl_check_bounds : Array (Option Value)} {oc_check_bounds kV_check_bounds dc_check_bounds pm_check_bounds cd_check_bounds ct_check_bounds : Value}
    {f_turned : Addr}
    {od_turned an_turned : Option Addr} {sl_turned : Array (Option Value)} {oc_turned kV_turned dc_turned pm_turned cd_turned ct_turned : Value}
    {f_multiplied : Addr}
    {od_multiplied an_multiplied : Option Addr} {sl_multiplied : Array (Option Value)} {oc_multiplied kV_multiplied dc_multiplied pm_multiplied cd_multiplied ct_multiplied : Value}
    {f_multiplied_row : Addr}
    {od_multiplied_row an_multiplied_row : Option Addr} {sl_multiplied_row : Array (Option Value)} {oc_multiplied_row kV_multiplied_row dc_multiplied_row pm_multiplied_row cd_multiplied_row ct_multiplied_row : Value}
    {f__law_well : Addr}
    {od__law_well an__law_well : Option Addr} {sl__law_well : Array (Option Value)} {oc__law_well kV__law_well dc__law_well pm__law_well cd__law_well ct__law_well : Value}
    {f__law_dip : Addr}
    {od__law_dip an__law_dip : Option Addr} {sl__law_dip : Array (Option Value)} {oc__law_dip kV__law_dip dc__law_dip pm__law_dip cd__law_dip ct__law_dip : Value}
    {f__law_low : Addr}
    {od__law_low an__law_low : Option Addr} {sl__law_low : Array (Option Value)} {oc__law_low kV__law_low dc__law_low pm__law_low cd__law_low ct__law_low : Value}
    {f__law_plus : Addr}
    {od__law_plus an__law_plus : Option Addr} {sl__law_plus : Array (Option Value)} {oc__law_plus kV__law_plus dc__law_plus pm__law_plus cd__law_plus ct__law_plus : Value}
    {f__law_times : Addr}
    {od__law_times an__law_times : Option Addr} {sl__law_times : Array (Option Value)} {oc__law_times kV__law_times dc__law_times pm__law_times cd__law_times ct__law_times : Value}
    {f__law_less : Addr}
    {od__law_less an__law_less : Option Addr} {sl__law_less : Array (Option Value)} {oc__law_less kV__law_less dc__law_less pm__law_less cd__law_less ct__law_less : Value}
    {f__law_mixed : Addr}
    {od__law_mixed an__law_mixed : Option Addr} {sl__law_mixed : Array (Option Value)} {oc__law_mixed kV__law_mixed dc__law_mixed pm__law_mixed cd__law_mixed ct__law_mixed : Value}
    {f__law_ratios : Addr}
    {od__law_ratios an__law_ratios : Option Addr} {sl__law_ratios : Array (Option Value)} {oc__law_ratios kV__law_ratios dc__law_ratios pm__law_ratios cd__law_ratios ct__law_ratios : Value}
    {f__law_told : Addr}
    {od__law_told an__law_told : Option Addr} {sl__law_told : Array (Option Value)} {oc__law_told kV__law_told dc__law_told pm__law_told cd__law_told ct__law_told : Value}
    {f__law_lot : Addr}
    {od__law_lot an__law_lot : Option Addr} {sl__law_lot : Array (Option Value)} {oc__law_lot kV__law_lot dc__law_lot pm__law_lot cd__law_lot ct__law_lot : Value}
    {f__law_turned : Addr}
    {od__law_turned an__law_turned : Option Addr} {sl__law_turned : Array (Option Value)} {oc__law_turned kV__law_turned dc__law_turned pm__law_turned cd__law_turned ct__law_turned : Value}
    {f__law_right : Addr}
    {od__law_right an__law_right : Option Addr} {sl__law_right : Array (Option Value)} {oc__law_right kV__law_right dc__law_right pm__law_right cd__law_right ct__law_right : Value}
    {f_law : Addr}
    {od_law an_law : Option Addr} {sl_law : Array (Option Value)} {oc_law kV_law dc_law pm_law cd_law ct_law : Value}
    {f_Ratio___init__ : Addr}
    {od_Ratio___init__ an_Ratio___init__ : Option Addr} {sl_Ratio___init__ : Array (Option Value)} {oc_Ratio___init__ kV_Ratio___init__ dc_Ratio___init__ pm_Ratio___init__ cd_Ratio___init__ ct_Ratio___init__ : Value}
    {dT_Ratio___init__ : Addr}
    {do_Ratio___init__ : Value} {dd_Ratio___init__ : Option Addr} {ds_Ratio___init__ : Array (Option Value)} {dn_Ratio___init__ : Nat} {dt_Ratio___init__ : Tok}
    {f_Ratio_top : Addr}
    {od_Ratio_top an_Ratio_top : Option Addr} {sl_Ratio_top : Array (Option Value)} {oc_Ratio_top kV_Ratio_top dc_Ratio_top pm_Ratio_top cd_Ratio_top ct_Ratio_top : Value}
    {pa_Ratio_top : Addr} {pr_Ratio_top : List Value}
    {f_Ratio_bottom : Addr}
    {od_Ratio_bottom an_Ratio_bottom : Option Addr} {sl_Ratio_bottom : Array (Option Value)} {oc_Ratio_bottom kV_Ratio_bottom dc_Ratio_bottom pm_Ratio_bottom cd_Ratio_bottom ct_Ratio_bottom : Value}
    {pa_Ratio_bottom : Addr} {pr_Ratio_bottom : List Value}
    {f_Ratio___eq__ : Addr}
    {od_Ratio___eq__ an_Ratio___eq__ : Option Addr} {sl_Ratio___eq__ : Array (Option Value)} {oc_Ratio___eq__ kV_Ratio___eq__ dc_Ratio___eq__ pm_Ratio___eq__ cd_Ratio___eq__ ct_Ratio___eq__ : Value}
    {ct0_FEWEST_BITS : Tok}
    {ct0_MOST_BITS : Tok}
    {ct0_MAX_FIGURES : Tok}
    {ct0_MAX_DIGITS : Tok}
    {ct0_MAX_ROWS : Tok}
    {ct0_MOST_LONG : Tok}
    {ct0_ENTRY_DIGITS : Tok}
    {ct0_ENTRY_BOUND : Tok}
    (xg_InvalidNumber : PySem.W.nsIn K mainGlobals "InvalidNumber" = some (some (.ref C_InvalidNumber)))
    (xi_InvalidNumber : PySem.W.excInitIn K C_InvalidNumber [.type "IndexError", .type "LookupError", .type "Exception", .type "BaseException", .type "object"] "IndexError.__new__" = true)
    (xo_InvalidNumber : PySem.W.excOver K C_InvalidNumber [.type "IndexError", .type "LookupError", .type "Exception", .type "BaseException", .type "object"] = true)
    (x1_InvalidNumber : PySem.W.findIn K (.ref C_InvalidNumber) "__setattr__" = some (some (.builtin "object.__setattr__")))
    (x2_InvalidNumber : PySem.W.findIn K (.ref C_InvalidNumber) "__getattribute__" = some (some (.builtin "BaseException.__getattribute__")))
    (x3_InvalidNumber : PySem.W.findIn K (.ref C_InvalidNumber) "__getattr__" = some none)
    (x4_InvalidNumber : PySem.W.findIn K (.ref C_InvalidNumber) "given" = some none)
    (x5_InvalidNumber : PySem.W.findIn K (.ref C_InvalidNumber) "__init__" = some (some (.ref f_InvalidNumber___init__)))
    (x6_InvalidNumber : PySem.W.typeIn K (.ref f_InvalidNumber___init__) = some (.type "function"))
    (x7_InvalidNumber : PySem.W.keepIn K (.ref C_InvalidNumber) = true)
    (x8_InvalidNumber : PySem.W.subIn K (.ref C_InvalidNumber) (.type "BaseException") = some true)
    (x9_InvalidNumber : PySem.W.typeIn K (.ref C_InvalidNumber) = some (.type "type"))
    (xa_InvalidNumber : PySem.W.hasDictIn K C_InvalidNumber = true)
    (xb_InvalidNumber : PySem.W.isClsIn K C_InvalidNumber = true)
    (xc_InvalidNumber : PySem.W.subIn K (.ref C_InvalidNumber) (.ref C_InvalidNumber) = some true)
    (xl_InvalidNumber : K.lookup f_InvalidNumber___init__ = some ⟨oc_InvalidNumber___init__, od_InvalidNumber___init__, .func (PySem.W.fnOf "__init__" "InvalidNumber.__init__" (PySem.XInvalidNumber.iA ⟨16, 17, 16, 21⟩ ⟨16, 23, 16, 28⟩) (PySem.XInvalidNumber.iB ⟨17, 8, 17, 12⟩ ⟨17, 8, 17, 18⟩ ⟨17, 21, 17, 26⟩ ⟨17, 8, 17, 26⟩) PySem.XInvalidNumber.iS .none .none dc_InvalidNumber___init__ pm_InvalidNumber___init__ an_InvalidNumber___init__ cd_InvalidNumber___init__ ct_InvalidNumber___init__), sl_InvalidNumber___init__⟩)
    (xd_InvalidNumber : PySem.W.codeIn K cd_InvalidNumber___init__ "InvalidNumber.__init__" = true)
    (xg_TooMany : PySem.W.nsIn K mainGlobals "TooMany" = some (some (.ref C_TooMany)))
    (xi_TooMany : PySem.W.excInitIn K C_TooMany [.type "OverflowError", .type "ArithmeticError", .type "Exception", .type "BaseException", .type "object"] "OverflowError.__new__" = true)
    (xo_TooMany : PySem.W.excOver K C_TooMany [.type "OverflowError", .type "ArithmeticError", .type "Exception", .type "BaseException", .type "object"] = true)
    (x1_TooMany : PySem.W.findIn K (.ref C_TooMany) "__setattr__" = some (some (.builtin "object.__setattr__")))
    (x2_TooMany : PySem.W.findIn K (.ref C_TooMany) "__getattribute__" = some (some (.builtin "BaseException.__getattribute__")))
    (x3_TooMany : PySem.W.findIn K (.ref C_TooMany) "__getattr__" = some none)
    (x4_TooMany : PySem.W.findIn K (.ref C_TooMany) "limit" = some none)
    (x5_TooMany : PySem.W.findIn K (.ref C_TooMany) "__init__" = some (some (.ref f_TooMany___init__)))
    (x6_TooMany : PySem.W.typeIn K (.ref f_TooMany___init__) = some (.type "function"))
    (x7_TooMany : PySem.W.keepIn K (.ref C_TooMany) = true)
    (x8_TooMany : PySem.W.subIn K (.ref C_TooMany) (.type "BaseException") = some true)
    (x9_TooMany : PySem.W.typeIn K (.ref C_TooMany) = some (.type "type"))
    (xa_TooMany : PySem.W.hasDictIn K C_TooMany = true)
    (xb_TooMany : PySem.W.isClsIn K C_TooMany = true)
    (xc_TooMany : PySem.W.subIn K (.ref C_TooMany) (.ref C_TooMany) = some true)
    (xl_TooMany : K.lookup f_TooMany___init__ = some ⟨oc_TooMany___init__, od_TooMany___init__, .func (PySem.W.fnOf "__init__" "TooMany.__init__" (PySem.XTooMany.iA ⟨20, 17, 20, 21⟩ ⟨20, 23, 20, 28⟩) (PySem.XTooMany.iB ⟨21, 8, 21, 12⟩ ⟨21, 8, 21, 18⟩ ⟨21, 21, 21, 26⟩ ⟨21, 8, 21, 26⟩) PySem.XTooMany.iS .none .none dc_TooMany___init__ pm_TooMany___init__ an_TooMany___init__ cd_TooMany___init__ ct_TooMany___init__), sl_TooMany___init__⟩)
    (xd_TooMany : PySem.W.codeIn K cd_TooMany___init__ "TooMany.__init__" = true)
    (xg_InvalidRows : PySem.W.nsIn K mainGlobals "InvalidRows" = some (some (.ref C_InvalidRows)))
    (xe_InvalidRows : PySem.W.excIn K C_InvalidRows [.type "ValueError", .type "Exception", .type "BaseException", .type "object"] "ValueError.__new__" = true)
    (x7_InvalidRows : PySem.W.keepIn K (.ref C_InvalidRows) = true)
    (x8_InvalidRows : PySem.W.subIn K (.ref C_InvalidRows) (.type "BaseException") = some true)
    (x9_InvalidRows : PySem.W.typeIn K (.ref C_InvalidRows) = some (.type "type"))
    (xb_InvalidRows : PySem.W.isClsIn K C_InvalidRows = true)
    (xg_InvalidOperation : PySem.W.nsIn K mainGlobals "InvalidOperation" = some (some (.ref C_InvalidOperation)))
    (xe_InvalidOperation : PySem.W.excIn K C_InvalidOperation [.type "ValueError", .type "Exception", .type "BaseException", .type "object"] "ValueError.__new__" = true)
    (x7_InvalidOperation : PySem.W.keepIn K (.ref C_InvalidOperation) = true)
    (x8_InvalidOperation : PySem.W.subIn K (.ref C_InvalidOperation) (.type "BaseException") = some true)
    (x9_InvalidOperation : PySem.W.typeIn K (.ref C_InvalidOperation) = some (.type "type"))
    (xb_InvalidOperation : PySem.W.isClsIn K C_InvalidOperation = true)
    (ac_Ratio : PySem.W.nsIn K mainGlobals "Ratio" = some (some (.ref C_Ratio)))
    (pg_Ratio : PySem.W.plainGet K C_Ratio Str.empty = true)
    (hd_Ratio : PySem.W.hasDictIn K C_Ratio = true)
    (po_Ratio : PySem.W.plainOver K C_Ratio = true)
    (sa_Ratio : PySem.W.findIn K (.ref C_Ratio) "__setattr__" = some (some (.builtin "object.__setattr__")))
    (nA_Ratio__top : PySem.W.findIn K (.ref C_Ratio) "_top" = some none)
    (nA_Ratio__bottom : PySem.W.findIn K (.ref C_Ratio) "_bottom" = some none)
    (t1_Ratio : PySem.W.findIn K (.ref C_Ratio) "__class__" = some (some (.builtin "object.__class__")))
    (t2_Ratio : PySem.W.specialIn K (.builtin "object.__class__") "__get__" = some (some (.builtin "getset_descriptor.__get__")))
    (t3_Ratio : PySem.W.takesIn K (.builtin "object.__class__") = some true)
    (t4_Ratio : PySem.W.mroIn K C_Ratio (.type "object") = some true)
    (ne0_Ratio : PySem.W.findIn K (.ref C_Ratio) "__ne__" = some (some (.builtin "object.__ne__")))
    (kit_Ratio_NoneType : PySem.W.kitOne K (.type "NoneType") (.ref C_Ratio) = some false)
    (nf_Ratio_NoneType : PySem.W.notFirst K C_Ratio (.type "NoneType") = true)
    (itk_Ratio_NoneType : PySem.W.kitOne K (.ref C_Ratio) (.type "NoneType") = some false)
    (kit_Ratio_bool : PySem.W.kitOne K (.type "bool") (.ref C_Ratio) = some false)
    (nf_Ratio_bool : PySem.W.notFirst K C_Ratio (.type "bool") = true)
    (itk_Ratio_bool : PySem.W.kitOne K (.ref C_Ratio) (.type "bool") = some false)
    (kit_Ratio_int : PySem.W.kitOne K (.type "int") (.ref C_Ratio) = some false)
    (nf_Ratio_int : PySem.W.notFirst K C_Ratio (.type "int") = true)
    (itk_Ratio_int : PySem.W.kitOne K (.ref C_Ratio) (.type "int") = some false)
    (kit_Ratio_str : PySem.W.kitOne K (.type "str") (.ref C_Ratio) = some false)
    (nf_Ratio_str : PySem.W.notFirst K C_Ratio (.type "str") = true)
    (itk_Ratio_str : PySem.W.kitOne K (.ref C_Ratio) (.type "str") = some false)
    (kit_Ratio_list : PySem.W.kitOne K (.type "list") (.ref C_Ratio) = some false)
    (nf_Ratio_list : PySem.W.notFirst K C_Ratio (.type "list") = true)
    (itk_Ratio_list : PySem.W.kitOne K (.ref C_Ratio) (.type "list") = some false)
    (kit_Ratio_tuple : PySem.W.kitOne K (.type "tuple") (.ref C_Ratio) = some false)
    (nf_Ratio_tuple : PySem.W.notFirst K C_Ratio (.type "tuple") = true)
    (itk_Ratio_tuple : PySem.W.kitOne K (.ref C_Ratio) (.type "tuple") = some false)
    (kit_Ratio_dict : PySem.W.kitOne K (.type "dict") (.ref C_Ratio) = some false)
    (nf_Ratio_dict : PySem.W.notFirst K C_Ratio (.type "dict") = true)
    (itk_Ratio_dict : PySem.W.kitOne K (.ref C_Ratio) (.type "dict") = some false)
    (kit_Ratio : PySem.W.kitOne K (.ref C_Ratio) (.ref C_Ratio) = some true)
    (nf_Ratio : PySem.W.notFirst K C_Ratio (.ref C_Ratio) = true)
    (a_is_longer : PySem.W.nsIn K mainGlobals "is_longer" = some (some (.ref f_is_longer)))
    (l_is_longer : K.lookup f_is_longer = some ⟨oc_is_longer, od_is_longer, .func (PySem.W.fnOf "is_longer" "is_longer" (defArgs s_is_longer) (defBody s_is_longer) (defScope s_is_longer) .none kV_is_longer dc_is_longer pm_is_longer an_is_longer cd_is_longer ct_is_longer), sl_is_longer⟩)
    (c_is_longer : PySem.W.codeIn K cd_is_longer "is_longer" = true)
    (k_is_longer : PySem.W.keepIn K (.ref f_is_longer) = true)
    (a_is_plain_int : PySem.W.nsIn K mainGlobals "is_plain_int" = some (some (.ref f_is_plain_int)))
    (l_is_plain_int : K.lookup f_is_plain_int = some ⟨oc_is_plain_int, od_is_plain_int, .func (PySem.W.fnOf "is_plain_int" "is_plain_int" (defArgs s_is_plain_int) (defBody s_is_plain_int) (defScope s_is_plain_int) .none kV_is_plain_int dc_is_plain_int pm_is_plain_int an_is_plain_int cd_is_plain_int ct_is_plain_int), sl_is_plain_int⟩)
    (c_is_plain_int : PySem.W.codeIn K cd_is_plain_int "is_plain_int" = true)
    (k_is_plain_int : PySem.W.keepIn K (.ref f_is_plain_int) = true)
    (a_lowest_terms : PySem.W.nsIn K mainGlobals "lowest_terms" = some (some (.ref f_lowest_terms)))
    (l_lowest_terms : K.lookup f_lowest_terms = some ⟨oc_lowest_terms, od_lowest_terms, .func (PySem.W.fnOf "lowest_terms" "lowest_terms" (defArgs s_lowest_terms) (defBody s_lowest_terms) (defScope s_lowest_terms) .none kV_lowest_terms dc_lowest_terms pm_lowest_terms an_lowest_terms cd_lowest_terms ct_lowest_terms), sl_lowest_terms⟩)
    (c_lowest_terms : PySem.W.codeIn K cd_lowest_terms "lowest_terms" = true)
    (k_lowest_terms : PySem.W.keepIn K (.ref f_lowest_terms) = true)
    (a_ratio_of : PySem.W.nsIn K mainGlobals "ratio_of" = some (some (.ref f_ratio_of)))
    (l_ratio_of : K.lookup f_ratio_of = some ⟨oc_ratio_of, od_ratio_of, .func (PySem.W.fnOf "ratio_of" "ratio_of" (defArgs s_ratio_of) (defBody s_ratio_of) (defScope s_ratio_of) .none kV_ratio_of dc_ratio_of pm_ratio_of an_ratio_of cd_ratio_of ct_ratio_of), sl_ratio_of⟩)
    (c_ratio_of : PySem.W.codeIn K cd_ratio_of "ratio_of" = true)
    (k_ratio_of : PySem.W.keepIn K (.ref f_ratio_of) = true)
    (a_is_ratio : PySem.W.nsIn K mainGlobals "is_ratio" = some (some (.ref f_is_ratio)))
    (l_is_ratio : K.lookup f_is_ratio = some ⟨oc_is_ratio, od_is_ratio, .func (PySem.W.fnOf "is_ratio" "is_ratio" (defArgs s_is_ratio) (defBody s_is_ratio) (defScope s_is_ratio) .none kV_is_ratio dc_is_ratio pm_is_ratio an_is_ratio cd_is_ratio ct_is_ratio), sl_is_ratio⟩)
    (c_is_ratio : PySem.W.codeIn K cd_is_ratio "is_ratio" = true)
    (k_is_ratio : PySem.W.keepIn K (.ref f_is_ratio) = true)
    (a_are_ratios : PySem.W.nsIn K mainGlobals "are_ratios" = some (some (.ref f_are_ratios)))
    (l_are_ratios : K.lookup f_are_ratios = some ⟨oc_are_ratios, od_are_ratios, .func (PySem.W.fnOf "are_ratios" "are_ratios" (defArgs s_are_ratios) (defBody s_are_ratios) (defScope s_are_ratios) .none kV_are_ratios dc_are_ratios pm_are_ratios an_are_ratios cd_are_ratios ct_are_ratios), sl_are_ratios⟩)
    (c_are_ratios : PySem.W.codeIn K cd_are_ratios "are_ratios" = true)
    (k_are_ratios : PySem.W.keepIn K (.ref f_are_ratios) = true)
    (a_product_of : PySem.W.nsIn K mainGlobals "product_of" = some (some (.ref f_product_of)))
    (l_product_of : K.lookup f_product_of = some ⟨oc_product_of, od_product_of, .func (PySem.W.fnOf "product_of" "product_of" (defArgs s_product_of) (defBody s_product_of) (defScope s_product_of) .none kV_product_of dc_product_of pm_product_of an_product_of cd_product_of ct_product_of), sl_product_of⟩)
    (c_product_of : PySem.W.codeIn K cd_product_of "product_of" = true)
    (k_product_of : PySem.W.keepIn K (.ref f_product_of) = true)
    (a_columns_of : PySem.W.nsIn K mainGlobals "columns_of" = some (some (.ref f_columns_of)))
    (l_columns_of : K.lookup f_columns_of = some ⟨oc_columns_of, od_columns_of, .func (PySem.W.fnOf "columns_of" "columns_of" (defArgs s_columns_of) (defBody s_columns_of) (defScope s_columns_of) .none kV_columns_of dc_columns_of pm_columns_of an_columns_of cd_columns_of ct_columns_of), sl_columns_of⟩)
    (c_columns_of : PySem.W.codeIn K cd_columns_of "columns_of" = true)
    (k_columns_of : PySem.W.keepIn K (.ref f_columns_of) = true)
    (a_common_bottom : PySem.W.nsIn K mainGlobals "common_bottom" = some (some (.ref f_common_bottom)))
    (l_common_bottom : K.lookup f_common_bottom = some ⟨oc_common_bottom, od_common_bottom, .func (PySem.W.fnOf "common_bottom" "common_bottom" (defArgs s_common_bottom) (defBody s_common_bottom) (defScope s_common_bottom) .none kV_common_bottom dc_common_bottom pm_common_bottom an_common_bottom cd_common_bottom ct_common_bottom), sl_common_bottom⟩)
    (c_common_bottom : PySem.W.codeIn K cd_common_bottom "common_bottom" = true)
    (k_common_bottom : PySem.W.keepIn K (.ref f_common_bottom) = true)
    (a_tops_over : PySem.W.nsIn K mainGlobals "tops_over" = some (some (.ref f_tops_over)))
    (l_tops_over : K.lookup f_tops_over = some ⟨oc_tops_over, od_tops_over, .func (PySem.W.fnOf "tops_over" "tops_over" (defArgs s_tops_over) (defBody s_tops_over) (defScope s_tops_over) .none kV_tops_over dc_tops_over pm_tops_over an_tops_over cd_tops_over ct_tops_over), sl_tops_over⟩)
    (c_tops_over : PySem.W.codeIn K cd_tops_over "tops_over" = true)
    (k_tops_over : PySem.W.keepIn K (.ref f_tops_over) = true)
    (a_pairs_of : PySem.W.nsIn K mainGlobals "pairs_of" = some (some (.ref f_pairs_of)))
    (l_pairs_of : K.lookup f_pairs_of = some ⟨oc_pairs_of, od_pairs_of, .func (PySem.W.fnOf "pairs_of" "pairs_of" (defArgs s_pairs_of) (defBody s_pairs_of) (defScope s_pairs_of) .none kV_pairs_of dc_pairs_of pm_pairs_of an_pairs_of cd_pairs_of ct_pairs_of), sl_pairs_of⟩)
    (c_pairs_of : PySem.W.codeIn K cd_pairs_of "pairs_of" = true)
    (k_pairs_of : PySem.W.keepIn K (.ref f_pairs_of) = true)
    (a_scaled : PySem.W.nsIn K mainGlobals "scaled" = some (some (.ref f_scaled)))
    (l_scaled : K.lookup f_scaled = some ⟨oc_scaled, od_scaled, .func (PySem.W.fnOf "scaled" "scaled" (defArgs s_scaled) (defBody s_scaled) (defScope s_scaled) .none kV_scaled dc_scaled pm_scaled an_scaled cd_scaled ct_scaled), sl_scaled⟩)
    (c_scaled : PySem.W.codeIn K cd_scaled "scaled" = true)
    (k_scaled : PySem.W.keepIn K (.ref f_scaled) = true)
    (a_is_rows : PySem.W.nsIn K mainGlobals "is_rows" = some (some (.ref f_is_rows)))
    (l_is_rows : K.lookup f_is_rows = some ⟨oc_is_rows, od_is_rows, .func (PySem.W.fnOf "is_rows" "is_rows" (defArgs s_is_rows) (defBody s_is_rows) (defScope s_is_rows) .none kV_is_rows dc_is_rows pm_is_rows an_is_rows cd_is_rows ct_is_rows), sl_is_rows⟩)
    (c_is_rows : PySem.W.codeIn K cd_is_rows "is_rows" = true)
    (k_is_rows : PySem.W.keepIn K (.ref f_is_rows) = true)
    (a_width_of : PySem.W.nsIn K mainGlobals "width_of" = some (some (.ref f_width_of)))
    (l_width_of : K.lookup f_width_of = some ⟨oc_width_of, od_width_of, .func (PySem.W.fnOf "width_of" "width_of" (defArgs s_width_of) (defBody s_width_of) (defScope s_width_of) .none kV_width_of dc_width_of pm_width_of an_width_of cd_width_of ct_width_of), sl_width_of⟩)
    (c_width_of : PySem.W.codeIn K cd_width_of "width_of" = true)
    (k_width_of : PySem.W.keepIn K (.ref f_width_of) = true)
    (a_check_rows : PySem.W.nsIn K mainGlobals "check_rows" = some (some (.ref f_check_rows)))
    (l_check_rows : K.lookup f_check_rows = some ⟨oc_check_rows, od_check_rows, .func (PySem.W.fnOf "check_rows" "check_rows" (defArgs s_check_rows) (defBody s_check_rows) (defScope s_check_rows) .none kV_check_rows dc_check_rows pm_check_rows an_check_rows cd_check_rows ct_check_rows), sl_check_rows⟩)
    (c_check_rows : PySem.W.codeIn K cd_check_rows "check_rows" = true)
    (k_check_rows : PySem.W.keepIn K (.ref f_check_rows) = true)
    (a_is_short : PySem.W.nsIn K mainGlobals "is_short" = some (some (.ref f_is_short)))
    (l_is_short : K.lookup f_is_short = some ⟨oc_is_short, od_is_short, .func (PySem.W.fnOf "is_short" "is_short" (defArgs s_is_short) (defBody s_is_short) (defScope s_is_short) .none kV_is_short dc_is_short pm_is_short an_is_short cd_is_short ct_is_short), sl_is_short⟩)
    (c_is_short : PySem.W.codeIn K cd_is_short "is_short" = true)
    (k_is_short : PySem.W.keepIn K (.ref f_is_short) = true)
    (a_check_bounds : PySem.W.nsIn K mainGlobals "check_bounds" = some (some (.ref f_check_bounds)))
    (l_check_bounds : K.lookup f_check_bounds = some ⟨oc_check_bounds, od_check_bounds, .func (PySem.W.fnOf "check_bounds" "check_bounds" (defArgs s_check_bounds) (defBody s_check_bounds) (defScope s_check_bounds) .none kV_check_bounds dc_check_bounds pm_check_bounds an_check_bounds cd_check_bounds ct_check_bounds), sl_check_bounds⟩)
    (c_check_bounds : PySem.W.codeIn K cd_check_bounds "check_bounds" = true)
    (k_check_bounds : PySem.W.keepIn K (.ref f_check_bounds) = true)
    (a_turned : PySem.W.nsIn K mainGlobals "turned" = some (some (.ref f_turned)))
    (l_turned : K.lookup f_turned = some ⟨oc_turned, od_turned, .func (PySem.W.fnOf "turned" "turned" (defArgs s_turned) (defBody s_turned) (defScope s_turned) .none kV_turned dc_turned pm_turned an_turned cd_turned ct_turned), sl_turned⟩)
    (c_turned : PySem.W.codeIn K cd_turned "turned" = true)
    (k_turned : PySem.W.keepIn K (.ref f_turned) = true)
    (a_multiplied : PySem.W.nsIn K mainGlobals "multiplied" = some (some (.ref f_multiplied)))
    (l_multiplied : K.lookup f_multiplied = some ⟨oc_multiplied, od_multiplied, .func (PySem.W.fnOf "multiplied" "multiplied" (defArgs s_multiplied) (defBody s_multiplied) (defScope s_multiplied) .none kV_multiplied dc_multiplied pm_multiplied an_multiplied cd_multiplied ct_multiplied), sl_multiplied⟩)
    (c_multiplied : PySem.W.codeIn K cd_multiplied "multiplied" = true)
    (k_multiplied : PySem.W.keepIn K (.ref f_multiplied) = true)
    (a_multiplied_row : PySem.W.nsIn K mainGlobals "multiplied_row" = some (some (.ref f_multiplied_row)))
    (l_multiplied_row : K.lookup f_multiplied_row = some ⟨oc_multiplied_row, od_multiplied_row, .func (PySem.W.fnOf "multiplied_row" "multiplied_row" (defArgs s_multiplied_row) (defBody s_multiplied_row) (defScope s_multiplied_row) .none kV_multiplied_row dc_multiplied_row pm_multiplied_row an_multiplied_row cd_multiplied_row ct_multiplied_row), sl_multiplied_row⟩)
    (c_multiplied_row : PySem.W.codeIn K cd_multiplied_row "multiplied_row" = true)
    (k_multiplied_row : PySem.W.keepIn K (.ref f_multiplied_row) = true)
    (a__law_well : PySem.W.nsIn K mainGlobals "_law_well" = some (some (.ref f__law_well)))
    (l__law_well : K.lookup f__law_well = some ⟨oc__law_well, od__law_well, .func (PySem.W.fnOf "_law_well" "_law_well" (defArgs s__law_well) (defBody s__law_well) (defScope s__law_well) .none kV__law_well dc__law_well pm__law_well an__law_well cd__law_well ct__law_well), sl__law_well⟩)
    (c__law_well : PySem.W.codeIn K cd__law_well "_law_well" = true)
    (k__law_well : PySem.W.keepIn K (.ref f__law_well) = true)
    (a__law_dip : PySem.W.nsIn K mainGlobals "_law_dip" = some (some (.ref f__law_dip)))
    (l__law_dip : K.lookup f__law_dip = some ⟨oc__law_dip, od__law_dip, .func (PySem.W.fnOf "_law_dip" "_law_dip" (defArgs s__law_dip) (defBody s__law_dip) (defScope s__law_dip) .none kV__law_dip dc__law_dip pm__law_dip an__law_dip cd__law_dip ct__law_dip), sl__law_dip⟩)
    (c__law_dip : PySem.W.codeIn K cd__law_dip "_law_dip" = true)
    (k__law_dip : PySem.W.keepIn K (.ref f__law_dip) = true)
    (a__law_low : PySem.W.nsIn K mainGlobals "_law_low" = some (some (.ref f__law_low)))
    (l__law_low : K.lookup f__law_low = some ⟨oc__law_low, od__law_low, .func (PySem.W.fnOf "_law_low" "_law_low" (defArgs s__law_low) (defBody s__law_low) (defScope s__law_low) .none kV__law_low dc__law_low pm__law_low an__law_low cd__law_low ct__law_low), sl__law_low⟩)
    (c__law_low : PySem.W.codeIn K cd__law_low "_law_low" = true)
    (k__law_low : PySem.W.keepIn K (.ref f__law_low) = true)
    (a__law_plus : PySem.W.nsIn K mainGlobals "_law_plus" = some (some (.ref f__law_plus)))
    (l__law_plus : K.lookup f__law_plus = some ⟨oc__law_plus, od__law_plus, .func (PySem.W.fnOf "_law_plus" "_law_plus" (defArgs s__law_plus) (defBody s__law_plus) (defScope s__law_plus) .none kV__law_plus dc__law_plus pm__law_plus an__law_plus cd__law_plus ct__law_plus), sl__law_plus⟩)
    (c__law_plus : PySem.W.codeIn K cd__law_plus "_law_plus" = true)
    (k__law_plus : PySem.W.keepIn K (.ref f__law_plus) = true)
    (a__law_times : PySem.W.nsIn K mainGlobals "_law_times" = some (some (.ref f__law_times)))
    (l__law_times : K.lookup f__law_times = some ⟨oc__law_times, od__law_times, .func (PySem.W.fnOf "_law_times" "_law_times" (defArgs s__law_times) (defBody s__law_times) (defScope s__law_times) .none kV__law_times dc__law_times pm__law_times an__law_times cd__law_times ct__law_times), sl__law_times⟩)
    (c__law_times : PySem.W.codeIn K cd__law_times "_law_times" = true)
    (k__law_times : PySem.W.keepIn K (.ref f__law_times) = true)
    (a__law_less : PySem.W.nsIn K mainGlobals "_law_less" = some (some (.ref f__law_less)))
    (l__law_less : K.lookup f__law_less = some ⟨oc__law_less, od__law_less, .func (PySem.W.fnOf "_law_less" "_law_less" (defArgs s__law_less) (defBody s__law_less) (defScope s__law_less) .none kV__law_less dc__law_less pm__law_less an__law_less cd__law_less ct__law_less), sl__law_less⟩)
    (c__law_less : PySem.W.codeIn K cd__law_less "_law_less" = true)
    (k__law_less : PySem.W.keepIn K (.ref f__law_less) = true)
    (a__law_mixed : PySem.W.nsIn K mainGlobals "_law_mixed" = some (some (.ref f__law_mixed)))
    (l__law_mixed : K.lookup f__law_mixed = some ⟨oc__law_mixed, od__law_mixed, .func (PySem.W.fnOf "_law_mixed" "_law_mixed" (defArgs s__law_mixed) (defBody s__law_mixed) (defScope s__law_mixed) .none kV__law_mixed dc__law_mixed pm__law_mixed an__law_mixed cd__law_mixed ct__law_mixed), sl__law_mixed⟩)
    (c__law_mixed : PySem.W.codeIn K cd__law_mixed "_law_mixed" = true)
    (k__law_mixed : PySem.W.keepIn K (.ref f__law_mixed) = true)
    (a__law_ratios : PySem.W.nsIn K mainGlobals "_law_ratios" = some (some (.ref f__law_ratios)))
    (l__law_ratios : K.lookup f__law_ratios = some ⟨oc__law_ratios, od__law_ratios, .func (PySem.W.fnOf "_law_ratios" "_law_ratios" (defArgs s__law_ratios) (defBody s__law_ratios) (defScope s__law_ratios) .none kV__law_ratios dc__law_ratios pm__law_ratios an__law_ratios cd__law_ratios ct__law_ratios), sl__law_ratios⟩)
    (c__law_ratios : PySem.W.codeIn K cd__law_ratios "_law_ratios" = true)
    (k__law_ratios : PySem.W.keepIn K (.ref f__law_ratios) = true)
    (a__law_told : PySem.W.nsIn K mainGlobals "_law_told" = some (some (.ref f__law_told)))
    (l__law_told : K.lookup f__law_told = some ⟨oc__law_told, od__law_told, .func (PySem.W.fnOf "_law_told" "_law_told" (defArgs s__law_told) (defBody s__law_told) (defScope s__law_told) .none kV__law_told dc__law_told pm__law_told an__law_told cd__law_told ct__law_told), sl__law_told⟩)
    (c__law_told : PySem.W.codeIn K cd__law_told "_law_told" = true)
    (k__law_told : PySem.W.keepIn K (.ref f__law_told) = true)
    (a__law_lot : PySem.W.nsIn K mainGlobals "_law_lot" = some (some (.ref f__law_lot)))
    (l__law_lot : K.lookup f__law_lot = some ⟨oc__law_lot, od__law_lot, .func (PySem.W.fnOf "_law_lot" "_law_lot" (defArgs s__law_lot) (defBody s__law_lot) (defScope s__law_lot) .none kV__law_lot dc__law_lot pm__law_lot an__law_lot cd__law_lot ct__law_lot), sl__law_lot⟩)
    (c__law_lot : PySem.W.codeIn K cd__law_lot "_law_lot" = true)
    (k__law_lot : PySem.W.keepIn K (.ref f__law_lot) = true)
    (a__law_turned : PySem.W.nsIn K mainGlobals "_law_turned" = some (some (.ref f__law_turned)))
    (l__law_turned : K.lookup f__law_turned = some ⟨oc__law_turned, od__law_turned, .func (PySem.W.fnOf "_law_turned" "_law_turned" (defArgs s__law_turned) (defBody s__law_turned) (defScope s__law_turned) .none kV__law_turned dc__law_turned pm__law_turned an__law_turned cd__law_turned ct__law_turned), sl__law_turned⟩)
    (c__law_turned : PySem.W.codeIn K cd__law_turned "_law_turned" = true)
    (k__law_turned : PySem.W.keepIn K (.ref f__law_turned) = true)
    (a__law_right : PySem.W.nsIn K mainGlobals "_law_right" = some (some (.ref f__law_right)))
    (l__law_right : K.lookup f__law_right = some ⟨oc__law_right, od__law_right, .func (PySem.W.fnOf "_law_right" "_law_right" (defArgs s__law_right) (defBody s__law_right) (defScope s__law_right) .none kV__law_right dc__law_right pm__law_right an__law_right cd__law_right ct__law_right), sl__law_right⟩)
    (c__law_right : PySem.W.codeIn K cd__law_right "_law_right" = true)
    (k__law_right : PySem.W.keepIn K (.ref f__law_right) = true)
    (a_law : PySem.W.nsIn K mainGlobals "law" = some (some (.ref f_law)))
    (l_law : K.lookup f_law = some ⟨oc_law, od_law, .func (PySem.W.fnOf "law" "law" (defArgs s_law) (defBody s_law) (defScope s_law) .none kV_law dc_law pm_law an_law cd_law ct_law), sl_law⟩)
    (c_law : PySem.W.codeIn K cd_law "law" = true)
    (k_law : PySem.W.keepIn K (.ref f_law) = true)
    (a_Ratio___init__ : PySem.W.findIn K (.ref C_Ratio) "__init__" = some (some (.ref f_Ratio___init__)))
    (l_Ratio___init__ : K.lookup f_Ratio___init__ = some ⟨oc_Ratio___init__, od_Ratio___init__, .func (PySem.W.fnOf "__init__" "Ratio.__init__" (defArgs s_Ratio___init__) (defBody s_Ratio___init__) (defScope s_Ratio___init__) (.ref dT_Ratio___init__) kV_Ratio___init__ dc_Ratio___init__ pm_Ratio___init__ an_Ratio___init__ cd_Ratio___init__ ct_Ratio___init__), sl_Ratio___init__⟩)
    (c_Ratio___init__ : PySem.W.codeIn K cd_Ratio___init__ "Ratio.__init__" = true)
    (k_Ratio___init__ : PySem.W.keepIn K (.ref f_Ratio___init__) = true)
    (dl_Ratio___init__ : K.lookup dT_Ratio___init__ = some ⟨do_Ratio___init__, dd_Ratio___init__, .seq #[.int 1 dt_Ratio___init__] dn_Ratio___init__, ds_Ratio___init__⟩)
    (i_Ratio___init__ : PySem.W.isFn K (.ref f_Ratio___init__) = true)
    (a1_Ratio_top : PySem.W.findIn K (.ref C_Ratio) "top" = some (some (.ref pa_Ratio_top)))
    (a2_Ratio_top : PySem.W.specialIn K (.ref pa_Ratio_top) "__get__" = some (some (.builtin "property.__get__")))
    (a3_Ratio_top : PySem.W.takesIn K (.ref pa_Ratio_top) = some true)
    (a4_Ratio_top : PySem.W.recIn K pa_Ratio_top "property" = some (.ref f_Ratio_top :: pr_Ratio_top))
    (l_Ratio_top : K.lookup f_Ratio_top = some ⟨oc_Ratio_top, od_Ratio_top, .func (PySem.W.fnOf "top" "Ratio.top" (defArgs s_Ratio_top) (defBody s_Ratio_top) (defScope s_Ratio_top) .none kV_Ratio_top dc_Ratio_top pm_Ratio_top an_Ratio_top cd_Ratio_top ct_Ratio_top), sl_Ratio_top⟩)
    (c_Ratio_top : PySem.W.codeIn K cd_Ratio_top "Ratio.top" = true)
    (k_Ratio_top : PySem.W.keepIn K (.ref f_Ratio_top) = true)
    (a1_Ratio_bottom : PySem.W.findIn K (.ref C_Ratio) "bottom" = some (some (.ref pa_Ratio_bottom)))
    (a2_Ratio_bottom : PySem.W.specialIn K (.ref pa_Ratio_bottom) "__get__" = some (some (.builtin "property.__get__")))
    (a3_Ratio_bottom : PySem.W.takesIn K (.ref pa_Ratio_bottom) = some true)
    (a4_Ratio_bottom : PySem.W.recIn K pa_Ratio_bottom "property" = some (.ref f_Ratio_bottom :: pr_Ratio_bottom))
    (l_Ratio_bottom : K.lookup f_Ratio_bottom = some ⟨oc_Ratio_bottom, od_Ratio_bottom, .func (PySem.W.fnOf "bottom" "Ratio.bottom" (defArgs s_Ratio_bottom) (defBody s_Ratio_bottom) (defScope s_Ratio_bottom) .none kV_Ratio_bottom dc_Ratio_bottom pm_Ratio_bottom an_Ratio_bottom cd_Ratio_bottom ct_Ratio_bottom), sl_Ratio_bottom⟩)
    (c_Ratio_bottom : PySem.W.codeIn K cd_Ratio_bottom "Ratio.bottom" = true)
    (k_Ratio_bottom : PySem.W.keepIn K (.ref f_Ratio_bottom) = true)
    (a_Ratio___eq__ : PySem.W.findIn K (.ref C_Ratio) "__eq__" = some (some (.ref f_Ratio___eq__)))
    (l_Ratio___eq__ : K.lookup f_Ratio___eq__ = some ⟨oc_Ratio___eq__, od_Ratio___eq__, .func (PySem.W.fnOf "__eq__" "Ratio.__eq__" (defArgs s_Ratio___eq__) (defBody s_Ratio___eq__) (defScope s_Ratio___eq__) .none kV_Ratio___eq__ dc_Ratio___eq__ pm_Ratio___eq__ an_Ratio___eq__ cd_Ratio___eq__ ct_Ratio___eq__), sl_Ratio___eq__⟩)
    (c_Ratio___eq__ : PySem.W.codeIn K cd_Ratio___eq__ "Ratio.__eq__" = true)
    (k_Ratio___eq__ : PySem.W.keepIn K (.ref f_Ratio___eq__) = true)
    (i_Ratio___eq__ : PySem.W.isFn K (.ref f_Ratio___eq__) = true)
    (mk_Ratio : PySem.W.makesIn K C_Ratio = true)
    (kc_Ratio : PySem.W.keepIn K (.ref C_Ratio) = true)
    (ca_FEWEST_BITS : PySem.W.nsIn K mainGlobals "FEWEST_BITS" = some (some (.int 3 ct0_FEWEST_BITS)))
    (ca_MOST_BITS : PySem.W.nsIn K mainGlobals "MOST_BITS" = some (some (.int 4 ct0_MOST_BITS)))
    (ca_MAX_FIGURES : PySem.W.nsIn K mainGlobals "MAX_FIGURES" = some (some (.int 60 ct0_MAX_FIGURES)))
    (ca_MAX_DIGITS : PySem.W.nsIn K mainGlobals "MAX_DIGITS" = some (some (.int 2000 ct0_MAX_DIGITS)))
    (ca_MAX_ROWS : PySem.W.nsIn K mainGlobals "MAX_ROWS" = some (some (.int 512 ct0_MAX_ROWS)))
    (ca_MOST_LONG : PySem.W.nsIn K mainGlobals "MOST_LONG" = some (some (.int 64 ct0_MOST_LONG)))
    (ca_ENTRY_DIGITS : PySem.W.nsIn K mainGlobals "ENTRY_DIGITS" = some (some (.int 20 ct0_ENTRY_DIGITS)))
    (ca_ENTRY_BOUND : PySem.W.nsIn K mainGlobals "ENTRY_BOUND" = some (some (.int 100000000000000000000 ct0_ENTRY_BOUND)))
    (z_isinstance : PySem.W.nsIn K mainGlobals "isinstance" = some none)
    (z_len : PySem.W.nsIn K mainGlobals "len" = some none)
    (z_str : PySem.W.nsIn K mainGlobals "str" = some none)
    (z_abs : PySem.W.nsIn K mainGlobals "abs" = some none)
    (z_int : PySem.W.nsIn K mainGlobals "int" = some none)
    (z_bool : PySem.W.nsIn K mainGlobals "bool" = some none)
    (z_max : PySem.W.nsIn K mainGlobals "max" = some none)
    (z_min : PySem.W.nsIn K mainGlobals "min" = some none)
    (z_range : PySem.W.nsIn K mainGlobals "range" = some none)
    (z_tuple : PySem.W.nsIn K mainGlobals "tuple" = some none)
    (z_list : PySem.W.nsIn K mainGlobals "list" = some none)
    (z_all : PySem.W.nsIn K mainGlobals "all" = some none)
    (z_sum : PySem.W.nsIn K mainGlobals "sum" = some none)
    (z_zip : PySem.W.nsIn K mainGlobals "zip" = some none)
    (lb_gcd : PySem.W.nsIn K mainGlobals "gcd" = some (some (.builtin "math.gcd")))
    (lb_lcm : PySem.W.nsIn K mainGlobals "lcm" = some (some (.builtin "math.lcm")))
    (q_sf_Ratio : PySem.W.selfFirst K C_Ratio = true)
    (q_dg : PySem.W.nsIn K cStatics "sys.int_max_str_digits" = some none)
    : Nonempty (TX K mg) := ⟨{
    C_InvalidNumber := C_InvalidNumber,
    f_InvalidNumber___init__ := f_InvalidNumber___init__,
    x_InvalidNumber := ⟨PySem.W.mg_of X G xg_InvalidNumber, xi_InvalidNumber, xo_InvalidNumber, x1_InvalidNumber, x2_InvalidNumber, x3_InvalidNumber, x4_InvalidNumber, x5_InvalidNumber, x6_InvalidNumber, x7_InvalidNumber, x8_InvalidNumber, x9_InvalidNumber, xa_InvalidNumber, L3.exm_of x8_InvalidNumber xb_InvalidNumber x9_InvalidNumber xc_InvalidNumber, ⟨_, _, _, _, _, _, _, _, _, _, _, _, _, _, xl_InvalidNumber, xd_InvalidNumber⟩⟩,
    g_InvalidNumber := PySem.W.mg_of X G xg_InvalidNumber,
    C_TooMany := C_TooMany,
    f_TooMany___init__ := f_TooMany___init__,
    x_TooMany := ⟨PySem.W.mg_of X G xg_TooMany, xi_TooMany, xo_TooMany, x1_TooMany, x2_TooMany, x3_TooMany, x4_TooMany, x5_TooMany, x6_TooMany, x7_TooMany, x8_TooMany, x9_TooMany, xa_TooMany, L3.exm_of x8_TooMany xb_TooMany x9_TooMany xc_TooMany, ⟨_, _, _, _, _, _, _, _, _, _, _, _, _, _, xl_TooMany, xd_TooMany⟩⟩,
    g_TooMany := PySem.W.mg_of X G xg_TooMany,
    C_InvalidRows := C_InvalidRows,
    g_InvalidRows := PySem.W.mg_of X G xg_InvalidRows,
    x_InvalidRows := xe_InvalidRows,
    k_InvalidRows := x7_InvalidRows,
    bx_InvalidRows := x8_InvalidRows,
    tx_InvalidRows := x9_InvalidRows,
    C_InvalidOperation := C_InvalidOperation,
    g_InvalidOperation := PySem.W.mg_of X G xg_InvalidOperation,
    x_InvalidOperation := xe_InvalidOperation,
    k_InvalidOperation := x7_InvalidOperation,
    bx_InvalidOperation := x8_InvalidOperation,
    tx_InvalidOperation := x9_InvalidOperation,
    C_Ratio := C_Ratio,
    g_Ratio := PySem.W.mg_of X G ac_Ratio,
    cl_Ratio := ⟨pg_Ratio, hd_Ratio, po_Ratio, sa_Ratio⟩,
    n_Ratio__top := nA_Ratio__top,
    n_Ratio__bottom := nA_Ratio__bottom,
    tc_Ratio := ⟨⟨pg_Ratio, hd_Ratio, po_Ratio, sa_Ratio⟩, t1_Ratio, t2_Ratio, t3_Ratio, t4_Ratio⟩,
    ne_Ratio := ⟨ne0_Ratio, t4_Ratio⟩,
    kit_Ratio_NoneType := kit_Ratio_NoneType,
    nf_Ratio_NoneType := nf_Ratio_NoneType,
    itk_Ratio_NoneType := itk_Ratio_NoneType,
    kit_Ratio_bool := kit_Ratio_bool,
    nf_Ratio_bool := nf_Ratio_bool,
    itk_Ratio_bool := itk_Ratio_bool,
    kit_Ratio_int := kit_Ratio_int,
    nf_Ratio_int := nf_Ratio_int,
    itk_Ratio_int := itk_Ratio_int,
    kit_Ratio_str := kit_Ratio_str,
    nf_Ratio_str := nf_Ratio_str,
    itk_Ratio_str := itk_Ratio_str,
    kit_Ratio_list := kit_Ratio_list,
    nf_Ratio_list := nf_Ratio_list,
    itk_Ratio_list := itk_Ratio_list,
    kit_Ratio_tuple := kit_Ratio_tuple,
    nf_Ratio_tuple := nf_Ratio_tuple,
    itk_Ratio_tuple := itk_Ratio_tuple,
    kit_Ratio_dict := kit_Ratio_dict,
    nf_Ratio_dict := nf_Ratio_dict,
    itk_Ratio_dict := itk_Ratio_dict,
    kit_Ratio := kit_Ratio,
    nf_Ratio := nf_Ratio,
    f_is_longer := f_is_longer,
    d_is_longer := PySem.W.fnOf "is_longer" "is_longer" (defArgs s_is_longer) (defBody s_is_longer) (defScope s_is_longer) .none kV_is_longer dc_is_longer pm_is_longer an_is_longer cd_is_longer ct_is_longer,
    F_is_longer := fun_mk (st := s_is_longer) l_is_longer c_is_longer k_is_longer,
    b_is_longer := (fun_mk (st := s_is_longer) l_is_longer c_is_longer k_is_longer).binds (ps := ["number", "digits"]) fun _ _ _ _ _ _ us hl => match us, hl with | [_, _], _ => rfl,
    g_is_longer := PySem.W.mg_of X G a_is_longer,
    f_is_plain_int := f_is_plain_int,
    d_is_plain_int := PySem.W.fnOf "is_plain_int" "is_plain_int" (defArgs s_is_plain_int) (defBody s_is_plain_int) (defScope s_is_plain_int) .none kV_is_plain_int dc_is_plain_int pm_is_plain_int an_is_plain_int cd_is_plain_int ct_is_plain_int,
    F_is_plain_int := fun_mk (st := s_is_plain_int) l_is_plain_int c_is_plain_int k_is_plain_int,
    b_is_plain_int := (fun_mk (st := s_is_plain_int) l_is_plain_int c_is_plain_int k_is_plain_int).binds (ps := ["value"]) fun _ _ _ _ _ _ us hl => match us, hl with | [_], _ => rfl,
    g_is_plain_int := PySem.W.mg_of X G a_is_plain_int,
    f_lowest_terms := f_lowest_terms,
    d_lowest_terms := PySem.W.fnOf "lowest_terms" "lowest_terms" (defArgs s_lowest_terms) (defBody s_lowest_terms) (defScope s_lowest_terms) .none kV_lowest_terms dc_lowest_terms pm_lowest_terms an_lowest_terms cd_lowest_terms ct_lowest_terms,
    F_lowest_terms := fun_mk (st := s_lowest_terms) l_lowest_terms c_lowest_terms k_lowest_terms,
    b_lowest_terms := (fun_mk (st := s_lowest_terms) l_lowest_terms c_lowest_terms k_lowest_terms).binds (ps := ["top", "bottom"]) fun _ _ _ _ _ _ us hl => match us, hl with | [_, _], _ => rfl,
    g_lowest_terms := PySem.W.mg_of X G a_lowest_terms,
    f_ratio_of := f_ratio_of,
    d_ratio_of := PySem.W.fnOf "ratio_of" "ratio_of" (defArgs s_ratio_of) (defBody s_ratio_of) (defScope s_ratio_of) .none kV_ratio_of dc_ratio_of pm_ratio_of an_ratio_of cd_ratio_of ct_ratio_of,
    F_ratio_of := fun_mk (st := s_ratio_of) l_ratio_of c_ratio_of k_ratio_of,
    b_ratio_of := (fun_mk (st := s_ratio_of) l_ratio_of c_ratio_of k_ratio_of).binds (ps := ["top", "bottom"]) fun _ _ _ _ _ _ us hl => match us, hl with | [_, _], _ => rfl,
    g_ratio_of := PySem.W.mg_of X G a_ratio_of,
    f_is_ratio := f_is_ratio,
    d_is_ratio := PySem.W.fnOf "is_ratio" "is_ratio" (defArgs s_is_ratio) (defBody s_is_ratio) (defScope s_is_ratio) .none kV_is_ratio dc_is_ratio pm_is_ratio an_is_ratio cd_is_ratio ct_is_ratio,
    F_is_ratio := fun_mk (st := s_is_ratio) l_is_ratio c_is_ratio k_is_ratio,
    b_is_ratio := (fun_mk (st := s_is_ratio) l_is_ratio c_is_ratio k_is_ratio).binds (ps := ["value"]) fun _ _ _ _ _ _ us hl => match us, hl with | [_], _ => rfl,
    g_is_ratio := PySem.W.mg_of X G a_is_ratio,
    f_are_ratios := f_are_ratios,
    d_are_ratios := PySem.W.fnOf "are_ratios" "are_ratios" (defArgs s_are_ratios) (defBody s_are_ratios) (defScope s_are_ratios) .none kV_are_ratios dc_are_ratios pm_are_ratios an_are_ratios cd_are_ratios ct_are_ratios,
    F_are_ratios := fun_mk (st := s_are_ratios) l_are_ratios c_are_ratios k_are_ratios,
    b_are_ratios := (fun_mk (st := s_are_ratios) l_are_ratios c_are_ratios k_are_ratios).binds (ps := ["value"]) fun _ _ _ _ _ _ us hl => match us, hl with | [_], _ => rfl,
    g_are_ratios := PySem.W.mg_of X G a_are_ratios,
    f_product_of := f_product_of,
    d_product_of := PySem.W.fnOf "product_of" "product_of" (defArgs s_product_of) (defBody s_product_of) (defScope s_product_of) .none kV_product_of dc_product_of pm_product_of an_product_of cd_product_of ct_product_of,
    F_product_of := fun_mk (st := s_product_of) l_product_of c_product_of k_product_of,
    b_product_of := (fun_mk (st := s_product_of) l_product_of c_product_of k_product_of).binds (ps := ["one", "other"]) fun _ _ _ _ _ _ us hl => match us, hl with | [_, _], _ => rfl,
    g_product_of := PySem.W.mg_of X G a_product_of,
    f_columns_of := f_columns_of,
    d_columns_of := PySem.W.fnOf "columns_of" "columns_of" (defArgs s_columns_of) (defBody s_columns_of) (defScope s_columns_of) .none kV_columns_of dc_columns_of pm_columns_of an_columns_of cd_columns_of ct_columns_of,
    F_columns_of := fun_mk (st := s_columns_of) l_columns_of c_columns_of k_columns_of,
    b_columns_of := (fun_mk (st := s_columns_of) l_columns_of c_columns_of k_columns_of).binds (ps := ["rows", "width"]) fun _ _ _ _ _ _ us hl => match us, hl with | [_, _], _ => rfl,
    g_columns_of := PySem.W.mg_of X G a_columns_of,
    f_common_bottom := f_common_bottom,
    d_common_bottom := PySem.W.fnOf "common_bottom" "common_bottom" (defArgs s_common_bottom) (defBody s_common_bottom) (defScope s_common_bottom) .none kV_common_bottom dc_common_bottom pm_common_bottom an_common_bottom cd_common_bottom ct_common_bottom,
    F_common_bottom := fun_mk (st := s_common_bottom) l_common_bottom c_common_bottom k_common_bottom,
    b_common_bottom := (fun_mk (st := s_common_bottom) l_common_bottom c_common_bottom k_common_bottom).binds (ps := ["pairs"]) fun _ _ _ _ _ _ us hl => match us, hl with | [_], _ => rfl,
    g_common_bottom := PySem.W.mg_of X G a_common_bottom,
    f_tops_over := f_tops_over,
    d_tops_over := PySem.W.fnOf "tops_over" "tops_over" (defArgs s_tops_over) (defBody s_tops_over) (defScope s_tops_over) .none kV_tops_over dc_tops_over pm_tops_over an_tops_over cd_tops_over ct_tops_over,
    F_tops_over := fun_mk (st := s_tops_over) l_tops_over c_tops_over k_tops_over,
    b_tops_over := (fun_mk (st := s_tops_over) l_tops_over c_tops_over k_tops_over).binds (ps := ["pairs", "bottom"]) fun _ _ _ _ _ _ us hl => match us, hl with | [_, _], _ => rfl,
    g_tops_over := PySem.W.mg_of X G a_tops_over,
    f_pairs_of := f_pairs_of,
    d_pairs_of := PySem.W.fnOf "pairs_of" "pairs_of" (defArgs s_pairs_of) (defBody s_pairs_of) (defScope s_pairs_of) .none kV_pairs_of dc_pairs_of pm_pairs_of an_pairs_of cd_pairs_of ct_pairs_of,
    F_pairs_of := fun_mk (st := s_pairs_of) l_pairs_of c_pairs_of k_pairs_of,
    b_pairs_of := (fun_mk (st := s_pairs_of) l_pairs_of c_pairs_of k_pairs_of).binds (ps := ["row"]) fun _ _ _ _ _ _ us hl => match us, hl with | [_], _ => rfl,
    g_pairs_of := PySem.W.mg_of X G a_pairs_of,
    f_scaled := f_scaled,
    d_scaled := PySem.W.fnOf "scaled" "scaled" (defArgs s_scaled) (defBody s_scaled) (defScope s_scaled) .none kV_scaled dc_scaled pm_scaled an_scaled cd_scaled ct_scaled,
    F_scaled := fun_mk (st := s_scaled) l_scaled c_scaled k_scaled,
    b_scaled := (fun_mk (st := s_scaled) l_scaled c_scaled k_scaled).binds (ps := ["row"]) fun _ _ _ _ _ _ us hl => match us, hl with | [_], _ => rfl,
    g_scaled := PySem.W.mg_of X G a_scaled,
    f_is_rows := f_is_rows,
    d_is_rows := PySem.W.fnOf "is_rows" "is_rows" (defArgs s_is_rows) (defBody s_is_rows) (defScope s_is_rows) .none kV_is_rows dc_is_rows pm_is_rows an_is_rows cd_is_rows ct_is_rows,
    F_is_rows := fun_mk (st := s_is_rows) l_is_rows c_is_rows k_is_rows,
    b_is_rows := (fun_mk (st := s_is_rows) l_is_rows c_is_rows k_is_rows).binds (ps := ["value"]) fun _ _ _ _ _ _ us hl => match us, hl with | [_], _ => rfl,
    g_is_rows := PySem.W.mg_of X G a_is_rows,
    f_width_of := f_width_of,
    d_width_of := PySem.W.fnOf "width_of" "width_of" (defArgs s_width_of) (defBody s_width_of) (defScope s_width_of) .none kV_width_of dc_width_of pm_width_of an_width_of cd_width_of ct_width_of,
    F_width_of := fun_mk (st := s_width_of) l_width_of c_width_of k_width_of,
    b_width_of := (fun_mk (st := s_width_of) l_width_of c_width_of k_width_of).binds (ps := ["rows"]) fun _ _ _ _ _ _ us hl => match us, hl with | [_], _ => rfl,
    g_width_of := PySem.W.mg_of X G a_width_of,
    f_check_rows := f_check_rows,
    d_check_rows := PySem.W.fnOf "check_rows" "check_rows" (defArgs s_check_rows) (defBody s_check_rows) (defScope s_check_rows) .none kV_check_rows dc_check_rows pm_check_rows an_check_rows cd_check_rows ct_check_rows,
    F_check_rows := fun_mk (st := s_check_rows) l_check_rows c_check_rows k_check_rows,
    b_check_rows := (fun_mk (st := s_check_rows) l_check_rows c_check_rows k_check_rows).binds (ps := ["value"]) fun _ _ _ _ _ _ us hl => match us, hl with | [_], _ => rfl,
    g_check_rows := PySem.W.mg_of X G a_check_rows,
    f_is_short := f_is_short,
    d_is_short := PySem.W.fnOf "is_short" "is_short" (defArgs s_is_short) (defBody s_is_short) (defScope s_is_short) .none kV_is_short dc_is_short pm_is_short an_is_short cd_is_short ct_is_short,
    F_is_short := fun_mk (st := s_is_short) l_is_short c_is_short k_is_short,
    b_is_short := (fun_mk (st := s_is_short) l_is_short c_is_short k_is_short).binds (ps := ["one"]) fun _ _ _ _ _ _ us hl => match us, hl with | [_], _ => rfl,
    g_is_short := PySem.W.mg_of X G a_is_short,
    f_check_bounds := f_check_bounds,
    d_check_bounds := PySem.W.fnOf "check_bounds" "check_bounds" (defArgs s_check_bounds) (defBody s_check_bounds) (defScope s_check_bounds) .none kV_check_bounds dc_check_bounds pm_check_bounds an_check_bounds cd_check_bounds ct_check_bounds,
    F_check_bounds := fun_mk (st := s_check_bounds) l_check_bounds c_check_bounds k_check_bounds,
    b_check_bounds := (fun_mk (st := s_check_bounds) l_check_bounds c_check_bounds k_check_bounds).binds (ps := ["several"]) fun _ _ _ _ _ _ us hl => match us, hl with | [_], _ => rfl,
    g_check_bounds := PySem.W.mg_of X G a_check_bounds,
    f_turned := f_turned,
    d_turned := PySem.W.fnOf "turned" "turned" (defArgs s_turned) (defBody s_turned) (defScope s_turned) .none kV_turned dc_turned pm_turned an_turned cd_turned ct_turned,
    F_turned := fun_mk (st := s_turned) l_turned c_turned k_turned,
    b_turned := (fun_mk (st := s_turned) l_turned c_turned k_turned).binds (ps := ["rows"]) fun _ _ _ _ _ _ us hl => match us, hl with | [_], _ => rfl,
    g_turned := PySem.W.mg_of X G a_turned,
    f_multiplied := f_multiplied,
    d_multiplied := PySem.W.fnOf "multiplied" "multiplied" (defArgs s_multiplied) (defBody s_multiplied) (defScope s_multiplied) .none kV_multiplied dc_multiplied pm_multiplied an_multiplied cd_multiplied ct_multiplied,
    F_multiplied := fun_mk (st := s_multiplied) l_multiplied c_multiplied k_multiplied,
    b_multiplied := (fun_mk (st := s_multiplied) l_multiplied c_multiplied k_multiplied).binds (ps := ["rows", "others"]) fun _ _ _ _ _ _ us hl => match us, hl with | [_, _], _ => rfl,
    g_multiplied := PySem.W.mg_of X G a_multiplied,
    f_multiplied_row := f_multiplied_row,
    d_multiplied_row := PySem.W.fnOf "multiplied_row" "multiplied_row" (defArgs s_multiplied_row) (defBody s_multiplied_row) (defScope s_multiplied_row) .none kV_multiplied_row dc_multiplied_row pm_multiplied_row an_multiplied_row cd_multiplied_row ct_multiplied_row,
    F_multiplied_row := fun_mk (st := s_multiplied_row) l_multiplied_row c_multiplied_row k_multiplied_row,
    b_multiplied_row := (fun_mk (st := s_multiplied_row) l_multiplied_row c_multiplied_row k_multiplied_row).binds (ps := ["row", "columns"]) fun _ _ _ _ _ _ us hl => match us, hl with | [_, _], _ => rfl,
    g_multiplied_row := PySem.W.mg_of X G a_multiplied_row,
    f__law_well := f__law_well,
    d__law_well := PySem.W.fnOf "_law_well" "_law_well" (defArgs s__law_well) (defBody s__law_well) (defScope s__law_well) .none kV__law_well dc__law_well pm__law_well an__law_well cd__law_well ct__law_well,
    F__law_well := fun_mk (st := s__law_well) l__law_well c__law_well k__law_well,
    b__law_well := (fun_mk (st := s__law_well) l__law_well c__law_well k__law_well).binds (ps := ["_law_script", "_law_at"]) fun _ _ _ _ _ _ us hl => match us, hl with | [_, _], _ => rfl,
    g__law_well := PySem.W.mg_of X G a__law_well,
    f__law_dip := f__law_dip,
    d__law_dip := PySem.W.fnOf "_law_dip" "_law_dip" (defArgs s__law_dip) (defBody s__law_dip) (defScope s__law_dip) .none kV__law_dip dc__law_dip pm__law_dip an__law_dip cd__law_dip ct__law_dip,
    F__law_dip := fun_mk (st := s__law_dip) l__law_dip c__law_dip k__law_dip,
    b__law_dip := (fun_mk (st := s__law_dip) l__law_dip c__law_dip k__law_dip).binds (ps := ["_law_well_here", "_law_total"]) fun _ _ _ _ _ _ us hl => match us, hl with | [_, _], _ => rfl,
    g__law_dip := PySem.W.mg_of X G a__law_dip,
    f__law_low := f__law_low,
    d__law_low := PySem.W.fnOf "_law_low" "_law_low" (defArgs s__law_low) (defBody s__law_low) (defScope s__law_low) .none kV__law_low dc__law_low pm__law_low an__law_low cd__law_low ct__law_low,
    F__law_low := fun_mk (st := s__law_low) l__law_low c__law_low k__law_low,
    b__law_low := (fun_mk (st := s__law_low) l__law_low c__law_low k__law_low).binds (ps := ["_law_top", "_law_bottom"]) fun _ _ _ _ _ _ us hl => match us, hl with | [_, _], _ => rfl,
    g__law_low := PySem.W.mg_of X G a__law_low,
    f__law_plus := f__law_plus,
    d__law_plus := PySem.W.fnOf "_law_plus" "_law_plus" (defArgs s__law_plus) (defBody s__law_plus) (defScope s__law_plus) .none kV__law_plus dc__law_plus pm__law_plus an__law_plus cd__law_plus ct__law_plus,
    F__law_plus := fun_mk (st := s__law_plus) l__law_plus c__law_plus k__law_plus,
    b__law_plus := (fun_mk (st := s__law_plus) l__law_plus c__law_plus k__law_plus).binds (ps := ["_law_one", "_law_other"]) fun _ _ _ _ _ _ us hl => match us, hl with | [_, _], _ => rfl,
    g__law_plus := PySem.W.mg_of X G a__law_plus,
    f__law_times := f__law_times,
    d__law_times := PySem.W.fnOf "_law_times" "_law_times" (defArgs s__law_times) (defBody s__law_times) (defScope s__law_times) .none kV__law_times dc__law_times pm__law_times an__law_times cd__law_times ct__law_times,
    F__law_times := fun_mk (st := s__law_times) l__law_times c__law_times k__law_times,
    b__law_times := (fun_mk (st := s__law_times) l__law_times c__law_times k__law_times).binds (ps := ["_law_one", "_law_other"]) fun _ _ _ _ _ _ us hl => match us, hl with | [_, _], _ => rfl,
    g__law_times := PySem.W.mg_of X G a__law_times,
    f__law_less := f__law_less,
    d__law_less := PySem.W.fnOf "_law_less" "_law_less" (defArgs s__law_less) (defBody s__law_less) (defScope s__law_less) .none kV__law_less dc__law_less pm__law_less an__law_less cd__law_less ct__law_less,
    F__law_less := fun_mk (st := s__law_less) l__law_less c__law_less k__law_less,
    b__law_less := (fun_mk (st := s__law_less) l__law_less c__law_less k__law_less).binds (ps := ["_law_one", "_law_other", "_law_factor"]) fun _ _ _ _ _ _ us hl => match us, hl with | [_, _, _], _ => rfl,
    g__law_less := PySem.W.mg_of X G a__law_less,
    f__law_mixed := f__law_mixed,
    d__law_mixed := PySem.W.fnOf "_law_mixed" "_law_mixed" (defArgs s__law_mixed) (defBody s__law_mixed) (defScope s__law_mixed) .none kV__law_mixed dc__law_mixed pm__law_mixed an__law_mixed cd__law_mixed ct__law_mixed,
    F__law_mixed := fun_mk (st := s__law_mixed) l__law_mixed c__law_mixed k__law_mixed,
    b__law_mixed := (fun_mk (st := s__law_mixed) l__law_mixed c__law_mixed k__law_mixed).binds (ps := ["_law_rows", "_law_weights", "_law_width"]) fun _ _ _ _ _ _ us hl => match us, hl with | [_, _, _], _ => rfl,
    g__law_mixed := PySem.W.mg_of X G a__law_mixed,
    f__law_ratios := f__law_ratios,
    d__law_ratios := PySem.W.fnOf "_law_ratios" "_law_ratios" (defArgs s__law_ratios) (defBody s__law_ratios) (defScope s__law_ratios) .none kV__law_ratios dc__law_ratios pm__law_ratios an__law_ratios cd__law_ratios ct__law_ratios,
    F__law_ratios := fun_mk (st := s__law_ratios) l__law_ratios c__law_ratios k__law_ratios,
    b__law_ratios := (fun_mk (st := s__law_ratios) l__law_ratios c__law_ratios k__law_ratios).binds (ps := ["_law_row"]) fun _ _ _ _ _ _ us hl => match us, hl with | [_], _ => rfl,
    g__law_ratios := PySem.W.mg_of X G a__law_ratios,
    f__law_told := f__law_told,
    d__law_told := PySem.W.fnOf "_law_told" "_law_told" (defArgs s__law_told) (defBody s__law_told) (defScope s__law_told) .none kV__law_told dc__law_told pm__law_told an__law_told cd__law_told ct__law_told,
    F__law_told := fun_mk (st := s__law_told) l__law_told c__law_told k__law_told,
    b__law_told := (fun_mk (st := s__law_told) l__law_told c__law_told k__law_told).binds (ps := ["_law_rows"]) fun _ _ _ _ _ _ us hl => match us, hl with | [_], _ => rfl,
    g__law_told := PySem.W.mg_of X G a__law_told,
    f__law_lot := f__law_lot,
    d__law_lot := PySem.W.fnOf "_law_lot" "_law_lot" (defArgs s__law_lot) (defBody s__law_lot) (defScope s__law_lot) .none kV__law_lot dc__law_lot pm__law_lot an__law_lot cd__law_lot ct__law_lot,
    F__law_lot := fun_mk (st := s__law_lot) l__law_lot c__law_lot k__law_lot,
    b__law_lot := (fun_mk (st := s__law_lot) l__law_lot c__law_lot k__law_lot).binds (ps := ["_law_well_here", "_law_many", "_law_width"]) fun _ _ _ _ _ _ us hl => match us, hl with | [_, _, _], _ => rfl,
    g__law_lot := PySem.W.mg_of X G a__law_lot,
    f__law_turned := f__law_turned,
    d__law_turned := PySem.W.fnOf "_law_turned" "_law_turned" (defArgs s__law_turned) (defBody s__law_turned) (defScope s__law_turned) .none kV__law_turned dc__law_turned pm__law_turned an__law_turned cd__law_turned ct__law_turned,
    F__law_turned := fun_mk (st := s__law_turned) l__law_turned c__law_turned k__law_turned,
    b__law_turned := (fun_mk (st := s__law_turned) l__law_turned c__law_turned k__law_turned).binds (ps := ["_law_rows", "_law_width"]) fun _ _ _ _ _ _ us hl => match us, hl with | [_, _], _ => rfl,
    g__law_turned := PySem.W.mg_of X G a__law_turned,
    f__law_right := f__law_right,
    d__law_right := PySem.W.fnOf "_law_right" "_law_right" (defArgs s__law_right) (defBody s__law_right) (defScope s__law_right) .none kV__law_right dc__law_right pm__law_right an__law_right cd__law_right ct__law_right,
    F__law_right := fun_mk (st := s__law_right) l__law_right c__law_right k__law_right,
    b__law_right := (fun_mk (st := s__law_right) l__law_right c__law_right k__law_right).binds (ps := ["_law_well_here"]) fun _ _ _ _ _ _ us hl => match us, hl with | [_], _ => rfl,
    g__law_right := PySem.W.mg_of X G a__law_right,
    f_law := f_law,
    d_law := PySem.W.fnOf "law" "law" (defArgs s_law) (defBody s_law) (defScope s_law) .none kV_law dc_law pm_law an_law cd_law ct_law,
    F_law := fun_mk (st := s_law) l_law c_law k_law,
    b_law := (fun_mk (st := s_law) l_law c_law k_law).binds (ps := ["_law_script"]) fun _ _ _ _ _ _ us hl => match us, hl with | [_], _ => rfl,
    g_law := PySem.W.mg_of X G a_law,
    f_Ratio___init__ := f_Ratio___init__,
    d_Ratio___init__ := PySem.W.fnOf "__init__" "Ratio.__init__" (defArgs s_Ratio___init__) (defBody s_Ratio___init__) (defScope s_Ratio___init__) (.ref dT_Ratio___init__) kV_Ratio___init__ dc_Ratio___init__ pm_Ratio___init__ an_Ratio___init__ cd_Ratio___init__ ct_Ratio___init__,
    F_Ratio___init__ := (⟨⟨_, _, _, _, _, _, _, _, _, _, rfl, l_Ratio___init__, c_Ratio___init__, .inr ⟨by simp, _, _, [.int 1 dt_Ratio___init__], _, rfl, dl_Ratio___init__, rfl, .cons ⟨_, rfl⟩ .nil⟩, .inl rfl⟩, k_Ratio___init__⟩ : FunD K "__init__" "Ratio.__init__" (defArgs s_Ratio___init__) (defBody s_Ratio___init__) (defScope s_Ratio___init__) [.int 1] [] f_Ratio___init__ (PySem.W.fnOf "__init__" "Ratio.__init__" (defArgs s_Ratio___init__) (defBody s_Ratio___init__) (defScope s_Ratio___init__) (.ref dT_Ratio___init__) kV_Ratio___init__ dc_Ratio___init__ pm_Ratio___init__ an_Ratio___init__ cd_Ratio___init__ ct_Ratio___init__)),
    w_Ratio___init__ := (Classical.choose (((⟨⟨_, _, _, _, _, _, _, _, _, _, rfl, l_Ratio___init__, c_Ratio___init__, .inr ⟨by simp, _, _, [.int 1 dt_Ratio___init__], _, rfl, dl_Ratio___init__, rfl, .cons ⟨_, rfl⟩ .nil⟩, .inl rfl⟩, k_Ratio___init__⟩ : FunD K "__init__" "Ratio.__init__" (defArgs s_Ratio___init__) (defBody s_Ratio___init__) (defScope s_Ratio___init__) [.int 1] [] f_Ratio___init__ (PySem.W.fnOf "__init__" "Ratio.__init__" (defArgs s_Ratio___init__) (defBody s_Ratio___init__) (defScope s_Ratio___init__) (.ref dT_Ratio___init__) kV_Ratio___init__ dc_Ratio___init__ pm_Ratio___init__ an_Ratio___init__ cd_Ratio___init__ ct_Ratio___init__))).binds1 2 0 (by simp) (by rfl) (fun T kV doc pm an cdv ct us its hu hi => match us, its, hu, hi with | [_, _], [_], _, _ => ⟨_, rfl, rfl⟩))),
    v_Ratio___init___2 := (Classical.choose_spec (((⟨⟨_, _, _, _, _, _, _, _, _, _, rfl, l_Ratio___init__, c_Ratio___init__, .inr ⟨by simp, _, _, [.int 1 dt_Ratio___init__], _, rfl, dl_Ratio___init__, rfl, .cons ⟨_, rfl⟩ .nil⟩, .inl rfl⟩, k_Ratio___init__⟩ : FunD K "__init__" "Ratio.__init__" (defArgs s_Ratio___init__) (defBody s_Ratio___init__) (defScope s_Ratio___init__) [.int 1] [] f_Ratio___init__ (PySem.W.fnOf "__init__" "Ratio.__init__" (defArgs s_Ratio___init__) (defBody s_Ratio___init__) (defScope s_Ratio___init__) (.ref dT_Ratio___init__) kV_Ratio___init__ dc_Ratio___init__ pm_Ratio___init__ an_Ratio___init__ cd_Ratio___init__ ct_Ratio___init__))).binds1 2 0 (by simp) (by rfl) (fun T kV doc pm an cdv ct us its hu hi => match us, its, hu, hi with | [_, _], [_], _, _ => ⟨_, rfl, rfl⟩))).1,
    b_Ratio___init___2 := (Classical.choose_spec (((⟨⟨_, _, _, _, _, _, _, _, _, _, rfl, l_Ratio___init__, c_Ratio___init__, .inr ⟨by simp, _, _, [.int 1 dt_Ratio___init__], _, rfl, dl_Ratio___init__, rfl, .cons ⟨_, rfl⟩ .nil⟩, .inl rfl⟩, k_Ratio___init__⟩ : FunD K "__init__" "Ratio.__init__" (defArgs s_Ratio___init__) (defBody s_Ratio___init__) (defScope s_Ratio___init__) [.int 1] [] f_Ratio___init__ (PySem.W.fnOf "__init__" "Ratio.__init__" (defArgs s_Ratio___init__) (defBody s_Ratio___init__) (defScope s_Ratio___init__) (.ref dT_Ratio___init__) kV_Ratio___init__ dc_Ratio___init__ pm_Ratio___init__ an_Ratio___init__ cd_Ratio___init__ ct_Ratio___init__))).binds1 2 0 (by simp) (by rfl) (fun T kV doc pm an cdv ct us its hu hi => match us, its, hu, hi with | [_, _], [_], _, _ => ⟨_, rfl, rfl⟩))).2,
    b_Ratio___init__ := L3.binds_full (((⟨⟨_, _, _, _, _, _, _, _, _, _, rfl, l_Ratio___init__, c_Ratio___init__, .inr ⟨by simp, _, _, [.int 1 dt_Ratio___init__], _, rfl, dl_Ratio___init__, rfl, .cons ⟨_, rfl⟩ .nil⟩, .inl rfl⟩, k_Ratio___init__⟩ : FunD K "__init__" "Ratio.__init__" (defArgs s_Ratio___init__) (defBody s_Ratio___init__) (defScope s_Ratio___init__) [.int 1] [] f_Ratio___init__ (PySem.W.fnOf "__init__" "Ratio.__init__" (defArgs s_Ratio___init__) (defBody s_Ratio___init__) (defScope s_Ratio___init__) (.ref dT_Ratio___init__) kV_Ratio___init__ dc_Ratio___init__ pm_Ratio___init__ an_Ratio___init__ cd_Ratio___init__ ct_Ratio___init__))).binds1 3 1 (by simp) (by rfl) (fun T kV doc pm an cdv ct us its hu hi => match us, its, hu, hi with | [_, _, _], [_], _, _ => ⟨_, rfl, rfl⟩)),
    f_Ratio_top := f_Ratio_top,
    d_Ratio_top := PySem.W.fnOf "top" "Ratio.top" (defArgs s_Ratio_top) (defBody s_Ratio_top) (defScope s_Ratio_top) .none kV_Ratio_top dc_Ratio_top pm_Ratio_top an_Ratio_top cd_Ratio_top ct_Ratio_top,
    F_Ratio_top := fun_mk (st := s_Ratio_top) l_Ratio_top c_Ratio_top k_Ratio_top,
    b_Ratio_top := (fun_mk (st := s_Ratio_top) l_Ratio_top c_Ratio_top k_Ratio_top).binds (ps := ["self"]) fun _ _ _ _ _ _ us hl => match us, hl with | [_], _ => rfl,
    pa_Ratio_top := pa_Ratio_top,
    p_Ratio_top := ⟨a1_Ratio_top, a2_Ratio_top, a3_Ratio_top, ⟨_, a4_Ratio_top⟩⟩,
    f_Ratio_bottom := f_Ratio_bottom,
    d_Ratio_bottom := PySem.W.fnOf "bottom" "Ratio.bottom" (defArgs s_Ratio_bottom) (defBody s_Ratio_bottom) (defScope s_Ratio_bottom) .none kV_Ratio_bottom dc_Ratio_bottom pm_Ratio_bottom an_Ratio_bottom cd_Ratio_bottom ct_Ratio_bottom,
    F_Ratio_bottom := fun_mk (st := s_Ratio_bottom) l_Ratio_bottom c_Ratio_bottom k_Ratio_bottom,
    b_Ratio_bottom := (fun_mk (st := s_Ratio_bottom) l_Ratio_bottom c_Ratio_bottom k_Ratio_bottom).binds (ps := ["self"]) fun _ _ _ _ _ _ us hl => match us, hl with | [_], _ => rfl,
    pa_Ratio_bottom := pa_Ratio_bottom,
    p_Ratio_bottom := ⟨a1_Ratio_bottom, a2_Ratio_bottom, a3_Ratio_bottom, ⟨_, a4_Ratio_bottom⟩⟩,
    f_Ratio___eq__ := f_Ratio___eq__,
    d_Ratio___eq__ := PySem.W.fnOf "__eq__" "Ratio.__eq__" (defArgs s_Ratio___eq__) (defBody s_Ratio___eq__) (defScope s_Ratio___eq__) .none kV_Ratio___eq__ dc_Ratio___eq__ pm_Ratio___eq__ an_Ratio___eq__ cd_Ratio___eq__ ct_Ratio___eq__,
    F_Ratio___eq__ := fun_mk (st := s_Ratio___eq__) l_Ratio___eq__ c_Ratio___eq__ k_Ratio___eq__,
    b_Ratio___eq__ := (fun_mk (st := s_Ratio___eq__) l_Ratio___eq__ c_Ratio___eq__ k_Ratio___eq__).binds (ps := ["self", "other"]) fun _ _ _ _ _ _ us hl => match us, hl with | [_, _], _ => rfl,
    o_Ratio___eq__ := ⟨a_Ratio___eq__, i_Ratio___eq__⟩,
    mk_Ratio := ⟨mk_Ratio, a_Ratio___init__, i_Ratio___init__, kc_Ratio⟩,
    ct_FEWEST_BITS := ct0_FEWEST_BITS,
    c_FEWEST_BITS := PySem.W.mg_of X G ca_FEWEST_BITS,
    ct_MOST_BITS := ct0_MOST_BITS,
    c_MOST_BITS := PySem.W.mg_of X G ca_MOST_BITS,
    ct_MAX_FIGURES := ct0_MAX_FIGURES,
    c_MAX_FIGURES := PySem.W.mg_of X G ca_MAX_FIGURES,
    ct_MAX_DIGITS := ct0_MAX_DIGITS,
    c_MAX_DIGITS := PySem.W.mg_of X G ca_MAX_DIGITS,
    ct_MAX_ROWS := ct0_MAX_ROWS,
    c_MAX_ROWS := PySem.W.mg_of X G ca_MAX_ROWS,
    ct_MOST_LONG := ct0_MOST_LONG,
    c_MOST_LONG := PySem.W.mg_of X G ca_MOST_LONG,
    ct_ENTRY_DIGITS := ct0_ENTRY_DIGITS,
    c_ENTRY_DIGITS := PySem.W.mg_of X G ca_ENTRY_DIGITS,
    ct_ENTRY_BOUND := ct0_ENTRY_BOUND,
    c_ENTRY_BOUND := PySem.W.mg_of X G ca_ENTRY_BOUND,
    n_isinstance := PySem.W.mg_none_of X G z_isinstance,
    n_len := PySem.W.mg_none_of X G z_len,
    n_str := PySem.W.mg_none_of X G z_str,
    n_abs := PySem.W.mg_none_of X G z_abs,
    n_int := PySem.W.mg_none_of X G z_int,
    n_bool := PySem.W.mg_none_of X G z_bool,
    n_max := PySem.W.mg_none_of X G z_max,
    n_min := PySem.W.mg_none_of X G z_min,
    n_range := PySem.W.mg_none_of X G z_range,
    n_tuple := PySem.W.mg_none_of X G z_tuple,
    n_list := PySem.W.mg_none_of X G z_list,
    n_all := PySem.W.mg_none_of X G z_all,
    n_sum := PySem.W.mg_none_of X G z_sum,
    n_zip := PySem.W.mg_none_of X G z_zip,
    g_gcd := PySem.W.mg_of X G lb_gcd,
    g_lcm := PySem.W.mg_of X G lb_lcm,
    sf_Ratio := q_sf_Ratio,
    dg := q_dg }⟩
end K06

namespace K06
open PySem PySem.Spec PyProof.Rows L2 L3

/-! ### what a ratio is in the heap -/
def rf (t b : Int) : List (Str × V) := [("_top", .int t), ("_bottom", .int b)]
theorem tb_ : ¬ (("_top" : Str) = "_bottom") := by decide +kernel
theorem lk_here {k : Str} {v : V} {r : List (Str × V)} : List.lookup k ((k, v) :: r) = some v := by
  have e : (k == k) = true := beq_self_eq_true k
  simp only [List.lookup, e]
theorem lk_past {k g : Str} {v : V} {r : List (Str × V)} (h : (k == g) = false) : List.lookup k ((g, v) :: r) = List.lookup k r := by
  simp only [List.lookup, h]
theorem rf_top (t b : Int) : (rf t b).lookup ("_top" : Str) = some (.int t) := lk_here
theorem rf_bottom (t b : Int) : (rf t b).lookup ("_bottom" : Str) = some (.int b) := (lk_past (by decide +kernel)).trans lk_here
theorem rf_is_less (t b : Int) : (rf t b).lookup ("is_less" : Str) = none := (lk_past (by decide +kernel)).trans ((lk_past (by decide +kernel)).trans rfl)
theorem rf_new (t b : Int) : putF "_bottom" (.int b) (putF "_top" (.int t) []) = rf t b := if_neg tb_
theorem rf_put_top (t b y : Int) : putF "_top" (.int y) (rf t b) = rf y b := if_pos rfl
theorem rf_put_bottom (t b y : Int) : putF "_bottom" (.int y) (rf t b) = rf t y := by
  show (if ("_top" : Str) = "_bottom" then _ else (("_top" : Str), V.int t) :: (if ("_bottom" : Str) = "_bottom" then [(("_bottom" : Str), V.int y)] else _)) = rf t y
  rw [if_neg tb_, if_pos rfl]
  rfl
def RatAt (C : Addr) (H : Hp) (a : Addr) (t b : Int) : Prop := ∃ dx, H a = some (.ins C dx (rf t b))
def Ext (H H' : Hp) : Prop := ∀ a o, H a = some o → H' a = some o
theorem RatAt.ext {C : Addr} {H H' : Hp} {a : Addr} {t b : Int} (r : RatAt C H a t b) (e : Ext H H') : RatAt C H' a t b := r.elim fun dx h => ⟨dx, e _ _ h⟩
theorem Ext.trans {H H1 H2 : Hp} (a : Ext H H1) (b : Ext H1 H2) : Ext H H2 := fun c o h => b c o (a c o h)
theorem Ext.new {H : Hp} {p : Addr} {o : HO} (h : H p = none) : Ext H (upd H p o) := fun a u e => by
  rw [upd_ne (ne_of_none e h)]
  exact e
theorem Ext.free {H H' : Hp} (e : Ext H H') {l : Addr} (h : H' l = none) : H l = none := by
  cases q : H l with
  | none => rfl
  | some o =>
    rw [e l o q] at h
    cases h
/-! ### which values are whole numbers of at most sixty digits -/
def NonInt (K : PySem.W.Frag) (H : Hp) (x : V) : Prop := ∃ t, TyOf K H x t ∧ PySem.W.kitOne K t (.type "int") = some false
def Kn (K : PySem.W.Frag) (H : Hp) (x : V) : Prop := (∃ n, x = .int n) ∨ (∃ b, x = .bl b) ∨ NonInt K H x
def plainV : V → Bool
  | .int n => !longer n
  | _ => false
theorem plain_non {K : PySem.W.Frag} {H : Hp} {x : V} (h : NonInt K H x) : plainV x = false := by
  obtain ⟨t, ty, e⟩ := h
  cases ty with
  | int i => rw [show PySem.W.kitOne K (.type "int") (.type "int") = some true from rfl] at e; cases e
  | _ => rfl
theorem Kn.ext {K : PySem.W.Frag} {H H' : Hp} {x : V} (h : Kn K H x) (e : Ext H H') : Kn K H' x := by
  rcases h with h | h | ⟨t, ty, q⟩
  · exact .inl h
  · exact .inr (.inl h)
  · refine .inr (.inr ⟨t, ?_, q⟩)
    clear q
    cases ty with
    | non => exact .non
    | bl x => exact .bl x
    | int i => exact .int i
    | str x => exact .str x
    | flt x => exact .flt x
    | lst h => exact .lst (e _ _ h)
    | frz h => exact .frz (e _ _ h)
    | tup h => exact .tup (e _ _ h)
    | dK h => exact .dK (e _ _ h)
    | dT h => exact .dT (e _ _ h)
    | ins h a b c d f => exact .ins (e _ _ h) a b c d f
/-! ### the promises -/
def RatQ (C : Addr) (H : Hp) (r : Addr) (q : Rat) : Prop := RatAt C H r q.num q.den
def spLonger : Sp := fun vs H Q _ => ∃ n d : Int, vs = [.int n, .int d] ∧ ((d = 60 ∧ Q (.bl (longer n)) H) ∨ (d = 2000 ∧ Q (.bl (many n)) H))
def spPlain (K : PySem.W.Frag) : Sp := fun vs H Q _ => ∃ x, vs = [x] ∧ Kn K H x ∧ Q (.bl (plainV x)) H
def spLow : Sp := fun vs H Q _ => ∃ a b : Int, vs = [.int a, .int b] ∧ b ≠ 0 ∧ a.natAbs < 2 ^ 13400 ∧ b.natAbs < 2 ^ 13400 ∧ ∀ p, H p = none → Q (.ref p) (upd H p (.tup [.int (lowT a b), .int (lowB a b)]))
def Ext1 (p : Addr) (H H' : Hp) : Prop := ∀ c o, c ≠ p → H c = some o → H' c = some o
def spInit (K : PySem.W.Frag) (C : Addr) : Sp := fun vs H Q _ => ∃ (p dx : Addr) (a b : Int), vs = [.ref p, .int a, .int b] ∧ H p = some (.ins C dx []) ∧ longer a = false ∧ longer b = false ∧ b ≠ 0 ∧ ∀ H', Ext1 p H H' → H' p = some (.ins C dx (rf (lowT a b) (lowB a b))) → Q .non H'
def spRatio (C N : Addr) : Sp := fun vs H Q E => ∃ a b : Int, vs = [.int a, .int b] ∧ b ≠ 0 ∧ a.natAbs < 2 ^ 13400 ∧ b.natAbs < 2 ^ 13400 ∧
  ((many (lowT a b) || many (lowB a b)) = true → ∀ d H', Ext H H' → H' d = some (.xd [("limit", .int 2000)]) → E (.ref N) (some d) H') ∧
  ((many (lowT a b) || many (lowB a b)) = false → ∀ r H', Ext H H' → RatAt C H' r (lowT a b) (lowB a b) → Q (.ref r) H')
def spGet (C : Addr) (f : Int → Int → V) : Sp := fun vs H Q _ => ∃ p t b, vs = [.ref p] ∧ RatAt C H p t b ∧ Q (f t b) H
def spOne (C : Addr) (f : Rat → Rat) : Sp := fun vs H Q _ => ∃ p a, vs = [.ref p] ∧ RatQ C H p a ∧ big a = false ∧ ∀ r H', Ext H H' → RatQ C H' r (f a) → Q (.ref r) H'
def spTwo (C N : Addr) (f : Rat → Rat → Rat) : Sp := fun vs H Q E => ∃ p q a b, vs = [.ref p, .ref q] ∧ RatQ C H p a ∧ RatQ C H q b ∧ big a = false ∧ big b = false ∧
  (big (f a b) = true → ∀ d H', Ext H H' → H' d = some (.xd [("limit", .int 2000)]) → E (.ref N) (some d) H') ∧
  (big (f a b) = false → ∀ r H', Ext H H' → RatQ C H' r (f a b) → Q (.ref r) H')
def spOver (K : PySem.W.Frag) (C N R : Addr) : Sp := fun vs H Q E => ∃ p y a, vs = [.ref p, y] ∧ RatQ C H p a ∧ big a = false ∧
  ((∃ q b, y = .ref q ∧ RatQ C H q b ∧ big b = false ∧ (b = 0 → E (.type "ZeroDivisionError") none H) ∧
    (b ≠ 0 → big (a / b) = true → ∀ d H', Ext H H' → H' d = some (.xd [("limit", .int 2000)]) → E (.ref N) (some d) H') ∧
    (b ≠ 0 → big (a / b) = false → ∀ r H', Ext H H' → RatQ C H' r (a / b) → Q (.ref r) H')) ∨
   (∃ t, TyX K H y t ∧ PySem.W.kitOne K t (.ref C) = some false ∧ E (.ref R) none H))
def spEq (C : Addr) : Sp := fun vs H Q _ => ∃ p q a b, vs = [.ref p, .ref q] ∧ RatQ C H p a ∧ RatQ C H q b ∧ Q (.bl (decide (a = b))) H
def spLess (C : Addr) : Sp := fun vs H Q _ => ∃ p q a b, vs = [.ref p, .ref q] ∧ RatQ C H p a ∧ RatQ C H q b ∧ big a = false ∧ big b = false ∧ Q (.bl (decide (a < b))) H
def spTrue (C : Addr) : Sp := fun vs H Q _ => ∃ p a, vs = [.ref p] ∧ RatQ C H p a ∧ Q (.bl (decide (a ≠ 0))) H
theorem ps_no {X : Cx} {st : Stmt} : PS X st (fun _ _ _ => False) := ⟨fun _ _ _ _ _ _ h => h.elim⟩
theorem ratq_ext {C : Addr} {H H' : Hp} {r : Addr} {q : Rat} (h : RatQ C H r q) (e : Ext H H') : RatQ C H' r q := RatAt.ext h e
section
variable {P : Program} {w : World} {K : PySem.W.Frag} {mg : Str → Option Value} {base : Heap}
theorem ok_is_longer (T : TX K mg) : FnOk P w K mg base (L2.CX P w) 1 T.f_is_longer T.d_is_longer ["number", "digits"] (spLonger) := by
  refine T.F_is_longer.okX sc_is_longer (fun vs H Q E h => ?_) (fun cdv A outer s H vs Q E hr h => ?_)
  · obtain ⟨n, d, rfl, _⟩ := h
    rfl
  · refine ⟨_, (pss_cons (ps_set (i := 2) sc_is_longer.nd rfl (Or.inl rfl) (pe_bits (pv 0)))
    (pss_cons (ps_if (pt_cmpR op_le (pv 2) (pe_op op_mulW (pe_glob (v := .int 3) rfl T.c_FEWEST_BITS ⟨_, rfl⟩) (pv 1)) (nomark _)) (pss_one (ps_ret pe_bl)) pss_nil)
    (pss_one (ps_ret (pe_or (pe_cmpR op_gt (pv 2) (pe_op op_mulW (pe_glob (v := .int 4) rfl T.c_MOST_BITS ⟨_, rfl⟩) (pv 1)) (nomark _)) (pe_one (pe_cmpR op_gt (pe_callB call_len_str (by rfl) T.n_len (by decide +kernel) (pa_cons (pe_callTy (call_str_intD T.dg rfl) (by rfl) T.n_str (by decide +kernel) (pa_cons (pe_callB call_abs (by rfl) T.n_abs (by decide +kernel) (pa_cons (pv 0) pa_nil)) pa_nil)) pa_nil)) (pv 1) (nomark _)))))))), ?_⟩
    obtain ⟨n, d, rfl, h⟩ := h
    refine ⟨_, rfl, _, rfl, ?_⟩
    rcases h with ⟨rfl, k⟩ | ⟨rfl, k⟩
    · refine ⟨_, rfl, _, rfl, _, _, rfl, rfl, (by unfold CMulW; decide), _, _, rfl, rfl, _, rfl, ?_⟩
      refine ite2 (fun c => ?_) (fun c => ?_)
      · have c' := of_decide_eq_true c
        rw [longer_few (by omega)] at k
        exact k
      · refine ⟨_, rfl, _, rfl, _, _, rfl, rfl, (by unfold CMulW; decide), _, _, rfl, rfl, _, rfl, ?_⟩
        refine ite2 (fun c2 => ?_) (fun c2 => ?_)
        · have c' := of_decide_eq_true c2
          rw [longer_most (by omega)] at k
          exact k
        · have c' : ¬ ((4 : Int) * 60 < (Builtin.Int.intBits n : Nat)) := fun z => c2 (decide_eq_true z)
          have hb : n.natAbs < 2 ^ 240 := bits_le.mp (by omega)
          have h10 : n.natAbs < 10 ^ 4300 := Nat.lt_of_lt_of_le hb (by decide +kernel)
          refine ⟨_, rfl, _, rfl, ?_⟩
          rw [abs_if]
          refine ⟨_, rfl, h10, ?_⟩
          refine ⟨_, rfl, int_text_fits10 h10, ?_⟩
          refine ⟨_, rfl, _, _, rfl, rfl, ?_⟩
          show Q (.bl (decide ((60 : Int) < _))) H
          rw [longer_text]
          exact k
    · refine ⟨_, rfl, _, rfl, _, _, rfl, rfl, (by unfold CMulW; decide), _, _, rfl, rfl, _, rfl, ?_⟩
      refine ite2 (fun c => ?_) (fun c => ?_)
      · have c' := of_decide_eq_true c
        rw [many_few (by omega)] at k
        exact k
      · refine ⟨_, rfl, _, rfl, _, _, rfl, rfl, (by unfold CMulW; decide), _, _, rfl, rfl, _, rfl, ?_⟩
        refine ite2 (fun c2 => ?_) (fun c2 => ?_)
        · have c' := of_decide_eq_true c2
          rw [many_most (by omega)] at k
          exact k
        · have c' : ¬ ((4 : Int) * 2000 < (Builtin.Int.intBits n : Nat)) := fun z => c2 (decide_eq_true z)
          have hb : n.natAbs < 2 ^ 8000 := bits_le.mp (by omega)
          have h10 : n.natAbs < 10 ^ 4300 := Nat.lt_of_lt_of_le hb (by decide +kernel)
          refine ⟨_, rfl, _, rfl, ?_⟩
          rw [abs_if]
          refine ⟨_, rfl, h10, ?_⟩
          refine ⟨_, rfl, int_text_fits10 h10, ?_⟩
          refine ⟨_, rfl, _, _, rfl, rfl, ?_⟩
          show Q (.bl (decide ((2000 : Int) < _))) H
          rw [many_text]
          exact k
theorem ok_is_plain_int (T : TX K mg) : FnOk P w K mg base (L2.CX P w) 2 T.f_is_plain_int T.d_is_plain_int ["value"] (spPlain K) := by
  refine T.F_is_plain_int.okX sc_is_plain_int (fun vs H Q E h => ?_) (fun cdv A outer s H vs Q E hr h => ?_)
  · obtain ⟨x, rfl, _⟩ := h
    rfl
  · refine ⟨_, (pss_one (ps_ret (pe_and (pe_callB (id := "isinstance") (r := rIsi K) call_isi (by rfl) T.n_isinstance (by decide +kernel) (pa_cons (pv 0) (pa_cons (pe_bltn (v := .ty "int") (u := .type "int") rfl T.n_int (by decide +kernel) rfl) pa_nil))) (pe_and (pe_not (pe_callB (id := "isinstance") (r := rIsi K) call_isi (by rfl) T.n_isinstance (by decide +kernel) (pa_cons (pv 0) (pa_cons (pe_bltn (v := .ty "bool") (u := .type "bool") rfl T.n_bool (by decide +kernel) rfl) pa_nil)))) (pe_one (pe_not (pe_call (ok_is_longer T) (hr.mono (by decide)) (by rfl) T.g_is_longer T.F_is_longer.kp T.b_is_longer .nil passL (pa_cons (pv 0) (pa_cons (pe_glob (v := .int 60) rfl T.c_MAX_FIGURES ⟨_, rfl⟩) pa_nil))))))))), ?_⟩
    obtain ⟨x, rfl, hk, k⟩ := h
    rcases hk with ⟨n, rfl⟩ | ⟨b, rfl⟩ | hn
    · refine ⟨_, rfl, _, _, _, _, _, rfl, .ty _, .base (.int n), kit_ty (r := true) (by decide +kernel), _, rfl, iteT ?_⟩
      refine ⟨_, rfl, _, _, _, _, _, rfl, .ty _, .base (.int n), kit_ty (r := false) (by decide +kernel), _, rfl, _, rfl, iteT ?_⟩
      exact ⟨_, rfl, n, 60, rfl, .inl ⟨rfl, _, rfl, k⟩⟩
    · refine ⟨_, rfl, _, _, _, _, _, rfl, .ty _, .base (.bl b), kit_ty (r := true) (by decide +kernel), _, rfl, iteT ?_⟩
      refine ⟨_, rfl, _, _, _, _, _, rfl, .ty _, .base (.bl b), kit_ty (r := true) (by decide +kernel), _, rfl, _, rfl, iteF ?_⟩
      exact k
    · rw [plain_non hn] at k
      obtain ⟨t, ty, e⟩ := hn
      refine ⟨_, rfl, _, _, _, _, _, rfl, .ty _, .base ty, e, _, rfl, iteF ?_⟩
      exact k
theorem ok_lowest_terms (T : TX K mg) : FnOk P w K mg base (L2.CX P w) 1 T.f_lowest_terms T.d_lowest_terms ["top", "bottom"] (spLow) := by
  refine T.F_lowest_terms.okX sc_lowest_terms (fun vs H Q E h => ?_) (fun cdv A outer s H vs Q E hr h => ?_)
  · obtain ⟨a, b, rfl, _⟩ := h
    rfl
  · refine ⟨_, (pss_cons (ps_set (i := 2) sc_lowest_terms.nd rfl (Or.inl rfl) (pe_callBfun cr_gcd (by rfl) T.g_gcd (pa_cons (pv 0) (pa_cons (pv 1) pa_nil))))
    (pss_cons (ps_if (pt_cmpR op_lt (pv 1) pe_int (nomark _)) (pss_one (ps_set (i := 2) sc_lowest_terms.nd rfl (Or.inl rfl) (pe_un un_neg (pv 2)))) pss_nil)
    (pss_one (ps_ret (pe_tup (pa_cons (pe_op op_fdivX (pv 0) (pv 2)) (pa_cons (pe_op op_fdivX (pv 1) (pv 2)) pa_nil))))))), ?_⟩
    obtain ⟨a, b, rfl, hb, ha, hz, k⟩ := h
    refine ⟨_, rfl, _, rfl, _, _, rfl, ?_⟩
    refine ⟨_, rfl, _, _, rfl, rfl, _, rfl, ?_⟩
    have fin : ∀ z, z = shr a b → tRet (tTup (tCons (tOp (rI CDivX fun i j => .int (i.fdiv j)) (tVar 0) (tVar 2)) (tCons (tOp (rI CDivX fun i j => .int (i.fdiv j)) (tVar 1) (tVar 2)) tNil))) { nx := fun _ H' => Q .non H', rt := Q } [some (.int a), some (.int b), some (.int z)] H := by
      rintro z rfl
      exact ⟨_, rfl, _, rfl, _, _, rfl, rfl, cd_low hb ha, _, rfl, _, rfl, _, _, rfl, rfl, cd_low hb hz, (by show 2 ≤ sizeLine; decide), k⟩
    refine ite2 (fun c => ?_) (fun c => ?_)
    · refine ⟨_, rfl, _, rfl, fin _ ?_⟩
      exact (if_pos (of_decide_eq_true c)).symm
    · refine fin _ ?_
      exact (if_neg (fun z => c (decide_eq_true z))).symm
theorem ok_Ratio___init__ (T : TX K mg) : FnOk P w K mg base (L2.CX P w) 3 T.f_Ratio___init__ T.d_Ratio___init__ ["self", "top", "bottom"] (spInit K T.C_Ratio) := by
  refine FunD.ok (CX := L2.CX P w) T.F_Ratio___init__ sc_Ratio___init__ (fun vs H Q E h => ?_) (fun cdv A outer s H vs Q E hr h => ?_)
  · obtain ⟨p, dx, a, b, rfl, _⟩ := h
    rfl
  · refine ⟨_, (pss_cons (ps_if (pt_not (pt_val (pe_call (ok_is_plain_int T) (hr.mono (by decide)) (by rfl) T.g_is_plain_int T.F_is_plain_int.kp T.b_is_plain_int .nil passL (pa_cons (pv 1) pa_nil)))) (pss_one (ps_raiseInvalidNumber rfl T.x_InvalidNumber hr (takes_of rfl rfl rfl rfl) (pa_cons (pv 1) pa_nil))) pss_nil)
    (pss_cons (ps_if (PW.pt (pw_or (pt_not (pt_val (pe_call (ok_is_plain_int T) (hr.mono (by decide)) (by rfl) T.g_is_plain_int T.F_is_plain_int.kp T.b_is_plain_int .nil passL (pa_cons (pv 2) pa_nil)))) (pw_or1 (pt_cmpR op_eq (pv 2) pe_int (nomark _))))) (pss_one (ps_raiseInvalidNumber rfl T.x_InvalidNumber hr (takes_of rfl rfl rfl rfl) (pa_cons (pv 2) pa_nil))) pss_nil)
    (pss_one (ps_asg (pe_call (ok_lowest_terms T) (hr.mono (by decide)) (by rfl) T.g_lowest_terms T.F_lowest_terms.kp T.b_lowest_terms .nil passL (pa_cons (pv 1) (pa_cons (pv 2) pa_nil))) (pg_tup (by rfl) (pgs_cons (pg_fld (pv 0)) (pgs_cons (pg_fld (pv 0)) pgs_nil))))))), ?_⟩
    obtain ⟨p, dx, a, b, rfl, hp, la, lb, b0, k3⟩ := h
    have px : plainV (.int a) = true := by simp [plainV, la]
    have py : plainV (.int b) = true := by simp [plainV, lb]
    refine ⟨_, rfl, _, rfl, .inl ⟨a, rfl⟩, _, rfl, if_false_of (by rw [px] <;> rfl) ?_⟩
    refine ⟨_, rfl, _, rfl, .inl ⟨b, rfl⟩, _, rfl, if_false_of (by rw [py] <;> rfl) ?_⟩
    refine ⟨_, rfl, rfl, _, rfl, ?_⟩
    refine if_false_of (decide_eq_false (fun z => b0 (V.int.inj z))) ?_
    refine ⟨_, rfl, _, rfl, a, b, rfl, b0, short_of la (by decide), short_of lb (by decide), fun q hq => ?_⟩
    have npq : p ≠ q := ne_of_none hp hq
    refine ⟨q, _, rfl, SqT.of upd_same, rfl, _, _, rfl, _, rfl, p, T.C_Ratio, dx, [], rfl, (by rw [upd_ne npq]; exact hp), T.cl_Ratio, T.n_Ratio__top, (by show 0 < 1000; decide), ?_⟩
    refine ⟨_, _, rfl, _, rfl, p, T.C_Ratio, dx, _, rfl, upd_same, T.cl_Ratio, T.n_Ratio__bottom, (by show 1 < 1000; decide), rfl, ?_⟩
    refine k3 _ (fun c o hc e => ?_) (by rw [upd_same, rf_new])
    rw [upd_ne hc, upd_ne hc, upd_ne (ne_of_none e hq)]
    exact e
theorem ok_ratio_of (T : TX K mg) : FnOk P w K mg base (L2.CX P w) 5 T.f_ratio_of T.d_ratio_of ["top", "bottom"] (spRatio T.C_Ratio T.C_TooMany) := by
  refine T.F_ratio_of.okX sc_ratio_of (fun vs H Q E h => ?_) (fun cdv A outer s H vs Q E hr h => ?_)
  · obtain ⟨a, b, rfl, _⟩ := h
    rfl
  · refine ⟨_, (pss_cons (ps_asg (pe_call (ok_lowest_terms T) (hr.mono (by decide)) (by rfl) T.g_lowest_terms T.F_lowest_terms.kp T.b_lowest_terms .nil passL (pa_cons (pv 0) (pa_cons (pv 1) pa_nil))) (pg_tup (by rfl) (pgs_cons (pg_name (i := 0) sc_ratio_of.nd rfl (Or.inl rfl)) (pgs_cons (pg_name (i := 1) sc_ratio_of.nd rfl (Or.inl rfl)) pgs_nil))))
    (pss_cons (ps_if (PW.pt (pw_or (pt_val (pe_call (ok_is_longer T) (hr.mono (by decide)) (by rfl) T.g_is_longer T.F_is_longer.kp T.b_is_longer .nil passL (pa_cons (pv 0) (pa_cons (pe_glob (v := .int 2000) rfl T.c_MAX_DIGITS ⟨_, rfl⟩) pa_nil)))) (pw_or1 (pt_val (pe_call (ok_is_longer T) (hr.mono (by decide)) (by rfl) T.g_is_longer T.F_is_longer.kp T.b_is_longer .nil passL (pa_cons (pv 1) (pa_cons (pe_glob (v := .int 2000) rfl T.c_MAX_DIGITS ⟨_, rfl⟩) pa_nil))))))) (pss_one (ps_raiseTooMany rfl T.x_TooMany hr (takes_of rfl rfl rfl rfl) (pa_cons (pe_glob (v := .int 2000) rfl T.c_MAX_DIGITS ⟨_, rfl⟩) pa_nil))) pss_nil)
    (pss_cons (ps_set (i := 2) sc_ratio_of.nd rfl (Or.inl rfl) (pe_make T.mk_Ratio (ok_Ratio___init__ T) (hr.mono (by decide)) (by rfl) T.g_Ratio T.b_Ratio___init___2 T.v_Ratio___init___2 passL (pa_cons pe_int pa_nil)))
    (pss_cons (ps_fld (pv 2) (pv 0) rfl)
    (pss_cons (ps_fld (pv 2) (pv 1) rfl)
    (pss_one (ps_ret (pv 2)))))))), ?_⟩
    obtain ⟨a, b, rfl, b0, ha, hb, kE, k⟩ := h
    refine ⟨_, rfl, _, rfl, a, b, rfl, b0, ha, hb, fun q hq => ?_⟩
    have e0 : Ext H (upd H q (.tup [.int (lowT a b), .int (lowB a b)])) := Ext.new hq
    refine ⟨q, _, rfl, SqT.of upd_same, rfl, _, _, rfl, _, _, rfl, rfl, ?_⟩
    refine ⟨_, rfl, _, _, rfl, .inr ⟨rfl, _, rfl, ?_⟩⟩
    cases m1 : many (lowT a b) with
    | true =>
      rw [m1] at kE
      refine iteT (iteT ?_)
      exact ⟨_, rfl, fun d hd => kE rfl d _ (e0.trans (Ext.new hd)) upd_same⟩
    | false =>
      refine iteF ?_
      refine ⟨_, rfl, _, _, rfl, .inr ⟨rfl, _, rfl, ?_⟩⟩
      rw [m1] at kE k
      cases m2 : many (lowB a b) with
      | true =>
        rw [m2] at kE
        refine iteT ?_
        exact ⟨_, rfl, fun d hd => kE rfl d _ (e0.trans (Ext.new hd)) upd_same⟩
      | false =>
        rw [m2] at k
        refine iteF ?_
        intro x dx nx ndx nex
        refine ⟨x, dx, 0, 1, rfl, upd_same, (by decide +kernel), (by decide +kernel), (by decide), fun H' e1 hx => ⟨rfl, ?_⟩⟩
        refine ⟨_, rfl, _, rfl, x, T.C_Ratio, dx, _, rfl, hx, T.cl_Ratio, T.n_Ratio__top, (by show 2 < 1000; decide), ?_⟩
        refine ⟨_, rfl, _, rfl, x, T.C_Ratio, dx, _, rfl, upd_same, T.cl_Ratio, T.n_Ratio__bottom, (by rw [rf_put_top]; show 2 < 1000; decide), ?_⟩
        refine ⟨_, rfl, k rfl x _ (fun c o e => ?_) ⟨dx, by rw [upd_same, rf_put_top, rf_put_bottom]⟩⟩
        have n1 : c ≠ x := ne_of_none (e0 _ _ e) nx
        rw [upd_ne n1, upd_ne n1]
        refine e1 _ _ n1 ?_
        rw [upd_ne n1, upd_ne (ne_of_none (e0 _ _ e) ndx)]
        exact e0 _ _ e
theorem ok_Ratio_top (T : TX K mg) : FnOk P w K mg base (L2.CX P w) 1 T.f_Ratio_top T.d_Ratio_top ["self"] (spGet T.C_Ratio fun t b => .int t) := by
  refine T.F_Ratio_top.okX sc_Ratio_top (fun vs H Q E h => ?_) (fun cdv A outer s H vs Q E hr h => ?_)
  · obtain ⟨p, t, b, rfl, _⟩ := h
    rfl
  · refine ⟨_, (pss_one (ps_ret (pe_fld (pv 0) rfl))), ?_⟩
    obtain ⟨p, t, b, rfl, ⟨dx, hp⟩, k⟩ := h
    exact ⟨_, rfl, p, T.C_Ratio, dx, _, _, rfl, hp, T.cl_Ratio, T.n_Ratio__top, rf_top _ _, k⟩
theorem ok_Ratio_bottom (T : TX K mg) : FnOk P w K mg base (L2.CX P w) 1 T.f_Ratio_bottom T.d_Ratio_bottom ["self"] (spGet T.C_Ratio fun t b => .int b) := by
  refine T.F_Ratio_bottom.okX sc_Ratio_bottom (fun vs H Q E h => ?_) (fun cdv A outer s H vs Q E hr h => ?_)
  · obtain ⟨p, t, b, rfl, _⟩ := h
    rfl
  · refine ⟨_, (pss_one (ps_ret (pe_fld (pv 0) rfl))), ?_⟩
    obtain ⟨p, t, b, rfl, ⟨dx, hp⟩, k⟩ := h
    exact ⟨_, rfl, p, T.C_Ratio, dx, _, _, rfl, hp, T.cl_Ratio, T.n_Ratio__bottom, rf_bottom _ _, k⟩
theorem ok_Ratio___eq__ (T : TX K mg) : FnOk P w K mg base (L2.CX P w) 1 T.f_Ratio___eq__ T.d_Ratio___eq__ ["self", "other"] (spEq T.C_Ratio) := by
  refine T.F_Ratio___eq__.okX sc_Ratio___eq__ (fun vs H Q E h => ?_) (fun cdv A outer s H vs Q E hr h => ?_)
  · obtain ⟨p, q, a, b, rfl, _⟩ := h
    rfl
  · refine ⟨_, (pss_one (ps_ret (pe_and (pe_callB (id := "isinstance") (r := rIsi K) call_isi (by rfl) T.n_isinstance (by decide +kernel) (pa_cons (pv 1) (pa_cons (pe_glob (v := .ref T.C_Ratio) rfl T.g_Ratio rfl) pa_nil))) (pe_and (pe_cmpR op_eq (pe_fld (pv 0) rfl) (pe_fld (pv 1) rfl) (nomark _)) (pe_one (pe_cmpR op_eq (pe_fld (pv 0) rfl) (pe_fld (pv 1) rfl) (nomark _))))))), ?_⟩
    obtain ⟨p, q, a, b, rfl, ⟨dx, hp⟩, ⟨dy, hq⟩, k⟩ := h
    rw [← eq_q] at k
    refine ⟨_, rfl, _, _, _, _, _, rfl, .own _, .base (T.tc_Ratio.ty hq), T.kit_Ratio, _, rfl, iteT ?_⟩
    refine ⟨_, rfl, p, T.C_Ratio, dx, _, _, rfl, hp, T.cl_Ratio, T.n_Ratio__top, rf_top _ _, _, rfl, q, T.C_Ratio, dy, _, _, rfl, hq, T.cl_Ratio, T.n_Ratio__top, rf_top _ _, rfl, _, rfl, ?_⟩
    rw [dec_int]
    by_cases c1 : a.num = b.num
    · rw [decide_eq_true c1, Bool.true_and] at k
      refine if_true_of (beq_iff_eq.mpr c1) ?_
      refine ⟨_, rfl, p, T.C_Ratio, dx, _, _, rfl, hp, T.cl_Ratio, T.n_Ratio__bottom, rf_bottom _ _, _, rfl, q, T.C_Ratio, dy, _, _, rfl, hq, T.cl_Ratio, T.n_Ratio__bottom, rf_bottom _ _, rfl, ?_⟩
      rw [dec_int]
      exact k
    · rw [decide_eq_false c1, Bool.false_and] at k
      refine if_false_of (by simpa using c1) ?_
      exact k
end
end K06

namespace K06
open PySem PySem.Spec PyProof.Rows L2 L3
/-! ### what stays: all but the lists that N names -/
theorem Ext.rfl' {H : Hp} : Ext H H := fun _ _ h => h
def XN (N : Addr → Prop) (H H' : Hp) : Prop := ∀ p o, H p = some o → (N p → ∀ xs, o ≠ .lst xs) → H' p = some o
theorem XN.of {N : Addr → Prop} {H H' : Hp} (e : Ext H H') : XN N H H' := fun p o h _ => e p o h
theorem XN.rfl' {N : Addr → Prop} {H : Hp} : XN N H H := fun _ _ h _ => h
theorem XN.trans {N : Addr → Prop} {H H1 H2 : Hp} (a : XN N H H1) (b : XN N H1 H2) : XN N H H2 := fun p o h n => b p o (a p o h n) n
theorem XN.sub {N M : Addr → Prop} {H H1 : Hp} (s : ∀ p, N p → M p) (e : XN N H H1) : XN M H H1 := fun p o h n => e p o h fun q => n (s p q)
theorem XN.at {N : Addr → Prop} {H : Hp} {p : Addr} {xs ys : List V} (h : H p = some (.lst xs)) (n : N p) : XN N H (upd H p (.lst ys)) := fun c o hc q => by
  by_cases e : c = p
  · subst e
    rw [h] at hc
    exact absurd (Option.some.inj hc).symm (q n xs)
  · rw [upd_ne e]
    exact hc
theorem XN.one {u : Addr} {H H' : Hp} {xs : List V} (e : ∀ c o, c ≠ u → H c = some o → H' c = some o) (hu : H u = some (.lst xs)) : XN (fun p => p = u) H H' := fun c o h n => by
  by_cases q : c = u
  · subst q
    rw [hu] at h
    exact absurd (Option.some.inj h).symm (n rfl xs)
  · exact e c o q h
theorem XN.ext {H H' : Hp} (e : XN (fun _ => False) H H') : Ext H H' := fun p o h => e p o h fun q => q.elim
theorem XN.lst {N : Addr → Prop} {H H' : Hp} {p : Addr} {xs : List V} (e : XN N H H') (n : ¬ N p) (h : H p = some (.lst xs)) : H' p = some (.lst xs) := e p _ h fun q => (n q).elim
theorem XN.tup {N : Addr → Prop} {H H' : Hp} {p : Addr} {xs : List V} (e : XN N H H') (h : H p = some (.tup xs)) : H' p = some (.tup xs) := e p _ h fun _ _ z => by cases z
theorem XN.ins {N : Addr → Prop} {H H' : Hp} {p C d : Addr} {fs : List (Str × V)} (e : XN N H H') (h : H p = some (.ins C d fs)) : H' p = some (.ins C d fs) := e p _ h fun _ _ z => by cases z
/-! ### lists of what is told one by one -/
inductive Al {β : Type} (R : V → β → Prop) : List V → List β → Prop
  | nil : Al R [] []
  | cons {x : V} {b : β} {xs : List V} {bs : List β} (h : R x b) (t : Al R xs bs) : Al R (x :: xs) (b :: bs)
section
variable {β : Type} {R R' : V → β → Prop} {xs ys : List V} {bs : List β}
theorem Al.len (h : Al R xs bs) : xs.length = bs.length := by
  induction h with
  | nil => rfl
  | cons _ _ ih => rw [List.length_cons, List.length_cons, ih]
theorem Al.imp (h : Al R xs bs) (f : ∀ x b, R x b → R' x b) : Al R' xs bs := by
  induction h with
  | nil => exact .nil
  | cons h _ ih => exact .cons (f _ _ h) ih
theorem Al.at (h : Al R xs bs) : ∀ {i : Nat} {x : V}, xs[i]? = some x → ∃ b, bs[i]? = some b ∧ R x b := by
  induction h with
  | nil => intro i x z; simp at z
  | cons h _ ih =>
    intro i x z
    cases i with
    | zero => simp at z; subst z; exact ⟨_, rfl, h⟩
    | succ i => simp at z; obtain ⟨b, p, q⟩ := ih z; exact ⟨b, by simpa using p, q⟩
theorem Al.at' (h : Al R xs bs) : ∀ {i : Nat} {b : β}, bs[i]? = some b → ∃ x, xs[i]? = some x ∧ R x b := by
  induction h with
  | nil => intro i x z; simp at z
  | cons h _ ih =>
    intro i x z
    cases i with
    | zero => simp at z; subst z; exact ⟨_, rfl, h⟩
    | succ i => simp at z; obtain ⟨b, p, q⟩ := ih z; exact ⟨b, by simpa using p, q⟩
theorem Al.snoc {x : V} {b : β} (h : Al R xs bs) (k : R x b) : Al R (xs ++ [x]) (bs ++ [b]) := by
  induction h with
  | nil => exact .cons k .nil
  | cons h _ ih => exact .cons h ih
theorem Al.rep {x : V} {b : β} (h : R x b) : ∀ n, Al R (List.replicate n x) (List.replicate n b)
  | 0 => .nil
  | n + 1 => .cons h (Al.rep h n)
theorem Al.prs {D : Eqv} {H : Hp} {R2 : V → β → Prop} (h : Al R xs bs) (k : Al R2 ys bs) (f : ∀ x y b, R x b → R2 y b → D x y H) : Prs D xs ys H := by
  refine ⟨by rw [h.len, k.len], fun i x y hx hy => ?_⟩
  obtain ⟨b, hb, r⟩ := h.at hx
  obtain ⟨c, hc, r2⟩ := k.at hy
  rw [hb] at hc
  cases hc
  exact f x y b r r2
end
/-! ### rows and lots of rows -/
def Pr (a : Rat) : List V := [.int a.num, .int (a.den : Int)]
def RatV (C : Addr) (H : Hp) (x : V) (q : Rat) : Prop := ∃ r, x = .ref r ∧ RatQ C H r q
def PairV (H : Hp) (x : V) (q : Rat) : Prop := ∃ p, x = .ref p ∧ H p = some (.tup (Pr q))
def RowR (C : Addr) (H : Hp) (x : V) (qs : List Rat) : Prop := ∃ p xs, x = .ref p ∧ H p = some (.tup xs) ∧ Al (RatV C H) xs qs
def ColR (N : Addr → Prop) (C : Addr) (H : Hp) (x : V) (qs : List Rat) : Prop := ∃ p xs, x = .ref p ∧ ¬ N p ∧ H p = some (.lst xs) ∧ Al (RatV C H) xs qs
def RowL (N : Addr → Prop) (H : Hp) (x : V) (qs : List Rat) : Prop := ∃ p xs, x = .ref p ∧ ¬ N p ∧ H p = some (.lst xs) ∧ Al (PairV H) xs qs
def MatR (C : Addr) (H : Hp) (x : V) (M : List (List Rat)) : Prop := ∃ p xs, x = .ref p ∧ H p = some (.tup xs) ∧ Al (RowR C H) xs M
def MatL (N : Addr → Prop) (H : Hp) (x : V) (M : List (List Rat)) : Prop := ∃ p xs, x = .ref p ∧ ¬ N p ∧ H p = some (.lst xs) ∧ Al (RowL N H) xs M
section
variable {N M : Addr → Prop} {H H' : Hp} {C : Addr} {x : V}
theorem RatV.xn {q : Rat} (h : RatV C H x q) (e : XN N H H') : RatV C H' x q := by
  obtain ⟨r, rfl, dx, h⟩ := h
  exact ⟨r, rfl, dx, e.ins h⟩
theorem PairV.xn {q : Rat} (h : PairV H x q) (e : XN N H H') : PairV H' x q := by
  obtain ⟨p, rfl, h⟩ := h
  exact ⟨p, rfl, e.tup h⟩
theorem RowR.xn {q : List Rat} (h : RowR C H x q) (e : XN N H H') : RowR C H' x q := by
  obtain ⟨p, xs, rfl, h, a⟩ := h
  exact ⟨p, xs, rfl, e.tup h, a.imp fun _ _ k => k.xn e⟩
theorem ColR.xn {q : List Rat} (h : ColR N C H x q) (e : XN N H H') : ColR N C H' x q := by
  obtain ⟨p, xs, rfl, n, h, a⟩ := h
  exact ⟨p, xs, rfl, n, e.lst n h, a.imp fun _ _ k => k.xn e⟩
theorem RowL.xn {q : List Rat} (h : RowL N H x q) (e : XN N H H') : RowL N H' x q := by
  obtain ⟨p, xs, rfl, n, h, a⟩ := h
  exact ⟨p, xs, rfl, n, e.lst n h, a.imp fun _ _ k => k.xn e⟩
theorem RowL.sub {q : List Rat} (h : RowL N H x q) (s : ∀ p, M p → N p) : RowL M H x q := by
  obtain ⟨p, xs, rfl, n, h, a⟩ := h
  exact ⟨p, xs, rfl, fun z => n (s p z), h, a⟩
theorem ColR.sub {q : List Rat} (h : ColR N C H x q) (s : ∀ p, M p → N p) : ColR M C H x q := by
  obtain ⟨p, xs, rfl, n, h, a⟩ := h
  exact ⟨p, xs, rfl, fun z => n (s p z), h, a⟩
theorem MatR.xn {q : List (List Rat)} (h : MatR C H x q) (e : XN N H H') : MatR C H' x q := by
  obtain ⟨p, xs, rfl, h, a⟩ := h
  exact ⟨p, xs, rfl, e.tup h, a.imp fun _ _ k => k.xn e⟩
theorem MatL.xn {q : List (List Rat)} (h : MatL N H x q) (e : XN N H H') : MatL N H' x q := by
  obtain ⟨p, xs, rfl, n, h, a⟩ := h
  exact ⟨p, xs, rfl, n, e.lst n h, a.imp fun _ _ k => k.xn e⟩
theorem MatL.sub {q : List (List Rat)} (h : MatL N H x q) (s : ∀ p, M p → N p) : MatL M H x q := by
  obtain ⟨p, xs, rfl, n, h, a⟩ := h
  exact ⟨p, xs, rfl, fun z => n (s p z), h, a.imp fun _ _ k => k.sub s⟩
end
/-! ### a comprehension that makes one thing for each -/
theorem lc_al {β : Type} {J : It} {n : Nat} {G : Hp → Prop} {Y : Nat → Hp → V → Hp → Prop} (w : Walk J n G Y) {g : TG} {tt : TT} {te : TE} {vs : List Nat} {σ : L2.St} {H1 : Hp} {D : Addr} {Qd : Hp → Prop}
    (N : Addr → Prop) (R : Hp → V → β → Prop) (bs : List β) (hn : bs.length = n) (hb : n ≤ 1000) (hD : H1 D = none) (hND : ¬ N D)
    (mono : ∀ H H' x b, XN (fun p => N p ∨ p = D) H H' → R H x b → R H' x b)
    (hy : ∀ i Ha x Hb, Y i Ha x Hb → Ext Ha Hb)
    (hG : ∀ H', XN N H1 H' → G H')
    (hs : ∀ i b x Ha Hb, bs[i]? = some b → XN N H1 Ha → (∃ acc, Ha D = some (.lst acc)) → Y i Ha x Hb → ∀ (Q : VK) (Z : Hp → Prop), (∀ y Hc, XN N Hb Hc → R Hc y b → Q y Hc) →
      g x (wipe σ vs) Hb fun σ2 H2 => wipe σ2 vs = wipe σ vs ∧ tt σ2 H2 fun b H3 => if b = true then te σ2 H3 Q else Z H3)
    (hd : ∀ H' xs, XN N H1 H' → H' D = some (.lst xs) → Al (R H') xs bs → Qd H') :
    ∃ W : Nat → Nat → Hp → Prop, (∃ m, W 0 m (upd H1 D (.lst []))) ∧ ∀ i m H, W i m H →
      (J.stop i H ∧ Qd H) ∨ (J.go i H ∧ ∃ Nx : Hp → Prop, (∀ H', Nx H' → ∃ m', m' < m ∧ W (i + 1) m' H') ∧ ∀ x H', J.yld i H x H' → g x (wipe σ vs) H' fun σ2 H2 => wipe σ2 vs = wipe σ vs ∧ tt σ2 H2 fun b H3 =>
        if b = true then te σ2 H3 fun y H4 => ∃ acc, H4 D = some (.lst acc) ∧ acc.length < sizeLine ∧ Nx (upd H4 D (.lst (acc ++ [y]))) else Nx H3) := by
  refine lc_it w (fun i H' => XN N H1 H' ∧ ∃ xs, H' D = some (.lst xs) ∧ xs.length = i ∧ Al (R H') xs (bs.take i)) ⟨.of (Ext.new hD), [], upd_same, rfl, .nil⟩ (fun i H' _ q => hG H' q.1) ?_ ?_
  · rintro i x Ha Hb hi ⟨e, xs, hx, hl, al⟩ y
    obtain ⟨b, hbi⟩ : ∃ b, bs[i]? = some b := ⟨_, List.getElem?_eq_getElem (by omega)⟩
    have sz : (1000 : Nat) < sizeLine := by decide
    have eb := hy i Ha x Hb y
    refine hs i b x Ha Hb hbi e ⟨xs, hx⟩ y _ _ fun v Hc ec rc => ?_
    have hc : Hc D = some (.lst xs) := ec.lst hND (eb _ _ hx)
    have up : XN (fun p => N p ∨ p = D) Hc (upd Hc D (.lst (xs ++ [v]))) := XN.at hc (.inr rfl)
    have ac : XN (fun p => N p ∨ p = D) Ha (upd Hc D (.lst (xs ++ [v]))) := ((XN.of eb).trans (ec.sub fun _ => .inl)).trans up
    refine ⟨xs, hc, by omega, ?_, _, upd_same, by rw [List.length_append, hl] <;> rfl, ?_⟩
    · intro p o hp no
      have h3 : Hc p = some o := ec p o (eb p o (e p o hp no)) no
      rw [upd_ne (ne_of_none hp hD)]
      exact h3
    · rw [List.take_add_one, hbi]
      exact (al.imp fun x' b' k => mono _ _ _ _ ac k).snoc (mono _ _ _ _ up rc)
  · rintro H' ⟨e, xs, hx, hl, al⟩
    rw [← hn, List.take_length] at al
    exact hd H' xs e hx al
theorem yat_ext {xs : List V} : ∀ i Ha x Hb, YAt xs i Ha x Hb → Ext Ha Hb := fun _ _ _ _ y => by
  rw [y.1]
  exact Ext.rfl'
theorem yfn_ext {f : Nat → V} : ∀ i Ha x Hb, YFn f i Ha x Hb → Ext Ha Hb := fun _ _ _ _ y => by
  rw [y.1]
  exact Ext.rfl'
theorem ypair_ext {xs ys : Nat → Option V} : ∀ i Ha x Hb, YPair xs ys i Ha x Hb → Ext Ha Hb := fun _ _ _ _ y => by
  obtain ⟨T, x, y, rfl, hT, rfl, _⟩ := y
  exact Ext.new hT
/-! ### == and != of lots of rows -/
def SameR (C : Addr) : Addr → Addr → Hp → Prop := fun a b H => ∃ q, RatQ C H a q ∧ RatQ C H b q
theorem mon_same {C : Addr} : Mon (DIns C (SameR C)) := mon_ins fun a b H H' e r => by
  obtain ⟨q, h1, h2⟩ := r
  exact ⟨q, ratq_ext h1 e, ratq_ext h2 e⟩
theorem rows_same {K : PySem.W.Frag} {C : Addr} {H : Hp} {x y : V} {qs : List Rat} (h : RowR C H x qs) (k : RowR C H y qs) : DTup K (DIns C (SameR C)) x y H := by
  obtain ⟨p, xs, rfl, h1, a1⟩ := h
  obtain ⟨q, ys, rfl, h2, a2⟩ := k
  refine ⟨p, q, xs, ys, rfl, rfl, SqT.of h1, SqT.of h2, a1.prs a2 fun x y b r s => ?_⟩
  obtain ⟨a, rfl, d, ra⟩ := r
  obtain ⟨c, rfl, d2, rc⟩ := s
  exact ⟨a, c, d, d2, _, _, rfl, rfl, ra, rc, b, ⟨d, ra⟩, ⟨d2, rc⟩⟩
theorem mats_same {K : PySem.W.Frag} {C : Addr} {H : Hp} {x y : V} {M : List (List Rat)} (h : MatR C H x M) (k : MatR C H y M) : DTup K (DTup K (DIns C (SameR C))) x y H := by
  obtain ⟨p, xs, rfl, h1, a1⟩ := h
  obtain ⟨q, ys, rfl, h2, a2⟩ := k
  exact ⟨p, q, xs, ys, rfl, rfl, SqT.of h1, SqT.of h2, a1.prs a2 fun x y b r s => rows_same r s⟩
end K06

namespace K06
open PySem PySem.Spec PyProof.Rows L2 L3

/-! ### the well and what is drawn; fractions -/
def WellAt (H : Hp) (u : Addr) : Prop := ∃ a b c d : Int, H u = some (.lst [.int a, .int b, .int c, .int d])
abbrev Nu (u : Addr) : Addr → Prop := fun p => p = u
abbrev N0 : Addr → Prop := fun _ => False
def spWell (K : PySem.W.Frag) : Sp := fun vs H Q _ => ∃ (s : Addr) (ns : List Int) (i : Nat), vs = [.ref s, .int (i : Nat)] ∧ SqL K H s (ns.map V.int) ∧ ∀ u, H u = none → ∀ a b c d : Int, Q (.ref u) (upd H u (.lst [.int a, .int b, .int c, .int d]))
def spDip : Sp := fun vs H Q _ => ∃ u m, vs = [.ref u, .int m] ∧ WellAt H u ∧ 0 < m ∧ m < 1073741824 ∧ ∀ r H', 0 ≤ r → r < m → XN (Nu u) H H' → WellAt H' u → Q (.int r) H'
def spLowL : Sp := fun vs H Q _ => ∃ a b : Int, vs = [.int a, .int b] ∧ b ≠ 0 ∧ a.natAbs < 2 ^ 8000 ∧ b.natAbs < 2 ^ 8000 ∧ ∀ x H', Ext H H' → PairV H' x (Rat.divInt a b) → Q x H'
def Fw (q : Rat) : Prop := q.num.natAbs < 2 ^ 3000 ∧ q.den < 2 ^ 3000
def spPairs (f : Rat → Rat → Rat) : Sp := fun vs H Q _ => ∃ x y p q, vs = [x, y] ∧ PairV H x p ∧ PairV H y q ∧ Fw p ∧ Fw q ∧ ∀ z H', Ext H H' → PairV H' z (f p q) → Q z H'

theorem lg_lt {x : Int} {k : Nat} (hk : 0 < k) (h : x.natAbs < 2 ^ k) : x.natAbs.log2 < k := log_of hk h
theorem lg_mod {x m : Int} (h0 : 0 < m) (h1 : m < 2 ^ 64) : (x % m).natAbs.log2 < 64 := by
  have a := Int.emod_nonneg x (by omega : m ≠ 0)
  have b := Int.emod_lt_of_pos x h0
  exact log_of (by decide) (by omega)
theorem cm_sq (x y : Int) : CMulW (x % 2305843009213693921) (y % 2305843009213693921) := by
  have a := lg_mod (x := x) (m := 2305843009213693921) (by decide) (by decide)
  have b := lg_mod (x := y) (m := 2305843009213693921) (by decide) (by decide)
  unfold CMulW
  omega
theorem cm_left (i j : Int) (h1 : -(2 ^ 64) < i) (h2 : i < 2 ^ 64) : CMul i j := .inl ⟨h1, h2⟩
theorem cm_right (i j : Int) (h1 : -(2 ^ 64) < j) (h2 : j < 2 ^ 64) : CMul i j := .inr ⟨h1, h2⟩
theorem cdw {i m : Int} (h0 : 0 < m) (h1 : m < 1073741824) : CDivW i m := ⟨h0, Nat.lt_trans (log_of (k := 64) (by decide) (by omega)) (by decide)⟩
theorem at_of {xs : List V} {r : Int} (h0 : 0 ≤ r) (h1 : r < ((xs.length : Nat) : Int)) : ∃ v, atI xs r = some v ∧ v ∈ xs := by
  obtain ⟨n, rfl⟩ := Int.eq_ofNat_of_zero_le h0
  have hn : n < xs.length := by omega
  exact ⟨xs[n], atI_nat (List.getElem?_eq_getElem hn), List.getElem_mem hn⟩
theorem wide_of {x y : Int} {i j : Nat} (hx : x.natAbs < 2 ^ i) (hy : y.natAbs < 2 ^ j) (i0 : 0 < i) (j0 : 0 < j) (h : i + j ≤ 13400) : CMulW x y := by
  have a := log_of i0 hx
  have b := log_of j0 hy
  unfold CMulW
  omega
theorem p_mul3 {x y : Int} {i j : Nat} (hx : x.natAbs < 2 ^ i) (hy : y.natAbs < 2 ^ j) : (x * y).natAbs < 2 ^ (i + j) := by
  rw [Int.natAbs_mul, Nat.pow_add]
  exact Nat.mul_lt_mul'' hx hy
theorem p_add3 {x y : Int} {i : Nat} (hx : x.natAbs < 2 ^ i) (hy : y.natAbs < 2 ^ i) : (x + y).natAbs < 2 ^ (i + 1) := by
  have := Int.natAbs_add_le x y
  rw [Nat.pow_succ]
  omega
def msr (σ : L2.St) (_ : Hp) : Nat := match σ with
  | [_, _, _, some (.int b)] => b.toNat
  | _ => 0
theorem gcd_mod {a b : Nat} : ((a : Nat) : Int) % ((b : Nat) : Int) = ((a % b : Nat) : Int) := rfl
theorem cd_wide {i m : Int} {k : Nat} (h0 : 0 < m) (h1 : m.natAbs < 2 ^ k) (hk : k ≤ 8000) : CDivW i m := ⟨h0, Nat.lt_of_le_of_lt (log_le h1) (Nat.lt_of_le_of_lt hk (by decide))⟩
theorem low_parts {a b : Int} {g : Int} (hg : g = ((Nat.gcd a.natAbs b.natAbs : Nat) : Int)) (hb : b ≠ 0) : (0 < b → a / g = (Rat.divInt a b).num ∧ b / g = ((Rat.divInt a b).den : Int)) ∧ (¬ 0 < b → 0 - a / g = (Rat.divInt a b).num ∧ 0 - b / g = ((Rat.divInt a b).den : Int)) := by
  have l := low_rat (n := a) hb
  have d1 := shr_dvd_left a b
  have d2 := shr_dvd_right a b
  unfold lowT lowB at l
  rw [Int.fdiv_eq_ediv_of_dvd d1, Int.fdiv_eq_ediv_of_dvd d2] at l
  refine ⟨fun c => ?_, fun c => ?_⟩
  · have s : shr a b = g := by rw [hg]; exact if_neg (by omega)
    rw [s] at l
    exact l
  · have s : shr a b = -g := by rw [hg]; exact if_pos (by omega)
    rw [s, Int.ediv_neg, Int.ediv_neg] at l
    exact ⟨by omega, by omega⟩
theorem fw_mul {x y : Int} (hx : x.natAbs < 2 ^ 3000) (hy : y.natAbs < 2 ^ 3000) : CMulW x y := wide_of hx hy (by decide) (by decide) (by decide)
theorem seq_any {t u : TS} {D : Ends} {σ : L2.St} {H : Hp} (P : L2.St → Hp → Prop) (h1 : ∀ D' : Ends, (∀ σ' H', P σ' H' → D'.nx σ' H') → t D' σ H) (h2 : ∀ σ' H', P σ' H' → u D σ' H') : tSeq t u D σ H := h1 _ h2
theorem seq_asg {te : TE} {g : TG} {u : TS} {D : Ends} {σ : L2.St} {H : Hp} (P : V → Hp → Prop) (h1 : ∀ Q : VK, (∀ x H1, P x H1 → Q x H1) → te σ H Q) (h2 : ∀ x H1, P x H1 → g x σ H1 fun σ' H' => u D σ' H') : tSeq (tAsg te g) u D σ H := h1 _ h2
theorem seq_ifF {c : TT} {t u : TS} {D : Ends} {σ : L2.St} {H : Hp} (P : Hp → Prop) (h1 : ∀ Q : Bool → Hp → Prop, (∀ H1, P H1 → Q false H1) → c σ H Q) (h2 : ∀ H1, P H1 → u D σ H1) : tSeq (tIfS c t tNext) u D σ H := by
  refine h1 _ fun H1 p => ?_
  show if false = true then _ else _
  exact iteF (h2 H1 p)
section
variable {P : Program} {w : World} {K : PySem.W.Frag} {mg : Str → Option Value} {base : Heap}
theorem ok__law_well (T : TX K mg) : FnOk P w K mg base (L2.CX P w) 1 T.f__law_well T.d__law_well ["_law_script", "_law_at"] (spWell K) := by
  refine T.F__law_well.okX sc__law_well (fun vs H Q E h => ?_) (fun cdv A outer s H vs Q E hr h => ?_)
  · obtain ⟨s, ns, i, rfl, _⟩ := h
    rfl
  · refine ⟨_, (pss_cons (ps_set (i := 2) sc__law_well.nd rfl (Or.inl rfl) (pe_ifExp (pt_cmpR op_lt (pv 1) (pe_callB call_len_seq (by rfl) T.n_len (by decide +kernel) (pa_cons (pv 0) pa_nil)) (nomark _)) (pe_callTy call_int1 (by rfl) T.n_int (by decide +kernel) (pa_cons (pe_ix ix_list (pv 0) (pv 1) (fun _ _ => rfl)) pa_nil)) (pe_op op_add (pe_op op_mul pe_int (pv 1)) pe_int)))
    (pss_cons (ps_set (i := 3) sc__law_well.nd rfl (Or.inl rfl) (pe_op op_mod (pe_callTy call_int1 (by rfl) T.n_int (by decide +kernel) (pa_cons (pe_callB call_abs (by rfl) T.n_abs (by decide +kernel) (pa_cons (pv 2) pa_nil)) pa_nil)) (pe_op op_powW (pe_op op_pow pe_int pe_int) pe_int)))
    (pss_cons (ps_set (i := 4) sc__law_well.nd rfl (Or.inl rfl) (pe_op op_mod (pe_callTy call_int1 (by rfl) T.n_int (by decide +kernel) (pa_cons (pe_op op_add (pe_op op_add (pe_op op_add (pe_op op_mul (pv 3) pe_int) (pe_op op_mul pe_int (pv 1))) (pe_op op_mul pe_int (pe_callTy call_int1 (by rfl) T.n_int (by decide +kernel) (pa_cons (pe_cmpR op_lt (pv 2) pe_int (nomark _)) pa_nil)))) pe_int) pa_nil)) pe_int))
    (pss_one (ps_ret (pe_lst (pa_cons (pe_callB (call_max2 rfl) (by rfl) T.n_max (by decide +kernel) (pa_cons pe_int (pa_cons (pe_op op_sub (pv 3) (pe_op op_pow pe_int pe_int)) pa_nil))) (pa_cons (pv 4) (pa_cons pe_int (pa_cons pe_int pa_nil)))))))))), ?_⟩
    obtain ⟨l, ns, i, rfl, hs, k⟩ := h
    refine ⟨_, rfl, _, rfl, l, _, rfl, .inl hs, _, _, rfl, rfl, _, rfl, ite2 (fun c => ?_) (fun c => ?_)⟩
    · have c' := of_decide_eq_true c
      rw [List.length_map] at c'
      obtain ⟨v, e, hv⟩ := at_of (xs := ns.map V.int) (r := (i : Nat)) (by omega) (by rw [List.length_map]; exact c')
      obtain ⟨z, _, rfl⟩ := List.mem_map.mp hv
      refine ⟨_, rfl, _, rfl, l, _, _, _, rfl, rfl, hs, e, .inl ⟨_, rfl, ?_⟩⟩
      refine ⟨_, rfl, _, rfl, .inl ⟨_, rfl, ?_⟩⟩
      refine ⟨_, _, rfl, rfl, ⟨by decide, by decide, by decide⟩, _, _, rfl, rfl, ⟨by decide, by decide⟩, _, _, rfl, rfl, Int.pow_pos (Int.pow_pos (by decide)), ?_⟩
      refine ⟨_, rfl, _, _, rfl, rfl, cm_right _ _ (by decide) (by decide), _, rfl, _, _, rfl, rfl, cm_left _ _ (by decide) (by decide), _, _, rfl, rfl, ?_⟩
      refine ⟨_, rfl, _, _, rfl, rfl, .inr ⟨_, rfl, _, _, rfl, rfl, cm_left _ _ (by decide) (by decide), _, _, rfl, rfl, _, _, rfl, rfl, .inl ⟨_, rfl, _, _, rfl, rfl, (by show (0 : Int) < _; decide), ?_⟩⟩⟩
      refine ⟨_, rfl, _, _, rfl, rfl, ⟨by decide, by decide, by decide⟩, _, _, rfl, rfl, _, _, rfl, _, rfl, (by show 4 ≤ sizeLine; decide), fun u hu => k u hu _ _ _ _⟩
    · refine ⟨_, rfl, _, _, rfl, rfl, cm_left _ _ (by decide) (by decide), _, _, rfl, rfl, ?_⟩
      refine ⟨_, rfl, _, rfl, .inl ⟨_, rfl, ?_⟩⟩
      refine ⟨_, _, rfl, rfl, ⟨by decide, by decide, by decide⟩, _, _, rfl, rfl, ⟨by decide, by decide⟩, _, _, rfl, rfl, Int.pow_pos (Int.pow_pos (by decide)), ?_⟩
      refine ⟨_, rfl, _, _, rfl, rfl, cm_right _ _ (by decide) (by decide), _, rfl, _, _, rfl, rfl, cm_left _ _ (by decide) (by decide), _, _, rfl, rfl, ?_⟩
      refine ⟨_, rfl, _, _, rfl, rfl, .inr ⟨_, rfl, _, _, rfl, rfl, cm_left _ _ (by decide) (by decide), _, _, rfl, rfl, _, _, rfl, rfl, .inl ⟨_, rfl, _, _, rfl, rfl, (by show (0 : Int) < _; decide), ?_⟩⟩⟩
      refine ⟨_, rfl, _, _, rfl, rfl, ⟨by decide, by decide, by decide⟩, _, _, rfl, rfl, _, _, rfl, _, rfl, (by show 4 ≤ sizeLine; decide), fun u hu => k u hu _ _ _ _⟩
theorem ok__law_dip (T : TX K mg) : FnOk P w K mg base (L2.CX P w) 1 T.f__law_dip T.d__law_dip ["_law_well_here", "_law_total"] (spDip) := by
  refine T.F__law_dip.okX sc__law_dip (fun vs H Q E h => ?_) (fun cdv A outer s H vs Q E hr h => ?_)
  · obtain ⟨u, m, rfl, _⟩ := h
    rfl
  · refine ⟨_, (pss_cons (ps_if (pt_cmpR op_gt (pe_ix ix_list (pv 0) pe_int (fun _ _ => rfl)) pe_int (nomark _)) (pss_cons (ps_set (i := 2) sc__law_dip.nd rfl (Or.inl rfl) (pe_op op_mod (pe_callTy call_int1 (by rfl) T.n_int (by decide +kernel) (pa_cons (pe_ix ix_list (pv 0) pe_int (fun _ _ => rfl)) pa_nil)) (pv 1)))
    (pss_cons (ps_asg (pe_op op_fdivW (pe_callTy call_int1 (by rfl) T.n_int (by decide +kernel) (pa_cons (pe_ix ix_list (pv 0) pe_int (fun _ _ => rfl)) pa_nil)) (pv 1)) (pg_sub (pv 0) pe_int set_list))
    (pss_one (ps_ret (pv 2))))) pss_nil)
    (pss_cons (ps_asg (pe_op op_add (pe_ix ix_list (pv 0) pe_int (fun _ _ => rfl)) pe_int) (pg_sub (pv 0) pe_int set_list))
    (pss_cons (ps_set (i := 3) sc__law_dip.nd rfl (Or.inl rfl) (pe_op op_mod (pe_callTy call_int1 (by rfl) T.n_int (by decide +kernel) (pa_cons (pe_op op_add (pe_op op_add (pe_op op_mul (pe_ix ix_list (pv 0) pe_int (fun _ _ => rfl)) pe_int) (pe_op op_mul (pe_ix ix_list (pv 0) pe_int (fun _ _ => rfl)) pe_int)) pe_int) pa_nil)) pe_int))
    (pss_cons (ps_set (i := 4) sc__law_dip.nd rfl (Or.inl rfl) (pe_op op_mod (pe_callTy call_int1 (by rfl) T.n_int (by decide +kernel) (pa_cons (pe_op op_add (pe_op op_mulW (pv 3) (pv 3)) (pe_op op_mul pe_int (pe_ix ix_list (pv 0) pe_int (fun _ _ => rfl)))) pa_nil)) pe_int))
    (pss_one (ps_ret (pe_op op_mod (pe_callTy call_int1 (by rfl) T.n_int (by decide +kernel) (pa_cons (pe_op op_fdiv (pe_op op_mod (pe_callTy call_int1 (by rfl) T.n_int (by decide +kernel) (pa_cons (pe_op op_add (pe_op op_mul (pv 4) pe_int) (pv 3)) pa_nil)) pe_int) pe_int) pa_nil)) (pv 1)))))))), ?_⟩
    obtain ⟨u, m, rfl, ⟨a, b, c, d, hu⟩, m0, m1, k⟩ := h
    refine ⟨_, rfl, u, _, _, _, rfl, rfl, SqL.of hu, rfl, _, _, rfl, rfl, _, rfl, ite2 (fun q => ?_) (fun q => ?_)⟩
    · refine ⟨_, rfl, u, _, _, _, rfl, rfl, SqL.of hu, rfl, .inl ⟨_, rfl, _, rfl, _, _, rfl, rfl, m0, ?_⟩⟩
      refine ⟨_, rfl, u, _, _, _, rfl, rfl, SqL.of hu, rfl, .inl ⟨_, rfl, _, rfl, _, _, rfl, rfl, cdw m0 m1, ?_⟩⟩
      refine ⟨_, rfl, u, _, _, _, rfl, rfl, hu, rfl, ?_⟩
      exact ⟨_, rfl, k _ _ (Int.emod_nonneg _ (by omega)) (Int.emod_lt_of_pos _ m0) (XN.at hu rfl) ⟨_, _, _, _, upd_same⟩⟩
    · refine ⟨_, rfl, u, _, _, _, rfl, rfl, SqL.of hu, rfl, _, _, rfl, rfl, ?_⟩
      refine ⟨_, rfl, u, _, _, _, rfl, rfl, hu, rfl, ?_⟩
      have h2 : ∀ z : Int, upd H u (.lst [V.int a, V.int b, V.int z, V.int d]) u = some (.lst [V.int a, V.int b, V.int z, V.int d]) := fun z => upd_same
      refine ⟨_, rfl, u, _, _, _, rfl, rfl, SqL.of (h2 _), rfl, _, _, rfl, rfl, cm_right _ _ (by decide) (by decide), ?_⟩
      refine ⟨_, rfl, u, _, _, _, rfl, rfl, SqL.of (h2 _), rfl, _, _, rfl, rfl, cm_right _ _ (by decide) (by decide), _, _, rfl, rfl, _, _, rfl, rfl, .inl ⟨_, rfl, _, _, rfl, rfl, (by show (0 : Int) < _; decide), ?_⟩⟩
      refine ⟨_, rfl, _, rfl, _, _, rfl, rfl, cm_sq _ _, ?_⟩
      refine ⟨_, rfl, u, _, _, _, rfl, rfl, SqL.of (h2 _), rfl, _, _, rfl, rfl, cm_left _ _ (by decide) (by decide), _, _, rfl, rfl, .inl ⟨_, rfl, _, _, rfl, rfl, (by show (0 : Int) < _; decide), ?_⟩⟩
      refine ⟨_, rfl, _, _, rfl, rfl, cm_right _ _ (by decide) (by decide), _, rfl, _, _, rfl, rfl, .inl ⟨_, rfl, _, _, rfl, rfl, (by show (0 : Int) < _; decide), ?_⟩⟩
      refine ⟨_, _, rfl, rfl, ⟨by decide, by decide⟩, .inl ⟨_, rfl, _, rfl, _, _, rfl, rfl, m0, ?_⟩⟩
      exact k _ _ (Int.emod_nonneg _ (by omega)) (Int.emod_lt_of_pos _ m0) (XN.at hu rfl) ⟨_, _, _, _, upd_same⟩
theorem ok__law_low (T : TX K mg) : FnOk P w K mg base (L2.CX P w) 1 T.f__law_low T.d__law_low ["_law_top", "_law_bottom"] (spLowL) := by
  refine T.F__law_low.okX sc__law_low (fun vs H Q E h => ?_) (fun cdv A outer s H vs Q E hr h => ?_)
  · obtain ⟨a, b, rfl, _⟩ := h
    rfl
  · refine ⟨_, (pss_cons (ps_par (i := 2) (j := 3) (by rfl) sc__law_low.nd rfl rfl (by decide) rfl rfl (pa_cons (pe_callB call_abs (by rfl) T.n_abs (by decide +kernel) (pa_cons (pv 0) pa_nil)) (pa_cons (pe_callB call_abs (by rfl) T.n_abs (by decide +kernel) (pa_cons (pv 1) pa_nil)) pa_nil)) (by rfl))
    (pss_cons (ps_while PassesOwn.leaving (pt_cmpR op_gt (pv 3) pe_int (nomark _)) (pss_one (ps_par (i := 2) (j := 3) (by rfl) sc__law_low.nd rfl rfl (by decide) rfl rfl (pa_cons (pv 3) (pa_cons (pe_op op_mod (pe_callTy call_int1 (by rfl) T.n_int (by decide +kernel) (pa_cons (pv 2) pa_nil)) (pv 3)) pa_nil)) (by rfl))))
    (pss_one (ps_ret (pe_ifExp (pt_cmpR op_gt (pv 1) pe_int (nomark _)) (pe_tup (pa_cons (pe_op op_fdivW (pv 0) (pv 2)) (pa_cons (pe_op op_fdivW (pv 1) (pv 2)) pa_nil))) (pe_tup (pa_cons (pe_op op_sub pe_int (pe_op op_fdivW (pv 0) (pv 2))) (pa_cons (pe_op op_sub pe_int (pe_op op_fdivW (pv 1) (pv 2))) pa_nil)))))))), ?_⟩
    obtain ⟨a, b, rfl, hb, ha, hz, k⟩ := h
    have g0 : 0 < Nat.gcd a.natAbs b.natAbs := Nat.gcd_pos_of_pos_right _ (by omega)
    have gl : ((Nat.gcd a.natAbs b.natAbs : Nat) : Int).natAbs < 2 ^ 8000 := by
      rw [Int.natAbs_natCast]
      exact Nat.lt_of_le_of_lt (Nat.gcd_le_right _ (by omega)) hz
    refine ⟨_, rfl, _, rfl, _, rfl, _, rfl, _, _, rfl, ?_⟩
    rw [abs_if, abs_if]
    show tSeq (tWhile _ _) _ _ [some (V.int a), some (V.int b), some (V.int ((a.natAbs : Nat) : Int)), some (V.int ((b.natAbs : Nat) : Int))] H
    refine while_by (fun σ H' => H' = H ∧ ∃ x y : Nat, σ = [some (V.int a), some (V.int b), some (V.int (x : Nat)), some (V.int (y : Nat))] ∧ Nat.gcd x y = Nat.gcd a.natAbs b.natAbs) msr ⟨rfl, a.natAbs, b.natAbs, rfl, rfl⟩ ?_ ?_
    · rintro σ H' ⟨rfl, x, y, rfl, e⟩
      refine ⟨_, rfl, _, _, rfl, rfl, _, rfl, ite2 (fun c => ?_) (fun c => ?_)⟩
      · have c' := of_decide_eq_true c
        refine ⟨_, rfl, _, rfl, .inl ⟨_, rfl, _, rfl, _, _, rfl, rfl, c', _, _, rfl, ⟨rfl, y, x % y, rfl, ?_⟩, ?_⟩⟩
        · rw [← e, Nat.gcd_comm x y, Nat.gcd_rec y x, Nat.gcd_comm]
        · show ((x : Int) % (y : Int)).toNat < ((y : Nat) : Int).toNat
          have := Nat.mod_lt x (show 0 < y by omega)
          rw [gcd_mod]
          omega
      · have c' : ¬ ((0 : Int) < (y : Nat)) := fun z => c (decide_eq_true z)
        have y0 : y = 0 := by omega
        subst y0
        rw [Nat.gcd_zero_right] at e
        subst e
        have lp := low_parts (a := a) (b := b) rfl hb
        refine ⟨_, rfl, _, _, rfl, rfl, _, rfl, ite2 (fun c => ?_) (fun c => ?_)⟩
        · have l := lp.1 (of_decide_eq_true c)
          refine ⟨_, rfl, _, rfl, _, _, rfl, rfl, cd_wide (by omega) gl (Nat.le_refl _), _, rfl, _, rfl, _, _, rfl, rfl, cd_wide (by omega) gl (Nat.le_refl _), (by show 2 ≤ sizeLine; decide), fun p hp => k _ _ (Ext.new hp) ⟨p, rfl, ?_⟩⟩
          rw [upd_same]
          dsimp only
          rw [l.1, l.2] <;> rfl
        · have l := lp.2 (fun z => c (decide_eq_true z))
          refine ⟨_, rfl, _, rfl, _, _, rfl, rfl, cd_wide (by omega) gl (Nat.le_refl _), _, _, rfl, rfl, _, rfl, _, rfl, _, _, rfl, rfl, cd_wide (by omega) gl (Nat.le_refl _), _, _, rfl, rfl, (by show 2 ≤ sizeLine; decide), fun p hp => k _ _ (Ext.new hp) ⟨p, rfl, ?_⟩⟩
          rw [upd_same]
          dsimp only
          rw [l.1, l.2] <;> rfl
    · intro σ H1 Q1 Q2 hq h
      obtain ⟨v, e, i, j, e1, e2, c, e3, q⟩ := h
      exact ⟨v, e, i, j, e1, e2, c, e3, hq _ _ q⟩
theorem ok__law_plus (T : TX K mg) : FnOk P w K mg base (L2.CX P w) 2 T.f__law_plus T.d__law_plus ["_law_one", "_law_other"] (spPairs (fun p q => p + q)) := by
  refine T.F__law_plus.okX sc__law_plus (fun vs H Q E h => ?_) (fun cdv A outer s H vs Q E hr h => ?_)
  · obtain ⟨x, y, p, q, rfl, _⟩ := h
    rfl
  · refine ⟨_, (pss_one (ps_ret (pe_call (ok__law_low T) (hr.mono (by decide)) (by rfl) T.g__law_low T.F__law_low.kp T.b__law_low .nil passL (pa_cons (pe_op op_add (pe_op op_mulW (pe_ix ix_tup (pv 0) pe_int (fun _ _ => rfl)) (pe_ix ix_tup (pv 1) pe_int (fun _ _ => rfl))) (pe_op op_mulW (pe_ix ix_tup (pv 1) pe_int (fun _ _ => rfl)) (pe_ix ix_tup (pv 0) pe_int (fun _ _ => rfl)))) (pa_cons (pe_op op_mulW (pe_ix ix_tup (pv 0) pe_int (fun _ _ => rfl)) (pe_ix ix_tup (pv 1) pe_int (fun _ _ => rfl))) pa_nil))))), ?_⟩
    obtain ⟨x, y, p, q, rfl, ⟨a, rfl, ha⟩, ⟨b, rfl, hb⟩, fp, fq, k⟩ := h
    have dp : ((p.den : Nat) : Int).natAbs < 2 ^ 3000 := by rw [Int.natAbs_natCast]; exact fp.2
    have dq : ((q.den : Nat) : Int).natAbs < 2 ^ 3000 := by rw [Int.natAbs_natCast]; exact fq.2
    have e : Rat.divInt (p.num * q.den + q.num * p.den) ((p.den : Int) * q.den) = p + q := by
      rw [← Rat.divInt_add_divInt _ _ (den_ne p) (den_ne q), Rat.num_divInt_den, Rat.num_divInt_den]
    refine ⟨_, rfl, a, _, _, _, rfl, rfl, SqT.of ha, rfl, _, rfl, b, _, _, _, rfl, rfl, SqT.of hb, rfl, _, _, rfl, rfl, fw_mul fp.1 dq, _, rfl, b, _, _, _, rfl, rfl, SqT.of hb, rfl, _, rfl, a, _, _, _, rfl, rfl, SqT.of ha, rfl, _, _, rfl, rfl, fw_mul fq.1 dp, _, _, rfl, rfl, _, rfl, a, _, _, _, rfl, rfl, SqT.of ha, rfl, _, rfl, b, _, _, _, rfl, rfl, SqT.of hb, rfl, _, _, rfl, rfl, fw_mul dp dq, ?_⟩
    refine ⟨_, _, rfl, Int.mul_ne_zero (den_ne p) (den_ne q), Nat.lt_of_lt_of_le (p_add3 (p_mul3 fp.1 dq) (p_mul3 fq.1 dp)) (Nat.pow_le_pow_right (by decide) (by decide)), Nat.lt_of_lt_of_le (p_mul3 dp dq) (Nat.pow_le_pow_right (by decide) (by decide)), fun x H' e1 hx => k x H' e1 ?_⟩
    rw [e] at hx
    exact hx
theorem ok__law_times (T : TX K mg) : FnOk P w K mg base (L2.CX P w) 2 T.f__law_times T.d__law_times ["_law_one", "_law_other"] (spPairs (fun p q => p * q)) := by
  refine T.F__law_times.okX sc__law_times (fun vs H Q E h => ?_) (fun cdv A outer s H vs Q E hr h => ?_)
  · obtain ⟨x, y, p, q, rfl, _⟩ := h
    rfl
  · refine ⟨_, (pss_one (ps_ret (pe_call (ok__law_low T) (hr.mono (by decide)) (by rfl) T.g__law_low T.F__law_low.kp T.b__law_low .nil passL (pa_cons (pe_op op_mulW (pe_ix ix_tup (pv 0) pe_int (fun _ _ => rfl)) (pe_ix ix_tup (pv 1) pe_int (fun _ _ => rfl))) (pa_cons (pe_op op_mulW (pe_ix ix_tup (pv 0) pe_int (fun _ _ => rfl)) (pe_ix ix_tup (pv 1) pe_int (fun _ _ => rfl))) pa_nil))))), ?_⟩
    obtain ⟨x, y, p, q, rfl, ⟨a, rfl, ha⟩, ⟨b, rfl, hb⟩, fp, fq, k⟩ := h
    have dp : ((p.den : Nat) : Int).natAbs < 2 ^ 3000 := by rw [Int.natAbs_natCast]; exact fp.2
    have dq : ((q.den : Nat) : Int).natAbs < 2 ^ 3000 := by rw [Int.natAbs_natCast]; exact fq.2
    have e : Rat.divInt (p.num * q.num) ((p.den : Int) * q.den) = p * q := by
      rw [← Rat.divInt_mul_divInt, Rat.num_divInt_den, Rat.num_divInt_den]
    refine ⟨_, rfl, a, _, _, _, rfl, rfl, SqT.of ha, rfl, _, rfl, b, _, _, _, rfl, rfl, SqT.of hb, rfl, _, _, rfl, rfl, fw_mul fp.1 fq.1, _, rfl, a, _, _, _, rfl, rfl, SqT.of ha, rfl, _, rfl, b, _, _, _, rfl, rfl, SqT.of hb, rfl, _, _, rfl, rfl, fw_mul dp dq, ?_⟩
    refine ⟨_, _, rfl, Int.mul_ne_zero (den_ne p) (den_ne q), Nat.lt_of_lt_of_le (p_mul3 fp.1 fq.1) (Nat.pow_le_pow_right (by decide) (by decide)), Nat.lt_of_lt_of_le (p_mul3 dp dq) (Nat.pow_le_pow_right (by decide) (by decide)), fun x H' e1 hx => k x H' e1 ?_⟩
    rw [e] at hx
    exact hx
end
end K06

namespace K06
open PySem PySem.Spec PyProof.Rows L2 L3

abbrev rLen (K : PySem.W.Frag) : List V → Hp → VK → Prop := fun xs H Q => ∃ p ys, xs = [V.ref p] ∧ (SqL K H p ys ∨ SqT K H p ys) ∧ Q (V.int ys.length) H
abbrev rTupOf (K : PySem.W.Frag) : List V → Hp → VK → Prop := fun xs H Q => ∃ p ys, xs = [.ref p] ∧ ((SqL K H p ys ∧ ∀ l, H l = none → Q (.ref l) (upd H l (.tup ys))) ∨ (SqT K H p ys ∧ Q (.ref p) H))
/-! ### rows of the program -/
def spIsRatio (K : PySem.W.Frag) (C : Addr) : Sp := fun vs H Q _ => ∃ x t b, vs = [x] ∧ TyX K H x t ∧ PySem.W.kitOne K t (.ref C) = some b ∧ Q (.bl b) H
def spAre (C : Addr) : Sp := fun vs H Q _ => ∃ x qs, vs = [x] ∧ RowR C H x qs ∧ qs.length ≤ 1000 ∧ ∀ H', Ext H H' → Q (.bl true) H'
def spProd : Sp := fun vs H Q _ => ∃ (a b : Addr) (xs ys : List Int), vs = [.ref a, .ref b] ∧ H a = some (.lst (xs.map V.int)) ∧ H b = some (.lst (ys.map V.int)) ∧ xs.length = ys.length ∧ xs.length ≤ 1000 ∧ (∀ x ∈ xs, x.natAbs < 2 ^ 64) ∧ (∀ x ∈ ys, x.natAbs < 2 ^ 64) ∧ ∀ H', Ext H H' → Q (.int (idot xs ys)) H'
def spBot : Sp := fun vs H Q _ => ∃ (a : Addr) (xs : List V) (qs : List Rat) (D : Nat), vs = [.ref a] ∧ H a = some (.lst xs) ∧ Al (PairV H) xs qs ∧ (∀ q ∈ qs, q.den ∣ D) ∧ 0 < D ∧ D < 2 ^ 60 ∧ Q (.int ((lcmL qs : Nat) : Int)) H
def spTops : Sp := fun vs H Q _ => ∃ (a : Addr) (xs : List V) (qs : List Rat) (L : Nat), vs = [.ref a, .int (L : Nat)] ∧ H a = some (.lst xs) ∧ Al (PairV H) xs qs ∧ qs.length ≤ 1000 ∧ L < 2 ^ 60 ∧ (∀ q ∈ qs, q.num.natAbs < 2 ^ 60 ∧ q.den < 2 ^ 60) ∧ ∀ d H', Ext H H' → H d = none → H' d = some (.lst ((tops qs L).map V.int)) → Q (.ref d) H'
def spPairsT (C : Addr) : Sp := fun vs H Q _ => ∃ x qs, vs = [x] ∧ RowR C H x qs ∧ qs.length ≤ 1000 ∧ ∀ d xs H', Ext H H' → H d = none → H' d = some (.lst xs) → Al (PairV H') xs qs → Q (.ref d) H'
def spPairsC (C : Addr) : Sp := fun vs H Q _ => ∃ x qs, vs = [x] ∧ ColR N0 C H x qs ∧ qs.length ≤ 1000 ∧ ∀ d xs H', Ext H H' → H d = none → H' d = some (.lst xs) → Al (PairV H') xs qs → Q (.ref d) H'
/-- a row over one bottom -/
def ScaV (N : Addr → Prop) (H : Hp) (x : V) (qs : List Rat) : Prop := ∃ t l, x = .ref t ∧ H t = some (.tup [.ref l, .int ((lcmL qs : Nat) : Int)]) ∧ ¬ N l ∧ H l = some (.lst ((tops qs (lcmL qs)).map V.int))
theorem ScaV.xn {N : Addr → Prop} {H H' : Hp} {x : V} {q : List Rat} (h : ScaV N H x q) (e : XN N H H') : ScaV N H' x q := by
  obtain ⟨t, l, rfl, h, n, k⟩ := h
  exact ⟨t, l, rfl, e.tup h, n, e.lst n k⟩
theorem ScaV.sub {N M : Addr → Prop} {H : Hp} {x : V} {q : List Rat} (h : ScaV N H x q) (s : ∀ p, M p → N p) : ScaV M H x q := by
  obtain ⟨t, l, rfl, h, n, k⟩ := h
  exact ⟨t, l, rfl, h, fun z => n (s _ z), k⟩
def spSca (K : PySem.W.Frag) (Rw : Hp → V → List Rat → Prop) : Sp := fun vs H Q _ => ∃ (x : V) (qs : List Rat) (D N : Nat), vs = [x] ∧ Rw H x qs ∧ qs.length ≤ 1000 ∧ (∀ q ∈ qs, Fi D N q) ∧ 0 < D ∧ D < 2 ^ 60 ∧ N < 2 ^ 60 ∧ ∀ y H', Ext H H' → ScaV (fun p => H p ≠ none) H' y qs → Q y H'
def spCols (C : Addr) : Sp := fun vs H Q _ => ∃ (x : V) (M : List (List Rat)) (a b w : Nat), vs = [x, .int (w : Nat)] ∧ MatR C H x M ∧ Rect M a b ∧ w ≤ b ∧ a ≤ 1000 ∧ b ≤ 1000 ∧ ∀ d xs H', Ext H H' → H d = none → H' d = some (.lst xs) → Al (ColR (fun p => H p ≠ none) C H') xs (tr M w) → Q (.ref d) H'

theorem al_map {β : Type} {f : β → V} {xs : List V} {bs : List β} (h : Al (fun x b => x = f b) xs bs) : xs = bs.map f := by
  induction h with
  | nil => rfl
  | cons h _ ih => rw [h, ih] <;> rfl
theorem all_rep (n : Nat) : (List.replicate n true).all id = true := by
  induction n with
  | zero => rfl
  | succ n ih => rw [List.replicate_succ, List.all_cons, ih] <;> rfl
theorem rep_true {n i : Nat} {b : Bool} (h : (List.replicate n true)[i]? = some b) : b = true := by
  rw [List.getElem?_replicate] at h
  split at h <;> cases h
  rfl
theorem zip_at {xs ys : List Int} {i : Nat} {x y : V} (hx : (xs.map V.int)[i]? = some x) (hy : (ys.map V.int)[i]? = some y) {z : Int} (h : (List.zipWith (fun p q => p * q) xs ys)[i]? = some z) : ∃ p q, x = .int p ∧ y = .int q ∧ p ∈ xs ∧ q ∈ ys ∧ z = p * q := by
  rw [List.getElem?_map] at hx hy
  rw [List.getElem?_zipWith] at h
  cases e : xs[i]? with
  | none => rw [e] at hx; cases hx
  | some p =>
    cases e2 : ys[i]? with
    | none => rw [e2] at hy; cases hy
    | some q =>
      rw [e] at hx h
      rw [e2] at hy h
      exact ⟨p, q, (Option.some.inj hx).symm, (Option.some.inj hy).symm, List.mem_of_getElem? e, List.mem_of_getElem? e2, (Option.some.inj h).symm⟩
theorem idot_sum : ∀ (xs ys : List Int), (List.zipWith (fun p q => p * q) xs ys).sum = idot xs ys
  | [], _ => rfl
  | _ :: _, [] => rfl
  | x :: xs, y :: ys => by
    show (x * y :: List.zipWith _ xs ys).sum = x * y + idot xs ys
    rw [List.sum_cons, idot_sum xs ys]
theorem w64 {x y : Int} (hx : x.natAbs < 2 ^ 64) (hy : y.natAbs < 2 ^ 64) : CMulW x y := wide_of hx hy (by decide) (by decide) (by decide)
theorem lcm_le {qs : List Rat} {D : Nat} (h : ∀ q ∈ qs, q.den ∣ D) (d0 : 0 < D) (i : Nat) : lcmL (qs.take i) ≤ D ∧ 0 < lcmL (qs.take i) :=
  let g := lcmL_all (qs := qs.take i) (D := D) fun q hq => h q (List.mem_of_mem_take hq)
  ⟨Nat.le_of_dvd d0 g.2.1, g.1⟩

theorem scaV_of {H0 H : Hp} {t l : Addr} {qs : List Rat} (h0 : H0 l = none) (hl : H l = some (.lst ((tops qs (lcmL qs)).map V.int))) (ht : H t = some (.tup [.ref l, .int ((lcmL qs : Nat) : Int)])) : ScaV (fun p => H0 p ≠ none) H (.ref t) qs := ⟨t, l, rfl, ht, fun z => z h0, hl⟩
theorem none_of {H H' : Hp} {p : Addr} (e : Ext H H') (h : H' p = none) : H p = none := by
  cases q : H p with
  | none => rfl
  | some o => rw [e _ _ q] at h; cases h

theorem col_get {M : List (List Rat)} {j k : Nat} {q : Rat} (h : (col M j)[k]? = some q) : ∃ r, M[k]? = some r ∧ q = r.getD j 0 := by
  unfold col at h
  rw [List.getElem?_map] at h
  cases e : M[k]? with
  | none => rw [e] at h; cases h
  | some r => rw [e] at h; exact ⟨r, rfl, (Option.some.inj h).symm⟩
theorem tr_get {M : List (List Rat)} {w i : Nat} {b : List Rat} (h : (tr M w)[i]? = some b) : i < w ∧ b = col M i := by
  have hi : i < w := by rw [← tr_len M w]; exact (List.getElem?_eq_some_iff.mp h).1
  rw [tr_at hi] at h
  exact ⟨hi, (Option.some.inj h).symm⟩
/-- the j-th of a row -/
theorem row_get {R : V → Rat → Prop} {ys : List V} {r : List Rat} {j b : Nat} (a : Al R ys r) (hl : r.length = b) (hj : j < b) : ∃ v, atI ys (j : Int) = some v ∧ R v (r.getD j 0) := by
  have e : r[j]? = some (r.getD j 0) := by
    rw [List.getD_eq_getElem?_getD, List.getElem?_eq_getElem (show j < r.length by omega)] <;> rfl
  obtain ⟨v, hv, rv⟩ := a.at' e
  exact ⟨v, atI_nat hv, rv⟩
section
variable {P : Program} {w : World} {K : PySem.W.Frag} {mg : Str → Option Value} {base : Heap}
theorem ok_is_ratio (T : TX K mg) : FnOk P w K mg base (L2.CX P w) 1 T.f_is_ratio T.d_is_ratio ["value"] (spIsRatio K T.C_Ratio) := by
  refine T.F_is_ratio.okX sc_is_ratio (fun vs H Q E h => ?_) (fun cdv A outer s H vs Q E hr h => ?_)
  · obtain ⟨x, t, b, rfl, _⟩ := h
    rfl
  · refine ⟨_, (pss_one (ps_ret (pe_callB (id := "isinstance") (r := rIsi K) call_isi (by rfl) T.n_isinstance (by decide +kernel) (pa_cons (pv 0) (pa_cons (pe_glob (v := .ref T.C_Ratio) rfl T.g_Ratio rfl) pa_nil))))), ?_⟩
    obtain ⟨x, t, b, rfl, ty, e, k⟩ := h
    exact ⟨_, rfl, x, _, t, _, b, rfl, .own _, ty, e, k⟩
theorem ok_are_ratios (T : TX K mg) : FnOk P w K mg base (L2.CX P w) 3 T.f_are_ratios T.d_are_ratios ["value"] (spAre T.C_Ratio) := by
  refine T.F_are_ratios.okX sc_are_ratios (fun vs H Q E h => ?_) (fun cdv A outer s H vs Q E hr h => ?_)
  · obtain ⟨x, qs, rfl, _⟩ := h
    rfl
  · refine ⟨_, (pss_one (ps_ret (pe_and (pe_callB (id := "isinstance") (r := rIsi K) call_isi (by rfl) T.n_isinstance (by decide +kernel) (pa_cons (pv 0) (pa_cons (pe_bltn (v := .ty "tuple") (u := .type "tuple") rfl T.n_tuple (by decide +kernel) rfl) pa_nil))) (pe_one (pe_callB (cr_all rfl) (by rfl) T.n_all (by decide +kernel) (pa_cons (pe_lc (own := [("one", 1)]) (g := gName 1) rfl sc_are_ratios.nd (pi_tup (pv 0)) (blkOk_by (N := ["value", "one"]) (sc := defScope s_are_ratios) (by decide +kernel)) (fun _ _ _ _ _ => pg_name (i := 1) sc_are_ratios.nd rfl (Or.inl rfl)) (fun _ _ _ _ _ => pts_nil) (fun _ _ _ _ _ => (pe_call (ok_is_ratio T) (hr.mono (by decide)) (by rfl) T.g_is_ratio T.F_is_ratio.kp T.b_is_ratio .nil passL (pa_cons (pv 1) pa_nil)))) pa_nil)))))), ?_⟩
    obtain ⟨x, qs, rfl, ⟨p, xs, rfl, hp, al⟩, ln, k⟩ := h
    refine ⟨_, rfl, _, _, _, _, true, rfl, .ty _, .base (.tup hp), kit_ty (r := true) (by decide +kernel), _, rfl, iteT ?_⟩
    refine ⟨_, rfl, p, rfl, ⟨_, SqT.of hp⟩, fun D hD => ?_⟩
    refine lc_al walk_tup N0 (fun _ x (b : Bool) => x = .bl b) (List.replicate xs.length true) (List.length_replicate ..) (by rw [al.len]; exact ln) hD (fun z => z) (fun _ _ _ _ _ h => h) yat_ext (fun H' e => SqT.of (e.tup hp)) ?_ ?_
    · rintro i b x Ha _ hb e _ ⟨rfl, hx⟩ Q' Z hQ
      obtain ⟨q, _, r, rfl, rq⟩ := al.at hx
      obtain ⟨dx, hr2⟩ := id rq
      obtain rfl := rep_true hb
      refine ⟨rfl, ?_⟩
      exact ⟨_, rfl, _, _, true, rfl, .base (T.tc_Ratio.ty (e.ins hr2)), T.kit_Ratio, hQ _ _ XN.rfl' rfl⟩
    · intro H' ys e hd ay
      rw [al_map ay] at hd
      refine ⟨D, _, rfl, SqL.of hd, ?_⟩
      rw [all_rep]
      exact k H' e.ext
theorem ok_product_of (T : TX K mg) : FnOk P w K mg base (L2.CX P w) 1 T.f_product_of T.d_product_of ["one", "other"] (spProd) := by
  refine T.F_product_of.okX sc_product_of (fun vs H Q E h => ?_) (fun cdv A outer s H vs Q E hr h => ?_)
  · obtain ⟨a, b, xs, ys, rfl, _⟩ := h
    rfl
  · refine ⟨_, (pss_one (ps_ret (pe_callB (cr_sum rfl) (by rfl) T.n_sum (by decide +kernel) (pa_cons (pe_lc (own := [("left", 2), ("right", 3)]) (g := gTup K 2 (gCons (gName 2) (gCons (gName 3) gNil))) rfl sc_product_of.nd (pi_zip (by rfl) T.n_zip (pa_cons (pv 0) (pa_cons (pv 1) pa_nil))) (blkOk_by (N := ["one", "other", "left", "right"]) (sc := defScope s_product_of) (by decide +kernel)) (fun _ _ _ _ _ => pg_tup rfl (pgs_cons (pg_name (i := 2) sc_product_of.nd rfl (Or.inl rfl)) (pgs_cons (pg_name (i := 3) sc_product_of.nd rfl (Or.inl rfl)) pgs_nil))) (fun _ _ _ _ _ => pts_nil) (fun _ _ _ _ _ => (pe_op op_mulW (pv 2) (pv 3)))) pa_nil)))), ?_⟩
    obtain ⟨a, b, xs, ys, rfl, ha, hb, hl, ln, sx, sy, k⟩ := h
    refine ⟨_, rfl, _, rfl, a, b, _, _, rfl, SqL.of ha, SqL.of hb, fun D hD => ?_⟩
    refine lc_al (walk_zip (n := xs.length) (by rw [List.length_map, List.length_map]; omega)) N0 (fun _ x (z : Int) => x = .int z) (List.zipWith (fun p q => p * q) xs ys) (by rw [List.length_zipWith]; omega) ln hD (fun z => z) (fun _ _ _ _ _ h => h) ypair_ext (fun H' e => ⟨SqL.of (e.lst (fun z => z) ha), SqL.of (e.lst (fun z => z) hb)⟩) ?_ ?_
    · rintro i z v Ha _ hz e _ ⟨t, x, y, rfl, ht, rfl, hx, hy⟩ Q' Z hQ
      obtain ⟨p, q, rfl, rfl, mp, mq, rfl⟩ := zip_at hx hy hz
      refine ⟨t, _, rfl, SqT.of upd_same, rfl, _, _, rfl, _, _, rfl, rfl, rfl, ?_⟩
      exact ⟨_, rfl, _, rfl, _, _, rfl, rfl, w64 (sx p mp) (sy q mq), hQ _ _ XN.rfl' rfl⟩
    · intro H' zs e hd ay
      rw [al_map ay] at hd
      refine ⟨D, _, rfl, SqL.of hd, ?_⟩
      rw [idot_sum]
      exact k H' e.ext
theorem ok_common_bottom (T : TX K mg) : FnOk P w K mg base (L2.CX P w) 1 T.f_common_bottom T.d_common_bottom ["pairs"] (spBot) := by
  refine T.F_common_bottom.okX sc_common_bottom (fun vs H Q E h => ?_) (fun cdv A outer s H vs Q E hr h => ?_)
  · obtain ⟨a, xs, qs, D, rfl, _⟩ := h
    rfl
  · refine ⟨_, (pss_cons (ps_set (i := 1) sc_common_bottom.nd rfl (Or.inl rfl) pe_int)
    (pss_cons (ps_for PassesOwn.leaving rfl (pi_list (pv 0)) (pg_tup (by rfl) (pgs_cons (pg_name (i := 2) sc_common_bottom.nd rfl (Or.inl rfl)) (pgs_cons (pg_name (i := 3) sc_common_bottom.nd rfl (Or.inl rfl)) pgs_nil))) (pss_one (ps_set (i := 1) sc_common_bottom.nd rfl (Or.inl rfl) (pe_callBfun cr_lcm (by rfl) T.g_lcm (pa_cons (pv 1) (pa_cons (pv 3) pa_nil))))))
    (pss_one (ps_ret (pv 1))))), ?_⟩
    obtain ⟨a, xs, qs, D, rfl, ha, al, hd, D0, D1, k⟩ := h
    refine ⟨_, rfl, a, rfl, ⟨_, SqL.of ha⟩, ?_⟩
    refine for_list (xs := xs) (fun i σ H' => H' = H ∧ ∃ x2 x3, σ = [some (.ref a), some (.int ((lcmL (qs.take i) : Nat) : Int)), x2, x3]) ⟨rfl, _, _, rfl⟩ (fun i σ H' _ z => by rw [z.1]; exact SqL.of ha) ?_ ?_
    · rintro i x σ H' hx ⟨rfl, x2, x3, rfl⟩
      obtain ⟨q, hq, p, rfl, hp⟩ := al.at hx
      have l := lcm_le hd D0 i
      have dq := Nat.le_of_dvd D0 (hd q (List.mem_of_getElem? hq))
      refine ⟨p, _, rfl, SqT.of hp, rfl, _, _, rfl, _, _, rfl, rfl, ?_⟩
      refine ⟨_, rfl, _, rfl, _, _, rfl, by rw [Int.natAbs_natCast]; omega, by rw [Int.natAbs_natCast]; omega, rfl, some (.int q.num), some (.int ((q.den : Nat) : Int)), ?_⟩
      rw [List.take_add_one, hq]
      show _ = [_, some (V.int ((lcmL (qs.take i ++ [q]) : Nat) : Int)), _, _]
      rw [lcmL_snoc, Int.natAbs_natCast, Int.natAbs_natCast] <;> rfl
    · rintro σ H' ⟨rfl, x2, x3, rfl⟩
      rw [al.len, List.take_length]
      exact ⟨_, rfl, k⟩
theorem ok_tops_over (T : TX K mg) : FnOk P w K mg base (L2.CX P w) 1 T.f_tops_over T.d_tops_over ["pairs", "bottom"] (spTops) := by
  refine T.F_tops_over.okX sc_tops_over (fun vs H Q E h => ?_) (fun cdv A outer s H vs Q E hr h => ?_)
  · obtain ⟨a, xs, qs, L, rfl, _⟩ := h
    rfl
  · refine ⟨_, (pss_one (ps_ret (pe_lc (own := [("top", 2), ("below", 3)]) (g := gTup K 2 (gCons (gName 2) (gCons (gName 3) gNil))) rfl sc_tops_over.nd (pi_list (pv 0)) (blkOk_by (N := ["pairs", "bottom", "top", "below"]) (sc := defScope s_tops_over) (by decide +kernel)) (fun _ _ _ _ _ => pg_tup rfl (pgs_cons (pg_name (i := 2) sc_tops_over.nd rfl (Or.inl rfl)) (pgs_cons (pg_name (i := 3) sc_tops_over.nd rfl (Or.inl rfl)) pgs_nil))) (fun _ _ _ _ _ => pts_nil) (fun _ _ _ _ _ => (pe_op op_mulW (pv 2) (pe_op op_fdivW (pv 1) (pv 3))))))), ?_⟩
    obtain ⟨a, xs, qs, L, rfl, ha, al, ln, l1, sz, k⟩ := h
    refine ⟨_, rfl, a, rfl, ⟨_, SqL.of ha⟩, fun D hD => ?_⟩
    refine lc_al walk_list N0 (fun _ x (q : Rat) => x = .int (q.num * ((L / q.den : Nat) : Int))) qs al.len.symm (by rw [al.len]; exact ln) hD (fun z => z) (fun _ _ _ _ _ h => h) yat_ext (fun H' e => SqL.of (e.lst (fun z => z) ha)) ?_ ?_
    · rintro i b x Ha _ hb e _ ⟨rfl, hx⟩ Q' Z hQ
      obtain ⟨q, hq, p, rfl, hp⟩ := al.at hx
      rw [hb] at hq
      cases hq
      have s := sz b (List.mem_of_getElem? hb)
      have d1 : ((b.den : Nat) : Int).natAbs < 2 ^ 60 := by rw [Int.natAbs_natCast]; exact s.2
      have d0 := b.den_pos
      refine ⟨p, _, rfl, SqT.of (e.tup hp), rfl, _, _, rfl, _, _, rfl, rfl, rfl, ?_⟩
      refine ⟨_, rfl, _, rfl, _, rfl, _, _, rfl, rfl, cd_wide (by omega) d1 (by decide), _, _, rfl, rfl, w64 (Nat.lt_of_lt_of_le s.1 (by decide)) ?_, hQ _ _ XN.rfl' rfl⟩
      show ((L / b.den : Nat) : Int).natAbs < _
      rw [Int.natAbs_natCast]
      exact Nat.lt_of_le_of_lt (Nat.div_le_self _ _) (by omega)
    · intro H' zs e hd ay
      rw [al_map ay] at hd
      refine k D H' e.ext hD ?_
      rw [hd]
      unfold tops
      rw [List.map_map] <;> rfl
theorem ok_pairs_of (T : TX K mg) : FnOk P w K mg base (L2.CX P w) 4 T.f_pairs_of T.d_pairs_of ["row"] (spPairsT T.C_Ratio) := by
  refine T.F_pairs_of.okX sc_pairs_of (fun vs H Q E h => ?_) (fun cdv A outer s H vs Q E hr h => ?_)
  · obtain ⟨x, qs, rfl, _⟩ := h
    rfl
  · refine ⟨_, (pss_one (ps_ret (pe_lc (own := [("one", 1)]) (g := gName 1) rfl sc_pairs_of.nd (pi_tup (pv 0)) (blkOk_by (N := ["row", "one"]) (sc := defScope s_pairs_of) (by decide +kernel)) (fun _ _ _ _ _ => pg_name (i := 1) sc_pairs_of.nd rfl (Or.inl rfl)) (fun _ _ _ _ _ => pts_nil) (fun _ _ _ _ _ => (pe_tup (pa_cons (pe_prop (pv 1) T.cl_Ratio T.p_Ratio_top (ok_Ratio_top T) (hr.mono (by decide)) T.b_Ratio_top .nil passL (by rfl)) (pa_cons (pe_prop (pv 1) T.cl_Ratio T.p_Ratio_bottom (ok_Ratio_bottom T) (hr.mono (by decide)) T.b_Ratio_bottom .nil passL (by rfl)) pa_nil))))))), ?_⟩
    obtain ⟨x, qs, rfl, ⟨p, xs, rfl, hp, al⟩, ln, k⟩ := h
    refine ⟨_, rfl, p, rfl, ⟨_, SqT.of hp⟩, fun D hD => ?_⟩
    refine lc_al walk_tup N0 PairV qs al.len.symm (by rw [al.len]; exact ln) hD (fun z => z) (fun _ _ _ _ e h => h.xn e) yat_ext (fun H' e => SqT.of (e.tup hp)) ?_ ?_
    · rintro i b x Ha _ hb e _ ⟨rfl, hx⟩ Q' Z hQ
      obtain ⟨q, hq, r, rfl, dr, hr⟩ := al.at hx
      rw [hb] at hq
      cases hq
      have hr2 := e.ins hr
      refine ⟨rfl, ?_⟩
      exact ⟨_, rfl, r, dr, _, rfl, hr2, r, _, _, rfl, ⟨dr, hr2⟩, _, rfl, r, dr, _, rfl, hr2, r, _, _, rfl, ⟨dr, hr2⟩, (by show 2 ≤ sizeLine; decide), fun t ht => hQ _ _ (.of (Ext.new ht)) ⟨t, rfl, upd_same⟩⟩
    · intro H' zs e hd ay
      exact k D zs H' e.ext hD hd ay
theorem ok_pairs_ofC (T : TX K mg) : FnOk P w K mg base (L2.CX P w) 4 T.f_pairs_of T.d_pairs_of ["row"] (spPairsC T.C_Ratio) := by
  refine T.F_pairs_of.okX sc_pairs_of (fun vs H Q E h => ?_) (fun cdv A outer s H vs Q E hr h => ?_)
  · obtain ⟨x, qs, rfl, _⟩ := h
    rfl
  · refine ⟨_, (pss_one (ps_ret (pe_lc (own := [("one", 1)]) (g := gName 1) rfl sc_pairs_of.nd (pi_list (pv 0)) (blkOk_by (N := ["row", "one"]) (sc := defScope s_pairs_of) (by decide +kernel)) (fun _ _ _ _ _ => pg_name (i := 1) sc_pairs_of.nd rfl (Or.inl rfl)) (fun _ _ _ _ _ => pts_nil) (fun _ _ _ _ _ => (pe_tup (pa_cons (pe_prop (pv 1) T.cl_Ratio T.p_Ratio_top (ok_Ratio_top T) (hr.mono (by decide)) T.b_Ratio_top .nil passL (by rfl)) (pa_cons (pe_prop (pv 1) T.cl_Ratio T.p_Ratio_bottom (ok_Ratio_bottom T) (hr.mono (by decide)) T.b_Ratio_bottom .nil passL (by rfl)) pa_nil))))))), ?_⟩
    obtain ⟨x, qs, rfl, ⟨p, xs, rfl, nn, hp, al⟩, ln, k⟩ := h
    refine ⟨_, rfl, p, rfl, ⟨_, SqL.of hp⟩, fun D hD => ?_⟩
    refine lc_al walk_list N0 PairV qs al.len.symm (by rw [al.len]; exact ln) hD (fun z => z) (fun _ _ _ _ e h => h.xn e) yat_ext (fun H' e => SqL.of (e.lst (fun z => z) hp)) ?_ ?_
    · rintro i b x Ha _ hb e _ ⟨rfl, hx⟩ Q' Z hQ
      obtain ⟨q, hq, r, rfl, dr, hr⟩ := al.at hx
      rw [hb] at hq
      cases hq
      have hr2 := e.ins hr
      refine ⟨rfl, ?_⟩
      exact ⟨_, rfl, r, dr, _, rfl, hr2, r, _, _, rfl, ⟨dr, hr2⟩, _, rfl, r, dr, _, rfl, hr2, r, _, _, rfl, ⟨dr, hr2⟩, (by show 2 ≤ sizeLine; decide), fun t ht => hQ _ _ (.of (Ext.new ht)) ⟨t, rfl, upd_same⟩⟩
    · intro H' zs e hd ay
      exact k D zs H' e.ext hD hd ay
theorem ok_scaled (T : TX K mg) : FnOk P w K mg base (L2.CX P w) 6 T.f_scaled T.d_scaled ["row"] (spSca K (RowR T.C_Ratio)) := by
  refine T.F_scaled.okX sc_scaled (fun vs H Q E h => ?_) (fun cdv A outer s H vs Q E hr h => ?_)
  · obtain ⟨x, qs, D, N, rfl, _⟩ := h
    rfl
  · refine ⟨_, (pss_cons (ps_set (i := 1) sc_scaled.nd rfl (Or.inl rfl) (pe_call (ok_pairs_of T) (hr.mono (by decide)) (by rfl) T.g_pairs_of T.F_pairs_of.kp T.b_pairs_of .nil passL (pa_cons (pv 0) pa_nil)))
    (pss_cons (ps_set (i := 2) sc_scaled.nd rfl (Or.inl rfl) (pe_call (ok_common_bottom T) (hr.mono (by decide)) (by rfl) T.g_common_bottom T.F_common_bottom.kp T.b_common_bottom .nil passL (pa_cons (pv 1) pa_nil)))
    (pss_one (ps_ret (pe_tup (pa_cons (pe_call (ok_tops_over T) (hr.mono (by decide)) (by rfl) T.g_tops_over T.F_tops_over.kp T.b_tops_over .nil passL (pa_cons (pv 1) (pa_cons (pv 2) pa_nil))) (pa_cons (pv 2) pa_nil))))))), ?_⟩
    obtain ⟨x, qs, D, N, rfl, hx, ln, hf, D0, D1, N1, k⟩ := h
    have dd : ∀ q ∈ qs, q.den ∣ D := fun q hq => ((hf q hq).num D0).2
    have lc := lcm_le dd D0 qs.length
    rw [List.take_length] at lc
    refine ⟨_, rfl, x, qs, rfl, hx, ln, fun d xs H1 e1 nd hd al => ?_⟩
    refine ⟨_, rfl, d, xs, qs, D, rfl, hd, al, dd, D0, D1, ?_⟩
    refine ⟨_, rfl, _, rfl, d, xs, qs, lcmL qs, rfl, hd, al, ln, by omega, fun q hq => ⟨?_, ?_⟩, fun l H2 e2 nl hl => ?_⟩
    · have := ((hf q hq).num D0).1
      omega
    · have := Nat.le_of_dvd D0 (dd q hq)
      omega
    refine ⟨_, rfl, (by show 2 ≤ sizeLine; decide), fun t ht => ?_⟩
    exact k _ _ (e1.trans (e2.trans (Ext.new ht))) (scaV_of (none_of e1 nl) (Ext.new ht _ _ hl) upd_same)
theorem ok_scaledC (T : TX K mg) : FnOk P w K mg base (L2.CX P w) 6 T.f_scaled T.d_scaled ["row"] (spSca K (ColR N0 T.C_Ratio)) := by
  refine T.F_scaled.okX sc_scaled (fun vs H Q E h => ?_) (fun cdv A outer s H vs Q E hr h => ?_)
  · obtain ⟨x, qs, D, N, rfl, _⟩ := h
    rfl
  · refine ⟨_, (pss_cons (ps_set (i := 1) sc_scaled.nd rfl (Or.inl rfl) (pe_call (ok_pairs_ofC T) (hr.mono (by decide)) (by rfl) T.g_pairs_of T.F_pairs_of.kp T.b_pairs_of .nil passL (pa_cons (pv 0) pa_nil)))
    (pss_cons (ps_set (i := 2) sc_scaled.nd rfl (Or.inl rfl) (pe_call (ok_common_bottom T) (hr.mono (by decide)) (by rfl) T.g_common_bottom T.F_common_bottom.kp T.b_common_bottom .nil passL (pa_cons (pv 1) pa_nil)))
    (pss_one (ps_ret (pe_tup (pa_cons (pe_call (ok_tops_over T) (hr.mono (by decide)) (by rfl) T.g_tops_over T.F_tops_over.kp T.b_tops_over .nil passL (pa_cons (pv 1) (pa_cons (pv 2) pa_nil))) (pa_cons (pv 2) pa_nil))))))), ?_⟩
    obtain ⟨x, qs, D, N, rfl, hx, ln, hf, D0, D1, N1, k⟩ := h
    have dd : ∀ q ∈ qs, q.den ∣ D := fun q hq => ((hf q hq).num D0).2
    have lc := lcm_le dd D0 qs.length
    rw [List.take_length] at lc
    refine ⟨_, rfl, x, qs, rfl, hx, ln, fun d xs H1 e1 nd hd al => ?_⟩
    refine ⟨_, rfl, d, xs, qs, D, rfl, hd, al, dd, D0, D1, ?_⟩
    refine ⟨_, rfl, _, rfl, d, xs, qs, lcmL qs, rfl, hd, al, ln, by omega, fun q hq => ⟨?_, ?_⟩, fun l H2 e2 nl hl => ?_⟩
    · have := ((hf q hq).num D0).1
      omega
    · have := Nat.le_of_dvd D0 (dd q hq)
      omega
    refine ⟨_, rfl, (by show 2 ≤ sizeLine; decide), fun t ht => ?_⟩
    exact k _ _ (e1.trans (e2.trans (Ext.new ht))) (scaV_of (none_of e1 nl) (Ext.new ht _ _ hl) upd_same)
theorem ok_columns_of (T : TX K mg) : FnOk P w K mg base (L2.CX P w) 4 T.f_columns_of T.d_columns_of ["rows", "width"] (spCols T.C_Ratio) := by
  refine T.F_columns_of.okX sc_columns_of (fun vs H Q E h => ?_) (fun cdv A outer s H vs Q E hr h => ?_)
  · obtain ⟨x, M, a, b, w, rfl, _⟩ := h
    rfl
  · refine ⟨_, (pss_one (ps_ret (pe_lc (own := [("place", 3)]) (g := gName 3) rfl sc_columns_of.nd (pi_range1 (by rfl) T.n_range (pa_cons (pv 1) pa_nil)) (blkOk_by (N := ["rows", "width", "row", "place"]) (sc := defScope s_columns_of) (by decide +kernel)) (fun _ _ _ _ _ => pg_name (i := 3) sc_columns_of.nd rfl (Or.inr rfl)) (fun _ _ _ _ _ => pts_nil) (fun _ _ _ _ _ => (pe_lc (wi := (iTup K (tVar 0))) (tt := tYes) (te := (tOp (rIxT K) (tVar 2) (tVar 3))) (own := [("row", 2)]) (g := gName 2) rfl sc_columns_of.nd (pi_tup (pv 0)) (blkOk_by (by show blkC ["rows", "width", "row", "place"] (relS _ (defScope s_columns_of)) _ _ = true; decide +kernel)) (fun _ _ _ _ _ => pg_name (i := 2) sc_columns_of.nd rfl (Or.inl rfl)) (fun _ _ _ _ _ => pts_nil) (fun _ _ _ _ _ => (pe_ix (r := rIxT K) ix_tup (pv 2) (pv 3) (fun _ _ => rfl)))))))), ?_⟩
    obtain ⟨x, M, a, b, w, rfl, ⟨p, xs, rfl, hp, al⟩, hR, hw, a1, b1, k⟩ := h
    refine ⟨_, rfl, _, rfl, by omega, by omega, fun D hD => ?_⟩
    refine lc_al (walk_range (n := w)) N0 (ColR (fun p => H p ≠ none ∨ p = D) T.C_Ratio) (tr M w) (tr_len M w) (by omega) hD (fun z => z) (fun _ _ _ _ e h => h.xn (e.sub fun p z => .inr (z.resolve_left fun f => f))) yfn_ext (fun _ _ => trivial) ?_ ?_
    · rintro i c x Ha _ hc e ⟨acc, hacc⟩ ⟨rfl, rfl⟩ Q' Z hQ
      obtain ⟨hi, rfl⟩ := tr_get hc
      rw [show ((fun i : Nat => V.int (0 + (i : Int))) i) = V.int (i : Int) from congrArg V.int (Int.zero_add _)]
      refine ⟨rfl, ?_⟩
      refine ⟨_, rfl, p, rfl, ⟨_, SqT.of (e.tup hp)⟩, fun D2 hD2 => ?_⟩
      refine lc_al walk_tup N0 (RatV T.C_Ratio) (col M i) (by rw [col_len, al.len]) (by rw [al.len, hR.len]; exact a1) hD2 (fun z => z) (fun _ _ _ _ e h => h.xn e) yat_ext (fun H' e2 => SqT.of (e2.tup (e.tup hp))) ?_ ?_
      · rintro m q x Hc _ hq e2 _ ⟨rfl, hx⟩ Q2 Z2 hQ2
        obtain ⟨r, hr, rfl⟩ := col_get hq
        obtain ⟨r', hr', t, ys, rfl, ht, ar⟩ := al.at hx
        rw [hr] at hr'
        cases hr'
        obtain ⟨v, hv, rv⟩ := row_get ar (hR.row r (mem_of hr)) (Nat.lt_of_lt_of_le hi hw)
        refine ⟨rfl, ?_⟩
        exact ⟨_, rfl, _, rfl, t, ys, _, v, rfl, rfl, SqT.of (e2.tup (e.tup ht)), hv, hQ2 _ _ XN.rfl' ((rv.xn e).xn e2)⟩
      · intro H2 zs e2 hd2 az
        refine hQ _ _ e2 ⟨D2, zs, rfl, fun z => ?_, hd2, az⟩
        rcases z with z | z
        · exact z (none_of e.ext hD2)
        · rw [z, hacc] at hD2
          cases hD2
    · intro H' zs e hd ay
      exact k D zs H' e.ext hD hd (ay.imp fun _ _ h => h.sub fun p z => .inl z)
end
end K06

namespace K06
open PySem PySem.Spec PyProof.Rows L2 L3

/-! ### lots of rows of the program -/
def Sh (M : List (List Rat)) : Prop := ∀ r ∈ M, ∀ q ∈ r, q.num.natAbs < 10 ^ 20 ∧ q.den < 10 ^ 20
structure Ok (M : List (List Rat)) (a b : Nat) : Prop where
  rect : Rect M a b
  la : a ≤ 64
  lb : b ≤ 64
  sh : Sh M
def spIsRows (C : Addr) : Sp := fun vs H Q _ => ∃ x M a b, vs = [x] ∧ MatR C H x M ∧ Rect M a b ∧ a ≤ 512 ∧ b ≤ 512 ∧ ∀ H', Ext H H' → Q (.bl true) H'
def spWid (C : Addr) : Sp := fun vs H Q _ => ∃ x M, vs = [x] ∧ MatR C H x M ∧ Q (.int ((wid M : Nat) : Int)) H
def spCheck (C : Addr) : Sp := fun vs H Q _ => ∃ x M a b, vs = [x] ∧ MatR C H x M ∧ Rect M a b ∧ a ≤ 512 ∧ b ≤ 512 ∧ ∀ H', Ext H H' → Q .non H'
def spShort (C : Addr) : Sp := fun vs H Q _ => ∃ r q, vs = [.ref r] ∧ RatQ C H r q ∧ q.num.natAbs < 10 ^ 20 ∧ q.den < 10 ^ 20 ∧ Q (.bl true) H
def spBounds (C : Addr) : Sp := fun vs H Q _ => ∃ p zs Ms, vs = [.ref p] ∧ H p = some (.lst zs) ∧ Al (fun x M => MatR C H x M ∧ ∃ a b, Ok M a b) zs Ms ∧ ∀ H', Ext H H' → Q .non H'
def spTurned (C : Addr) : Sp := fun vs H Q _ => ∃ x M a b, vs = [x] ∧ MatR C H x M ∧ Ok M a b ∧ ∀ y H', Ext H H' → MatR C H' y (tr M (wid M)) → Q y H'
/-- sizes of what is multiplied -/
structure Sz (k D N E M : Nat) : Prop where
  k : k ≤ 64
  d0 : 0 < D
  e0 : 0 < E
  d : D < 2 ^ 30
  n : N < 2 ^ 30
  e : E < 2 ^ 30
  m : M < 2 ^ 30
def spRow (C : Addr) : Sp := fun vs H Q _ => ∃ (x : V) (c : Addr) (qs : List Rat) (zs : List V) (cs : List (List Rat)) (k D N E M : Nat), vs = [x, .ref c] ∧ ScaV N0 H x qs ∧ H c = some (.lst zs) ∧ Al (ScaV N0 H) zs cs ∧ qs.length = k ∧ cs.length ≤ 1000 ∧ (∀ l ∈ cs, l.length = k) ∧ (∀ q ∈ qs, Fi D N q) ∧ (∀ l ∈ cs, ∀ q ∈ l, Fi E M q) ∧ Sz k D N E M ∧
  ∀ y H', Ext H H' → RowR C H' y (cs.map (dot qs)) → Q y H'
def spMul (C : Addr) : Sp := fun vs H Q _ => ∃ (x y : V) (A B : List (List Rat)) (a k b c D N E M : Nat), vs = [x, y] ∧ MatR C H x A ∧ MatR C H y B ∧ Rect A a k ∧ Rect B b c ∧ (a = 0 ∨ b = k) ∧ a ≤ 64 ∧ b ≤ 64 ∧ c ≤ 64 ∧ FiM D N A ∧ FiM E M B ∧ Sz k D N E M ∧ ∀ z H', Ext H H' → MatR C H' z (mul A B) → Q z H'

theorem le_size {n : Nat} (h : n ≤ 5000) : n < sizeLine := Nat.lt_of_le_of_lt h (by decide)
theorem seq_drop {te : TE} {u : TS} {D : Ends} {σ : L2.St} {H : Hp} (P : Hp → Prop) (h1 : ∀ Q : VK, (∀ x H1, P H1 → Q x H1) → te σ H Q) (h2 : ∀ H1, P H1 → u D σ H1) : tSeq (tDrop te) u D σ H := h1 _ fun _ H1 p => h2 H1 p

theorem lt_mul {a b i j : Nat} (ha : a < 2 ^ i) (hb : b < 2 ^ j) : a * b < 2 ^ (i + j) := by
  rw [Nat.pow_add]
  exact Nat.mul_lt_mul'' ha hb
theorem tops_len (qs : List Rat) (L : Nat) : (tops qs L).length = qs.length := by unfold tops; rw [List.length_map]
theorem tops_le {D N L : Nat} {qs : List Rat} (h : ∀ q ∈ qs, Fi D N q) (d0 : 0 < D) (hL : L ∣ D) : ∀ z ∈ tops qs L, z.natAbs ≤ N * D := by
  intro z hz
  obtain ⟨q, hq, rfl⟩ := List.mem_map.mp hz
  exact top_le (h q hq) d0 hL
theorem dens {D N : Nat} {qs : List Rat} (h : ∀ q ∈ qs, Fi D N q) (d0 : 0 < D) : ∀ q ∈ qs, q.den ∣ D := fun q hq => ((h q hq).num d0).2
/-- a row times a column, over one bottom -/
theorem row_times {k D N E M : Nat} {qs cl : List Rat} (sz : Sz k D N E M) (lq : qs.length = k) (fq : ∀ q ∈ qs, Fi D N q) (fc : ∀ q ∈ cl, Fi E M q) :
    ((lcmL qs : Nat) : Int) * ((lcmL cl : Nat) : Int) ≠ 0 ∧ (idot (tops qs (lcmL qs)) (tops cl (lcmL cl))).natAbs < 2 ^ 13400 ∧ (((lcmL qs : Nat) : Int) * ((lcmL cl : Nat) : Int)).natAbs < 2 ^ 13400 ∧ CMulW ((lcmL qs : Nat) : Int) ((lcmL cl : Nat) : Int) ∧
    (∀ z ∈ tops qs (lcmL qs), z.natAbs < 2 ^ 64) ∧ (∀ z ∈ tops cl (lcmL cl), z.natAbs < 2 ^ 64) ∧
    lowT (idot (tops qs (lcmL qs)) (tops cl (lcmL cl))) (((lcmL qs : Nat) : Int) * ((lcmL cl : Nat) : Int)) = (dot qs cl).num ∧ lowB (idot (tops qs (lcmL qs)) (tops cl (lcmL cl))) (((lcmL qs : Nat) : Int) * ((lcmL cl : Nat) : Int)) = ((dot qs cl).den : Int) ∧ big (dot qs cl) = false := by
  obtain ⟨l0, ld, la⟩ := lcmL_all (dens fq sz.d0)
  obtain ⟨m0, md, ma⟩ := lcmL_all (dens fc sz.e0)
  have hl := Nat.le_of_dvd sz.d0 ld
  have hm := Nat.le_of_dvd sz.e0 md
  have nz : ((lcmL qs : Nat) : Int) * ((lcmL cl : Nat) : Int) ≠ 0 := Int.mul_ne_zero (by omega) (by omega)
  have t1 := tops_le fq sz.d0 ld
  have t2 := tops_le fc sz.e0 md
  have b1 : N * D < 2 ^ 60 := lt_mul sz.n sz.d
  have b2 : M * E < 2 ^ 60 := lt_mul sz.m sz.e
  have i1 : ((lcmL qs : Nat) : Int).natAbs < 2 ^ 30 := by rw [Int.natAbs_natCast]; exact Nat.lt_of_le_of_lt hl sz.d
  have i2 : ((lcmL cl : Nat) : Int).natAbs < 2 ^ 30 := by rw [Int.natAbs_natCast]; exact Nat.lt_of_le_of_lt hm sz.e
  have e := dot_over l0 m0 la ma
  have l := low_rat (n := idot (tops qs (lcmL qs)) (tops cl (lcmL cl))) nz
  rw [e] at l
  have kk : k < 2 ^ 7 := Nat.lt_of_le_of_lt sz.k (by decide)
  have d := fi_dot (Nat.mul_pos sz.d0 sz.e0) (Nat.le_of_eq lq) fq fc
  have dn := d.num (Nat.mul_pos sz.d0 sz.e0)
  have b3 : k * (N * M) < 2 ^ 67 := lt_mul kk (lt_mul sz.n sz.m)
  have b4 : D * E < 2 ^ 60 := lt_mul sz.d sz.e
  refine ⟨nz, ?_, Nat.lt_of_lt_of_le (p_mul3 i1 i2) (Nat.pow_le_pow_right (by decide) (by decide)), wide_of i1 i2 (by decide) (by decide) (by decide), fun z hz => Nat.lt_of_le_of_lt (t1 z hz) (Nat.lt_of_lt_of_le b1 (by decide)), fun z hz => Nat.lt_of_le_of_lt (t2 z hz) (Nat.lt_of_lt_of_le b2 (by decide)), l.1, l.2, ?_⟩
  · refine Nat.lt_of_le_of_lt (idot_le (k := k) (by rw [tops_len]; exact Nat.le_of_eq lq) t1 t2) ?_
    exact Nat.lt_of_lt_of_le (lt_mul kk (lt_mul b1 b2)) (Nat.pow_le_pow_right (by decide) (by decide))
  · have n1 : many (dot qs cl).num = false := many_of (k := 67) (Nat.lt_of_le_of_lt dn.1 b3) (by decide)
    have n2 : many ((dot qs cl).den : Int) = false := many_of (k := 60) (by rw [Int.natAbs_natCast]; exact Nat.lt_of_le_of_lt (Nat.le_of_dvd (Nat.mul_pos sz.d0 sz.e0) dn.2) b4) (by decide)
    unfold big
    rw [n1, n2] <;> rfl
theorem sh_of {D N : Nat} {M : List (List Rat)} (f : FiM D N M) (d0 : 0 < D) (hd : D < 2 ^ 30) (hn : N < 2 ^ 30) : Sh M := fun r hr q hq => by
  have z := (f r hr q hq).num d0
  have := Nat.le_of_dvd d0 z.2
  exact ⟨by omega, by omega⟩
theorem mul_get {A B : List (List Rat)} {i : Nat} {b r : List Rat} (h : (mul A B)[i]? = some b) (hr : A[i]? = some r) : b = (tr B (wid B)).map (dot r) := by
  unfold mul at h
  rw [List.getElem?_map, hr] at h
  exact (Option.some.inj h).symm
theorem mul_len (A B : List (List Rat)) : (mul A B).length = A.length := by unfold mul; rw [List.length_map]
section
variable {P : Program} {w : World} {K : PySem.W.Frag} {mg : Str → Option Value} {base : Heap}
theorem ok_is_rows (T : TX K mg) : FnOk P w K mg base (L2.CX P w) 8 T.f_is_rows T.d_is_rows ["value"] (spIsRows T.C_Ratio) := by
  refine T.F_is_rows.okX sc_is_rows (fun vs H Q E h => ?_) (fun cdv A outer s H vs Q E hr h => ?_)
  · obtain ⟨x, M, a, b, rfl, _⟩ := h
    rfl
  · refine ⟨_, (pss_cons (ps_if (PW.pt (pw_or (pt_not (pt_val (pe_callB (id := "isinstance") (r := rIsi K) call_isi (by rfl) T.n_isinstance (by decide +kernel) (pa_cons (pv 0) (pa_cons (pe_bltn (v := .ty "tuple") (u := .type "tuple") rfl T.n_tuple (by decide +kernel) rfl) pa_nil))))) (pw_or1 (pt_cmpR op_gt (pe_callB call_len_seq (by rfl) T.n_len (by decide +kernel) (pa_cons (pv 0) pa_nil)) (pe_glob (v := .int 512) rfl T.c_MAX_ROWS ⟨_, rfl⟩) (nomark _))))) (pss_one (ps_ret pe_bl)) pss_nil)
    (pss_cons (ps_if (pt_not (pt_val (pe_callB (cr_all rfl) (by rfl) T.n_all (by decide +kernel) (pa_cons (pe_lc (own := [("row", 1)]) (g := gName 1) rfl sc_is_rows.nd (pi_tup (pv 0)) (blkOk_by (N := ["value", "row"]) (sc := defScope s_is_rows) (by decide +kernel)) (fun _ _ _ _ _ => pg_name (i := 1) sc_is_rows.nd rfl (Or.inl rfl)) (fun _ _ _ _ _ => pts_nil) (fun _ _ _ _ _ => (pe_and (pe_call (ok_are_ratios T) (hr.mono (by decide)) (by rfl) T.g_are_ratios T.F_are_ratios.kp T.b_are_ratios .nil passL (pa_cons (pv 1) pa_nil)) (pe_one (pe_cmpR op_le (pe_callB (id := "len") (r := rLen K) call_len_seq (by rfl) T.n_len (by decide +kernel) (pa_cons (pv 1) pa_nil)) (pe_glob (v := .int 512) rfl T.c_MAX_ROWS ⟨_, rfl⟩) (nomark _)))))) pa_nil)))) (pss_one (ps_ret pe_bl)) pss_nil)
    (pss_one (ps_ret (pe_callB (cr_all rfl) (by rfl) T.n_all (by decide +kernel) (pa_cons (pe_lc (own := [("row", 1)]) (g := gName 1) rfl sc_is_rows.nd (pi_tup (pv 0)) (blkOk_by (N := ["value", "row"]) (sc := defScope s_is_rows) (by decide +kernel)) (fun _ _ _ _ _ => pg_name (i := 1) sc_is_rows.nd rfl (Or.inl rfl)) (fun _ _ _ _ _ => pts_nil) (fun _ _ _ _ _ => (pe_cmpR op_eq (pe_callB (id := "len") (r := rLen K) call_len_seq (by rfl) T.n_len (by decide +kernel) (pa_cons (pv 1) pa_nil)) (pe_callB (id := "len") (r := rLen K) call_len_seq (by rfl) T.n_len (by decide +kernel) (pa_cons (pe_ix (r := rIxT K) ix_tup (pv 0) pe_int (fun _ _ => rfl)) pa_nil)) (nomark _)))) pa_nil)))))), ?_⟩
    obtain ⟨x, M, a, b, rfl, ⟨p, xs, rfl, hp, al⟩, hR, a1, b1, k⟩ := h
    have ll : xs.length = a := by rw [al.len, hR.len]
    refine ⟨_, rfl, _, _, _, _, true, rfl, .ty _, .base (.tup hp), kit_ty (r := true) (by decide +kernel), _, rfl, iteF ?_⟩
    refine ⟨_, rfl, p, _, rfl, .inr (SqT.of hp), _, _, rfl, rfl, _, rfl, if_false_of (decide_eq_false (by omega)) ?_⟩
    refine ⟨_, rfl, p, rfl, ⟨_, SqT.of hp⟩, fun D hD => ?_⟩
    refine lc_al walk_tup N0 (fun _ x (b : Bool) => x = .bl b) (List.replicate xs.length true) (List.length_replicate ..) (by omega) hD (fun z => z) (fun _ _ _ _ _ h => h) yat_ext (fun H' e => SqT.of (e.tup hp)) ?_ ?_
    · rintro i c x Ha _ hc e _ ⟨rfl, hx⟩ Q' Z hQ
      obtain ⟨r, hr, rr⟩ := al.at hx
      obtain rfl := rep_true hc
      have lr := hR.row r (mem_of hr)
      refine ⟨rfl, ?_⟩
      refine ⟨_, rfl, x, r, rfl, rr.xn e, by omega, fun H2 e2 => ⟨_, rfl, iteT ?_⟩⟩
      obtain ⟨t, ys, rfl, ht, ar⟩ := (rr.xn e).xn (XN.of (N := N0) e2)
      exact ⟨_, rfl, t, _, rfl, .inr (SqT.of ht), _, _, rfl, rfl, hQ _ _ (.of e2) (congrArg V.bl (decide_eq_true (by rw [ar.len]; omega)))⟩
    intro H' ys e hd ay
    rw [al_map ay] at hd
    refine ⟨D, _, rfl, SqL.of hd, _, rfl, if_false_of (by rw [all_rep] <;> rfl) ?_⟩
    refine ⟨_, rfl, p, rfl, ⟨_, SqT.of (e.tup hp)⟩, fun D2 hD2 => ?_⟩
    refine lc_al walk_tup N0 (fun _ x (b : Bool) => x = .bl b) (List.replicate xs.length true) (List.length_replicate ..) (by omega) hD2 (fun z => z) (fun _ _ _ _ _ h => h) yat_ext (fun H' e2 => SqT.of (e2.tup (e.tup hp))) ?_ ?_
    · rintro i c x Ha _ hc e2 _ ⟨rfl, hx⟩ Q' Z hQ
      obtain ⟨r, hr, rr⟩ := al.at hx
      obtain rfl := rep_true hc
      have lr := hR.row r (mem_of hr)
      obtain ⟨t, zs, rfl, ht, ar⟩ := (rr.xn e).xn e2
      have il : i < xs.length := (List.getElem?_eq_some_iff.mp hx).1
      obtain ⟨x0, hx0⟩ : ∃ x0, xs[0]? = some x0 := ⟨_, List.getElem?_eq_getElem (by omega)⟩
      obtain ⟨r0, hr0, rr0⟩ := al.at hx0
      have lr0 := hR.row r0 (mem_of hr0)
      obtain ⟨t0, zs0, rfl, ht0, ar0⟩ := (rr0.xn e).xn e2
      refine ⟨rfl, ?_⟩
      refine ⟨_, rfl, t, _, rfl, .inr (SqT.of ht), _, rfl, p, xs, _, _, rfl, rfl, SqT.of (e2.tup (e.tup hp)), atI_nat (j := 0) hx0, t0, _, rfl, .inr (SqT.of ht0), rfl, hQ _ _ XN.rfl' (congrArg V.bl (decide_eq_true ?_))⟩
      rw [ar.len, ar0.len, lr, lr0]
    · intro H2 zs e2 hd2 az
      rw [al_map az] at hd2
      refine ⟨D2, _, rfl, SqL.of hd2, ?_⟩
      rw [all_rep]
      exact k H2 (e.trans e2).ext
theorem ok_width_of (T : TX K mg) : FnOk P w K mg base (L2.CX P w) 1 T.f_width_of T.d_width_of ["rows"] (spWid T.C_Ratio) := by
  refine T.F_width_of.okX sc_width_of (fun vs H Q E h => ?_) (fun cdv A outer s H vs Q E hr h => ?_)
  · obtain ⟨x, M, rfl, _⟩ := h
    rfl
  · refine ⟨_, (pss_one (ps_ret (pe_ifExp (pt_truth (pv 0) (by intro _; rfl)) (pe_callB call_len_seq (by rfl) T.n_len (by decide +kernel) (pa_cons (pe_ix ix_tup (pv 0) pe_int (fun _ _ => rfl)) pa_nil)) pe_int))), ?_⟩
    obtain ⟨x, M, rfl, ⟨p, xs, rfl, hp, al⟩, k⟩ := h
    cases al with
    | nil => exact ⟨_, rfl, false, .inr (.inl ⟨[], SqT.of hp, rfl⟩), iteF k⟩
    | cons h1 t1 =>
      obtain ⟨t, ys, rfl, ht, ar⟩ := h1
      refine ⟨_, rfl, true, .inr (.inl ⟨_, SqT.of hp, rfl⟩), iteT ⟨_, rfl, p, _, _, _, rfl, rfl, SqT.of hp, atI_nat (j := 0) rfl, t, ys, rfl, .inr (SqT.of ht), ?_⟩⟩
      rw [ar.len]
      exact k
theorem ok_check_rows (T : TX K mg) : FnOk P w K mg base (L2.CX P w) 10 T.f_check_rows T.d_check_rows ["value"] (spCheck T.C_Ratio) := by
  refine T.F_check_rows.okX sc_check_rows (fun vs H Q E h => ?_) (fun cdv A outer s H vs Q E hr h => ?_)
  · obtain ⟨x, M, a, b, rfl, _⟩ := h
    rfl
  · refine ⟨_, (pss_one (ps_if (pt_not (pt_val (pe_call (ok_is_rows T) (hr.mono (by decide)) (by rfl) T.g_is_rows T.F_is_rows.kp T.b_is_rows .nil passL (pa_cons (pv 0) pa_nil)))) (pss_one (ps_raise rfl (takes_of rfl rfl rfl rfl) (pmk_own PySem.F.excBase_ValueError T.x_InvalidRows T.g_InvalidRows T.k_InvalidRows (raises_own T.bx_InvalidRows T.tx_InvalidRows) (by rfl)))) pss_nil)), ?_⟩
    obtain ⟨x, M, a, b, rfl, hx, hR, a1, b1, k⟩ := h
    exact ⟨_, rfl, x, M, a, b, rfl, hx, hR, a1, b1, fun H' e => ⟨_, rfl, if_false_of rfl (k H' e)⟩⟩
theorem ok_is_short (T : TX K mg) : FnOk P w K mg base (L2.CX P w) 3 T.f_is_short T.d_is_short ["one"] (spShort T.C_Ratio) := by
  refine T.F_is_short.okX sc_is_short (fun vs H Q E h => ?_) (fun cdv A outer s H vs Q E hr h => ?_)
  · obtain ⟨r, q, rfl, _⟩ := h
    rfl
  · refine ⟨_, (pss_one (ps_ret (pe_and (pe_chain op_lt op_lt (pe_un un_neg (pe_glob (v := .int 100000000000000000000) rfl T.c_ENTRY_BOUND ⟨_, rfl⟩)) (pe_prop (pv 0) T.cl_Ratio T.p_Ratio_top (ok_Ratio_top T) (hr.mono (by decide)) T.b_Ratio_top .nil passL (by rfl)) (pe_glob (v := .int 100000000000000000000) rfl T.c_ENTRY_BOUND ⟨_, rfl⟩)) (pe_one (pe_cmpR op_lt (pe_prop (pv 0) T.cl_Ratio T.p_Ratio_bottom (ok_Ratio_bottom T) (hr.mono (by decide)) T.b_Ratio_bottom .nil passL (by rfl)) (pe_glob (v := .int 100000000000000000000) rfl T.c_ENTRY_BOUND ⟨_, rfl⟩) (nomark _)))))), ?_⟩
    obtain ⟨r, q, rfl, hr, h1, h2, k⟩ := h
    obtain ⟨dr, hr2⟩ := id hr
    refine ⟨_, rfl, _, rfl, r, dr, _, rfl, hr2, r, _, _, rfl, hr, _, _, rfl, rfl, _, rfl, if_true_of (decide_eq_true (by omega)) ?_⟩
    refine ⟨_, _, rfl, rfl, _, rfl, if_true_of (decide_eq_true (by omega)) ?_⟩
    refine ⟨_, rfl, r, dr, _, rfl, hr2, r, _, _, rfl, hr, _, _, rfl, rfl, ?_⟩
    have e : decide ((q.den : Int) < 100000000000000000000) = true := decide_eq_true (by omega)
    show Q (.bl (decide ((q.den : Int) < 100000000000000000000))) H
    rw [e]
    exact k
theorem ok_check_bounds (T : TX K mg) : FnOk P w K mg base (L2.CX P w) 8 T.f_check_bounds T.d_check_bounds ["several"] (spBounds T.C_Ratio) := by
  refine T.F_check_bounds.okX sc_check_bounds (fun vs H Q E h => ?_) (fun cdv A outer s H vs Q E hr h => ?_)
  · obtain ⟨p, zs, Ms, rfl, _⟩ := h
    rfl
  · refine ⟨_, (pss_cons (ps_for PassesOwn.leaving rfl (pi_list (pv 0)) (pg_name (i := 1) sc_check_bounds.nd rfl (Or.inl rfl)) (pss_one (ps_if (PW.pt (pw_and (pt_cmpR op_gt (pe_callB call_len_seq (by rfl) T.n_len (by decide +kernel) (pa_cons (pv 1) pa_nil)) (pe_glob (v := .int 64) rfl T.c_MOST_LONG ⟨_, rfl⟩) (nomark _)) (pw_and1 (pt_cmpR op_gt (pe_call (ok_width_of T) (hr.mono (by decide)) (by rfl) T.g_width_of T.F_width_of.kp T.b_width_of .nil passL (pa_cons (pv 1) pa_nil)) (pe_glob (v := .int 64) rfl T.c_MOST_LONG ⟨_, rfl⟩) (nomark _))))) (pss_one (ps_raiseTooMany rfl T.x_TooMany hr (takes_of rfl rfl rfl rfl) (pa_cons (pe_glob (v := .int 64) rfl T.c_MOST_LONG ⟨_, rfl⟩) pa_nil))) pss_nil)))
    (pss_one (ps_for PassesOwn.leaving rfl (pi_list (pv 0)) (pg_name (i := 1) sc_check_bounds.nd rfl (Or.inl rfl)) (pss_one (ps_if (pt_not (pt_val (pe_callB (cr_all rfl) (by rfl) T.n_all (by decide +kernel) (pa_cons (pe_lc2 (wi1 := (iTup K (tVar 2))) (own := [("row", 2), ("one", 3)]) (vs1 := [3]) (g := gName 2) (g1 := gName 3) rfl sc_check_bounds.nd (pi_tup (pv 1)) (blkOk_by (N := ["several", "rows", "row", "one"]) (sc := defScope s_check_bounds) (by decide +kernel)) (by decide) (fun _ _ _ _ _ => pg_name (i := 2) sc_check_bounds.nd rfl (Or.inl rfl)) (fun _ _ _ _ _ => pts_nil) (fun _ _ _ _ _ => (pi_tup (pv 2))) (fun _ _ _ _ _ => pg_name (i := 3) sc_check_bounds.nd rfl (Or.inl rfl)) (fun _ _ _ _ _ => pts_nil) (fun _ _ _ _ _ => (pe_call (ok_is_short T) (hr.mono (by decide)) (by rfl) T.g_is_short T.F_is_short.kp T.b_is_short .nil passL (pa_cons (pv 3) pa_nil)))) pa_nil)))) (pss_one (ps_raiseTooMany rfl T.x_TooMany hr (takes_of rfl rfl rfl rfl) (pa_cons (pe_glob (v := .int 20) rfl T.c_ENTRY_DIGITS ⟨_, rfl⟩) pa_nil))) pss_nil))))), ?_⟩
    obtain ⟨p, zs, Ms, rfl, hp, al, k⟩ := h
    refine seq_any (fun σ' H' => H' = H ∧ ∃ x1, σ' = [some (V.ref p), x1, none, none]) (fun D' hD => ?_) ?_
    · refine ⟨_, rfl, p, rfl, ⟨_, SqL.of hp⟩, ?_⟩
      refine for_list (xs := zs) (fun i σ H' => H' = H ∧ ∃ x1, σ = [some (V.ref p), x1, none, none]) ⟨rfl, _, rfl⟩ (fun i σ H' _ z => by rw [z.1]; exact SqL.of hp) ?_ (fun σ H' h => hD _ _ h)
      rintro i x σ H' hx ⟨rfl, x1, rfl⟩
      obtain ⟨M, hM, ⟨t, ys, rfl, ht, ar⟩, a, b, ok⟩ := al.at hx
      refine ⟨_, rfl, t, _, rfl, .inr (SqT.of ht), _, _, rfl, rfl, _, rfl, if_false_of (decide_eq_false ?_) (iteF ⟨rfl, _, rfl⟩)⟩
      rw [ar.len, ok.rect.len]
      have := ok.la
      omega
    rintro σ' _ ⟨rfl, x1, rfl⟩
    refine ⟨_, rfl, p, rfl, ⟨_, SqL.of hp⟩, ?_⟩
    refine for_list (xs := zs) (fun i σ H' => Ext _ H' ∧ ∃ x1, σ = [some (V.ref p), x1, none, none]) ⟨Ext.rfl', _, rfl⟩ (fun i σ H' _ z => SqL.of (z.1 _ _ hp)) ?_ ?_
    · rintro i x σ H' hx ⟨e0, x1, rfl⟩
      obtain ⟨M, hM, ⟨t, ys, rfl, ht, ar⟩, a, b, ok⟩ := al.at hx
      have ly : ys.length ≤ 64 := by rw [ar.len, ok.rect.len]; exact ok.la
      refine ⟨_, rfl, t, rfl, ⟨_, SqT.of (e0 _ _ ht)⟩, fun D hD => ?_⟩
      refine ⟨fun i m H2 => m = ys.length - i ∧ i ≤ ys.length ∧ XN N0 H' H2 ∧ ∃ n, n ≤ 64 * i ∧ H2 D = some (.lst ((List.replicate n true).map V.bl)), ⟨_, rfl, Nat.zero_le _, .of (Ext.new hD), 0, Nat.zero_le _, upd_same⟩, ?_⟩
      rintro i m H2 ⟨rfl, hi, e, n, hn, hd⟩
      have sq := SqT.of (K := K) (e.tup (e0 _ _ ht))
      by_cases hlt : i < ys.length
      · refine .inr ⟨walk_tup.goes i H2 hlt sq, fun H3 => XN N0 H' H3 ∧ ∃ n, n ≤ 64 * (i + 1) ∧ H3 D = some (.lst ((List.replicate n true).map V.bl)), fun H3 q => ⟨ys.length - (i + 1), by omega, rfl, hlt, q⟩, fun x H3 y => ?_⟩
        obtain ⟨rfl, hx⟩ := walk_tup.yields i H2 x H3 hlt sq y
        obtain ⟨r, hr, t2, us, rfl, ht2, au⟩ := ar.at hx
        have lu : us.length ≤ 64 := by rw [au.len, ok.rect.row r (mem_of hr)]; exact ok.lb
        refine ⟨rfl, ?_⟩
        refine ⟨_, rfl, t2, rfl, ⟨_, SqT.of (e.tup (e0 _ _ ht2))⟩, ?_⟩
        refine ⟨fun j m H4 => m = us.length - j ∧ j ≤ us.length ∧ XN N0 H' H4 ∧ ∃ n, n ≤ 64 * i + j ∧ H4 D = some (.lst ((List.replicate n true).map V.bl)), ⟨_, rfl, Nat.zero_le _, e, n, hn, hd⟩, ?_⟩
        rintro j m H4 ⟨rfl, hj, e4, n4, hn4, hd4⟩
        have sq4 := SqT.of (K := K) (e4.tup (e0 _ _ ht2))
        by_cases hlt4 : j < us.length
        · refine .inr ⟨walk_tup.goes j H4 hlt4 sq4, fun H5 => XN N0 H' H5 ∧ ∃ n, n ≤ 64 * i + (j + 1) ∧ H5 D = some (.lst ((List.replicate n true).map V.bl)), fun H5 q => ⟨us.length - (j + 1), by omega, rfl, hlt4, q⟩, fun x5 H5 y5 => ?_⟩
          obtain ⟨rfl, hx5⟩ := walk_tup.yields j H4 x5 H5 hlt4 sq4 y5
          obtain ⟨q, hq, rv, rfl, dv, hv⟩ := au.at hx5
          have sh := ok.sh r (mem_of hr) q (mem_of hq)
          refine ⟨rfl, ?_⟩
          refine ⟨_, rfl, rv, q, rfl, ⟨dv, e4.ins (e0 _ _ hv)⟩, sh.1, sh.2, _, hd4, ?_, ?_, n4 + 1, by omega, ?_⟩
          · rw [List.length_map, List.length_replicate]
            exact le_size (by omega)
          · intro c o hc no
            have nd : c ≠ D := ne_of_none hc hD
            rw [upd_ne nd]
            exact e4 c o hc no
          · rw [upd_same, List.replicate_succ', List.map_append] <;> rfl
        · have ej : j = us.length := by omega
          subst ej
          exact .inl ⟨walk_tup.stops H4 sq4, e4, n4, by omega, hd4⟩
      · have ei : i = ys.length := by omega
        subst ei
        refine .inl ⟨walk_tup.stops H2 sq, ?_⟩
        refine ⟨D, _, rfl, SqL.of hd, _, rfl, if_false_of (by rw [all_rep] <;> rfl) ?_⟩
        exact ⟨e0.trans e.ext, _, rfl⟩
    · rintro σ H' ⟨e, x1, rfl⟩
      exact k H' e
theorem ok_turned (T : TX K mg) : FnOk P w K mg base (L2.CX P w) 14 T.f_turned T.d_turned ["rows"] (spTurned T.C_Ratio) := by
  refine T.F_turned.okX sc_turned (fun vs H Q E h => ?_) (fun cdv A outer s H vs Q E hr h => ?_)
  · obtain ⟨x, M, a, b, rfl, _⟩ := h
    rfl
  · refine ⟨_, (pss_cons (ps_expr (pe_call (ok_check_rows T) (hr.mono (by decide)) (by rfl) T.g_check_rows T.F_check_rows.kp T.b_check_rows .nil passL (pa_cons (pv 0) pa_nil)))
    (pss_cons (ps_expr (pe_call (ok_check_bounds T) (hr.mono (by decide)) (by rfl) T.g_check_bounds T.F_check_bounds.kp T.b_check_bounds .nil passL (pa_cons (pe_lst (pa_cons (pv 0) pa_nil)) pa_nil)))
    (pss_one (ps_ret (pe_callTy call_tuple_of (by rfl) T.n_tuple (by decide +kernel) (pa_cons (pe_lc (own := [("place", 2)]) (g := gName 2) rfl sc_turned.nd (pi_range1 (by rfl) T.n_range (pa_cons (pe_call (ok_width_of T) (hr.mono (by decide)) (by rfl) T.g_width_of T.F_width_of.kp T.b_width_of .nil passL (pa_cons (pv 0) pa_nil)) pa_nil)) (blkOk_by (N := ["rows", "row", "place"]) (sc := defScope s_turned) (by decide +kernel)) (fun _ _ _ _ _ => pg_name (i := 2) sc_turned.nd rfl (Or.inr rfl)) (fun _ _ _ _ _ => pts_nil) (fun _ _ _ _ _ => (pe_callTy (T := "tuple") (r := rTupOf K) call_tuple_of (by rfl) T.n_tuple (by decide +kernel) (pa_cons (pe_lc (wi := (iTup K (tVar 0))) (tt := tYes) (te := (tOp (rIxT K) (tVar 1) (tVar 2))) (own := [("row", 1)]) (g := gName 1) rfl sc_turned.nd (pi_tup (pv 0)) (blkOk_by (by show blkC ["rows", "row", "place"] (relS _ (defScope s_turned)) _ _ = true; decide +kernel)) (fun _ _ _ _ _ => pg_name (i := 1) sc_turned.nd rfl (Or.inl rfl)) (fun _ _ _ _ _ => pts_nil) (fun _ _ _ _ _ => (pe_ix (r := rIxT K) ix_tup (pv 1) (pv 2) (fun _ _ => rfl)))) pa_nil)))) pa_nil)))))), ?_⟩
    obtain ⟨x, M, a, b, rfl, hx, hO, k⟩ := h
    have a1 := hO.la
    have b1 := hO.lb
    refine ⟨_, rfl, x, M, a, b, rfl, hx, hO.rect, by omega, by omega, fun H1 e1 => ?_⟩
    have hx1 := hx.xn (XN.of (N := N0) e1)
    refine ⟨_, rfl, (by show 1 ≤ sizeLine; decide), fun l hl => ⟨l, _, [M], rfl, upd_same, .cons ⟨hx1.xn (XN.of (N := N0) (Ext.new hl)), a, b, hO⟩ .nil, fun H2 e2 => ?_⟩⟩
    have e02 : Ext H H2 := e1.trans ((Ext.new hl).trans e2)
    have hx2 := hx.xn (XN.of (N := N0) e02)
    have hw := wid_le hO.rect
    refine ⟨_, rfl, x, M, rfl, hx2, _, rfl, by omega, by omega, fun D hD => ?_⟩
    obtain ⟨p, xs, rfl, hp, al⟩ := hx2
    refine lc_al (walk_range (n := wid M)) N0 (RowR T.C_Ratio) (tr M (wid M)) (tr_len M _) (by omega) hD (fun z => z) (fun _ _ _ _ e h => h.xn e) yfn_ext (fun _ _ => trivial) ?_ ?_
    · rintro i c x Ha _ hc e _ ⟨rfl, rfl⟩ Q' Z hQ
      obtain ⟨hi, rfl⟩ := tr_get hc
      rw [show ((fun i : Nat => V.int (0 + (i : Int))) i) = V.int (i : Int) from congrArg V.int (Int.zero_add _)]
      refine ⟨rfl, ?_⟩
      refine ⟨_, rfl, p, rfl, ⟨_, SqT.of (e.tup hp)⟩, fun D2 hD2 => ?_⟩
      refine lc_al walk_tup N0 (RatV T.C_Ratio) (col M i) (by rw [col_len, al.len]) (by rw [al.len, hO.rect.len]; omega) hD2 (fun z => z) (fun _ _ _ _ e h => h.xn e) yat_ext (fun H' e3 => SqT.of (e3.tup (e.tup hp))) ?_ ?_
      · rintro m q x Hc _ hq e3 _ ⟨rfl, hx⟩ Q2 Z2 hQ2
        obtain ⟨r, hr, rfl⟩ := col_get hq
        obtain ⟨r', hr', t, ys, rfl, ht, ar⟩ := al.at hx
        rw [hr] at hr'
        cases hr'
        obtain ⟨v, hv, rv⟩ := row_get ar (hO.rect.row r (mem_of hr)) (Nat.lt_of_lt_of_le hi hw)
        refine ⟨rfl, ?_⟩
        exact ⟨_, rfl, _, rfl, t, ys, _, v, rfl, rfl, SqT.of (e3.tup (e.tup ht)), hv, hQ2 _ _ XN.rfl' ((rv.xn e).xn e3)⟩
      · intro H3 zs e3 hd3 az
        refine ⟨D2, zs, rfl, .inl ⟨SqL.of hd3, fun l2 hl2 => hQ _ _ (e3.trans (.of (Ext.new hl2))) ⟨l2, zs, rfl, upd_same, az.imp fun _ _ h => h.xn (XN.of (N := N0) (Ext.new hl2))⟩⟩⟩
    · intro H3 zs e3 hd3 az
      refine ⟨D, zs, rfl, .inl ⟨SqL.of hd3, fun l2 hl2 => k _ _ (e02.trans (e3.ext.trans (Ext.new hl2))) ⟨l2, zs, rfl, upd_same, az.imp fun _ _ h => h.xn (XN.of (N := N0) (Ext.new hl2))⟩⟩⟩
theorem ok_multiplied_row (T : TX K mg) : FnOk P w K mg base (L2.CX P w) 10 T.f_multiplied_row T.d_multiplied_row ["row", "columns"] (spRow T.C_Ratio) := by
  refine T.F_multiplied_row.okX sc_multiplied_row (fun vs H Q E h => ?_) (fun cdv A outer s H vs Q E hr h => ?_)
  · obtain ⟨x, c, qs, zs, cs, k, D, N, E, M, rfl, _⟩ := h
    rfl
  · refine ⟨_, (pss_cons (ps_asg (pv 0) (pg_tup (by rfl) (pgs_cons (pg_name (i := 2) sc_multiplied_row.nd rfl (Or.inr rfl)) (pgs_cons (pg_name (i := 3) sc_multiplied_row.nd rfl (Or.inr rfl)) pgs_nil))))
    (pss_one (ps_ret (pe_callTy call_tuple_of (by rfl) T.n_tuple (by decide +kernel) (pa_cons (pe_lc (own := [("column", 4), ("below", 5)]) (g := gTup K 2 (gCons (gName 4) (gCons (gName 5) gNil))) rfl sc_multiplied_row.nd (pi_list (pv 1)) (blkOk_by (N := ["row", "columns", "integers", "bottom", "column", "below"]) (sc := defScope s_multiplied_row) (by decide +kernel)) (fun _ _ _ _ _ => pg_tup rfl (pgs_cons (pg_name (i := 4) sc_multiplied_row.nd rfl (Or.inl rfl)) (pgs_cons (pg_name (i := 5) sc_multiplied_row.nd rfl (Or.inl rfl)) pgs_nil))) (fun _ _ _ _ _ => pts_nil) (fun _ _ _ _ _ => (pe_call (ok_ratio_of T) (hr.mono (by decide)) (by rfl) T.g_ratio_of T.F_ratio_of.kp T.b_ratio_of .nil passL (pa_cons (pe_call (ok_product_of T) (hr.mono (by decide)) (by rfl) T.g_product_of T.F_product_of.kp T.b_product_of .nil passL (pa_cons (pv 2) (pa_cons (pv 4) pa_nil))) (pa_cons (pe_op op_mulW (pv 3) (pv 5)) pa_nil))))) pa_nil))))), ?_⟩
    obtain ⟨x, c, qs, zs, cs, kk, D, N, E1, M, rfl, hx, hc, al, hl, l1, hcl, fq, fc, sz, k⟩ := h
    obtain ⟨t, l, rfl, ht, _, hl2⟩ := hx
    refine ⟨_, rfl, t, _, rfl, SqT.of ht, rfl, _, _, rfl, _, _, rfl, rfl, ?_⟩
    refine ⟨_, rfl, c, rfl, ⟨_, SqL.of hc⟩, fun DD hDD => ?_⟩
    refine lc_al walk_list N0 (RatV T.C_Ratio) (cs.map (dot qs)) (by rw [List.length_map, al.len]) (by rw [al.len]; exact l1) hDD (fun z => z) (fun _ _ _ _ e h => h.xn e) yat_ext (fun H' e => SqL.of (e.lst (fun z => z) hc)) ?_ ?_
    · rintro i q x Ha _ hq e _ ⟨rfl, hx⟩ Q' Z hQ
      obtain ⟨cl, hc1, t2, l2, rfl, ht2, _, hl3⟩ := al.at hx
      rw [List.getElem?_map, hc1] at hq
      cases hq
      have lc := hcl cl (List.mem_of_getElem? hc1)
      obtain ⟨nz, s1, s2, cm, s3, s4, lo1, lo2, bg⟩ := row_times sz hl fq (fc cl (List.mem_of_getElem? hc1))
      have zb : (many (dot qs cl).num || many ((dot qs cl).den : Int)) = false := bg
      refine ⟨t2, _, rfl, SqT.of (e.tup ht2), rfl, _, _, rfl, _, _, rfl, rfl, rfl, ?_⟩
      refine ⟨_, rfl, _, rfl, l, l2, _, _, rfl, e.lst (fun z => z) hl2, e.lst (fun z => z) hl3, by rw [tops_len, tops_len, hl, lc], by rw [tops_len, hl]; exact Nat.le_trans sz.k (by decide), s3, s4, fun H2 e2 => ?_⟩
      refine ⟨_, rfl, _, rfl, _, _, rfl, rfl, cm, ?_⟩
      refine ⟨_, _, rfl, nz, s1, s2, fun z => ?_, fun _ r H3 e3 hr => hQ _ _ (.of (e2.trans e3)) ⟨r, rfl, ?_⟩⟩
      · rw [lo1, lo2, zb] at z
        cases z
      · rw [lo1, lo2] at hr
        exact hr
    · intro H' ys e hd ay
      exact ⟨DD, ys, rfl, .inl ⟨SqL.of hd, fun l2 h2 => k _ _ (e.ext.trans (Ext.new h2)) ⟨l2, ys, rfl, upd_same, ay.imp fun _ _ h => h.xn (XN.of (N := N0) (Ext.new h2))⟩⟩⟩
theorem ok_multiplied (T : TX K mg) : FnOk P w K mg base (L2.CX P w) 16 T.f_multiplied T.d_multiplied ["rows", "others"] (spMul T.C_Ratio) := by
  refine T.F_multiplied.okX sc_multiplied (fun vs H Q E h => ?_) (fun cdv A outer s H vs Q E hr h => ?_)
  · obtain ⟨x, y, A, B, a, k, b, c, D, N, E, M, rfl, _⟩ := h
    rfl
  · refine ⟨_, (pss_cons (ps_expr (pe_call (ok_check_rows T) (hr.mono (by decide)) (by rfl) T.g_check_rows T.F_check_rows.kp T.b_check_rows .nil passL (pa_cons (pv 0) pa_nil)))
    (pss_cons (ps_expr (pe_call (ok_check_rows T) (hr.mono (by decide)) (by rfl) T.g_check_rows T.F_check_rows.kp T.b_check_rows .nil passL (pa_cons (pv 1) pa_nil)))
    (pss_cons (ps_expr (pe_call (ok_check_bounds T) (hr.mono (by decide)) (by rfl) T.g_check_bounds T.F_check_bounds.kp T.b_check_bounds .nil passL (pa_cons (pe_lst (pa_cons (pv 0) (pa_cons (pv 1) pa_nil))) pa_nil)))
    (pss_cons (ps_if (PW.pt (pw_and (pt_truth (pv 0) (by intro _; rfl)) (pw_and1 (pt_cmpR op_ne (pe_callB call_len_seq (by rfl) T.n_len (by decide +kernel) (pa_cons (pe_ix ix_tup (pv 0) pe_int (fun _ _ => rfl)) pa_nil)) (pe_callB call_len_seq (by rfl) T.n_len (by decide +kernel) (pa_cons (pv 1) pa_nil)) (nomark _))))) (pss_one (ps_raise rfl (takes_of rfl rfl rfl rfl) (pmk_own PySem.F.excBase_ValueError T.x_InvalidOperation T.g_InvalidOperation T.k_InvalidOperation (raises_own T.bx_InvalidOperation T.tx_InvalidOperation) (by rfl)))) pss_nil)
    (pss_cons (ps_set (i := 2) sc_multiplied.nd rfl (Or.inr rfl) (pe_lc (own := [("column", 3)]) (g := gName 3) rfl sc_multiplied.nd (pi_list (pe_call (ok_columns_of T) (hr.mono (by decide)) (by rfl) T.g_columns_of T.F_columns_of.kp T.b_columns_of .nil passL (pa_cons (pv 1) (pa_cons (pe_call (ok_width_of T) (hr.mono (by decide)) (by rfl) T.g_width_of T.F_width_of.kp T.b_width_of .nil passL (pa_cons (pv 1) pa_nil)) pa_nil)))) (blkOk_by (N := ["rows", "others", "columns", "column", "row"]) (sc := defScope s_multiplied) (by decide +kernel)) (fun _ _ _ _ _ => pg_name (i := 3) sc_multiplied.nd rfl (Or.inl rfl)) (fun _ _ _ _ _ => pts_nil) (fun _ _ _ _ _ => (pe_call (ok_scaledC T) (hr.mono (by decide)) (by rfl) T.g_scaled T.F_scaled.kp T.b_scaled .nil passL (pa_cons (pv 3) pa_nil)))))
    (pss_one (ps_ret (pe_callTy call_tuple_of (by rfl) T.n_tuple (by decide +kernel) (pa_cons (pe_lc (own := [("row", 4)]) (g := gName 4) rfl sc_multiplied.nd (pi_tup (pv 0)) (blkOk_by (N := ["rows", "others", "columns", "column", "row"]) (sc := defScope s_multiplied) (by decide +kernel)) (fun _ _ _ _ _ => pg_name (i := 4) sc_multiplied.nd rfl (Or.inl rfl)) (fun _ _ _ _ _ => pts_nil) (fun _ _ _ _ _ => (pe_call (ok_multiplied_row T) (hr.mono (by decide)) (by rfl) T.g_multiplied_row T.F_multiplied_row.kp T.b_multiplied_row .nil passL (pa_cons (pe_call (ok_scaled T) (hr.mono (by decide)) (by rfl) T.g_scaled T.F_scaled.kp T.b_scaled .nil passL (pa_cons (pv 4) pa_nil)) (pa_cons (pv 2) pa_nil))))) pa_nil))))))))), ?_⟩
    obtain ⟨x, y, AA, BB, a, kk, b, c, D, N, E1, M, rfl, hx, hy, hA, hB, hk, a1, b1, c1, fA, fB, sz, k⟩ := h
    have k1 := sz.k
    have okA : Ok AA a kk := ⟨hA, a1, k1, sh_of fA sz.d0 sz.d sz.n⟩
    have okB : Ok BB b c := ⟨hB, b1, c1, sh_of fB sz.e0 sz.e sz.m⟩
    refine ⟨_, rfl, x, AA, a, kk, rfl, hx, hA, by omega, by omega, fun H1 e1 => ?_⟩
    refine ⟨_, rfl, y, BB, b, c, rfl, hy.xn (XN.of (N := N0) e1), hB, by omega, by omega, fun H2 e2 => ?_⟩
    refine ⟨_, rfl, _, rfl, (by show 2 ≤ sizeLine; decide), fun l hl => ?_⟩
    have el : Ext H (upd H2 l (.lst [x, y])) := (e1.trans e2).trans (Ext.new hl)
    refine ⟨l, _, [AA, BB], rfl, upd_same, .cons ⟨hx.xn (XN.of (N := N0) el), a, kk, okA⟩ (.cons ⟨hy.xn (XN.of (N := N0) el), b, c, okB⟩ .nil), fun H3 e3 => ?_⟩
    have e03 := el.trans e3
    have hx3 := hx.xn (XN.of (N := N0) e03)
    have hy3 := hy.xn (XN.of (N := N0) e03)
    clear hx hy
    dsimp only
    refine seq_ifF (fun H' => H3 = H') (fun Q hQ => ?_) ?_
    · obtain ⟨p, xs, rfl, hp, al⟩ := hx3
      obtain ⟨q, ys, rfl, hq, al2⟩ := hy3
      cases al with
      | nil => exact ⟨_, rfl, false, .inr (.inl ⟨[], SqT.of hp, rfl⟩), iteF (hQ _ rfl)⟩
      | cons h1 t1 =>
        obtain ⟨t, zs, rfl, ht, ar⟩ := h1
        have a0 : a ≠ 0 := fun z => by
          have := hA.len
          rw [z] at this
          cases this
        have lz : zs.length = ys.length := by
          rw [ar.len, al2.len, hB.len, hk.resolve_left a0]
          exact hA.row _ List.mem_cons_self
        refine ⟨_, rfl, true, .inr (.inl ⟨_, SqT.of hp, rfl⟩), iteT ⟨_, rfl, p, _, _, _, rfl, rfl, SqT.of hp, atI_nat (j := 0) rfl, t, zs, rfl, .inr (SqT.of ht), _, rfl, q, ys, rfl, .inr (SqT.of hq), rfl, _, rfl, ?_⟩⟩
        rw [lz, decide_eq_true rfl]
        exact hQ _ rfl
    rintro _ rfl
    refine seq_asg (fun v H' => ∃ d zs, v = .ref d ∧ H' d = some (.lst zs) ∧ Al (ScaV N0 H') zs (tr BB (wid BB)) ∧ Ext H3 H') (fun Q hQ => ?_) ?_
    · refine ⟨_, rfl, _, rfl, y, BB, rfl, hy3, y, BB, b, c, wid BB, rfl, hy3, hB, wid_le hB, by omega, by omega, fun d xs H4 e4 nd hd4 al4 => ?_⟩
      refine ⟨d, rfl, ⟨_, SqL.of hd4⟩, fun DD hDD => ?_⟩
      refine lc_al walk_list N0 (ScaV (fun p => p = DD)) (tr BB (wid BB)) al4.len.symm (by rw [al4.len, tr_len]; have := wid_le hB; omega) hDD (fun z => z) (fun _ _ _ _ e h => h.xn (e.sub fun p z => z.resolve_left fun f => f)) yat_ext (fun H' e => SqL.of (e.lst (fun z => z) hd4)) ?_ ?_
      · rintro i cl x Ha _ hc e ⟨acc, hacc⟩ ⟨rfl, hx⟩ Q' Z hQ'
        obtain ⟨cl2, hc2, cr⟩ := al4.at hx
        rw [hc] at hc2
        cases hc2
        have lc : cl.length = b := by rw [← hB.len]; exact (tr_rect BB _).row cl (mem_of hc)
        refine ⟨rfl, ?_⟩
        refine ⟨_, rfl, x, cl, E1, M, rfl, (cr.sub fun p z => z.elim).xn e, by omega, fim_tr hB fB cl (mem_of hc), sz.e0, Nat.lt_trans sz.e (by decide), Nat.lt_trans sz.m (by decide), fun v H5 e5 hs => hQ' _ _ (.of e5) (hs.sub ?_)⟩
        rintro p rfl z
        rw [hacc] at z
        cases z
      · intro H' zs e hd az
        exact hQ _ _ ⟨DD, zs, rfl, hd, az.imp fun _ _ h => h.sub fun p z => z.elim, e4.trans e.ext⟩
    rintro v H4 ⟨d, zs, rfl, hd, al4, e4⟩
    obtain ⟨p, xs, rfl, hp, al⟩ := hx3.xn (XN.of (N := N0) e4)
    refine ⟨_, rfl, p, rfl, ⟨_, SqT.of hp⟩, fun DD hDD => ?_⟩
    refine lc_al walk_tup N0 (RowR T.C_Ratio) (mul AA BB) (by rw [mul_len, al.len]) (by rw [al.len, hA.len]; omega) hDD (fun z => z) (fun _ _ _ _ e h => h.xn e) yat_ext (fun H' e => SqT.of (e.tup hp)) ?_ ?_
    · rintro i q x Ha _ hq e _ ⟨rfl, hx⟩ Q' Z hQ'
      obtain ⟨r, hr, rr⟩ := al.at hx
      rw [mul_get hq hr] at hQ'
      have lr := hA.row r (mem_of hr)
      have a0 : a ≠ 0 := fun z => by
        have := (List.getElem?_eq_some_iff.mp hr).1
        rw [hA.len, z] at this
        omega
      refine ⟨rfl, ?_⟩
      refine ⟨_, rfl, x, r, D, N, rfl, rr.xn e, by omega, fA r (mem_of hr), sz.d0, Nat.lt_trans sz.d (by decide), Nat.lt_trans sz.n (by decide), fun w H5 e5 hs => ?_⟩
      have eH : XN N0 H4 H5 := e.trans (.of e5)
      refine ⟨_, rfl, w, d, r, zs, _, kk, D, N, E1, M, rfl, hs.sub (fun p z => z.elim), eH.lst (fun z => z) hd, al4.imp (fun _ _ h => h.xn eH), lr, (by rw [tr_len]; have := wid_le hB; omega), fun l hl => ?_, fA r (mem_of hr), fun l hl => fim_tr hB fB l hl, sz, fun z H6 e6 hz => hQ' _ _ (.of (e5.trans e6)) hz⟩
      rw [(tr_rect BB _).row l hl, hB.len, hk.resolve_left a0]
    · intro H' ys e hd2 ay
      exact ⟨DD, ys, rfl, .inl ⟨SqL.of hd2, fun l2 h2 => k _ _ (e03.trans (e4.trans (e.ext.trans (Ext.new h2)))) ⟨l2, ys, rfl, upd_same, ay.imp fun _ _ h => h.xn (XN.of (N := N0) (Ext.new h2))⟩⟩⟩
end
end K06

namespace K06
open PySem PySem.Spec PyProof.Rows L2 L3

/-! ### the law's rows -/
def Sm (q : Rat) : Prop := longer q.num = false ∧ longer (q.den : Int) = false
def SmM (M : List (List Rat)) : Prop := ∀ r ∈ M, ∀ q ∈ r, Sm q
def spRowLess : Sp := fun vs H Q _ => ∃ (x y f : V) (ps qs : List Rat) (w : Rat), vs = [x, y, f] ∧ RowL N0 H x ps ∧ RowL N0 H y qs ∧ PairV H f w ∧ ps.length = qs.length ∧ ps.length ≤ 1000 ∧ (∀ p ∈ ps, Fw p) ∧ (∀ q ∈ qs, Fw q ∧ Fw (-w * q)) ∧ Fw w ∧
  ∀ d xs H', Ext H H' → H d = none → H' d = some (.lst xs) → Al (PairV H') xs (addm ps qs (-w)) → Q (.ref d) H'
def spMixed : Sp := fun vs H Q _ => ∃ (x y : V) (B : List (List Rat)) (ws : List Rat) (b c : Nat), vs = [x, y, .int (c : Nat)] ∧ MatL N0 H x B ∧ RowL N0 H y ws ∧ Rect B b c ∧ ws.length = b ∧ b ≤ 10 ∧ c ≤ 10 ∧ FiM 6 24 B ∧ (∀ q ∈ ws, Fi 6 24 q) ∧
  ∀ d xs H', Ext H H' → H d = none → H' d = some (.lst xs) → Al (PairV H') xs (mix (List.replicate c 0) ws B) → Q (.ref d) H'
def spRatios (C : Addr) : Sp := fun vs H Q _ => ∃ x qs, vs = [x] ∧ RowL N0 H x qs ∧ qs.length ≤ 1000 ∧ (∀ q ∈ qs, Sm q) ∧ ∀ y H', Ext H H' → RowR C H' y qs → Q y H'
def spTold (C : Addr) : Sp := fun vs H Q _ => ∃ x M, vs = [x] ∧ MatL N0 H x M ∧ M.length ≤ 1000 ∧ (∀ r ∈ M, r.length ≤ 1000) ∧ SmM M ∧ ∀ y H', Ext H H' → MatR C H' y M → Q y H'
def spLot : Sp := fun vs H Q _ => ∃ (u : Addr) (m w : Nat), vs = [.ref u, .int (m : Nat), .int (w : Nat)] ∧ WellAt H u ∧ m ≤ 10 ∧ w ≤ 10 ∧
  ∀ d xs M H', XN (Nu u) H H' → WellAt H' u → H d = none → H' d = some (.lst xs) → Al (RowL (fun p => H p ≠ none) H') xs M → Rect M m w → FiM 6 24 M → Q (.ref d) H'
def spLturned : Sp := fun vs H Q _ => ∃ (x : V) (M : List (List Rat)) (a w : Nat), vs = [x, .int (w : Nat)] ∧ MatL N0 H x M ∧ Rect M a w ∧ a ≤ 10 ∧ w ≤ 10 ∧
  ∀ d xs H', Ext H H' → H d = none → H' d = some (.lst xs) → Al (RowL (fun p => H p ≠ none) H') xs (tr M (wid M)) → Q (.ref d) H'

theorem WellAt.ext {H H' : Hp} {u : Addr} (h : WellAt H u) (e : Ext H H') : WellAt H' u := by
  obtain ⟨a, b, c, d, h⟩ := h
  exact ⟨a, b, c, d, e _ _ h⟩
theorem pr_neg (w : Rat) : Pr (-w) = [.int (0 - w.num), .int (w.den : Int)] := by
  unfold Pr
  rw [(neg_q w).1, (neg_q w).2, Int.zero_sub]
theorem fw_neg {w : Rat} (h : Fw w) : Fw (-w) := by
  unfold Fw
  rw [(neg_q w).1, (neg_q w).2, Int.natAbs_neg]
  exact h
theorem addm_get {ps qs : List Rat} {w b : Rat} {i : Nat} (h : (addm ps qs w)[i]? = some b) : ∃ p q, ps[i]? = some p ∧ qs[i]? = some q ∧ b = p + w * q := by
  unfold addm at h
  rw [List.getElem?_zipWith] at h
  cases e : ps[i]? with
  | none => rw [e] at h; cases h
  | some p =>
    cases e2 : qs[i]? with
    | none => rw [e, e2] at h; cases h
    | some q => rw [e, e2] at h; exact ⟨p, q, rfl, rfl, (Option.some.inj h).symm⟩
theorem rep_flat {α : Type} (x : α) : ∀ n, (List.replicate n [x]).flatten = List.replicate n x
  | 0 => rfl
  | n + 1 => by rw [List.replicate_succ, List.flatten_cons, rep_flat x n] <;> rfl
theorem mix_snoc : ∀ {ws : List Rat} {f : List Rat} {ss : List (List Rat)} {w : Rat} {s : List Rat}, ws.length = ss.length → mix f (ws ++ [w]) (ss ++ [s]) = addm (mix f ws ss) s w
  | [], f, [], w, s, _ => rfl
  | w1 :: ws, f, s1 :: ss, w, s, h => by
    show mix (addm f s1 w1) (ws ++ [w]) (ss ++ [s]) = addm (mix (addm f s1 w1) ws ss) s w
    exact mix_snoc (by simpa using h)
  | [], _, _ :: _, _, _, h => by simp at h
  | _ :: _, _, [], _, _, h => by simp at h
theorem fi_neg {D N : Nat} {q : Rat} (h : Fi D N q) : Fi D N (-q) := by
  obtain ⟨n, a, rfl⟩ := h
  refine ⟨-n, by omega, ?_⟩
  rw [Rat.neg_divInt]
theorem fw_fi {D N : Nat} {q : Rat} (h : Fi D N q) (d0 : 0 < D) (hD : D < 2 ^ 60) (hN : N < 2 ^ 60) : Fw q := by
  have z := h.num d0
  have := Nat.le_of_dvd d0 z.2
  exact ⟨Nat.lt_of_lt_of_le (show q.num.natAbs < 2 ^ 60 by omega) (Nat.pow_le_pow_right (by decide) (by decide)), Nat.lt_of_lt_of_le (show q.den < 2 ^ 60 by omega) (Nat.pow_le_pow_right (by decide) (by decide))⟩
theorem sm_fi {D N : Nat} {q : Rat} (h : Fi D N q) (d0 : 0 < D) (hD : D < 2 ^ 60) (hN : N < 2 ^ 60) : Sm q := by
  have z := h.num d0
  have := Nat.le_of_dvd d0 z.2
  have p : (2 : Nat) ^ 60 ≤ 10 ^ 60 := by decide
  exact ⟨decide_eq_false (by omega), decide_eq_false (by rw [Int.natAbs_natCast]; omega)⟩
theorem fi_addm {i : Nat} {f s : List Rat} {w : Rat} (hf : ∀ q ∈ f, Fi 36 (i * 576) q) (hs : ∀ q ∈ s, Fi 6 24 q) (hw : Fi 6 24 w) : ∀ q ∈ addm f s w, Fi 36 ((i + 1) * 576) q := by
  intro q hq
  obtain ⟨j, hj⟩ := List.getElem?_of_mem hq
  obtain ⟨p, r, hp, hr, rfl⟩ := addm_get hj
  have h1 := fi_mul hw (hs r (List.mem_of_getElem? hr))
  exact (fi_add (by decide) (hf p (List.mem_of_getElem? hp)) h1).mono (by omega)
theorem fi_drawn {a b : Int} (h1 : -4 ≤ a) (h2 : a ≤ 4) (b1 : 1 ≤ b) (b2 : b ≤ 3) : Fi 6 24 (Rat.divInt a b) := by
  have c : b = 1 ∨ b = 2 ∨ b = 3 := by omega
  rcases c with rfl | rfl | rfl
  · exact ⟨6 * a, by omega, (Rat.divInt_eq_divInt_iff (by decide) (by decide)).mpr (by omega)⟩
  · exact ⟨3 * a, by omega, (Rat.divInt_eq_divInt_iff (by decide) (by decide)).mpr (by omega)⟩
  · exact ⟨2 * a, by omega, (Rat.divInt_eq_divInt_iff (by decide) (by decide)).mpr (by omega)⟩
theorem mk_good {K : PySem.W.Frag} {C : Addr} {H : Hp} {Q : VK} {E : XK} {a b : Int} {x dx : Addr} (nx : H x = none) (ndx : H dx = none) (nex : dx ≠ x) (la : longer a = false) (lb : longer b = false) (b0 : b ≠ 0) (k : ∀ H2, Ext H H2 → RatQ C H2 x (Rat.divInt a b) → Q .non H2) :
    spInit K C [.ref x, .int a, .int b] (upd (upd H dx (.own x)) x (.ins C dx [])) Q E := by
  refine ⟨x, dx, a, b, rfl, upd_same, la, lb, b0, fun H' e1 hx => k H' (fun c o h => ?_) ?_⟩
  · have n1 := ne_of_none h nx
    refine e1 c o n1 ?_
    rw [upd_ne n1, upd_ne (ne_of_none h ndx)]
    exact h
  · have l := low_rat (n := a) b0
    show RatAt _ _ _ _ _
    rw [← l.1, ← l.2]
    exact ⟨dx, hx⟩
/-- as lc_al, with something that stays -/
theorem lc_alI {β : Type} {J : It} {n : Nat} {G : Hp → Prop} {Y : Nat → Hp → V → Hp → Prop} (w : Walk J n G Y) {g : TG} {tt : TT} {te : TE} {vs : List Nat} {σ : L2.St} {H1 : Hp} {D : Addr} {Qd : Hp → Prop}
    (N : Addr → Prop) (I : Hp → Prop) (R : Hp → V → β → Prop) (bs : List β) (hn : bs.length = n) (hb : n ≤ 1000) (hD : H1 D = none) (hND : ¬ N D)
    (i0 : I (upd H1 D (.lst []))) (im : ∀ H acc acc', H D = some (.lst acc) → I H → I (upd H D (.lst acc')))
    (mono : ∀ H H' x b, XN (fun p => N p ∨ p = D) H H' → R H x b → R H' x b)
    (hy : ∀ i Ha x Hb, Y i Ha x Hb → Ext Ha Hb)
    (hG : ∀ H', XN N H1 H' → G H')
    (hs : ∀ i b x Ha Hb, bs[i]? = some b → XN N H1 Ha → I Ha → (∃ acc, Ha D = some (.lst acc)) → Y i Ha x Hb → ∀ (Q : VK) (Z : Hp → Prop), (∀ y Hc, XN N Hb Hc → I Hc → R Hc y b → Q y Hc) →
      g x (wipe σ vs) Hb fun σ2 H2 => wipe σ2 vs = wipe σ vs ∧ tt σ2 H2 fun b H3 => if b = true then te σ2 H3 Q else Z H3)
    (hd : ∀ H' xs, XN N H1 H' → I H' → H' D = some (.lst xs) → Al (R H') xs bs → Qd H') :
    ∃ W : Nat → Nat → Hp → Prop, (∃ m, W 0 m (upd H1 D (.lst []))) ∧ ∀ i m H, W i m H →
      (J.stop i H ∧ Qd H) ∨ (J.go i H ∧ ∃ Nx : Hp → Prop, (∀ H', Nx H' → ∃ m', m' < m ∧ W (i + 1) m' H') ∧ ∀ x H', J.yld i H x H' → g x (wipe σ vs) H' fun σ2 H2 => wipe σ2 vs = wipe σ vs ∧ tt σ2 H2 fun b H3 =>
        if b = true then te σ2 H3 fun y H4 => ∃ acc, H4 D = some (.lst acc) ∧ acc.length < sizeLine ∧ Nx (upd H4 D (.lst (acc ++ [y]))) else Nx H3) := by
  refine lc_it w (fun i H' => XN N H1 H' ∧ I H' ∧ ∃ xs, H' D = some (.lst xs) ∧ xs.length = i ∧ Al (R H') xs (bs.take i)) ⟨.of (Ext.new hD), i0, [], upd_same, rfl, .nil⟩ (fun i H' _ q => hG H' q.1) ?_ ?_
  · rintro i x Ha Hb hi ⟨e, ia, xs, hx, hl, al⟩ y
    obtain ⟨b, hbi⟩ : ∃ b, bs[i]? = some b := ⟨_, List.getElem?_eq_getElem (by omega)⟩
    have sz : (1000 : Nat) < sizeLine := by decide
    have eb := hy i Ha x Hb y
    refine hs i b x Ha Hb hbi e ia ⟨xs, hx⟩ y _ _ fun v Hc ec ic rc => ?_
    have hc : Hc D = some (.lst xs) := ec.lst hND (eb _ _ hx)
    have up : XN (fun p => N p ∨ p = D) Hc (upd Hc D (.lst (xs ++ [v]))) := XN.at hc (.inr rfl)
    have ac : XN (fun p => N p ∨ p = D) Ha (upd Hc D (.lst (xs ++ [v]))) := ((XN.of eb).trans (ec.sub fun _ => .inl)).trans up
    refine ⟨xs, hc, by omega, ?_, im _ _ _ hc ic, _, upd_same, by rw [List.length_append, hl] <;> rfl, ?_⟩
    · intro p o hp no
      have h3 : Hc p = some o := ec p o (eb p o (e p o hp no)) no
      rw [upd_ne (ne_of_none hp hD)]
      exact h3
    · rw [List.take_add_one, hbi]
      exact (al.imp fun x' b' k => mono _ _ _ _ ac k).snoc (mono _ _ _ _ up rc)
  · rintro H' ⟨e, ia, xs, hx, hl, al⟩
    rw [← hn, List.take_length] at al
    exact hd H' xs e ia hx al
theorem al_choose {β : Type} {P : V → β → Prop} {xs : List V} : ∀ {n : Nat}, Al (fun x (_ : Unit) => ∃ b, P x b) xs (List.replicate n ()) → ∃ bs : List β, bs.length = n ∧ Al P xs bs := by
  induction xs with
  | nil =>
    intro n h
    cases n with
    | zero => exact ⟨[], rfl, .nil⟩
    | succ n => rw [List.replicate_succ] at h; cases h
  | cons x xs ih =>
    intro n h
    cases n with
    | zero => cases h
    | succ n =>
      rw [List.replicate_succ] at h
      cases h with
      | cons h t =>
        obtain ⟨b, hb⟩ := h
        obtain ⟨bs, l, a⟩ := ih t
        exact ⟨b :: bs, by rw [List.length_cons, l], .cons hb a⟩
theorem rep_unit {n i : Nat} {b : Unit} : (List.replicate n ()).length = n := List.length_replicate ..
section
variable {P : Program} {w : World} {K : PySem.W.Frag} {mg : Str → Option Value} {base : Heap}
theorem ok__law_less (T : TX K mg) : FnOk P w K mg base (L2.CX P w) 6 T.f__law_less T.d__law_less ["_law_one", "_law_other", "_law_factor"] (spRowLess) := by
  refine T.F__law_less.okX sc__law_less (fun vs H Q E h => ?_) (fun cdv A outer s H vs Q E hr h => ?_)
  · obtain ⟨x, y, f, ps, qs, w, rfl, _⟩ := h
    rfl
  · refine ⟨_, (pss_cons (ps_set (i := 3) sc__law_less.nd rfl (Or.inr rfl) (pe_tup (pa_cons (pe_op op_sub pe_int (pe_ix ix_tup (pv 2) pe_int (fun _ _ => rfl))) (pa_cons (pe_ix ix_tup (pv 2) pe_int (fun _ _ => rfl)) pa_nil))))
    (pss_one (ps_ret (pe_lc (own := [("_law_a", 4), ("_law_b", 5)]) (g := gTup K 2 (gCons (gName 4) (gCons (gName 5) gNil))) rfl sc__law_less.nd (pi_zip (by rfl) T.n_zip (pa_cons (pv 0) (pa_cons (pv 1) pa_nil))) (blkOk_by (N := ["_law_one", "_law_other", "_law_factor", "_law_minus", "_law_a", "_law_b"]) (sc := defScope s__law_less) (by decide +kernel)) (fun _ _ _ _ _ => pg_tup rfl (pgs_cons (pg_name (i := 4) sc__law_less.nd rfl (Or.inl rfl)) (pgs_cons (pg_name (i := 5) sc__law_less.nd rfl (Or.inl rfl)) pgs_nil))) (fun _ _ _ _ _ => pts_nil) (fun _ _ _ _ _ => (pe_call (ok__law_plus T) (hr.mono (by decide)) (by rfl) T.g__law_plus T.F__law_plus.kp T.b__law_plus .nil passL (pa_cons (pv 4) (pa_cons (pe_call (ok__law_times T) (hr.mono (by decide)) (by rfl) T.g__law_times T.F__law_times.kp T.b__law_times .nil passL (pa_cons (pv 3) (pa_cons (pv 5) pa_nil))) pa_nil)))))))), ?_⟩
    obtain ⟨x, y, f, ps, qs, w, rfl, hx, hy, hf, hl, l1, fp, fq, fw, k⟩ := h
    obtain ⟨ax, xs, rfl, _, hx, ap⟩ := hx
    obtain ⟨ay, ys, rfl, _, hy, aq⟩ := hy
    obtain ⟨f, rfl, hf⟩ := hf
    refine ⟨_, rfl, f, _, _, _, rfl, rfl, SqT.of hf, rfl, _, _, rfl, rfl, _, rfl, f, _, _, _, rfl, rfl, SqT.of hf, rfl, (by show 2 ≤ sizeLine; decide), fun mp hmp => ?_⟩
    have em : PairV (upd H mp (.tup [.int (0 - w.num), .int (w.den : Int)])) (.ref mp) (-w) := ⟨mp, rfl, by rw [upd_same, pr_neg]⟩
    have eM : Ext H (upd H mp (.tup [.int (0 - w.num), .int (w.den : Int)])) := Ext.new hmp
    change PairV (upd H mp (.tup [(fun i j => V.int (i - j)) 0 w.num, .int (w.den : Int)])) (.ref mp) (-w) at em
    change Ext H (upd H mp (.tup [(fun i j => V.int (i - j)) 0 w.num, .int (w.den : Int)])) at eM
    generalize upd H mp (.tup [(fun i j => V.int (i - j)) 0 w.num, .int (w.den : Int)]) = HM at em eM ⊢
    refine ⟨_, rfl, _, rfl, ax, ay, _, _, rfl, SqL.of (eM _ _ hx), SqL.of (eM _ _ hy), fun D hD => ?_⟩
    refine lc_al (walk_zip (n := ps.length) (by rw [ap.len, aq.len]; omega)) N0 PairV (addm ps qs (-w)) (by rw [addm_len rfl hl.symm]) l1 hD (fun z => z) (fun _ _ _ _ e h => h.xn e) ypair_ext (fun H' e => ⟨SqL.of (e.lst (fun z => z) (eM _ _ hx)), SqL.of (e.lst (fun z => z) (eM _ _ hy))⟩) ?_ ?_
    · rintro i b v Ha _ hb e _ ⟨t, x, y, rfl, ht, rfl, hx1, hy1⟩ Q' Z hQ
      obtain ⟨p, q, hp, hq, rfl⟩ := addm_get hb
      obtain ⟨p', hp', px⟩ := ap.at hx1
      obtain ⟨q', hq', qy⟩ := aq.at hy1
      rw [hp] at hp'
      rw [hq] at hq'
      cases hp'
      cases hq'
      have et : XN N0 HM (upd Ha t (.tup [x, y])) := e.trans (.of (Ext.new ht))
      have px1 := (px.xn (XN.of (N := N0) eM)).xn et
      have qy1 := (qy.xn (XN.of (N := N0) eM)).xn et
      have f2 := fq q (List.mem_of_getElem? hq)
      refine ⟨t, _, rfl, SqT.of upd_same, rfl, _, _, rfl, _, _, rfl, rfl, rfl, ?_⟩
      refine ⟨_, rfl, _, rfl, _, rfl, _, _, _, _, rfl, em.xn et, qy1, fw_neg fw, f2.1, fun z H2 e2 hz => ?_⟩
      exact ⟨_, _, _, _, rfl, px1.xn (XN.of (N := N0) e2), hz, fp p (List.mem_of_getElem? hp), f2.2, fun z2 H3 e3 hz3 => hQ _ _ (.of (e2.trans e3)) hz3⟩
    · intro H' zs e hd az
      exact k D zs H' (eM.trans e.ext) (none_of eM hD) hd az
theorem ok__law_mixed (T : TX K mg) : FnOk P w K mg base (L2.CX P w) 9 T.f__law_mixed T.d__law_mixed ["_law_rows", "_law_weights", "_law_width"] (spMixed) := by
  refine T.F__law_mixed.okX sc__law_mixed (fun vs H Q E h => ?_) (fun cdv A outer s H vs Q E hr h => ?_)
  · obtain ⟨x, y, B, ws, b, c, rfl, _⟩ := h
    rfl
  · refine ⟨_, (pss_cons (ps_set (i := 3) sc__law_mixed.nd rfl (Or.inl rfl) (pe_op op_rep (pe_lst (pa_cons (pe_tup (pa_cons pe_int (pa_cons pe_int pa_nil))) pa_nil)) (pv 2)))
    (pss_cons (ps_for PassesOwn.leaving rfl (pi_zip (by rfl) T.n_zip (pa_cons (pv 0) (pa_cons (pv 1) pa_nil))) (pg_tup (by rfl) (pgs_cons (pg_name (i := 4) sc__law_mixed.nd rfl (Or.inl rfl)) (pgs_cons (pg_name (i := 5) sc__law_mixed.nd rfl (Or.inl rfl)) pgs_nil))) (pss_one (ps_set (i := 3) sc__law_mixed.nd rfl (Or.inl rfl) (pe_call (ok__law_less T) (hr.mono (by decide)) (by rfl) T.g__law_less T.F__law_less.kp T.b__law_less .nil passL (pa_cons (pv 3) (pa_cons (pv 4) (pa_cons (pe_tup (pa_cons (pe_op op_sub pe_int (pe_ix ix_tup (pv 5) pe_int (fun _ _ => rfl))) (pa_cons (pe_ix ix_tup (pv 5) pe_int (fun _ _ => rfl)) pa_nil))) pa_nil)))))))
    (pss_one (ps_ret (pv 3))))), ?_⟩
    obtain ⟨x, y, BB, ws, b, c, rfl, hx, hy, hB, lw, b1, c1, fB, fw, k⟩ := h
    obtain ⟨ax, xs, rfl, _, hx, aB⟩ := hx
    obtain ⟨ay, ys, rfl, _, hy, aw⟩ := hy
    refine seq_asg (fun v H' => ∃ d zs, v = .ref d ∧ H' d = some (.lst zs) ∧ Al (PairV H') zs (List.replicate c 0) ∧ Ext H H' ∧ H d = none) (fun Q hQ => ?_) ?_
    · refine ⟨(by show 2 ≤ sizeLine; decide), fun t0 ht0 => ⟨(by show 1 ≤ sizeLine; decide), fun l0 hl0 => ?_⟩⟩
      have e0 : Ext H (upd (upd H t0 (.tup [.int 0, .int 1])) l0 (.lst [.ref t0])) := (Ext.new ht0).trans (Ext.new hl0)
      refine ⟨_, rfl, l0, _, _, rfl, rfl, upd_same, by omega, by omega, ?_, fun d hd => hQ _ _ ⟨d, _, rfl, upd_same, ?_, e0.trans (Ext.new hd), none_of e0 hd⟩⟩
      · show 1 * c ≤ sizeLine
        exact Nat.le_of_lt (le_size (by omega))
      · show Al _ (List.replicate c [V.ref t0]).flatten _
        rw [rep_flat (V.ref t0) c]
        refine Al.rep (R := PairV _) (x := .ref t0) (b := 0) ⟨t0, rfl, ?_⟩ c
        rw [upd_ne (ne_of_none (Ext.new hl0 _ _ upd_same) hd), Ext.new hl0 _ _ upd_same] <;> rfl
    rintro v H1 ⟨d0, zs0, rfl, hd0, al0, e1, nd0⟩
    refine ⟨_, rfl, _, rfl, ax, ay, _, _, rfl, SqL.of (e1 _ _ hx), SqL.of (e1 _ _ hy), ?_⟩
    refine RZ.for_zipL (by rw [aB.len, aw.len, hB.len, lw]) (fun i σ H' => Ext H H' ∧ ∃ d zs x4 x5, σ = [some (.ref ax), some (.ref ay), some (.int (c : Nat)), some (.ref d), x4, x5] ∧ H d = none ∧ H' d = some (.lst zs) ∧ Al (PairV H') zs (mix (List.replicate c 0) (ws.take i) (BB.take i)) ∧ ∀ q ∈ mix (List.replicate c 0) (ws.take i) (BB.take i), Fi 36 (i * 576) q)
      ⟨e1, d0, zs0, _, _, rfl, nd0, hd0, al0, fun q hq => ?_⟩ (fun i σ H' q => ⟨SqL.of (q.1 _ _ hx), SqL.of (q.1 _ _ hy)⟩) ?_ ?_
    · obtain rfl := (List.mem_replicate.mp hq).2
      exact fi_zero
    · rintro i x y T σ H' hx1 hy1 ⟨e, d, zs, x4, x5, rfl, nd, hd, al, fm⟩ hT
      obtain ⟨s, hs, rs⟩ := aB.at hx1
      obtain ⟨w, hw, pw⟩ := aw.at hy1
      have eT : Ext H' (upd H' T (.tup [x, y])) := Ext.new hT
      have eH := e.trans eT
      obtain ⟨t, rfl, ht⟩ := pw.xn (XN.of (N := N0) eH)
      have fs := fB s (mem_of hs)
      have fw1 := fw w (List.mem_of_getElem? hw)
      have li : (mix (List.replicate c 0) (ws.take i) (BB.take i)).length = c := mix_len (List.length_replicate ..) fun z hz => hB.row z (List.mem_of_mem_take hz)
      have ls := hB.row s (mem_of hs)
      have ib : i < b := by rw [← hB.len]; exact (List.getElem?_eq_some_iff.mp hs).1
      refine ⟨T, _, rfl, SqT.of upd_same, rfl, _, _, rfl, _, _, rfl, rfl, ?_⟩
      refine ⟨_, rfl, _, rfl, _, rfl, t, _, _, _, rfl, rfl, SqT.of ht, rfl, _, _, rfl, rfl, _, rfl, t, _, _, _, rfl, rfl, SqT.of ht, rfl, (by show 2 ≤ sizeLine; decide), fun n hn => ?_⟩
      have eN := eT.trans (Ext.new (o := .tup [(fun i j => V.int (i - j)) 0 w.num, .int (w.den : Int)]) hn)
      refine ⟨.ref d, x, .ref n, _, s, -w, rfl, ⟨d, zs, rfl, fun z => z, eN _ _ hd, al.imp fun _ _ h => h.xn (XN.of (N := N0) eN)⟩, rs.xn (XN.of (N := N0) (e.trans eN)), ⟨n, rfl, ?_⟩, by rw [li, ls], by rw [li]; omega, fun p hp => fw_fi (fm p hp) (by decide) (by decide) (by omega), fun q hq => ⟨fw_fi (fs q hq) (by decide) (by decide) (by decide), ?_⟩, fw_neg (fw_fi fw1 (by decide) (by decide) (by decide)), fun d2 zs2 H2 e2 nd2 hd2 al2 => ?_⟩
      · rw [upd_same, pr_neg]
      · rw [Rat.neg_neg]
        exact fw_fi (fi_mul fw1 (fs q hq)) (by decide) (by decide) (by decide)
      · rw [Rat.neg_neg] at al2
        have es : mix (List.replicate c 0) (ws.take (i + 1)) (BB.take (i + 1)) = addm (mix (List.replicate c 0) (ws.take i) (BB.take i)) s w := by
          rw [List.take_add_one, List.take_add_one, hw, hs]
          exact mix_snoc (by rw [List.length_take, List.length_take, lw, hB.len])
        refine ⟨e.trans (eN.trans e2), d2, zs2, _, _, rfl, none_of (e.trans eN) nd2, hd2, by rw [es]; exact al2, ?_⟩
        rw [es]
        exact fi_addm fm fs fw1
    · rintro σ H' ⟨e, d, zs, x4, x5, rfl, nd, hd, al, _⟩
      rw [aB.len, hB.len] at al
      rw [List.take_of_length_le (by omega), List.take_of_length_le (by rw [hB.len]; exact Nat.le_refl _)] at al
      exact ⟨_, rfl, k d zs H' e nd hd al⟩
theorem ok__law_ratios (T : TX K mg) : FnOk P w K mg base (L2.CX P w) 6 T.f__law_ratios T.d__law_ratios ["_law_row"] (spRatios T.C_Ratio) := by
  refine T.F__law_ratios.okX sc__law_ratios (fun vs H Q E h => ?_) (fun cdv A outer s H vs Q E hr h => ?_)
  · obtain ⟨x, qs, rfl, _⟩ := h
    rfl
  · refine ⟨_, (pss_one (ps_ret (pe_callTy call_tuple_of (by rfl) T.n_tuple (by decide +kernel) (pa_cons (pe_lc (own := [("_law_one", 1)]) (g := gName 1) rfl sc__law_ratios.nd (pi_list (pv 0)) (blkOk_by (N := ["_law_row", "_law_one"]) (sc := defScope s__law_ratios) (by decide +kernel)) (fun _ _ _ _ _ => pg_name (i := 1) sc__law_ratios.nd rfl (Or.inl rfl)) (fun _ _ _ _ _ => pts_nil) (fun _ _ _ _ _ => (pe_make T.mk_Ratio (ok_Ratio___init__ T) (hr.mono (by decide)) (by rfl) T.g_Ratio T.b_Ratio___init__ .nil passL (pa_cons (pe_ix (r := rIxT K) ix_tup (pv 1) pe_int (fun _ _ => rfl)) (pa_cons (pe_ix (r := rIxT K) ix_tup (pv 1) pe_int (fun _ _ => rfl)) pa_nil))))) pa_nil)))), ?_⟩
    obtain ⟨x, qs, rfl, ⟨p, xs, rfl, _, hp, al⟩, l1, sm, k⟩ := h
    refine ⟨_, rfl, p, rfl, ⟨_, SqL.of hp⟩, fun D hD => ?_⟩
    refine lc_al walk_list N0 (RatV T.C_Ratio) qs al.len.symm (by rw [al.len]; exact l1) hD (fun z => z) (fun _ _ _ _ e h => h.xn e) yat_ext (fun H' e => SqL.of (e.lst (fun z => z) hp)) ?_ ?_
    · rintro i q x Ha _ hq e _ ⟨rfl, hx⟩ Q' Z hQ
      obtain ⟨q', hq', t, rfl, ht⟩ := al.at hx
      rw [hq] at hq'
      cases hq'
      have s := sm q (List.mem_of_getElem? hq)
      have ht2 := e.tup ht
      refine ⟨rfl, ?_⟩
      refine ⟨_, rfl, t, _, _, _, rfl, rfl, SqT.of ht2, rfl, _, rfl, t, _, _, _, rfl, rfl, SqT.of ht2, rfl, fun v dv nv mv xv => mk_good nv mv xv (a := q.num) (b := (q.den : Int)) s.1 s.2 (den_ne q) fun H2 e2 hr => ⟨rfl, hQ _ _ (.of e2) ⟨v, rfl, ?_⟩⟩⟩
      rw [Rat.num_divInt_den] at hr
      exact hr
    · intro H' ys e hd ay
      exact ⟨D, ys, rfl, .inl ⟨SqL.of hd, fun l2 h2 => k _ _ (e.ext.trans (Ext.new h2)) ⟨l2, ys, rfl, upd_same, ay.imp fun _ _ h => h.xn (XN.of (N := N0) (Ext.new h2))⟩⟩⟩
theorem ok__law_told (T : TX K mg) : FnOk P w K mg base (L2.CX P w) 9 T.f__law_told T.d__law_told ["_law_rows"] (spTold T.C_Ratio) := by
  refine T.F__law_told.okX sc__law_told (fun vs H Q E h => ?_) (fun cdv A outer s H vs Q E hr h => ?_)
  · obtain ⟨x, M, rfl, _⟩ := h
    rfl
  · refine ⟨_, (pss_one (ps_ret (pe_callTy call_tuple_of (by rfl) T.n_tuple (by decide +kernel) (pa_cons (pe_lc (own := [("_law_row", 1)]) (g := gName 1) rfl sc__law_told.nd (pi_list (pv 0)) (blkOk_by (N := ["_law_rows", "_law_row"]) (sc := defScope s__law_told) (by decide +kernel)) (fun _ _ _ _ _ => pg_name (i := 1) sc__law_told.nd rfl (Or.inl rfl)) (fun _ _ _ _ _ => pts_nil) (fun _ _ _ _ _ => (pe_call (ok__law_ratios T) (hr.mono (by decide)) (by rfl) T.g__law_ratios T.F__law_ratios.kp T.b__law_ratios .nil passL (pa_cons (pv 1) pa_nil)))) pa_nil)))), ?_⟩
    obtain ⟨x, M, rfl, ⟨p, xs, rfl, _, hp, al⟩, l1, l2, sm, k⟩ := h
    refine ⟨_, rfl, p, rfl, ⟨_, SqL.of hp⟩, fun D hD => ?_⟩
    refine lc_al walk_list N0 (RowR T.C_Ratio) M al.len.symm (by rw [al.len]; exact l1) hD (fun z => z) (fun _ _ _ _ e h => h.xn e) yat_ext (fun H' e => SqL.of (e.lst (fun z => z) hp)) ?_ ?_
    · rintro i r x Ha _ hq e _ ⟨rfl, hx⟩ Q' Z hQ
      obtain ⟨r', hr', rr⟩ := al.at hx
      rw [hq] at hr'
      cases hr'
      refine ⟨rfl, ?_⟩
      exact ⟨_, rfl, x, r, rfl, rr.xn e, l2 r (mem_of hq), sm r (mem_of hq), fun y H2 e2 hy => hQ _ _ (.of e2) hy⟩
    · intro H' ys e hd ay
      exact ⟨D, ys, rfl, .inl ⟨SqL.of hd, fun l2 h2 => k _ _ (e.ext.trans (Ext.new h2)) ⟨l2, ys, rfl, upd_same, ay.imp fun _ _ h => h.xn (XN.of (N := N0) (Ext.new h2))⟩⟩⟩
theorem ok__law_lot (T : TX K mg) : FnOk P w K mg base (L2.CX P w) 6 T.f__law_lot T.d__law_lot ["_law_well_here", "_law_many", "_law_width"] (spLot) := by
  refine T.F__law_lot.okX sc__law_lot (fun vs H Q E h => ?_) (fun cdv A outer s H vs Q E hr h => ?_)
  · obtain ⟨u, m, w, rfl, _⟩ := h
    rfl
  · refine ⟨_, (pss_one (ps_ret (pe_lc (own := [("_law_one", 4)]) (g := gName 4) rfl sc__law_lot.nd (pi_range1 (by rfl) T.n_range (pa_cons (pv 1) pa_nil)) (blkOk_by (N := ["_law_well_here", "_law_many", "_law_width", "_law_turn", "_law_one"]) (sc := defScope s__law_lot) (by decide +kernel)) (fun _ _ _ _ _ => pg_name (i := 4) sc__law_lot.nd rfl (Or.inl rfl)) (fun _ _ _ _ _ => pts_nil) (fun _ _ _ _ _ => (pe_lc (wi := (iRng1 (tCons (tVar 2) tNil))) (tt := tYes) (te := (tCall (spLowL) [] E0 (tCons (tOp (rI0 fun i j => .int (i - j)) (tCall (spDip) [] E0 (tCons (tVar 0) (tCons (tC (.int 9)) tNil))) (tC (.int 4))) (tCons (tOp (rI0 fun i j => .int (i + j)) (tC (.int 1)) (tCall (spDip) [] E0 (tCons (tVar 0) (tCons (tC (.int 3)) tNil)))) tNil)))) (own := [("_law_turn", 3)]) (g := gName 3) rfl sc__law_lot.nd (pi_range1 (by rfl) T.n_range (pa_cons (pv 2) pa_nil)) (blkOk_by (by show blkC ["_law_well_here", "_law_many", "_law_width", "_law_turn", "_law_one"] (relS _ (defScope s__law_lot)) _ _ = true; decide +kernel)) (fun _ _ _ _ _ => pg_name (i := 3) sc__law_lot.nd rfl (Or.inl rfl)) (fun _ _ _ _ _ => pts_nil) (fun _ _ _ _ _ => (pe_call (ok__law_low T) (hr.mono (by decide)) (by rfl) T.g__law_low T.F__law_low.kp T.b__law_low .nil passL (pa_cons (pe_op op_sub (pe_call (ok__law_dip T) (hr.mono (by decide)) (by rfl) T.g__law_dip T.F__law_dip.kp T.b__law_dip .nil passL (pa_cons (pv 0) (pa_cons pe_int pa_nil))) pe_int) (pa_cons (pe_op op_add pe_int (pe_call (ok__law_dip T) (hr.mono (by decide)) (by rfl) T.g__law_dip T.F__law_dip.kp T.b__law_dip .nil passL (pa_cons (pv 0) (pa_cons pe_int pa_nil)))) pa_nil))))))))), ?_⟩
    obtain ⟨u, m, ww, rfl, hu, m1, w1, k⟩ := h
    have hne : H u ≠ none := by
      obtain ⟨a, b, c, d, h⟩ := hu
      rw [h]
      intro z
      cases z
    refine ⟨_, rfl, _, rfl, by omega, by omega, fun D hD => ?_⟩
    have nD : ¬ (D = u) := fun z => hne (z ▸ hD)
    have im : ∀ D', D' ≠ u → ∀ H acc acc', H D' = some (.lst acc) → WellAt H u → WellAt (upd H D' (.lst acc')) u := fun D' n H acc acc' _ h => by
      obtain ⟨a, b, c, d, h⟩ := h
      exact ⟨a, b, c, d, by rw [upd_ne n.symm]; exact h⟩
    refine lc_alI (walk_range (n := m)) (Nu u) (fun H' => WellAt H' u) (fun H' x (_ : Unit) => ∃ r, RowL (fun p => H p ≠ none ∨ p = D) H' x r ∧ r.length = ww ∧ ∀ q ∈ r, Fi 6 24 q) (List.replicate m ()) (List.length_replicate ..) (by omega) hD nD (hu.ext (Ext.new hD)) (im D nD) (fun _ _ _ _ e h => ?_) yfn_ext (fun _ _ => trivial) ?_ ?_
    · obtain ⟨r, h1, h2, h3⟩ := h
      exact ⟨r, h1.xn (e.sub fun p z => z.elim (fun z => .inl (by rw [show p = u from z]; exact hne)) .inr), h2, h3⟩
    · rintro i _ x _ Ha _ e hua ⟨acc, hacc⟩ ⟨rfl, rfl⟩ Q' Z hQ
      refine ⟨rfl, ?_⟩
      refine ⟨_, rfl, _, rfl, by omega, by omega, fun D2 hD2 => ?_⟩
      have hneA : Ha u ≠ none := by
        obtain ⟨a, b, c, d, h⟩ := hua
        rw [h]
        intro z
        cases z
      have nD2 : ¬ (D2 = u) := fun z => hneA (z ▸ hD2)
      refine lc_alI (walk_range (n := ww)) (Nu u) (fun H' => WellAt H' u) (fun H' x (_ : Unit) => ∃ q, PairV H' x q ∧ Fi 6 24 q) (List.replicate ww ()) (List.length_replicate ..) (by omega) hD2 nD2 (hua.ext (Ext.new hD2)) (im D2 nD2) (fun _ _ _ _ e h => ?_) yfn_ext (fun _ _ => trivial) ?_ ?_
      · obtain ⟨q, h1, h2⟩ := h
        exact ⟨q, h1.xn e, h2⟩
      · rintro j _ x Hb _ _ eb hub _ ⟨rfl, rfl⟩ Q2 Z2 hQ2
        refine ⟨rfl, ?_⟩
        refine ⟨_, rfl, u, 9, rfl, hub, by decide, by decide, fun r H2 r0 r1 e2 hu2 => ?_⟩
        refine ⟨_, _, rfl, rfl, _, rfl, u, 3, rfl, hu2, by decide, by decide, fun r' H3 r0' r1' e3 hu3 => ?_⟩
        refine ⟨_, _, rfl, rfl, _, _, rfl, by omega, ?_, ?_, fun z H4 e4 hz => hQ2 _ _ (e2.trans (e3.trans (.of e4))) (hu3.ext e4) ⟨_, hz, fi_drawn (by omega) (by omega) (by omega) (by omega)⟩⟩
        · exact Nat.lt_of_lt_of_le (show (r - 4).natAbs < 2 ^ 4 by omega) (Nat.pow_le_pow_right (by decide) (by decide))
        · exact Nat.lt_of_lt_of_le (show (1 + r').natAbs < 2 ^ 4 by omega) (Nat.pow_le_pow_right (by decide) (by decide))
      · intro H2 zs e2 hu2 hd2 az
        obtain ⟨qs, lq, aq⟩ := al_choose az
        refine hQ _ _ e2 hu2 ⟨qs, ⟨D2, zs, rfl, fun z => ?_, hd2, aq.imp fun _ _ h => h.1⟩, lq, fun q hq => ?_⟩
        · rcases z with z | z
          · refine z ?_
            cases h : H D2 with
            | none => rfl
            | some o =>
              have := e D2 o h fun z => (nD2 z).elim
              rw [this] at hD2
              cases hD2
          · rw [z, hacc] at hD2
            cases hD2
        · obtain ⟨j, hj⟩ := List.getElem?_of_mem hq
          obtain ⟨x, _, h⟩ := aq.at' hj
          exact h.2
    · intro H2 zs e2 hu2 hd2 az
      obtain ⟨M, lM, aM⟩ := al_choose az
      have fact : ∀ r ∈ M, r.length = ww ∧ ∀ q ∈ r, Fi 6 24 q := fun r hr => by
        obtain ⟨j, hj⟩ := List.getElem?_of_mem hr
        obtain ⟨x, _, h⟩ := aM.at' hj
        exact h.2
      exact k D zs M H2 e2 hu2 hD hd2 (aM.imp fun _ _ h => h.1.sub fun p z => .inl z) ⟨lM, fun r hr => (fact r hr).1⟩ fun r hr => (fact r hr).2
theorem ok__law_turned (T : TX K mg) : FnOk P w K mg base (L2.CX P w) 4 T.f__law_turned T.d__law_turned ["_law_rows", "_law_width"] (spLturned) := by
  refine T.F__law_turned.okX sc__law_turned (fun vs H Q E h => ?_) (fun cdv A outer s H vs Q E hr h => ?_)
  · obtain ⟨x, M, a, w, rfl, _⟩ := h
    rfl
  · refine ⟨_, (pss_one (ps_ret (pe_ifExp (pt_cmpR (op_neNil hr.units) (pv 0) (pe_lst pa_nil) (nomark _)) (pe_lc (own := [("_law_at", 3)]) (g := gName 3) rfl sc__law_turned.nd (pi_range1 (by rfl) T.n_range (pa_cons (pv 1) pa_nil)) (blkOk_by (N := ["_law_rows", "_law_width", "_law_row", "_law_at"]) (sc := defScope s__law_turned) (by decide +kernel)) (fun _ _ _ _ _ => pg_name (i := 3) sc__law_turned.nd rfl (Or.inr rfl)) (fun _ _ _ _ _ => pts_nil) (fun _ _ _ _ _ => (pe_lc (wi := (iList K (tVar 0))) (tt := tYes) (te := (tOp (rIxL K) (tVar 2) (tVar 3))) (own := [("_law_row", 2)]) (g := gName 2) rfl sc__law_turned.nd (pi_list (pv 0)) (blkOk_by (by show blkC ["_law_rows", "_law_width", "_law_row", "_law_at"] (relS _ (defScope s__law_turned)) _ _ = true; decide +kernel)) (fun _ _ _ _ _ => pg_name (i := 2) sc__law_turned.nd rfl (Or.inl rfl)) (fun _ _ _ _ _ => pts_nil) (fun _ _ _ _ _ => (pe_ix (r := rIxL K) ix_list (pv 2) (pv 3) (fun _ _ => rfl)))))) (pe_lst pa_nil)))), ?_⟩
    obtain ⟨x, M, a, ww, rfl, hx, hR, a1, w1, k⟩ := h
    obtain ⟨p, xs, rfl, _, hp, al⟩ := hx
    refine ⟨_, rfl, (by show 0 ≤ sizeLine; decide), fun l0 hl0 => ?_⟩
    have e0 : Ext H (upd H l0 (.lst [])) := Ext.new hl0
    refine ⟨p, l0, xs, rfl, rfl, e0 _ _ hp, upd_same, _, rfl, ?_⟩
    have hp0 := e0 _ _ hp
    have al0 := al.imp fun _ _ h => h.xn (XN.of (N := N0) e0)
    generalize upd H l0 (.lst []) = H0 at e0 hp0 al0
    cases al with
    | nil =>
      refine iteF ⟨(by show 0 ≤ sizeLine; decide), fun d hd => k d [] _ (e0.trans (Ext.new hd)) (none_of e0 hd) upd_same ?_⟩
      exact .nil
    | cons h1 t1 =>
      rename_i x0 r0 xs0 M0
      have a0 : 0 < a := by
        rw [← hR.len]
        exact Nat.zero_lt_succ _
      have hw := wid_rect hR a0
      rw [hw] at k
      refine iteT ⟨_, rfl, _, rfl, by omega, by omega, fun D hD => ?_⟩
      refine lc_al (walk_range (n := ww)) N0 (RowL (fun p => H p ≠ none ∨ p = D)) (tr (r0 :: M0) ww) (tr_len _ ww) (by omega) hD (fun z => z) (fun _ _ _ _ e h => h.xn (e.sub fun p z => .inr (z.resolve_left fun f => f))) yfn_ext (fun _ _ => trivial) ?_ ?_
      · rintro i c x Ha _ hc e ⟨acc, hacc⟩ ⟨rfl, rfl⟩ Q' Z hQ
        obtain ⟨hi, rfl⟩ := tr_get hc
        rw [show ((fun i : Nat => V.int (0 + (i : Int))) i) = V.int (i : Int) from congrArg V.int (Int.zero_add _)]
        refine ⟨rfl, ?_⟩
        refine ⟨_, rfl, p, rfl, ⟨_, SqL.of (e.lst (fun z => z) hp0)⟩, fun D2 hD2 => ?_⟩
        refine lc_al walk_list N0 PairV (col (r0 :: M0) i) (by rw [col_len, al0.len]) (by rw [al0.len, hR.len]; omega) hD2 (fun z => z) (fun _ _ _ _ e h => h.xn e) yat_ext (fun H' e2 => SqL.of (e2.lst (fun z => z) (e.lst (fun z => z) hp0))) ?_ ?_
        · rintro m q x Hc _ hq e2 _ ⟨rfl, hx⟩ Q2 Z2 hQ2
          obtain ⟨r, hr, rfl⟩ := col_get hq
          obtain ⟨r', hr', t, ys, rfl, nt, ht, ar⟩ := al0.at hx
          rw [hr] at hr'
          cases hr'
          obtain ⟨v, hv, rv⟩ := row_get ar (hR.row r (mem_of hr)) hi
          refine ⟨rfl, ?_⟩
          exact ⟨_, rfl, _, rfl, t, ys, _, v, rfl, rfl, SqL.of (e2.lst (fun z => z) (e.lst (fun z => z) ht)), hv, hQ2 _ _ XN.rfl' ((rv.xn e).xn e2)⟩
        · intro H2 zs e2 hd2 az
          refine hQ _ _ e2 ⟨D2, zs, rfl, fun z => ?_, hd2, az⟩
          rcases z with z | z
          · exact z (none_of e0 (none_of e.ext hD2))
          · rw [z, hacc] at hD2
            cases hD2
      · intro H' zs e hd ay
        exact k D zs H' (e0.trans e.ext) (none_of e0 hD) hd (ay.imp fun _ _ h => h.sub fun p z => .inl z)
end
end K06

namespace K06
open PySem PySem.Spec PyProof.Rows L2 L3

/-! ### the law -/
def spRight : Sp := fun vs H Q _ => ∃ u, vs = [.ref u] ∧ WellAt H u ∧ ∀ H', XN (Nu u) H H' → Q (.bl true) H'
def spLaw (K : PySem.W.Frag) : Sp := fun vs H Q _ => ∃ (a : Addr) (ns : List Int), vs = [.ref a] ∧ SqL K H a (ns.map V.int) ∧ ns.length ≤ 63 ∧ ∀ H', Q (.bl true) H'

theorem well_ne {H : Hp} {u d : Addr} (hu : WellAt H u) (n : H d = none) : ¬ d = u := fun z => by
  obtain ⟨a, b, c, e, h⟩ := hu
  rw [← z, n] at h
  cases h
theorem lot_mat {H H' : Hp} {u d : Addr} {xs : List V} {M : List (List Rat)} (hu : WellAt H u) (n : H d = none) (h : H' d = some (.lst xs)) (al : Al (RowL (fun p => H p ≠ none) H') xs M) : MatL (Nu u) H' (.ref d) M :=
  ⟨d, xs, rfl, well_ne hu n, h, al.imp fun _ _ h => h.sub fun p z => by
    rw [show p = u from z]
    obtain ⟨a, b, c, e, k⟩ := hu
    rw [k]
    intro q
    cases q⟩
theorem fresh_mat {H H' : Hp} {d : Addr} {xs : List V} {M : List (List Rat)} (h : H' d = some (.lst xs)) (al : Al (RowL (fun p => H p ≠ none) H') xs M) : MatL N0 H' (.ref d) M :=
  ⟨d, xs, rfl, fun z => z, h, al.imp fun _ _ h => h.sub fun p z => z.elim⟩
theorem smM_fi {D N : Nat} {M : List (List Rat)} (f : FiM D N M) (d0 : 0 < D) (hD : D < 2 ^ 60) (hN : N < 2 ^ 60) : SmM M := fun r hr q hq => sm_fi (f r hr q hq) d0 hD hN
/-- what a lap has drawn and told -/
structure Lots (C : Addr) (H : Hp) (x5 x6 x8 x9 x10 : V) (A B D : List (List Rat)) : Prop where
  l5 : MatL N0 H x5 A
  l6 : MatL N0 H x6 B
  r8 : MatR C H x8 A
  r9 : MatR C H x9 B
  r10 : MatR C H x10 D
theorem Lots.ext {C : Addr} {H H' : Hp} {x5 x6 x8 x9 x10 : V} {A B D : List (List Rat)} (l : Lots C H x5 x6 x8 x9 x10 A B D) (e : Ext H H') : Lots C H' x5 x6 x8 x9 x10 A B D :=
  let x := XN.of (N := N0) e
  ⟨l.l5.xn x, l.l6.xn x, l.r8.xn x, l.r9.xn x, l.r10.xn x⟩
theorem MatR.ext {C : Addr} {H H' : Hp} {x : V} {M : List (List Rat)} (h : MatR C H x M) (e : Ext H H') : MatR C H' x M := h.xn (XN.of (N := N0) e)
theorem MatL.ext {H H' : Hp} {x : V} {M : List (List Rat)} (h : MatL N0 H x M) (e : Ext H H') : MatL N0 H' x M := h.xn (XN.of e)
theorem mat_nil {C p : Addr} {H : Hp} (h : H p = some (.tup [])) : MatR C H (.ref p) [] := ⟨p, [], rfl, h, .nil⟩
theorem fim_nil {D N : Nat} : FiM D N [] := fun r hr => by simp at hr
theorem rect_z {c : Nat} : Rect [] 0 c := ⟨rfl, fun r hr => by simp at hr⟩
theorem mul_none {A B : List (List Rat)} (h : wid B = 0) : mul A B = A.map fun _ => [] := by
  unfold mul
  rw [h]
  rfl
theorem sz6 {k : Nat} (h : k ≤ 64) : Sz k 6 24 6 24 := ⟨h, by decide, by decide, by decide, by decide, by decide, by decide⟩
theorem int0 {b : Nat} : ((((b : Nat) : Int)) == 0) = decide (b = 0) := by
  by_cases h : b = 0
  · subst h
    rfl
  · rw [decide_eq_false h]
    simpa using h

/-- a tuple of as many empty rows as a list has rows -/
theorem empties {K : PySem.W.Frag} {C : Addr} {H : Hp} {x : V} {M : List (List Rat)} {σ : L2.St} {i : Nat} {Q : VK} (m : MatL N0 H x M) (l : M.length ≤ 1000) (hi : σ[i]? = some (some x))
    (k : ∀ y H', Ext H H' → MatR C H' y (M.map fun _ => []) → Q y H') : tCB (rTupOf K) (tCons (tLc (iList K (tVar i)) (gName 12) tYes (tTup tNil) [12]) tNil) σ H Q := by
  obtain ⟨p, xs, rfl, _, hp, al⟩ := m
  refine ⟨_, hi, p, rfl, ⟨_, SqL.of hp⟩, fun D hD => ?_⟩
  refine lc_al walk_list N0 (RowR C) (M.map fun _ => []) (by rw [List.length_map, al.len]) (by rw [al.len]; exact l) hD (fun z => z) (fun _ _ _ _ e h => h.xn e) yat_ext (fun H' e => SqL.of (e.lst (fun z => z) hp)) ?_ ?_
  · rintro j b x _ Ha hb e _ ⟨rfl, hx⟩ Q' Z hQ
    have b0 : b = [] := by
      rw [List.getElem?_map] at hb
      cases q : M[j]? with
      | none => rw [q] at hb; cases hb
      | some r => rw [q] at hb; exact (Option.some.inj hb).symm
    subst b0
    refine ⟨?_, ?_⟩
    · show ((σ.set 12 none).set 12 (some x)).set 12 none = σ.set 12 none
      rw [List.set_set, List.set_set]
    exact ⟨(by show 0 ≤ sizeLine; decide), fun t ht => hQ _ _ (.of (Ext.new ht)) ⟨t, [], rfl, upd_same, .nil⟩⟩
  · intro H' ys e hd ay
    exact ⟨D, ys, rfl, .inl ⟨SqL.of hd, fun l2 h2 => k _ _ (e.ext.trans (Ext.new h2)) ⟨l2, ys, rfl, upd_same, ay.imp fun _ _ h => h.xn (XN.of (N := N0) (Ext.new h2))⟩⟩⟩
theorem sql_xn {K : PySem.W.Frag} {H H' : Hp} {a u : Addr} {o : HO} {xs : List V} (h : SqL K H a xs) (n : H u = none) (e : XN (Nu u) (upd H u o) H') : SqL K H' a xs := by
  have st : ∀ o', H a = some o' → H' a = some o' := fun o' h => by
    have na := ne_of_none h n
    refine e a o' (by rw [upd_ne na]; exact h) fun z => (na z).elim
  rcases h with (h | ⟨o, h⟩) | h
  · exact .inl (.inl (st _ h))
  · exact .inl (.inr ⟨o, st _ h⟩)
  · exact .inr h
/-- two rows of two fractions, written out -/
theorem lit22 {sp : Sp} {H : Hp} {σ : L2.St} {Q : VK} {a1 b1 a2 b2 a3 b3 a4 b4 : Int} {q1 q2 q3 q4 : Rat} (h1 : Pr q1 = [.int a1, .int b1]) (h2 : Pr q2 = [.int a2, .int b2]) (h3 : Pr q3 = [.int a3, .int b3]) (h4 : Pr q4 = [.int a4, .int b4])
    (k : ∀ l H', Ext H H' → MatL N0 H' (.ref l) [[q1, q2], [q3, q4]] → sp [.ref l] H' Q E0) :
    tCall sp [] E0 (tCons (tLst (tCons (tLst (tCons (tTup (tCons (tC (.int a1)) (tCons (tC (.int b1)) tNil))) (tCons (tTup (tCons (tC (.int a2)) (tCons (tC (.int b2)) tNil))) tNil))) (tCons (tLst (tCons (tTup (tCons (tC (.int a3)) (tCons (tC (.int b3)) tNil))) (tCons (tTup (tCons (tC (.int a4)) (tCons (tC (.int b4)) tNil))) tNil))) tNil))) tNil) σ H Q := by
  refine ⟨(by show 2 ≤ sizeLine; decide), fun t1 n1 => ⟨(by show 2 ≤ sizeLine; decide), fun t2 n2 => ⟨(by show 2 ≤ sizeLine; decide), fun l1 m1 => ?_⟩⟩⟩
  refine ⟨(by show 2 ≤ sizeLine; decide), fun t3 n3 => ⟨(by show 2 ≤ sizeLine; decide), fun t4 n4 => ⟨(by show 2 ≤ sizeLine; decide), fun l2 m2 => ⟨(by show 2 ≤ sizeLine; decide), fun l m => ?_⟩⟩⟩⟩
  have x1 := Ext.new (o := .tup [.int a1, .int b1]) n1
  have x2 := Ext.new (o := .tup [.int a2, .int b2]) n2
  have x3 := Ext.new (o := .lst [.ref t1, .ref t2]) m1
  have x4 := Ext.new (o := .tup [.int a3, .int b3]) n3
  have x5 := Ext.new (o := .tup [.int a4, .int b4]) n4
  have x6 := Ext.new (o := .lst [.ref t3, .ref t4]) m2
  have x7 := Ext.new (o := .lst [.ref l1, .ref l2]) m
  refine k l _ (x1.trans (x2.trans (x3.trans (x4.trans (x5.trans (x6.trans x7)))))) ⟨l, _, rfl, fun z => z, upd_same, .cons ⟨l1, _, rfl, fun z => z, x7 _ _ (x6 _ _ (x5 _ _ (x4 _ _ upd_same))), .cons ⟨t1, rfl, ?_⟩ (.cons ⟨t2, rfl, ?_⟩ .nil)⟩ (.cons ⟨l2, _, rfl, fun z => z, x7 _ _ upd_same, .cons ⟨t3, rfl, ?_⟩ (.cons ⟨t4, rfl, ?_⟩ .nil)⟩ .nil)⟩
  · rw [h1]
    exact x7 _ _ (x6 _ _ (x5 _ _ (x4 _ _ (x3 _ _ (x2 _ _ upd_same)))))
  · rw [h2]
    exact x7 _ _ (x6 _ _ (x5 _ _ (x4 _ _ (x3 _ _ upd_same))))
  · rw [h3]
    exact x7 _ _ (x6 _ _ (x5 _ _ upd_same))
  · rw [h4]
    exact x7 _ _ (x6 _ _ upd_same)
def M0 : List (List Rat) := [[Rat.divInt 1 1, Rat.divInt 2 1], [Rat.divInt 0 1, Rat.divInt 1 2]]
def M1 : List (List Rat) := [[Rat.divInt 1 1, Rat.divInt 3 1], [Rat.divInt 0 1, Rat.divInt 1 4]]
theorem pr_of {q : Rat} {a b : Int} (h : decide (q.num = a ∧ (q.den : Int) = b) = true) : Pr q = [.int a, .int b] := by
  have h := of_decide_eq_true h
  unfold Pr
  rw [h.1, h.2]
theorem m0_sq : mul M0 M0 = M1 := by decide +kernel
theorem m0_rect : Rect M0 2 2 := ⟨rfl, fun r hr => by
  have : r = [Rat.divInt 1 1, Rat.divInt 2 1] ∨ r = [Rat.divInt 0 1, Rat.divInt 1 2] := by simpa [M0] using hr
  rcases this with rfl | rfl <;> rfl⟩
theorem fi_at {a b : Int} {D N : Nat} (n : Int) (hn : n.natAbs ≤ N) (b0 : b ≠ 0) (d0 : (D : Int) ≠ 0) (h : a * D = n * b) : Fi D N (Rat.divInt a b) := ⟨n, hn, (Rat.divInt_eq_divInt_iff b0 d0).mpr h⟩
theorem m0_fi : FiM 6 24 M0 := fun r hr q hq => by
  have : r = [Rat.divInt 1 1, Rat.divInt 2 1] ∨ r = [Rat.divInt 0 1, Rat.divInt 1 2] := by simpa [M0] using hr
  rcases this with rfl | rfl
  · have : q = Rat.divInt 1 1 ∨ q = Rat.divInt 2 1 := by simpa using hq
    rcases this with rfl | rfl
    · exact fi_at 6 (by decide) (by decide) (by decide) (by decide)
    · exact fi_at 12 (by decide) (by decide) (by decide) (by decide)
  · have : q = Rat.divInt 0 1 ∨ q = Rat.divInt 1 2 := by simpa using hq
    rcases this with rfl | rfl
    · exact fi_at 0 (by decide) (by decide) (by decide) (by decide)
    · exact fi_at 3 (by decide) (by decide) (by decide) (by decide)
theorem m1_fi : FiM (6 * 6) (2 * (24 * 24)) M1 := by
  rw [← m0_sq]
  exact fim_mul (by decide) m0_rect m0_rect (Nat.le_refl 2) m0_fi m0_fi
theorem m1_rect : Rect M1 2 2 := by
  rw [← m0_sq]
  exact mul_rect (A := M0) (B := M0) rfl
theorem e2_rect : Rect ([[], []] : List (List Rat)) 2 0 := ⟨rfl, fun r hr => by
  have : r = [] := by simpa using hr
  rw [this] <;> rfl⟩
theorem e2_ok : Ok ([[], []] : List (List Rat)) 2 0 := ⟨e2_rect, by decide, by decide, fun r hr q hq => by
  have : r = [] := by simpa using hr
  rw [this] at hq
  simp at hq⟩
theorem e0_ok : Ok ([] : List (List Rat)) 0 0 := ⟨rect_z, by decide, by decide, fun r hr => by simp at hr⟩
section
variable {P : Program} {w : World} {K : PySem.W.Frag} {mg : Str → Option Value} {base : Heap}
theorem ok_eqS (T : TX K mg) : FnOk P w K mg base (L2.CX P w) 1 T.f_Ratio___eq__ T.d_Ratio___eq__ ["self", "other"] (L2.spEq (SameR T.C_Ratio)) := by
  refine T.F_Ratio___eq__.okX sc_Ratio___eq__ (fun vs H Q E h => ?_) (fun cdv A outer s H vs Q E hr h => ?_)
  · obtain ⟨p, q, rfl, _⟩ := h
    rfl
  · refine ⟨_, (pss_one (ps_ret (pe_and (pe_callB (id := "isinstance") (r := rIsi K) call_isi (by rfl) T.n_isinstance (by decide +kernel) (pa_cons (pv 1) (pa_cons (pe_glob (v := .ref T.C_Ratio) rfl T.g_Ratio rfl) pa_nil))) (pe_and (pe_cmpR op_eq (pe_fld (pv 0) rfl) (pe_fld (pv 1) rfl) (nomark _)) (pe_one (pe_cmpR op_eq (pe_fld (pv 0) rfl) (pe_fld (pv 1) rfl) (nomark _))))))), ?_⟩
    obtain ⟨p, q, rfl, ⟨a, ⟨dx, hp⟩, ⟨dy, hq⟩⟩, k⟩ := h
    refine ⟨_, rfl, _, _, _, _, _, rfl, .own _, .base (T.tc_Ratio.ty hq), T.kit_Ratio, _, rfl, iteT ?_⟩
    refine ⟨_, rfl, p, T.C_Ratio, dx, _, _, rfl, hp, T.cl_Ratio, T.n_Ratio__top, rf_top _ _, _, rfl, q, T.C_Ratio, dy, _, _, rfl, hq, T.cl_Ratio, T.n_Ratio__top, rf_top _ _, rfl, _, rfl, ?_⟩
    refine if_true_of (decide_eq_true rfl) ?_
    refine ⟨_, rfl, p, T.C_Ratio, dx, _, _, rfl, hp, T.cl_Ratio, T.n_Ratio__bottom, rf_bottom _ _, _, rfl, q, T.C_Ratio, dy, _, _, rfl, hq, T.cl_Ratio, T.n_Ratio__bottom, rf_bottom _ _, rfl, ?_⟩
    rw [decide_eq_true rfl]
    exact k H Ext.rfl'
theorem ok__law_right (T : TX K mg) : FnOk P w K mg base (L2.CX P w) 20 T.f__law_right T.d__law_right ["_law_well_here"] (spRight) := by
  refine T.F__law_right.okX sc__law_right (fun vs H Q E h => ?_) (fun cdv A outer s H vs Q E hr h => ?_)
  · obtain ⟨u, rfl, _⟩ := h
    rfl
  · refine ⟨_, (pss_cons (ps_asg (pe_tup (pa_cons (pe_call (ok__law_dip T) (hr.mono (by decide)) (by rfl) T.g__law_dip T.F__law_dip.kp T.b__law_dip .nil passL (pa_cons (pv 0) (pa_cons pe_int pa_nil))) (pa_cons (pe_call (ok__law_dip T) (hr.mono (by decide)) (by rfl) T.g__law_dip T.F__law_dip.kp T.b__law_dip .nil passL (pa_cons (pv 0) (pa_cons pe_int pa_nil))) (pa_cons (pe_op op_add pe_int (pe_call (ok__law_dip T) (hr.mono (by decide)) (by rfl) T.g__law_dip T.F__law_dip.kp T.b__law_dip .nil passL (pa_cons (pv 0) (pa_cons pe_int pa_nil)))) (pa_cons (pe_call (ok__law_dip T) (hr.mono (by decide)) (by rfl) T.g__law_dip T.F__law_dip.kp T.b__law_dip .nil passL (pa_cons (pv 0) (pa_cons pe_int pa_nil))) pa_nil))))) (pg_tup (by rfl) (pgs_cons (pg_name (i := 1) sc__law_right.nd rfl (Or.inl rfl)) (pgs_cons (pg_name (i := 2) sc__law_right.nd rfl (Or.inr rfl)) (pgs_cons (pg_name (i := 3) sc__law_right.nd rfl (Or.inr rfl)) (pgs_cons (pg_name (i := 4) sc__law_right.nd rfl (Or.inl rfl)) pgs_nil))))))
    (pss_cons (ps_asg (pe_tup (pa_cons (pe_call (ok__law_lot T) (hr.mono (by decide)) (by rfl) T.g__law_lot T.F__law_lot.kp T.b__law_lot .nil passL (pa_cons (pv 0) (pa_cons (pv 1) (pa_cons (pv 2) pa_nil)))) (pa_cons (pe_call (ok__law_lot T) (hr.mono (by decide)) (by rfl) T.g__law_lot T.F__law_lot.kp T.b__law_lot .nil passL (pa_cons (pv 0) (pa_cons (pv 2) (pa_cons (pv 3) pa_nil)))) (pa_cons (pe_call (ok__law_lot T) (hr.mono (by decide)) (by rfl) T.g__law_lot T.F__law_lot.kp T.b__law_lot .nil passL (pa_cons (pv 0) (pa_cons (pv 3) (pa_cons (pv 4) pa_nil)))) pa_nil)))) (pg_tup (by rfl) (pgs_cons (pg_name (i := 5) sc__law_right.nd rfl (Or.inl rfl)) (pgs_cons (pg_name (i := 6) sc__law_right.nd rfl (Or.inr rfl)) (pgs_cons (pg_name (i := 7) sc__law_right.nd rfl (Or.inl rfl)) pgs_nil)))))
    (pss_cons (ps_par3 (i := 8) (j := 9) (l := 10) (by rfl) sc__law_right.nd rfl rfl rfl (by decide) (by decide) (by decide) rfl rfl rfl (pa_cons (pe_call (ok__law_told T) (hr.mono (by decide)) (by rfl) T.g__law_told T.F__law_told.kp T.b__law_told .nil passL (pa_cons (pv 5) pa_nil)) (pa_cons (pe_call (ok__law_told T) (hr.mono (by decide)) (by rfl) T.g__law_told T.F__law_told.kp T.b__law_told .nil passL (pa_cons (pv 6) pa_nil)) (pa_cons (pe_call (ok__law_told T) (hr.mono (by decide)) (by rfl) T.g__law_told T.F__law_told.kp T.b__law_told .nil passL (pa_cons (pv 7) pa_nil)) pa_nil))) (by rfl))
    (pss_cons (ps_if (pt_cmpR (op_neGT (mon_tup mon_same) (eqG_tup mon_same (eqG_ins (ok_eqS T) T.o_Ratio___eq__.1 T.o_Ratio___eq__.2 T.b_Ratio___eq__ passL)) (hr.mono (by decide))) (pe_call (ok_turned T) (hr.mono (by decide)) (by rfl) T.g_turned T.F_turned.kp T.b_turned .nil passL (pa_cons (pv 8) pa_nil)) (pe_call (ok__law_told T) (hr.mono (by decide)) (by rfl) T.g__law_told T.F__law_told.kp T.b__law_told .nil passL (pa_cons (pe_call (ok__law_turned T) (hr.mono (by decide)) (by rfl) T.g__law_turned T.F__law_turned.kp T.b__law_turned .nil passL (pa_cons (pv 5) (pa_cons (pv 2) pa_nil))) pa_nil)) (nomark _)) (pss_one (ps_ret pe_bl)) pss_nil)
    (pss_cons (ps_if (pt_cmpR (op_neGT (mon_tup mon_same) (eqG_tup mon_same (eqG_ins (ok_eqS T) T.o_Ratio___eq__.1 T.o_Ratio___eq__.2 T.b_Ratio___eq__ passL)) (hr.mono (by decide))) (pe_call (ok_turned T) (hr.mono (by decide)) (by rfl) T.g_turned T.F_turned.kp T.b_turned .nil passL (pa_cons (pe_call (ok_turned T) (hr.mono (by decide)) (by rfl) T.g_turned T.F_turned.kp T.b_turned .nil passL (pa_cons (pv 8) pa_nil)) pa_nil)) (pe_ifExp (PW.pt (pw_and (pt_cmpR op_gt (pv 1) pe_int (nomark _)) (pw_and1 (pt_cmpR op_gt (pv 2) pe_int (nomark _))))) (pv 8) (pe_tup pa_nil)) (nomark _)) (pss_one (ps_ret pe_bl)) pss_nil)
    (pss_cons (ps_setLc (i := 11) (own := [("_law_row", 12)]) (g := gName 12) rfl sc__law_right.nd rfl rfl rfl (pi_list (pv 5)) (blkOk_by (N := ["_law_well_here", "_law_a", "_law_b", "_law_c", "_law_d", "_law_first", "_law_second", "_law_third", "_law_one", "_law_two", "_law_three", "_law_both", "_law_row"]) (sc := defScope s__law_right) (by decide +kernel)) (fun _ _ _ _ _ => pg_name (i := 12) sc__law_right.nd rfl (Or.inl rfl)) (fun _ _ _ _ _ => pts_nil) (fun _ _ _ _ _ => (pe_call (ok__law_mixed T) (hr.mono (by decide)) (by rfl) T.g__law_mixed T.F__law_mixed.kp T.b__law_mixed .nil passL (pa_cons (pv 6) (pa_cons (pv 12) (pa_cons (pe_ifExp (pt_cmpR op_gt (pv 2) pe_int (nomark _)) (pv 3) pe_int) pa_nil))))))
    (pss_cons (ps_if (pt_cmpR (op_neGT (mon_tup mon_same) (eqG_tup mon_same (eqG_ins (ok_eqS T) T.o_Ratio___eq__.1 T.o_Ratio___eq__.2 T.b_Ratio___eq__ passL)) (hr.mono (by decide))) (pe_call (ok_multiplied T) (hr.mono (by decide)) (by rfl) T.g_multiplied T.F_multiplied.kp T.b_multiplied .nil passL (pa_cons (pv 8) (pa_cons (pv 9) pa_nil))) (pe_call (ok__law_told T) (hr.mono (by decide)) (by rfl) T.g__law_told T.F__law_told.kp T.b__law_told .nil passL (pa_cons (pv 11) pa_nil)) (nomark _)) (pss_one (ps_ret pe_bl)) pss_nil)
    (pss_cons (ps_if (pt_cmpR op_eq (pv 2) pe_int (nomark _)) (pss_one (ps_ret (pe_cmpR (op_eqG (rcG_tup (mon_tup mon_same) (eqG_tup mon_same (eqG_ins (ok_eqS T) T.o_Ratio___eq__.1 T.o_Ratio___eq__.2 T.b_Ratio___eq__ passL))) (hr.mono (by decide))) (pe_call (ok_multiplied T) (hr.mono (by decide)) (by rfl) T.g_multiplied T.F_multiplied.kp T.b_multiplied .nil passL (pa_cons (pv 8) (pa_cons (pe_tup pa_nil) pa_nil))) (pe_callTy call_tuple_of (by rfl) T.n_tuple (by decide +kernel) (pa_cons (pe_lc (own := [("_law_row", 12)]) (g := gName 12) rfl sc__law_right.nd (pi_list (pv 5)) (blkOk_by (N := ["_law_well_here", "_law_a", "_law_b", "_law_c", "_law_d", "_law_first", "_law_second", "_law_third", "_law_one", "_law_two", "_law_three", "_law_both", "_law_row"]) (sc := defScope s__law_right) (by decide +kernel)) (fun _ _ _ _ _ => pg_name (i := 12) sc__law_right.nd rfl (Or.inl rfl)) (fun _ _ _ _ _ => pts_nil) (fun _ _ _ _ _ => (pe_tup pa_nil))) pa_nil)) (nomark _)))) pss_nil)
    (pss_cons (ps_if (pt_cmpR (op_neGT (mon_tup mon_same) (eqG_tup mon_same (eqG_ins (ok_eqS T) T.o_Ratio___eq__.1 T.o_Ratio___eq__.2 T.b_Ratio___eq__ passL)) (hr.mono (by decide))) (pe_call (ok_multiplied T) (hr.mono (by decide)) (by rfl) T.g_multiplied T.F_multiplied.kp T.b_multiplied .nil passL (pa_cons (pe_call (ok_multiplied T) (hr.mono (by decide)) (by rfl) T.g_multiplied T.F_multiplied.kp T.b_multiplied .nil passL (pa_cons (pv 8) (pa_cons (pv 9) pa_nil))) (pa_cons (pv 10) pa_nil))) (pe_call (ok_multiplied T) (hr.mono (by decide)) (by rfl) T.g_multiplied T.F_multiplied.kp T.b_multiplied .nil passL (pa_cons (pv 8) (pa_cons (pe_call (ok_multiplied T) (hr.mono (by decide)) (by rfl) T.g_multiplied T.F_multiplied.kp T.b_multiplied .nil passL (pa_cons (pv 9) (pa_cons (pv 10) pa_nil))) pa_nil))) (nomark _)) (pss_one (ps_ret pe_bl)) pss_nil)
    (pss_cons (ps_if (PW.pt (pw_and (pt_cmpR op_eq (pv 4) pe_int (nomark _)) (pw_and1 (pt_cmpR (op_neGT (mon_tup mon_same) (eqG_tup mon_same (eqG_ins (ok_eqS T) T.o_Ratio___eq__.1 T.o_Ratio___eq__.2 T.b_Ratio___eq__ passL)) (hr.mono (by decide))) (pe_call (ok_multiplied T) (hr.mono (by decide)) (by rfl) T.g_multiplied T.F_multiplied.kp T.b_multiplied .nil passL (pa_cons (pv 9) (pa_cons (pv 10) pa_nil))) (pe_callTy call_tuple_of (by rfl) T.n_tuple (by decide +kernel) (pa_cons (pe_lc (own := [("_law_row", 12)]) (g := gName 12) rfl sc__law_right.nd (pi_list (pv 6)) (blkOk_by (N := ["_law_well_here", "_law_a", "_law_b", "_law_c", "_law_d", "_law_first", "_law_second", "_law_third", "_law_one", "_law_two", "_law_three", "_law_both", "_law_row"]) (sc := defScope s__law_right) (by decide +kernel)) (fun _ _ _ _ _ => pg_name (i := 12) sc__law_right.nd rfl (Or.inl rfl)) (fun _ _ _ _ _ => pts_nil) (fun _ _ _ _ _ => (pe_tup pa_nil))) pa_nil)) (nomark _))))) (pss_one (ps_ret pe_bl)) pss_nil)
    (pss_one (ps_ret (pe_or (pe_cmpR op_eq (pv 1) pe_int (nomark _)) (pe_one (pe_cmpR (op_eqG (rcG_tup (mon_tup mon_same) (eqG_tup mon_same (eqG_ins (ok_eqS T) T.o_Ratio___eq__.1 T.o_Ratio___eq__.2 T.b_Ratio___eq__ passL))) (hr.mono (by decide))) (pe_call (ok_turned T) (hr.mono (by decide)) (by rfl) T.g_turned T.F_turned.kp T.b_turned .nil passL (pa_cons (pe_call (ok_multiplied T) (hr.mono (by decide)) (by rfl) T.g_multiplied T.F_multiplied.kp T.b_multiplied .nil passL (pa_cons (pv 8) (pa_cons (pv 9) pa_nil))) pa_nil)) (pe_call (ok_multiplied T) (hr.mono (by decide)) (by rfl) T.g_multiplied T.F_multiplied.kp T.b_multiplied .nil passL (pa_cons (pe_call (ok_turned T) (hr.mono (by decide)) (by rfl) T.g_turned T.F_turned.kp T.b_turned .nil passL (pa_cons (pv 9) pa_nil)) (pa_cons (pe_call (ok_turned T) (hr.mono (by decide)) (by rfl) T.g_turned T.F_turned.kp T.b_turned .nil passL (pa_cons (pv 8) pa_nil)) pa_nil))) (nomark _)))))))))))))))), ?_⟩
    obtain ⟨u, rfl, hu, k⟩ := h
    refine seq_asg (fun v H' => ∃ (t : Addr) (a b c d : Nat), v = .ref t ∧ H' t = some (.tup [.int (a : Nat), .int (b : Nat), .int (c : Nat), .int (d : Nat)]) ∧ a ≤ 4 ∧ b ≤ 4 ∧ 1 ≤ c ∧ c ≤ 3 ∧ d ≤ 3 ∧ XN (Nu u) H H' ∧ WellAt H' u) (fun Q hQ => ?_) ?_
    · refine ⟨_, rfl, u, 5, rfl, hu, by decide, by decide, fun r1 H1 p1 q1 e1 hu1 => ?_⟩
      refine ⟨_, rfl, u, 5, rfl, hu1, by decide, by decide, fun r2 H2 p2 q2 e2 hu2 => ?_⟩
      refine ⟨_, rfl, u, 3, rfl, hu2, by decide, by decide, fun r3 H3 p3 q3 e3 hu3 => ⟨_, _, rfl, rfl, ?_⟩⟩
      refine ⟨_, rfl, u, 4, rfl, hu3, by decide, by decide, fun r4 H4 p4 q4 e4 hu4 => ⟨(by show 4 ≤ sizeLine; decide), fun t ht => ?_⟩⟩
      obtain ⟨a, rfl⟩ := Int.eq_ofNat_of_zero_le p1
      obtain ⟨b, rfl⟩ := Int.eq_ofNat_of_zero_le p2
      obtain ⟨c, rfl⟩ := Int.eq_ofNat_of_zero_le p3
      obtain ⟨d, rfl⟩ := Int.eq_ofNat_of_zero_le p4
      exact hQ _ _ ⟨t, a, b, 1 + c, d, rfl, upd_same, by omega, by omega, by omega, by omega, by omega, e1.trans (e2.trans (e3.trans (e4.trans (.of (Ext.new ht))))), hu4.ext (Ext.new ht)⟩
    rintro v H1 ⟨t, a, b, c, d, rfl, ht, a4, b4, c0, c3, d3, e1, hu1⟩
    refine ⟨t, _, rfl, SqT.of ht, rfl, _, _, rfl, _, _, rfl, _, _, rfl, _, _, rfl, rfl, ?_⟩
    refine seq_asg (fun v H' => ∃ (t : Addr) (x5 x6 x7 : V) (AA BB CC : List (List Rat)), v = .ref t ∧ H' t = some (.tup [x5, x6, x7]) ∧ MatL (Nu u) H' x5 AA ∧ MatL (Nu u) H' x6 BB ∧ MatL (Nu u) H' x7 CC ∧ Rect AA a b ∧ Rect BB b c ∧ Rect CC c d ∧ FiM 6 24 AA ∧ FiM 6 24 BB ∧ FiM 6 24 CC ∧ XN (Nu u) H H') (fun Q hQ => ?_) ?_
    · refine ⟨_, rfl, _, rfl, _, rfl, u, a, b, rfl, hu1, by omega, by omega, fun d1 xs1 AA H2 e2 hu2 n1 h1 al1 rA fA => ?_⟩
      refine ⟨_, rfl, _, rfl, _, rfl, u, b, c, rfl, hu2, by omega, by omega, fun d2 xs2 BB H3 e3 hu3 n2 h2 al2 rB fB => ?_⟩
      refine ⟨_, rfl, _, rfl, _, rfl, u, c, d, rfl, hu3, by omega, by omega, fun d3 xs3 CC H4 e4 hu4 n3 h3 al3 rC fC => ⟨(by show 3 ≤ sizeLine; decide), fun t ht => ?_⟩⟩
      have et : XN (Nu u) H4 (upd H4 t (.tup [.ref d1, .ref d2, .ref d3])) := .of (Ext.new ht)
      exact hQ _ _ ⟨t, _, _, _, AA, BB, CC, rfl, upd_same, (lot_mat hu1 n1 h1 al1).xn (e3.trans (e4.trans et)), (lot_mat hu2 n2 h2 al2).xn (e4.trans et), (lot_mat hu3 n3 h3 al3).xn et, rA, rB, rC, fA, fB, fC, e1.trans (e2.trans (e3.trans (e4.trans et)))⟩
    clear hu hu1 e1 ht t
    rintro v H2 ⟨t, x5, x6, x7, AA, BB, CC, rfl, ht, m5, m6, m7, rA, rB, rC, fA, fB, fC, e2⟩
    refine ⟨t, _, rfl, SqT.of ht, rfl, _, _, rfl, _, _, rfl, _, _, rfl, rfl, ?_⟩
    have n5 := m5.sub (M := N0) fun p z => z.elim
    have n6 := m6.sub (M := N0) fun p z => z.elim
    have n7 := m7.sub (M := N0) fun p z => z.elim
    have lA : ∀ r ∈ AA, r.length ≤ 1000 := fun r hr => by rw [rA.row r hr]; omega
    have lB : ∀ r ∈ BB, r.length ≤ 1000 := fun r hr => by rw [rB.row r hr]; omega
    have lC : ∀ r ∈ CC, r.length ≤ 1000 := fun r hr => by rw [rC.row r hr]; omega
    clear m5 m6 m7
    refine seq_any (fun σ' H' => ∃ x8 x9 x10, σ' = [some (V.ref u), some (.int (a : Nat)), some (.int (b : Nat)), some (.int (c : Nat)), some (.int (d : Nat)), some x5, some x6, some x7, some x8, some x9, some x10, none, none] ∧ Lots T.C_Ratio H' x5 x6 x8 x9 x10 AA BB CC ∧ XN (Nu u) H H') (fun D' hD => ?_) ?_
    · refine ⟨_, rfl, x5, AA, rfl, n5, by rw [rA.len]; omega, lA, smM_fi fA (by decide) (by decide) (by decide), fun x8 H3 e3 h8 => ?_⟩
      refine ⟨_, rfl, x6, BB, rfl, n6.ext e3, by rw [rB.len]; omega, lB, smM_fi fB (by decide) (by decide) (by decide), fun x9 H4 e4 h9 => ?_⟩
      refine ⟨_, rfl, x7, CC, rfl, (n7.ext e3).ext e4, by rw [rC.len]; omega, lC, smM_fi fC (by decide) (by decide) (by decide), fun x10 H5 e5 h10 => ?_⟩
      exact ⟨_, _, _, rfl, hD _ _ ⟨x8, x9, x10, rfl, ⟨n5.ext (e3.trans (e4.trans e5)), n6.ext (e3.trans (e4.trans e5)), h8.ext (e4.trans e5), h9.ext e5, h10⟩, e2.trans (.of (e3.trans (e4.trans e5)))⟩⟩
    clear n5 n6 n7 ht e2
    rintro σ' H3 ⟨x8, x9, x10, rfl, L3, e3⟩
    have okA : Ok AA a b := ⟨rA, by omega, by omega, sh_of fA (by decide) (by decide) (by decide)⟩
    have wA := wid_le rA
    have rT := tr_rect AA (wid AA)
    rw [rA.len] at rT
    have fT := fim_tr rA fA
    -- turned
    refine seq_ifF (fun H' => Ext H3 H') (fun Q hQ => ?_) ?_
    · refine ⟨_, rfl, x8, AA, a, b, rfl, L3.r8, okA, fun y H4 e4 hy => ?_⟩
      refine ⟨_, rfl, _, rfl, x5, AA, a, b, rfl, L3.l5.ext e4, rA, by omega, by omega, fun d xs H5 e5 nd hd al => ?_⟩
      refine ⟨.ref d, _, rfl, fresh_mat hd al, by rw [tr_len]; omega, fun r hr => by rw [rT.row r hr]; omega, smM_fi fT (by decide) (by decide) (by decide), fun y2 H6 e6 hy2 => ?_⟩
      exact ⟨mats_same (hy.ext (e5.trans e6)) hy2, fun H7 e7 => ⟨_, rfl, hQ _ (e4.trans (e5.trans (e6.trans e7)))⟩⟩
    intro H4 e4
    have L4 := L3.ext e4
    clear L3
    -- turned twice
    refine seq_ifF (fun H' => Ext H4 H') (fun Q hQ => ?_) ?_
    · refine ⟨_, rfl, x8, AA, a, b, rfl, L4.r8, okA, fun y H5 e5 hy => ?_⟩
      refine ⟨y, _, wid AA, a, rfl, hy, ⟨rT, by omega, by omega, sh_of fT (by decide) (by decide) (by decide)⟩, fun y2 H6 e6 hy2 => ?_⟩
      rw [tr_two rA] at hy2
      refine ⟨_, rfl, _, _, rfl, rfl, _, rfl, ite2 (fun c1 => ?_) (fun c1 => ?_)⟩
      · have a1 := of_decide_eq_true c1
        refine ⟨_, rfl, _, _, rfl, rfl, _, rfl, ite2 (fun c2 => ?_) (fun c2 => ?_)⟩
        · have b1 := of_decide_eq_true c2
          rw [if_pos ⟨by omega, by omega⟩] at hy2
          exact ⟨_, rfl, mats_same hy2 (L4.r8.ext (e5.trans e6)), fun H7 e7 => ⟨_, rfl, hQ _ (e5.trans (e6.trans e7))⟩⟩
        · have b1 : ¬ (0 : Int) < (b : Nat) := fun z => c2 (decide_eq_true z)
          rw [if_neg (fun z => b1 (by omega))] at hy2
          exact ⟨(by show 0 ≤ sizeLine; decide), fun p hp => ⟨mats_same (hy2.ext (Ext.new hp)) (mat_nil upd_same), fun H7 e7 => ⟨_, rfl, hQ _ (e5.trans (e6.trans ((Ext.new hp).trans e7)))⟩⟩⟩
      · have a1 : ¬ (0 : Int) < (a : Nat) := fun z => c1 (decide_eq_true z)
        rw [if_neg (fun z => a1 (by omega))] at hy2
        refine iteF ⟨(by show 0 ≤ sizeLine; decide), fun p hp => ⟨mats_same (hy2.ext (Ext.new hp)) (mat_nil upd_same), fun H7 e7 => ⟨_, rfl, hQ _ (e5.trans (e6.trans ((Ext.new hp).trans e7)))⟩⟩⟩
    intro H5 e5
    have L5 := L4.ext e5
    clear L4
    -- the law's own sums
    have lM : (mul AA BB).length = a := by rw [mul_len, rA.len]
    have rM := mul_rect (A := AA) (B := BB) rA.len
    have wB := wid_le rB
    have fM := fim_mul (by decide) rA rB (Nat.le_refl b) fA fB
    refine seq_asg (fun v H' => ∃ d xs, v = .ref d ∧ H' d = some (.lst xs) ∧ Al (RowL N0 H') xs (mul AA BB) ∧ Ext H5 H') (fun Q hQ => ?_) ?_
    · obtain ⟨p, xs, rfl, _, hp, al⟩ := L5.l5
      refine ⟨_, rfl, p, rfl, ⟨_, SqL.of hp⟩, fun DD hDD => ?_⟩
      refine lc_al walk_list N0 (RowL (fun p => p = DD)) (mul AA BB) (by rw [lM, al.len, rA.len]) (by rw [al.len, rA.len]; omega) hDD (fun z => z) (fun _ _ _ _ e h => h.xn (e.sub fun p z => z.resolve_left fun f => f)) yat_ext (fun H' e => SqL.of (e.lst (fun z => z) hp)) ?_ ?_
      · rintro i q x _ Ha hq e ⟨acc, hacc⟩ ⟨rfl, hx⟩ Q' Z hQ'
        obtain ⟨r, hr, rr⟩ := al.at hx
        rw [mul_get hq hr] at hQ'
        have lr := rA.row r (mem_of hr)
        have fin : ∀ (c' : Nat), wid BB = c' → Rect BB b c' → c' ≤ 10 → spMixed [x6, x, .int (c' : Nat)] Ha Q' E0 := fun c' hw hR hc => by
          refine ⟨x6, x, BB, r, b, c', rfl, L5.l6.xn e, rr.xn e, hR, lr, by omega, hc, fB, fA r (mem_of hr), fun d2 xs2 H6 e6 nd hd al2 => hQ' _ _ (.of e6) ⟨d2, xs2, rfl, fun z => ?_, hd, ?_⟩⟩
          · rw [z, hacc] at nd
            cases nd
          · rw [← mix_is hR lr hw]
            exact al2
        refine ⟨rfl, ?_⟩
        refine ⟨_, rfl, _, rfl, _, rfl, _, _, rfl, rfl, _, rfl, ite2 (fun c1 => ?_) (fun c1 => ?_)⟩
        · have b1 := of_decide_eq_true c1
          exact ⟨_, rfl, fin c (wid_rect rB (by omega)) rB (by omega)⟩
        · have b1 : ¬ (0 : Int) < (b : Nat) := fun z => c1 (decide_eq_true z)
          have b0 : b = 0 := by omega
          have e0 : BB = [] := rect_nil (b0 ▸ rB)
          exact fin 0 (by rw [e0] <;> rfl) (by rw [e0, b0]; exact rect_z) (by decide)
      · intro H' ys e hd ay
        exact hQ _ _ ⟨DD, ys, rfl, hd, ay.imp fun _ _ h => h.sub fun p z => z.elim, e.ext⟩
    rintro v H6 ⟨d11, xs11, rfl, h11, al11, e6⟩
    have L6 := L5.ext e6
    clear L5
    have s64 := sz6 (k := b) (by omega)
    have sM : SmM (mul AA BB) := smM_fi fM (by decide) (by decide) (by omega)
    have lMr : ∀ r ∈ mul AA BB, r.length ≤ 1000 := fun r hr => by rw [rM.row r hr]; omega
    dsimp only [gName]
    refine seq_ifF (fun H' => Ext H6 H') (fun Q hQ => ?_) ?_
    · refine ⟨_, rfl, _, rfl, x8, x9, AA, BB, a, b, b, c, 6, 24, 6, 24, rfl, L6.r8, L6.r9, rA, rB, .inr rfl, by omega, by omega, by omega, fA, fB, s64, fun y H7 e7 hy => ?_⟩
      refine ⟨_, rfl, .ref d11, mul AA BB, rfl, ⟨d11, xs11, rfl, fun z => z, e7 _ _ h11, al11.imp fun _ _ h => h.xn (XN.of (N := N0) e7)⟩, by rw [lM]; omega, lMr, sM, fun y2 H8 e8 hy2 => ?_⟩
      exact ⟨mats_same (hy.ext e8) hy2, fun H9 e9 => ⟨_, rfl, hQ _ (e7.trans (e8.trans e9))⟩⟩
    intro H7 e7
    have L7 := L6.ext e7
    have eT : Ext H3 H7 := e4.trans (e5.trans (e6.trans e7))
    have k7 : ∀ H', Ext H7 H' → Q (.bl true) H' := fun H' e => k H' (e3.trans (.of (eT.trans e)))
    clear L6 k e3 e4 e5 e6 e7 eT h11 al11
    by_cases b0 : b = 0
    · refine ⟨_, rfl, rfl, _, rfl, if_true_of (decide_eq_true (congrArg (fun n : Nat => V.int (n : Int)) b0)) ?_⟩
      refine ⟨_, rfl, (by show 0 ≤ sizeLine; decide), fun p hp => ?_⟩
      have ep : Ext H7 (upd H7 p (.tup [])) := Ext.new hp
      refine ⟨x8, .ref p, AA, [], a, b, 0, 0, 6, 24, 6, 24, rfl, L7.r8.ext ep, mat_nil upd_same, rA, rect_z, .inr b0.symm, by omega, by decide, by decide, fA, fim_nil, s64, fun y H8 e8 hy => ?_⟩
      rw [mul_none rfl] at hy
      refine empties (C := T.C_Ratio) ((L7.l5.ext ep).ext e8) (by rw [rA.len]; omega) rfl fun y2 H9 e9 hy2 => ?_
      exact ⟨mats_same (hy.ext e9) hy2, fun H10 e10 => k7 _ (ep.trans (e8.trans (e9.trans e10)))⟩
    have bp : 0 < b := by omega
    have wBc := wid_rect rB bp
    have wCd := wid_rect rC c0
    rw [wBc] at rM
    have rN := mul_rect (A := BB) (B := CC) rB.len
    rw [wCd] at rN
    have fN := fim_mul (by decide) rB rC (Nat.le_refl c) fB fC
    refine seq_ifF (fun H' => H7 = H') (fun Q hQ => ?_) ?_
    · refine ⟨_, rfl, rfl, _, rfl, ?_⟩
      rw [show decide (V.int ((b : Nat) : Int) = V.int 0) = false from decide_eq_false fun z => b0 (by have := V.int.inj z; omega)]
      exact hQ _ rfl
    rintro _ rfl
    -- whichever two are multiplied first
    have sc : Sz c 6 24 6 24 := sz6 (by omega)
    refine seq_ifF (fun H' => Ext H7 H') (fun Q hQ => ?_) ?_
    · refine ⟨_, rfl, _, rfl, x8, x9, AA, BB, a, b, b, c, 6, 24, 6, 24, rfl, L7.r8, L7.r9, rA, rB, .inr rfl, by omega, by omega, by omega, fA, fB, s64, fun y H8 e8 hy => ?_⟩
      refine ⟨_, rfl, y, x10, mul AA BB, CC, a, c, c, d, 6 * 6, b * (24 * 24), 6, 24, rfl, hy, L7.r10.ext e8, rM, rC, .inr rfl, by omega, by omega, by omega, fM, fC, ⟨by omega, by decide, by decide, by decide, by omega, by decide, by decide⟩, fun z H9 e9 hz => ?_⟩
      have e79 := e8.trans e9
      refine ⟨_, rfl, _, rfl, _, rfl, x9, x10, BB, CC, b, c, c, d, 6, 24, 6, 24, rfl, L7.r9.ext e79, L7.r10.ext e79, rB, rC, .inr rfl, by omega, by omega, by omega, fB, fC, sc, fun y2 H10 e10 hy2 => ?_⟩
      refine ⟨x8, y2, AA, mul BB CC, a, b, b, d, 6, 24, 6 * 6, c * (24 * 24), rfl, (L7.r8.ext e79).ext e10, hy2, rA, rN, .inr rfl, by omega, by omega, by omega, fA, fN, ⟨by omega, by decide, by decide, by decide, by decide, by decide, by omega⟩, fun z2 H11 e11 hz2 => ?_⟩
      rw [dot_mul rA rB rC bp c0] at hz
      exact ⟨mats_same (hz.ext (e10.trans e11)) hz2, fun H12 e12 => ⟨_, rfl, hQ _ (e79.trans (e10.trans (e11.trans e12)))⟩⟩
    intro H8 e8
    have L8 := L7.ext e8
    have k8 : ∀ H', Ext H8 H' → Q (.bl true) H' := fun H' e => k7 H' (e8.trans e)
    clear L7 k7 e8
    refine seq_ifF (fun H' => Ext H8 H') (fun Q hQ => ?_) ?_
    · refine ⟨_, rfl, rfl, _, rfl, ?_⟩
      by_cases d0 : d = 0
      · refine if_true_of (decide_eq_true (congrArg (fun n : Nat => V.int (n : Int)) d0)) ?_
        refine ⟨_, rfl, _, rfl, x9, x10, BB, CC, b, c, c, d, 6, 24, 6, 24, rfl, L8.r9, L8.r10, rB, rC, .inr rfl, by omega, by omega, by omega, fB, fC, sc, fun y H9 e9 hy => ?_⟩
        rw [mul_none (by omega)] at hy
        refine empties (C := T.C_Ratio) (L8.l6.ext e9) (by rw [rB.len]; omega) rfl fun y2 H10 e10 hy2 => ?_
        exact ⟨mats_same (hy.ext e10) hy2, fun H11 e11 => ⟨_, rfl, hQ _ (e9.trans (e10.trans e11))⟩⟩
      · exact if_false_of (decide_eq_false fun z => d0 (by have := V.int.inj z; omega)) (hQ _ Ext.rfl')
    intro H9 e9
    have L9 := L8.ext e9
    have k9 : ∀ H', Ext H9 H' → Q (.bl true) H' := fun H' e => k8 H' (e9.trans e)
    clear L8 k8 e9
    refine ⟨_, rfl, rfl, _, rfl, ?_⟩
    by_cases a0 : a = 0
    · exact if_true_of (decide_eq_true (congrArg (fun n : Nat => V.int (n : Int)) a0)) (k9 _ Ext.rfl')
    refine if_false_of (decide_eq_false fun z => a0 (by have := V.int.inj z; omega)) ?_
    have ap : 0 < a := by omega
    have wAb := wid_rect rA ap
    have rU := tr_rect BB (wid BB)
    rw [rB.len] at rU
    have fU := fim_tr rB fB
    have okM : Ok (mul AA BB) a c := ⟨rM, by omega, by omega, sh_of fM (by decide) (by decide) (by omega)⟩
    have okB : Ok BB b c := ⟨rB, by omega, by omega, sh_of fB (by decide) (by decide) (by decide)⟩
    refine ⟨_, rfl, _, rfl, x8, x9, AA, BB, a, b, b, c, 6, 24, 6, 24, rfl, L9.r8, L9.r9, rA, rB, .inr rfl, by omega, by omega, by omega, fA, fB, s64, fun y H10 e10 hy => ?_⟩
    refine ⟨y, mul AA BB, a, c, rfl, hy, okM, fun y2 H11 e11 hy2 => ?_⟩
    have L11 := L9.ext (e10.trans e11)
    refine ⟨_, rfl, x9, BB, b, c, rfl, L11.r9, okB, fun y3 H12 e12 hy3 => ?_⟩
    refine ⟨_, rfl, x8, AA, a, b, rfl, L11.r8.ext e12, okA, fun y4 H13 e13 hy4 => ?_⟩
    refine ⟨y3, y4, _, _, wid BB, b, wid AA, a, 6, 24, 6, 24, rfl, hy3.ext e13, hy4, rU, rT, .inr wAb, by omega, by omega, by omega, fU, fT, s64, fun y5 H14 e14 hy5 => ?_⟩
    rw [tr_mul rA rB ap bp] at hy2
    exact ⟨mats_same (hy2.ext (e12.trans (e13.trans e14))) hy5, fun H15 e15 => k9 _ ((e10.trans e11).trans (e12.trans (e13.trans (e14.trans e15))))⟩
theorem ok_law (T : TX K mg) : FnOk P w K mg base (L2.CX P w) 24 T.f_law T.d_law ["_law_script"] (spLaw K) := by
  refine T.F_law.okX sc_law (fun vs H Q E h => ?_) (fun cdv A outer s H vs Q E hr h => ?_)
  · obtain ⟨a, ns, rfl, _⟩ := h
    rfl
  · refine ⟨_, (pss_cons (ps_for PassesOwn.leaving rfl (pi_range1 (by rfl) T.n_range (pa_cons (pe_callB (call_max2 rfl) (by rfl) T.n_max (by decide +kernel) (pa_cons pe_int (pa_cons (pe_callB (call_min2 rfl) (by rfl) T.n_min (by decide +kernel) (pa_cons pe_int (pa_cons (pe_callB call_len_seq (by rfl) T.n_len (by decide +kernel) (pa_cons (pv 0) pa_nil)) pa_nil))) pa_nil))) pa_nil)) (pg_name (i := 1) sc_law.nd rfl (Or.inl rfl)) (pss_one (ps_if (pt_not (pt_val (pe_call (ok__law_right T) (hr.mono (by decide)) (by rfl) T.g__law_right T.F__law_right.kp T.b__law_right .nil passL (pa_cons (pe_call (ok__law_well T) (hr.mono (by decide)) (by rfl) T.g__law_well T.F__law_well.kp T.b__law_well .nil passL (pa_cons (pv 0) (pa_cons (pv 1) pa_nil))) pa_nil)))) (pss_one (ps_ret pe_bl)) pss_nil)))
    (pss_cons (ps_set (i := 2) sc_law.nd rfl (Or.inl rfl) (pe_call (ok__law_told T) (hr.mono (by decide)) (by rfl) T.g__law_told T.F__law_told.kp T.b__law_told .nil passL (pa_cons (pe_lst (pa_cons (pe_lst (pa_cons (pe_tup (pa_cons pe_int (pa_cons pe_int pa_nil))) (pa_cons (pe_tup (pa_cons pe_int (pa_cons pe_int pa_nil))) pa_nil))) (pa_cons (pe_lst (pa_cons (pe_tup (pa_cons pe_int (pa_cons pe_int pa_nil))) (pa_cons (pe_tup (pa_cons pe_int (pa_cons pe_int pa_nil))) pa_nil))) pa_nil))) pa_nil)))
    (pss_cons (ps_if (PW.pt (pw_or (pt_cmpR (op_neGT (mon_tup mon_same) (eqG_tup mon_same (eqG_ins (ok_eqS T) T.o_Ratio___eq__.1 T.o_Ratio___eq__.2 T.b_Ratio___eq__ passL)) (hr.mono (by decide))) (pe_call (ok_turned T) (hr.mono (by decide)) (by rfl) T.g_turned T.F_turned.kp T.b_turned .nil passL (pa_cons (pe_tup (pa_cons (pe_tup pa_nil) (pa_cons (pe_tup pa_nil) pa_nil))) pa_nil)) (pe_tup pa_nil) (nomark _)) (pw_or (pt_cmpR (op_neGT (mon_tup mon_same) (eqG_tup mon_same (eqG_ins (ok_eqS T) T.o_Ratio___eq__.1 T.o_Ratio___eq__.2 T.b_Ratio___eq__ passL)) (hr.mono (by decide))) (pe_call (ok_turned T) (hr.mono (by decide)) (by rfl) T.g_turned T.F_turned.kp T.b_turned .nil passL (pa_cons (pe_tup pa_nil) pa_nil)) (pe_tup pa_nil) (nomark _)) (pw_or1 (pt_cmpR (op_neGT (mon_tup mon_same) (eqG_tup mon_same (eqG_ins (ok_eqS T) T.o_Ratio___eq__.1 T.o_Ratio___eq__.2 T.b_Ratio___eq__ passL)) (hr.mono (by decide))) (pe_call (ok_multiplied T) (hr.mono (by decide)) (by rfl) T.g_multiplied T.F_multiplied.kp T.b_multiplied .nil passL (pa_cons (pe_tup pa_nil) (pa_cons (pv 2) pa_nil))) (pe_tup pa_nil) (nomark _)))))) (pss_one (ps_ret pe_bl)) pss_nil)
    (pss_one (ps_ret (pe_cmpR (op_eqG (rcG_tup (mon_tup mon_same) (eqG_tup mon_same (eqG_ins (ok_eqS T) T.o_Ratio___eq__.1 T.o_Ratio___eq__.2 T.b_Ratio___eq__ passL))) (hr.mono (by decide))) (pe_call (ok_multiplied T) (hr.mono (by decide)) (by rfl) T.g_multiplied T.F_multiplied.kp T.b_multiplied .nil passL (pa_cons (pv 2) (pa_cons (pv 2) pa_nil))) (pe_call (ok__law_told T) (hr.mono (by decide)) (by rfl) T.g__law_told T.F__law_told.kp T.b__law_told .nil passL (pa_cons (pe_lst (pa_cons (pe_lst (pa_cons (pe_tup (pa_cons pe_int (pa_cons pe_int pa_nil))) (pa_cons (pe_tup (pa_cons pe_int (pa_cons pe_int pa_nil))) pa_nil))) (pa_cons (pe_lst (pa_cons (pe_tup (pa_cons pe_int (pa_cons pe_int pa_nil))) (pa_cons (pe_tup (pa_cons pe_int (pa_cons pe_int pa_nil))) pa_nil))) pa_nil))) pa_nil)) (nomark _))))))), ?_⟩
    obtain ⟨a, ns, rfl, hs, hl, k⟩ := h
    have hl' : (((ns.map V.int).length : Nat) : Int) ≤ 63 := by rw [List.length_map]; omega
    refine seq_any (fun σ' H' => ∃ x1, σ' = [some (V.ref a), x1, none]) (fun D' hD => ?_) ?_
    · refine ⟨_, rfl, a, _, rfl, .inl hs, _, _, rfl, _, _, rfl, _, rfl, (by split <;> split <;> omega), (by split <;> split <;> omega), ?_⟩
      refine for_range (fun i σ H' => ∃ x1, σ = [some (V.ref a), x1, none] ∧ SqL K H' a (ns.map V.int)) ⟨none, rfl, hs⟩ ?_ (fun σ H' ⟨x1, e, _⟩ => hD _ _ ⟨x1, e⟩)
      rintro i σ H1 hi ⟨x1, rfl, hs1⟩
      refine ⟨_, rfl, _, rfl, a, ns, i, (by rw [Int.zero_add] <;> rfl), hs1, fun u hu x y z w => ?_⟩
      refine ⟨u, rfl, ⟨x, y, z, w, upd_same⟩, fun H2 e2 => ⟨_, rfl, if_false_of rfl ?_⟩⟩
      exact ⟨_, rfl, sql_xn hs1 hu e2⟩
    rintro σ' H1 ⟨x1, rfl⟩
    refine seq_asg (fun v H' => MatR T.C_Ratio H' v M0) (fun Q hQ => ?_) ?_
    · refine lit22 (a1 := 1) (b1 := 1) (a2 := 2) (b2 := 1) (a3 := 0) (b3 := 1) (a4 := 1) (b4 := 2) (q1 := Rat.divInt 1 1) (q2 := Rat.divInt 2 1) (q3 := Rat.divInt 0 1) (q4 := Rat.divInt 1 2) (pr_of (by decide +kernel)) (pr_of (by decide +kernel)) (pr_of (by decide +kernel)) (pr_of (by decide +kernel)) fun l H2 e2 hm => ?_
      exact ⟨.ref l, M0, rfl, hm, by decide, fun r hr => by rw [m0_rect.row r hr]; decide, smM_fi m0_fi (by decide) (by decide) (by decide), fun y H3 e3 hy => hQ _ _ hy⟩
    intro v H2 hv
    dsimp only [gName]
    refine seq_ifF (fun H' => Ext H2 H') (fun Q hQ => ?_) ?_
    · refine ⟨(by show 0 ≤ sizeLine; decide), fun p1 n1 => ⟨(by show 0 ≤ sizeLine; decide), fun p2 n2 => ⟨(by show 2 ≤ sizeLine; decide), fun p n => ?_⟩⟩⟩
      have f1 := Ext.new (o := .tup []) n1
      have f2 := Ext.new (o := .tup []) n2
      have f3 := Ext.new (o := .tup [.ref p1, .ref p2]) n
      refine ⟨.ref p, [[], []], 2, 0, rfl, ⟨p, _, rfl, upd_same, .cons ⟨p1, [], rfl, f3 _ _ (f2 _ _ upd_same), .nil⟩ (.cons ⟨p2, [], rfl, f3 _ _ upd_same, .nil⟩ .nil)⟩, e2_ok, fun y H3 e3 hy => ?_⟩
      refine ⟨(by show 0 ≤ sizeLine; decide), fun p3 n3 => ⟨mats_same (hy.ext (Ext.new n3)) (mat_nil upd_same), fun H4 e4 => ⟨_, rfl, iteF ?_⟩⟩⟩
      have g4 : Ext H2 H4 := (f1.trans (f2.trans f3)).trans (e3.trans ((Ext.new n3).trans e4))
      refine ⟨(by show 0 ≤ sizeLine; decide), fun p4 n4 => ?_⟩
      refine ⟨.ref p4, [], 0, 0, rfl, mat_nil upd_same, e0_ok, fun y2 H5 e5 hy2 => ?_⟩
      refine ⟨(by show 0 ≤ sizeLine; decide), fun p5 n5 => ⟨mats_same (hy2.ext (Ext.new n5)) (mat_nil upd_same), fun H6 e6 => ⟨_, rfl, iteF ?_⟩⟩⟩
      have g6 := g4.trans ((Ext.new n4).trans (e5.trans ((Ext.new n5).trans e6)))
      refine ⟨(by show 0 ≤ sizeLine; decide), fun p6 n6 => ?_⟩
      refine ⟨_, rfl, .ref p6, v, [], M0, 0, 0, 2, 2, 6, 24, 6, 24, rfl, mat_nil upd_same, (hv.ext g6).ext (Ext.new n6), rect_z, m0_rect, .inl rfl, by decide, by decide, by decide, fim_nil, m0_fi, sz6 (by decide), fun y3 H7 e7 hy3 => ?_⟩
      refine ⟨(by show 0 ≤ sizeLine; decide), fun p7 n7 => ⟨mats_same (hy3.ext (Ext.new n7)) (mat_nil upd_same), fun H8 e8 => ⟨_, rfl, hQ _ (g6.trans ((Ext.new n6).trans (e7.trans ((Ext.new n7).trans e8))))⟩⟩⟩
    intro H3 e3
    refine ⟨_, rfl, _, rfl, v, v, M0, M0, 2, 2, 2, 2, 6, 24, 6, 24, rfl, hv.ext e3, hv.ext e3, m0_rect, m0_rect, .inr rfl, by decide, by decide, by decide, m0_fi, m0_fi, sz6 (by decide), fun y H4 e4 hy => ?_⟩
    rw [m0_sq] at hy
    refine lit22 (a1 := 1) (b1 := 1) (a2 := 3) (b2 := 1) (a3 := 0) (b3 := 1) (a4 := 1) (b4 := 4) (q1 := Rat.divInt 1 1) (q2 := Rat.divInt 3 1) (q3 := Rat.divInt 0 1) (q4 := Rat.divInt 1 4) (pr_of (by decide +kernel)) (pr_of (by decide +kernel)) (pr_of (by decide +kernel)) (pr_of (by decide +kernel)) fun l H5 e5 hm => ?_
    refine ⟨.ref l, M1, rfl, hm, by decide, fun r hr => by rw [m1_rect.row r hr]; decide, smM_fi m1_fi (by decide) (by decide) (by decide), fun y2 H6 e6 hy2 => ?_⟩
    exact ⟨mats_same (hy.ext (e5.trans e6)) hy2, fun H7 _ => k H7⟩
end
end K06

namespace K06
open PySem PySem.Spec PyProof.Rows L2 L3
section
variable {P : Program} {w : World} {K : PySem.W.Frag} {mg : Str → Option Value} {base : Heap}

theorem law_at {l : PySem.W.OpenLaw} {h : Heap} {fa : Addr} (T : TX K mg) (hfa : mg "law" = some (.ref fa)) : LamX.LawAtS l w K (L2.CX l.prog w) 24 63 "_law_script" mg fa h := by
  have e : fa = T.f_law := by
    have z := T.g_law
    rw [hfa] at z
    injection z with z
    injection z
  subst e
  obtain ⟨oc, od, kV, dc, pm, an, cdv, ct, osl, eD, lk, hcd⟩ := T.F_law.ex
  refine ⟨T.d_law, [], spLaw K, (fun p hp => by cases hp), (fun p hp => by cases hp), (fun p hp => by cases hp), fun s u => ?_, fun H a ns hn _ hH hS => ?_, fun base _ _ TB => ?_⟩
  · rw [eD]
    exact BindsTo.of_eq rfl
  · exact ⟨a, ns, rfl, hS, hn, fun _ => rfl⟩
  · exact ok_law T
theorem cx_no {H : Hp} {s s' : Shared} {e : Value} (z : L2.CX P w [] H s (fun _ _ _ => False) e s') : False := by
  obtain ⟨_, _, _, _, _, _, _, _, _, _, _, _, z⟩ := z
  exact z
end
end K06

open PySem PySem.W PyProof.Rows L2 in
set_option maxHeartbeats 0 in
theorem PySem.Challenge.cw_worthstead_k06_rows_turned_and_multiplie_holds : PySem.Challenge.rw_worthstead_k06_rows_turned_and_multiplie.Holds := by
  w_on; o_law; k_head; (case hw => w_witness2)
  k_fill
  refine LamX.walk_ofTs (CX := fun w => L2.CX PySem.Challenge.rw_worthstead_k06_rows_turned_and_multiplie.prog w) (k := 24) (n := 63) (x := "_law_script") rfl (by decide) rfl ⟨rfl, by decide, by decide⟩ (fun w h Y => PySem.W.kIn_of Y) (fun w mg fa h Y KX G hfa => ?_) (fun w H s e s' z => K06.cx_no z)
  refine' Nonempty.elim (K06.mkT  KX G ?h0 ?h1 ?h2 ?h3 ?h4 ?h5 ?h6 ?h7 ?h8 ?h9 ?h10 ?h11 ?h12 ?h13 ?h14 ?h15 ?h16 ?h17 ?h18 ?h19 ?h20 ?h21 ?h22 ?h23 ?h24 ?h25 ?h26 ?h27 ?h28 ?h29 ?h30 ?h31 ?h32 ?h33 ?h34 ?h35 ?h36 ?h37 ?h38 ?h39 ?h40 ?h41 ?h42 ?h43 ?h44 ?h45 ?h46 ?h47 ?h48 ?h49 ?h50 ?h51 ?h52 ?h53 ?h54 ?h55 ?h56 ?h57 ?h58 ?h59 ?h60 ?h61 ?h62 ?h63 ?h64 ?h65 ?h66 ?h67 ?h68 ?h69 ?h70 ?h71 ?h72 ?h73 ?h74 ?h75 ?h76 ?h77 ?h78 ?h79 ?h80 ?h81 ?h82 ?h83 ?h84 ?h85 ?h86 ?h87 ?h88 ?h89 ?h90 ?h91 ?h92 ?h93 ?h94 ?h95 ?h96 ?h97 ?h98 ?h99 ?h100 ?h101 ?h102 ?h103 ?h104 ?h105 ?h106 ?h107 ?h108 ?h109 ?h110 ?h111 ?h112 ?h113 ?h114 ?h115 ?h116 ?h117 ?h118 ?h119 ?h120 ?h121 ?h122 ?h123 ?h124 ?h125 ?h126 ?h127 ?h128 ?h129 ?h130 ?h131 ?h132 ?h133 ?h134 ?h135 ?h136 ?h137 ?h138 ?h139 ?h140 ?h141 ?h142 ?h143 ?h144 ?h145 ?h146 ?h147 ?h148 ?h149 ?h150 ?h151 ?h152 ?h153 ?h154 ?h155 ?h156 ?h157 ?h158 ?h159 ?h160 ?h161 ?h162 ?h163 ?h164 ?h165 ?h166 ?h167 ?h168 ?h169 ?h170 ?h171 ?h172 ?h173 ?h174 ?h175 ?h176 ?h177 ?h178 ?h179 ?h180 ?h181 ?h182 ?h183 ?h184 ?h185 ?h186 ?h187 ?h188 ?h189 ?h190 ?h191 ?h192 ?h193 ?h194 ?h195 ?h196 ?h197 ?h198 ?h199 ?h200 ?h201 ?h202 ?h203 ?h204 ?h205 ?h206 ?h207 ?h208 ?h209 ?h210 ?h211 ?h212 ?h213 ?h214 ?h215 ?h216 ?h217 ?h218 ?h219 ?h220 ?h221 ?h222 ?h223 ?h224 ?h225 ?h226 ?h227 ?h228 ?h229 ?h230 ?h231 ?h232 ?h233 ?h234 ?h235 ?h236 ?h237 ?h238 ?h239 ?h240 ?h241 ?h242 ?h243 ?h244 ?h245 ?h246 ?h247 ?h248 ?h249 ?h250 ?h251 ?h252 ?h253 ?h254 ?h255 ?h256 ?h257 ?h258 ?h259 ?h260 ?h261 ?h262 ?h263 ?h264 ?h265) ?hrest
  (case h0 => k_is)
  (case h1 => kx_is)
  (case h2 => kx_is)
  (case h3 => k_is)
  (case h4 => k_is)
  (case h5 => k_is)
  (case h6 => k_is)
  (case h7 => k_is)
  (case h8 => k_is)
  (case h9 => k_is)
  (case h10 => k_is)
  (case h11 => k_is)
  (case h12 => k_is)
  (case h13 => k_is)
  (case h14 => k_is)
  (case h15 => k_is)
  (case h16 => k_is)
  (case h17 => k_is)
  (case h18 => kx_is)
  (case h19 => kx_is)
  (case h20 => k_is)
  (case h21 => k_is)
  (case h22 => k_is)
  (case h23 => k_is)
  (case h24 => k_is)
  (case h25 => k_is)
  (case h26 => k_is)
  (case h27 => k_is)
  (case h28 => k_is)
  (case h29 => k_is)
  (case h30 => k_is)
  (case h31 => k_is)
  (case h32 => k_is)
  (case h33 => k_is)
  (case h34 => k_is)
  (case h35 => k_exc)
  (case h36 => k_is)
  (case h37 => k_is)
  (case h38 => k_is)
  (case h39 => k_is)
  (case h40 => k_is)
  (case h41 => k_exc)
  (case h42 => k_is)
  (case h43 => k_is)
  (case h44 => k_is)
  (case h45 => k_is)
  (case h46 => k_is)
  (case h47 => k_is)
  (case h48 => k_is)
  (case h49 => k_is)
  (case h50 => k_is)
  (case h51 => k_is)
  (case h52 => k_is)
  (case h53 => k_is)
  (case h54 => k_is)
  (case h55 => k_is)
  (case h56 => k_is)
  (case h57 => k_is)
  (case h58 => kit_is)
  (case h59 => k_is)
  (case h60 => kit_is)
  (case h61 => kit_is)
  (case h62 => k_is)
  (case h63 => kit_is)
  (case h64 => kit_is)
  (case h65 => k_is)
  (case h66 => kit_is)
  (case h67 => kit_is)
  (case h68 => k_is)
  (case h69 => kit_is)
  (case h70 => kit_is)
  (case h71 => k_is)
  (case h72 => kit_is)
  (case h73 => kit_is)
  (case h74 => k_is)
  (case h75 => kit_is)
  (case h76 => kit_is)
  (case h77 => k_is)
  (case h78 => kit_is)
  (case h79 => kit_is)
  (case h80 => k_is)
  (case h81 => k_is)
  (case h82 => k_is)
  (case h83 => k_is)
  (case h84 => k_is)
  (case h85 => k_is)
  (case h86 => k_is)
  (case h87 => k_is)
  (case h88 => k_is)
  (case h89 => k_is)
  (case h90 => k_is)
  (case h91 => k_is)
  (case h92 => k_is)
  (case h93 => k_is)
  (case h94 => k_is)
  (case h95 => k_is)
  (case h96 => k_is)
  (case h97 => k_is)
  (case h98 => k_is)
  (case h99 => k_is)
  (case h100 => k_is)
  (case h101 => k_is)
  (case h102 => k_is)
  (case h103 => k_is)
  (case h104 => k_is)
  (case h105 => k_is)
  (case h106 => k_is)
  (case h107 => k_is)
  (case h108 => k_is)
  (case h109 => k_is)
  (case h110 => k_is)
  (case h111 => k_is)
  (case h112 => k_is)
  (case h113 => k_is)
  (case h114 => k_is)
  (case h115 => k_is)
  (case h116 => k_is)
  (case h117 => k_is)
  (case h118 => k_is)
  (case h119 => k_is)
  (case h120 => k_is)
  (case h121 => k_is)
  (case h122 => k_is)
  (case h123 => k_is)
  (case h124 => k_is)
  (case h125 => k_is)
  (case h126 => k_is)
  (case h127 => k_is)
  (case h128 => k_is)
  (case h129 => k_is)
  (case h130 => k_is)
  (case h131 => k_is)
  (case h132 => k_is)
  (case h133 => k_is)
  (case h134 => k_is)
  (case h135 => k_is)
  (case h136 => k_is)
  (case h137 => k_is)
  (case h138 => k_is)
  (case h139 => k_is)
  (case h140 => k_is)
  (case h141 => k_is)
  (case h142 => k_is)
  (case h143 => k_is)
  (case h144 => k_is)
  (case h145 => k_is)
  (case h146 => k_is)
  (case h147 => k_is)
  (case h148 => k_is)
  (case h149 => k_is)
  (case h150 => k_is)
  (case h151 => k_is)
  (case h152 => k_is)
  (case h153 => k_is)
  (case h154 => k_is)
  (case h155 => k_is)
  (case h156 => k_is)
  (case h157 => k_is)
  (case h158 => k_is)
  (case h159 => k_is)
  (case h160 => k_is)
  (case h161 => k_is)
  (case h162 => k_is)
  (case h163 => k_is)
  (case h164 => k_is)
  (case h165 => k_is)
  (case h166 => k_is)
  (case h167 => k_is)
  (case h168 => k_is)
  (case h169 => k_is)
  (case h170 => k_is)
  (case h171 => k_is)
  (case h172 => k_is)
  (case h173 => k_is)
  (case h174 => k_is)
  (case h175 => k_is)
  (case h176 => k_is)
  (case h177 => k_is)
  (case h178 => k_is)
  (case h179 => k_is)
  (case h180 => k_is)
  (case h181 => k_is)
  (case h182 => k_is)
  (case h183 => k_is)
  (case h184 => k_is)
  (case h185 => k_is)
  (case h186 => k_is)
  (case h187 => k_is)
  (case h188 => k_is)
  (case h189 => k_is)
  (case h190 => k_is)
  (case h191 => k_is)
  (case h192 => k_is)
  (case h193 => k_is)
  (case h194 => k_is)
  (case h195 => k_is)
  (case h196 => k_is)
  (case h197 => k_is)
  (case h198 => k_is)
  (case h199 => k_is)
  (case h200 => k_is)
  (case h201 => k_is)
  (case h202 => k_is)
  (case h203 => k_is)
  (case h204 => k_is)
  (case h205 => k_is)
  (case h206 => k_is)
  (case h207 => k_is)
  (case h208 => k_is)
  (case h209 => k_is)
  (case h210 => k_is)
  (case h211 => k_is)
  (case h212 => k_is)
  (case h213 => k_is)
  (case h214 => k_is)
  (case h215 => k_is)
  (case h216 => k_is)
  (case h217 => k_is)
  (case h218 => k_is)
  (case h219 => k_is)
  (case h220 => k_is)
  (case h221 => k_is)
  (case h222 => k_is)
  (case h223 => k_is)
  (case h224 => k_is)
  (case h225 => k_is)
  (case h226 => k_is)
  (case h227 => k_is)
  (case h228 => k_is)
  (case h229 => k_is)
  (case h230 => k_is)
  (case h231 => k_is)
  (case h232 => k_is)
  (case h233 => k_is)
  (case h234 => k_is)
  (case h235 => k_is)
  (case h236 => k_is)
  (case h237 => k_is)
  (case h238 => k_is)
  (case h239 => k_is)
  (case h240 => k_is)
  (case h241 => k_is)
  (case h242 => k_is)
  (case h243 => k_is)
  (case h244 => k_is)
  (case h245 => k_is)
  (case h246 => k_is)
  (case h247 => k_is)
  (case h248 => k_is)
  (case h249 => k_is)
  (case h250 => k_is)
  (case h251 => k_is)
  (case h252 => k_is)
  (case h253 => k_is)
  (case h254 => k_is)
  (case h255 => k_is)
  (case h256 => k_is)
  (case h257 => k_is)
  (case h258 => k_is)
  (case h259 => k_is)
  (case h260 => k_is)
  (case h261 => k_is)
  (case h262 => k_is)
  (case h263 => k_is)
  (case h264 => k_is)
  (case h265 => k_is)
  (case hrest => intro T; exact K06.law_at T hfa)
