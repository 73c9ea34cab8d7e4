import PyProof.Rows.All
import Wide.All
import OpenK.AllK
import Wide.FinOn
import PyProof.InstNe
import PyProof.MeetsIn
import PyProof.CallType
import PyProof.Conv_bool
import HandS.ForMost
import HandS.Exc
import HandS.TryOnly
import HandS.ExcOwn
import HandS.ExcInit
import HandS.ExcField
import HandS.WordsExc
import HandS.IsInst
import HandS.Property
import HandS.Wide
import PyProof.ReprRoads
import PyProof.CallFns
import HandS.Comp
import HandS.Star
import HandS.ExcIs
import KE.KExcIs
import HandS.MakeKwOnly
import PyProof.ExcBaseAll.OverflowError
import HandS.ExcValue
import HandS.DictComp
import HandS.Walk
import PyProof.ExcBaseAll.LookupError
import PySem.Challenge.RW_safeupto_k03_error_classes
set_option Elab.async false
set_option linter.all false
set_option maxRecDepth 100000
set_option maxHeartbeats 4000000
/-! Rules of our own: operators that an own class defines, repr of data, defs that are run where no repr is under way. -/
namespace Lm
open PySem PySem.Spec PyProof.Rows L2

section
variable {X : Cx} {CX : CXT} {k : Nat} {C f : Addr} {fd : FuncData} {ps : List Str} {sp : Sp} {E : XK}

/-- what a call that hands back a bool leaves -/
def BoolTo (Q : VK) : VK := fun v H' => ∃ b, v = .bl b ∧ Q (.bl b) H'

theorem ins_of {pins : List (Addr × Obj)} {σ : L2.St} {H : Hp} {s : Shared} {a dx : Addr} {fs : List (Str × V)} (I : Inv X pins σ H s) (ea : H a = some (.ins C dx fs)) :
    ∃ ox od, PySem.W.InstAt s.heap a ox C od := by
  obtain ⟨mA, O, _⟩ := ins_get I.hok ea
  obtain ⟨od, J, _⟩ := O.look
  exact ⟨_, _, J⟩

/-- v in o -/
def rInO (C : Addr) (sp : Sp) (E : XK) : R2 := fun x y H Q => ∃ a dx fs, y = .ref a ∧ H a = some (.ins C dx fs) ∧ sp [.ref a, x] H (BoolTo Q) E
theorem op_inO (F : FnOk X.prog X.w X.K X.mg X.base CX k f fd ps sp) (hs : PySem.W.findIn X.K (.ref C) "__contains__" = some (some (.ref f))) (hf : PySem.W.isFn X.K (.ref f) = true)
    (hb : Binds X.K fd ps []) (hr : Room k X.A) (hx : Passes CX X E) : OpR X (compareOp .In) (rInO C sp E) := by
  intro pins s σ H x y v u Q I rx ry h
  obtain ⟨a, dx, fs, rfl, ea, q⟩ := h
  obtain rfl : u = Value.ref a := ry
  obtain ⟨ox, od, J⟩ := ins_of I ea
  obtain ⟨m, hF⟩ := I.fr
  refine PySem.W.in_K hF I.ok.mod.kin J hs hf ?_
  refine wpAny_mono (run_fn (us := [.ref a, v]) (vs := [.ref a, x]) F hr hb .nil hx I (.cons rfl (.cons rx .nil)) q) (fun r s' z => ?_) fun _ _ z => z
  obtain ⟨v1, H1, I1, r1, b, e, q1⟩ := z
  subst e
  obtain rfl : r = Value.bool b := r1
  exact wpAny_truthy_bool ⟨.bl b, H1, I1, rfl, q1⟩

/-- o & o', both of one class -/
def rBinO (C : Addr) (sp : Sp) (E : XK) : R2 := fun x y H Q => ∃ a dx fs b dy gs, x = .ref a ∧ y = .ref b ∧ H a = some (.ins C dx fs) ∧ H b = some (.ins C dy gs) ∧
  sp [.ref a, .ref b] H (fun v H' => ∃ p, v = .ref p ∧ Q (.ref p) H') E
theorem op_binO {op : Operator} (F : FnOk X.prog X.w X.K X.mg X.base CX k f fd ps sp) (hs : PySem.W.findIn X.K (.ref C) (PySem.dunder op.info.2) = some (some (.ref f))) (hf : PySem.W.isFn X.K (.ref f) = true)
    (hc : PySem.W.selfFirst X.K C = true) (hb : Binds X.K fd ps []) (hr : Room k X.A) (hx : Passes CX X E) : OpR X (binaryOp op) (rBinO C sp E) := by
  intro pins s σ H x y v u Q I rx ry h
  obtain ⟨a, dx, fs, b, dy, gs, rfl, rfl, ea, eb, q⟩ := h
  obtain rfl : v = Value.ref a := rx
  obtain rfl : u = Value.ref b := ry
  obtain ⟨ox, od, J⟩ := ins_of I ea
  obtain ⟨oy, oe, J2⟩ := ins_of I eb
  obtain ⟨m, hF⟩ := I.fr
  refine PySem.W.binop_K hF I.ok.mod.kin J J2.type hc hs hf ?_
  refine wpAny_mono (run_fn (us := [.ref a, .ref b]) (vs := [.ref a, .ref b]) F hr hb .nil hx I (.cons rfl (.cons rfl .nil)) q) (fun r s' z => ?_) fun _ _ z => z
  obtain ⟨v1, H1, I1, r1, p, e, q1⟩ := z
  subst e
  obtain rfl : r = Value.ref p := r1
  exact ⟨.ref p, H1, I1, rfl, q1⟩

/-- what may stand to the right of an own == -/
inductive Right (K : PySem.W.Frag) (C : Addr) (H : Hp) : V → Prop where
  | own {b dy : Addr} {gs : List (Str × V)} (e : H b = some (.ins C dy gs)) : Right K C H (.ref b)
  | int (i : Int) (n : PySem.W.notFirst K C (.type "int") = true) : Right K C H (.int i)
  | non (n : PySem.W.notFirst K C (.type "NoneType") = true) : Right K C H .non
theorem right_looks {pins : List (Addr × Obj)} {σ : L2.St} {H : Hp} {s : Shared} {y : V} {u : Value} (I : Inv X pins σ H s) (r : Right X.K C H y) (ry : RelV y u) :
    ∃ tb, PySem.W.Looks (model X.prog X.w) s.heap (typeOf u) tb ∧ PySem.W.notFirst X.K C tb = true := by
  cases r with
  | own e =>
    rename_i b dy gs
    obtain rfl : u = Value.ref b := ry
    obtain ⟨oy, oe, J⟩ := ins_of I e
    exact ⟨_, J.type, by simp [PySem.W.notFirst]⟩
  | int i n =>
    obtain ⟨t, rfl⟩ := (show ∃ t, u = Value.int i t from ry)
    exact ⟨_, PySem.W.Looks.of_pure rfl, n⟩
  | non n =>
    obtain rfl : u = Value.none := ry
    exact ⟨_, PySem.W.Looks.of_pure rfl, n⟩
/-- o == y -/
def rEqO (K : PySem.W.Frag) (C : Addr) (sp : Sp) (E : XK) : R2 := fun x y H Q => ∃ a dx fs, x = .ref a ∧ H a = some (.ins C dx fs) ∧ Right K C H y ∧ sp [.ref a, y] H (BoolTo Q) E
theorem op_eqO (F : FnOk X.prog X.w X.K X.mg X.base CX k f fd ps sp) (hs : PySem.W.findIn X.K (.ref C) "__eq__" = some (some (.ref f))) (hf : PySem.W.isFn X.K (.ref f) = true)
    (hb : Binds X.K fd ps []) (hr : Room k X.A) (hx : Passes CX X E) : OpR X (compareOp .Eq) (rEqO X.K C sp E) := by
  intro pins s σ H x y v u Q I rx ry h
  obtain ⟨a, dx, fs, rfl, ea, ri, q⟩ := h
  obtain rfl : v = Value.ref a := rx
  obtain ⟨ox, od, J⟩ := ins_of I ea
  obtain ⟨m, hF⟩ := I.fr
  obtain ⟨tb, hL, hn⟩ := right_looks I ri ry
  show wpAny (model X.prog X.w) X.A (richCompare .Eq (.ref a) u) _ _ _
  refine PySem.W.cmp_K (op := .Eq) (tb := tb) hr.units0 hF I.ok.mod.kin J hL hn hs hf ?_
  refine wpAny_mono (run_fn (us := [.ref a, u]) (vs := [.ref a, y]) F hr hb .nil hx I (.cons rfl (.cons ry .nil)) q) (fun r s' z => ?_) fun _ _ z => z
  obtain ⟨v1, H1, I1, r1, b, e, q1⟩ := z
  subst e
  obtain rfl : r = Value.bool b := r1
  exact ⟨.bl b, H1, I1, rfl, q1⟩
end
end Lm

set_option Elab.async false
set_option linter.all false
set_option maxRecDepth 100000
set_option maxHeartbeats 4000000
namespace Lm
open PySem PySem.Spec PyProof.Rows L2

section
open Builtin
variable {prog : Program} {w : World} {A : Around} {E : Value → Shared → Prop} {s : Shared} {K : PySem.W.Frag} {x C L f : Addr} {h₀ : Heap} {m : Str → Option Value} {ox : Obj} {od : Option Obj} {u tb : Value}

/-- the default != of object, found by the class -/
theorem bound_ne {M : Model} {r : List Value} {Q : Option Value → Shared → Prop} (Y : K.In s.heap) (J : PySem.W.InstAt s.heap x ox C od)
    (hs : PySem.W.findIn K (.ref C) "__ne__" = some (some (.builtin "object.__ne__")))
    (h : wpAny M A (call (.builtin "object.__ne__") (.ref x :: r)) (fun v => Q (some v)) E s) : wpAny M A (callSpecialIfBound? (.ref x) "__ne__" r) Q E s := by
  have last : wpAny M A (call (.builtin "object.__ne__") ([.ref x] ++ r) >>= fun v => pure (some v)) Q E s :=
    wpAny_bind (wpAny_mono h (fun _ _ y => wpAny_pure y) fun _ _ y => y)
  simp only [bindSpecialIfBound?, callSpecialIfBound?]
  refine wpAny_holding (wpAny_bind (wpAny_bind (wpAny_bind (J.type.here ((PySem.W.looks_findIn Y hs).here (wpAny_bind (wpAny_askSetting (wpAny_ite ?_))))))))
  split
  · exact wpAny_bind (wpAny_of_eq (F.cmp_object.ne.bind _) (wpAny_pure (by exact last)))
  · exact wpAny_tryCatch (wpAny_bind (wpAny_of_eq (F.cmp_object.ne.bind _) (wpAny_pure (by exact last))))

/-- o != y where the class has an == of its own and no != -/
theorem neq_K {Q : Value → Shared → Prop} (hu : A.units + 1 < cLine) (Fz : Fr h₀ L s.heap m) (X₀ : K.In h₀) (J : PySem.W.InstAt s.heap x ox C od) (hL : PySem.W.Looks (model prog w) s.heap (typeOf u) tb)
    (hn : PySem.W.notFirst K C tb = true) (hne : PySem.W.findIn K (.ref C) "__ne__" = some (some (.builtin "object.__ne__"))) (hm : PySem.W.mroIn K C (.type "object") = some true)
    (hs : PySem.W.findIn K (.ref C) "__eq__" = some (some (.ref f))) (hf : PySem.W.isFn K (.ref f) = true)
    (h : wpAny (model prog w) A.in1 (call (.ref f) [.ref x, u]) (fun v s' => ∃ b, v = .bool b ∧ Q (.bool (!b)) s') E s) : wpAny (model prog w) A (richCompare .NotEq (.ref x) u) Q E s := by
  have Y := X₀.keeps Fz.keep
  have inner : wpAny (model prog w) A.in1 (Builtin.«object.__ne__» ⟨[.ref x, u], []⟩) (fun fin s' => ∃ b, fin = .done (.ret (.bool b)) ∧ Q (.bool b) s') E s := by
    unfold Builtin.«object.__ne__»
    refine wpAny_bind (wpAny_pure ?_)
    refine wpAny_bind (wpAny_cRoomFor hu ?_)
    refine wpAny_bind (PySem.W.ifBound_K Y J hs hf (wpAny_mono h (fun r s' hr => ?_) fun _ _ e => e))
    obtain ⟨b, rfl, hq⟩ := hr
    refine wpAny_bind (wpAny_truthy_bool ?_)
    exact wpAny_pure ⟨_, rfl, hq⟩
  have one : wpAny (model prog w) A (tryCompare (.ref x) "__ne__" u) (fun r s' => ∃ b, r = some (.bool b) ∧ Q (.bool b) s') E s := by
    unfold tryCompare
    refine wpAny_bind (bound_ne Y J hne (wpAny_call (codeAny_call_builtin F.cmp_object.ne.plain F.cmpEntry_ne (PySem.W.check_slot F.cmpKind_ne F.cmpSplit_ne (J.type.andThen (PySem.W.looks_mroIn Y hm)) (F.cmpArgs_ne _ _)
      (wpAny_mono inner (fun fin s' z => ?_) fun _ _ z => z)))))
    obtain ⟨b, rfl, hq⟩ := z
    exact wpAny_pure ⟨b, rfl, hq⟩
  unfold richCompare
  simp only [oneThing_ref]
  refine wpAny_holding (wpAny_bind (wpAny_cRoomFor (Nat.lt_of_succ_lt hu) (wpAny_bind (J.type.here (wpAny_bind (hL.here ?_))))))
  have fin : ∀ {k : Bool}, k = false → True := fun _ => trivial
  split
  · rename_i q
    have e : PySem.W.subIn K tb (.ref C) = some false := by
      rcases Bool.or_eq_true_iff.mp hn with e | e
      · rw [beq_iff_eq.mp e] at q
        simp at q
      · exact beq_iff_eq.mp e
    refine wpAny_bind ((PySem.W.looks_subIn Y e).here ?_)
    simp only [Bool.false_eq_true, if_false]
    refine wpAny_bind (wpAny_mono one (fun r s' z => ?_) fun _ _ e => e)
    obtain ⟨b, rfl, hq⟩ := z
    exact wpAny_pure hq
  · refine wpAny_bind (wpAny_pure ?_)
    simp only [Bool.false_eq_true, if_false]
    refine wpAny_bind (wpAny_mono one (fun r s' z => ?_) fun _ _ e => e)
    obtain ⟨b, rfl, hq⟩ := z
    exact wpAny_pure hq
end

section
variable {X : Cx} {CX : CXT} {k : Nat} {C f : Addr} {fd : FuncData} {ps : List Str} {sp : Sp} {E : XK}

/-- the callee runs one step deeper -/
theorem run_fn1 {pins : List (Addr × Obj)} {σ : L2.St} {H : Hp} {s : Shared} {Q : VK} {us : List Value} {vs : List V} (F : FnOk X.prog X.w X.K X.mg X.base CX k f fd ps sp) (hr : Room k X.A.in1) (hb : Binds X.K fd ps [])
    (hx : Passes CX X E) (I : Inv X pins σ H s) (r : Vals vs us) (h : sp vs H Q E) : wpAny (model X.prog X.w) X.A.in1 (call (.ref f) us) (EP X pins σ Q) X.xe s := by
  have hl : us.length = ps.length := (r.length).symm.trans (F.len _ _ _ _ h)
  have b := hb s us I.kIn (by simpa using hl)
  rw [List.append_nil] at b
  refine wpAny_call (codeAny_mono (F.run X.A.in1 X.stack s H ⟨us, []⟩ us vs Q E hr I.env0.in1 b r h) fun z s' hq => ?_)
  cases z with
  | error e => exact hx pins σ H s e s' I hq
  | ok fl => cases fl with
    | ret y => exact I.after hq
    | next => exact hq.elim
    | brk => exact hq.elim
    | cont => exact hq.elim

/-- o != y -/
def rNeO (K : PySem.W.Frag) (C : Addr) (sp : Sp) (E : XK) : R2 := fun x y H Q => ∃ a dx fs, x = .ref a ∧ H a = some (.ins C dx fs) ∧ Right K C H y ∧ sp [.ref a, y] H (fun v H' => ∃ b, v = .bl b ∧ Q (.bl (!b)) H') E
theorem op_neO (F : FnOk X.prog X.w X.K X.mg X.base CX k f fd ps sp) (hne : PySem.W.findIn X.K (.ref C) "__ne__" = some (some (.builtin "object.__ne__"))) (hm : PySem.W.mroIn X.K C (.type "object") = some true)
    (hs : PySem.W.findIn X.K (.ref C) "__eq__" = some (some (.ref f))) (hf : PySem.W.isFn X.K (.ref f) = true)
    (hb : Binds X.K fd ps []) (hr : Room (k + 1) X.A) (hx : Passes CX X E) : OpR X (compareOp .NotEq) (rNeO X.K C sp E) := by
  intro pins s σ H x y v u Q I rx ry h
  obtain ⟨a, dx, fs, rfl, ea, ri, q⟩ := h
  obtain rfl : v = Value.ref a := rx
  obtain ⟨ox, od, J⟩ := ins_of I ea
  obtain ⟨m, hF⟩ := I.fr
  obtain ⟨tb, hL, hn⟩ := right_looks I ri ry
  show wpAny (model X.prog X.w) X.A (richCompare .NotEq (.ref a) u) _ _ _
  refine neq_K (tb := tb) (by have := hr.un; omega) hF I.ok.mod.kin J hL hn hne hm hs hf ?_
  refine wpAny_mono (run_fn1 (us := [.ref a, u]) (vs := [.ref a, y]) F hr.in1 hb hx I (.cons rfl (.cons ry .nil)) q) (fun r s' z => ?_) fun _ _ z => z
  obtain ⟨v1, H1, I1, r1, b, e, q1⟩ := z
  subst e
  obtain rfl : r = Value.bool b := r1
  exact ⟨b, rfl, .bl (!b), H1, I1, rfl, q1⟩
end
end Lm

set_option Elab.async false
set_option linter.all false
set_option maxRecDepth 100000
set_option maxHeartbeats 4000000
namespace Lm
open PySem PySem.Spec PyProof.Rows L2

section
variable {prog : Program} {w : World} {A : Around} {E : Value → Shared → Prop} {s : Shared}
/-- bool.__new__ of a thing whose truth is known here -/
theorem bool_body {v : Value} {R : Result → Shared → Prop} (h : wpAny (model prog w) A.in1 (truthy v) (fun b s' => R (.ok (.ret (.bool b))) s') (fun e s' => R (.error e) s') s) :
    wpAny (model prog w) A.in1 (Builtin.«bool.__new__» ⟨[.type "bool", v], []⟩)
      (fun fin s' => match fin with | .done f => R (.ok f) s' | .again c' => c'.quiet = true ∧ codeAny (model prog w) A c' R s') (fun e s' => R (.error e) s') s := by
  have f1 := F.conv_sub_bool
  unfold Builtin.«bool.__new__»
  repeat (any_goals (first | assumption | (with_reducible refine wpAny_bind (m := truthy v) (wpAny_mono h (fun b s' hb => ?_) fun _ _ z => z)) | wp_step))
  all_goals exact hb
/-- a bool is handed back, or what is raised is passed on -/
def BoolWish (Q E : Value → Shared → Prop) : Result → Shared → Prop
  | .ok (.ret o), s' => (∃ b, o = .bool b) ∧ Q o s'
  | .ok _, _ => False
  | .error e, s' => E e s'
/-- bool(v) -/
theorem bool_call {v : Value} {Q : Value → Shared → Prop} (h : wpAny (model prog w) A.in1.in1 (truthy v) (fun b s' => Q (.bool b) s') E s) :
    wpAny (model prog w) A (call (.type "bool") [v]) Q E s := by
  have ft := F.called_bool
  obtain ⟨c, tl, hmro⟩ := ft.mro
  have hmade := ft.made
  have hsub := ft.sub
  have h1 := ft.notType
  have h2 := ft.canCreate
  refine wpAny_call (codeAny_of_tree (show wpAny _ _ (callAny (.type "bool") _) _ _ _ from wpAny_pure ⟨Code.quiet_builtin _ (by decide +kernel), codeAny_builtin F.entry_type_call ?_⟩))
  rw [Around.under_plain (weight_type_call_type "bool" [v] []) (units_type_call_type "bool" [v] [])]
  repeat (any_goals (first | assumption | wp_step))
  refine codeAny_mono (R := BoolWish Q E) (codeAny_call_builtin ft.plain F.entry_bool_new (wpAny_of_eq (F.newCall_bool_1 v) (bool_body (A := A.in1) (v := v) (R := BoolWish Q E) ?_))) fun r s₁ hr => ?_
  · exact wpAny_mono h (fun b s' hb => ⟨⟨b, rfl⟩, hb⟩) fun _ _ z => z
  · cases r with
    | error e => exact hr
    | ok fl => cases fl with
      | ret o =>
        obtain ⟨⟨b, rfl⟩, hq⟩ := hr
        have hli := ft.init.lookup
        have hbi := ft.init.bind (.bool b)
        have hT : s₁.TypeIs (.bool b) "bool" := by first | exact typeIs_bool _ _ | exact rfl
        repeat (any_goals (first | assumption | wp_step))
        have g := object_init_meets (self := .bool b) (rest := [v]) ft.init.lookup ft.made F.newNe_bool
        refine codeAny_mono (R := fun r s₂ => r = .ok (.ret .none) ∧ s₂ = s₁) (codeAny_call_builtin ft.init.plain F.entry_object_init (ft.init.check _ _ _ _ _ _ _ _ hT (F.args_object_init_2 (.bool b) v)
          (g prog w A.in1 (fun r s₂ => r = .ok (.ret .none) ∧ s₂ = s₁) s₁ ⟨hT, rfl, rfl⟩))) fun r₂ s₂ hr₂ => ?_
        obtain ⟨rfl, rfl⟩ := hr₂
        repeat (any_goals (first | assumption | wp_step))
      | next => exact hr.elim
      | brk => exact hr.elim
      | cont => exact hr.elim
end
end Lm

namespace Lm
open PySem PySem.Spec PyProof.Rows L2
section
variable {X : Cx} {CX : CXT} {k : Nat} {C f : Addr} {fd : FuncData} {ps : List Str} {sp : Sp} {E : XK}
theorem Room.two {k : Nat} {A : Around} (r : Room (k + 1) A) : Room k A.in1.in1 :=
  ⟨r.hd, by have := r.dp; show A.depth + 3 * k + 5 < _; omega, by have := r.un; show A.units + 1 + 1 + 16 * k + 200 < _; omega⟩
theorem Env0.two {P : Program} {w : World} {K : PySem.W.Frag} {mg : Str → Option Value} {base : Heap} {A : Around} {outer : List Env} {s : Shared} {H : Hp} (e : Env0 P w K mg base A outer s H) :
    Env0 P w K mg base A.in1.in1 outer s H := e.in1.in1
/-- the callee runs two steps deeper -/
theorem run_fn2 {pins : List (Addr × Obj)} {σ : L2.St} {H : Hp} {s : Shared} {Q : VK} {us : List Value} {vs : List V} (F : FnOk X.prog X.w X.K X.mg X.base CX k f fd ps sp) (hr : Room k X.A.in1.in1) (hb : Binds X.K fd ps [])
    (hx : Passes CX X E) (I : Inv X pins σ H s) (r : Vals vs us) (h : sp vs H Q E) : wpAny (model X.prog X.w) X.A.in1.in1 (call (.ref f) us) (EP X pins σ Q) X.xe s := by
  have hl : us.length = ps.length := (r.length).symm.trans (F.len _ _ _ _ h)
  have b := hb s us I.kIn (by simpa using hl)
  rw [List.append_nil] at b
  refine wpAny_call (codeAny_mono (F.run X.A.in1.in1 X.stack s H ⟨us, []⟩ us vs Q E hr I.env0.in1.in1 b r h) fun z s' hq => ?_)
  cases z with
  | error e => exact hx pins σ H s e s' I hq
  | ok fl => cases fl with
    | ret y => exact I.after hq
    | next => exact hq.elim
    | brk => exact hq.elim
    | cont => exact hq.elim
/-- bool(o) by its own __bool__ -/
def rBoolO (C : Addr) (sp : Sp) (E : XK) : List V → Hp → VK → Prop := fun xs H Q => ∃ a dx fs, xs = [.ref a] ∧ H a = some (.ins C dx fs) ∧ sp [.ref a] H (BoolTo Q) E
theorem call_boolO (F : FnOk X.prog X.w X.K X.mg X.base CX k f fd ps sp) (hs : PySem.W.findIn X.K (.ref C) "__bool__" = some (some (.ref f))) (hf : PySem.W.isFn X.K (.ref f) = true)
    (hb : Binds X.K fd ps []) (hr : Room (k + 1) X.A) (hx : Passes CX X E) : CallR X (.type "bool") (rBoolO C sp E) := by
  intro pins s σ H xs us Q I r h
  obtain ⟨a, dx, fs, rfl, ea, q⟩ := h
  obtain ⟨u, rfl, r1⟩ := vals1 r
  obtain rfl : u = Value.ref a := r1
  obtain ⟨ox, od, J⟩ := ins_of I ea
  obtain ⟨m, hF⟩ := I.fr
  refine bool_call (PySem.W.truthy_K hF I.ok.mod.kin J hs hf ?_)
  refine wpAny_mono (run_fn2 (us := [.ref a]) (vs := [.ref a]) F (Room.two hr) hb hx I (.cons rfl .nil) q) (fun z s' y => ?_) fun _ _ z => z
  obtain ⟨v1, H1, I1, r2, b, e, q1⟩ := y
  subst e
  obtain rfl : z = Value.bool b := r2
  exact ⟨.bl b, H1, I1, rfl, q1⟩
end
end Lm

set_option Elab.async false
set_option linter.all false
set_option maxRecDepth 100000
set_option maxHeartbeats 4000000
namespace Lm
open PySem PySem.Spec PyProof.Rows L2

/-! ### repr of data, where no repr is under way -/
/-- the text that repr hands back of a value -/
inductive Shown (K : PySem.W.Frag) (H : Hp) : V → Str → Prop where
  | non : Shown K H .non "None"
  | bl (b : Bool) : Shown K H (.bl b) (if b then "True" else "False")
  | int (i : Int) (h : i.natAbs.log2 < 1920) : Shown K H (.int i) (toString i)
  | str (x : Str) (h : (reprText x).length ≤ sizeLine) : Shown K H (.str x) (reprText x)
  | dat {a : Addr} {d : PyData} (h : Dp K H (.ref a) d) (hn : d.hasDict = false) (hs : d.showable = true) (hd : d.depth ≤ 60) (hz : d.shown.length ≤ sizeLine) : Shown K H (.ref a) d.shown
  | emp {a : Addr} (h : H a = some (.dK [])) : Shown K H (.ref a) (PyData.dict []).shown
def rRepr (K : PySem.W.Frag) : List V → Hp → VK → Prop := fun xs H Q => ∃ x t, xs = [x] ∧ Shown K H x t ∧ Q (.str t) H
section
variable {X : Cx}
theorem call_reprS (hg : X.A.guards = some []) (hu : X.A.units + 64 < cLine) : CallR X (.builtin "repr") (rRepr X.K) := by
  intro pins s σ H xs us Q I r h
  obtain ⟨x, t, rfl, hS, q⟩ := h
  obtain ⟨u, rfl, ru⟩ := vals1 r
  cases hS with
  | non =>
    obtain rfl : u = Value.none := ru
    exact PySem.P.repr_of_none ⟨.str _, H, I.tok _, ⟨_, rfl⟩, q⟩
  | bl b =>
    obtain rfl : u = Value.bool b := ru
    exact PySem.P.repr_of_bool ⟨.str _, H, I.tok _, ⟨_, rfl⟩, q⟩
  | int i hi =>
    obtain ⟨tk, rfl⟩ := (show ∃ t, u = Value.int i t from ru)
    exact PySem.P.repr_of_int hi ⟨.str _, H, I.tok _, ⟨_, rfl⟩, q⟩
  | str z hz =>
    obtain ⟨tk, rfl⟩ := (show ∃ t, u = Value.str z t from ru)
    exact PySem.P.repr_of_str (h := ⟨.str _, H, I.tok _, ⟨_, rfl⟩, q⟩) hz
  | @dat a d hD hn hs hd hz =>
    obtain rfl : u = Value.ref a := ru
    obtain ⟨as, rd⟩ := Dp.reads I d _ _ hD rfl
    exact repr_of_reads' rd hs (PyData.noDict_hsm hn) hg (by omega) (fun _ _ e => e) (fun h' u tk hk => ⟨.str _, H, I.kept hk, ⟨_, rfl⟩, q⟩) hz
  | @emp a hE =>
    obtain rfl : u = Value.ref a := ru
    obtain ⟨_, hsys, vs, rel, o, es, ep, ho, hx, hd, _, hp, _⟩ := dk_of I.hok hE
    have e0 : es.toList = [] := by
      have l := hp.length
      cases rel
      exact List.eq_nil_of_length_eq_zero (by simpa using l)
    have rd : Reads s.heap (.ref a) (.dict []) (a :: [] ++ []) := .dict ho hx.1 hd (by rw [e0]; exact .nil) (by rw [e0]; exact .nil)
    have hdp : (PyData.dict []).depth ≤ 60 := by decide
    refine repr_of_reads' rd (by decide +kernel) (fun _ hm => ?_) hg (by omega) (fun _ _ e => e) (fun h' u tk hk => ⟨.str _, H, I.kept hk, ⟨_, rfl⟩, q⟩) (by decide +kernel)
    have e1 : sysModules = a := by simpa using hm
    rw [e1] at hsys
    simp at hsys
end

/-! ### a def that keeps its promise where no repr is under way -/
structure FnG (P : Program) (w : World) (K : PySem.W.Frag) (mg : Str → Option Value) (base : Heap) (CX : CXT) (k : Nat) (f : Addr) (fd : FuncData) (ps : List Str) (sp : Sp) : Prop where
  many : ∀ vs H Q E, sp vs H Q E → vs.length = ps.length
  goes : ∀ (A : Around) (o : List Env) (s : Shared) (H : Hp) (us : List Value) (vs : List V) (Q : VK) (E : XK), A.guards = some [] → Room k A → Env0 P w K mg base A o s H →
    BindsTo s fd ⟨us, []⟩ (ps.zip us) → Vals vs us → sp vs H Q E → codeAny (model P w) A (.call (.ref f) ⟨us, []⟩) (CR CX o P w H s Q E) s

section
variable {CX : CXT} {P : Program} {w : World} {K : PySem.W.Frag} {mg : Str → Option Value} {base : Heap} {k : Nat} {f : Addr} {N ps : List Str} {sp : Sp} {x qual : Str} {st : Stmt} {fd : FuncData}
theorem FnG.of (Fz : Fun K x qual st f fd) (S : FnScope N ps (defScope st)) (many : ∀ vs H Q E, sp vs H Q E → vs.length = ps.length)
    (body : ∀ (cdv : Value) (A : Around) (o : List Env) (s : Shared) (H : Hp) (vs : List V) (Q : VK) (E : XK), A.guards = some [] → Room k (A.deeper (envOfC qual (defScope st) s.heap.objs.size f cdv)) → sp vs H Q E →
      ∃ t, PSs (cxOf CX P w K mg base N qual (defScope st) f cdv A o s H E) (defBody st) t ∧ t { nx := fun _ H' => Q .non H', rt := Q } (start N vs) H) :
    FnG P w K mg base CX (k + 1) f fd ps sp := by
  obtain ⟨oc, od, kV, doc, pm, an, cdv, ct, osl, rfl, lk, hcd⟩ := Fz.ex
  refine ⟨many, fun A o s H us vs Q E hg hr e0 hb r hsp => ?_⟩
  have inK : K.In s.heap := e0.mod.kin.keeps fun b u e => (e0.bs b u e).1
  have noL : s.heap.NoLimit := e0.mod.nolimit.keeps fun b u e => (e0.bs b u e).1
  refine codeAny_call_function hr.depth (inK _ _ lk) rfl S.co S.gen rfl (PySem.W.codeRec_of inK hcd) (hb _ _ _ _ (wpAny_newFunctionEnv_cells S.kind (fun y hy => ?_) fun env he s1 z => ?_))
  · rcases S.par y.1 (List.of_mem_zip hy).1 with q | q
    · exact .inl q
    · exact .inr ⟨q, PySem.W.cellsFrom_some _ _ _ (.inl q)⟩
  · subst he
    refine ⟨noL.keeps z.toInCall.keep, codeAny_func ?_⟩
    obtain ⟨t, ht, hq⟩ := body cdv A o s H vs Q E hg (hr.deeper _) hsp
    have J : Inv (cxOf CX P w K mg base N qual (defScope st) f cdv A o s H E) [] (start N vs) H s1 := inv_start S hr.hd e0 (many _ _ _ _ hsp) r z
    refine wpAny_mono (ht.run [] s1 (start N vs) H _ J hq) (fun fl s' y => ?_) fun _ _ y => y
    cases fl with
    | ret u =>
      obtain ⟨v, _, H', J', rv, q⟩ := y
      exact ⟨v, H', J'.os, J'.bare, J'.base, J'.hok, rv, q⟩
    | next =>
      obtain ⟨_, H', J', q⟩ := y
      exact ⟨V.non, H', J'.os, J'.bare, J'.base, J'.hok, rfl, q⟩
    | brk => exact y.elim fun _ y => y.elim fun _ y => y.2.elim
    | cont => exact y.elim fun _ y => y.elim fun _ y => y.2.elim
end

section
variable {X : Cx} {CX : CXT} {k : Nat} {f : Addr} {fd : FuncData} {ps : List Str} {sp : Sp} {E : XK} {x : Str} {p pos : Pos} {e : Expr} {es : List Expr} {t : TA}
/-- f(e, ..) -/
theorem pe_callG (G : FnG X.prog X.w X.K X.mg X.base CX k f fd ps sp) (hgd : X.A.guards = some []) (hr : Room k X.A) (hg : Gl X x) (hm : X.mg x = some (.ref f)) (hk : PySem.W.keepIn X.K (.ref f) = true) (hb : Binds X.K fd ps [])
    (hx : Passes CX X E) (ha : PA X (e :: es) t) (hdb : (x == ("__debug__" : Str)) = false := by decide) (he : starEach (e :: es) X.env = (false, eval e X.env) :: starEach es X.env := by rfl)
    (hpl : (backTo pos (starEach es X.env)).any (·.1) = false := by rfl) : PE X (.Call (.Name x p) (e :: es) [] pos) (tCall sp [] E t) := by
  refine ⟨fun pins s σ H Q I h => ?_⟩
  refine wpAny_Call_Name_kw (ld_glob I hg hm (PySem.W.callWith_K (h₀ := X.base) I.ok.mod.kin hk (thn (ha.run pos pins s σ H _ I h) fun us s1 ⟨vs, H1, I1, r, q⟩ => ⟨I1.kIn, ?_⟩) he hpl) hdb)
  have q : sp vs H1 Q E := by simpa using q
  have hl : us.length = ps.length := (r.length).symm.trans (G.many _ _ _ _ q)
  have b := hb s1 us I1.kIn (by simpa using hl)
  rw [List.append_nil] at b
  refine wpAny_call (codeAny_mono (G.goes X.A X.stack s1 H1 us vs Q E hgd hr I1.env0 b r q) fun z s' y => ?_)
  cases z with
  | error er => exact hx pins σ H1 s1 er s' I1 y
  | ok fl => cases fl with
    | ret v => exact I1.after y
    | next => exact y.elim
    | brk => exact y.elim
    | cont => exact y.elim
end
end Lm

set_option Elab.async false
set_option linter.all false
set_option maxRecDepth 100000
set_option maxHeartbeats 4000000
namespace Lm
open PySem PySem.Spec PyProof.Rows L2

/-! ### the law's own call, by a promise kept where no repr is under way -/
section
variable {P : Program} {w : World} {K : PySem.W.Frag} {mg mb : Str → Option Value} {CX : CXT} {k : Nat} {fa a : Addr} {fd : FuncData} {x : Str} {sp : Sp} {s₁ : Shared} {vs : List Value} {ns : List Int}
/-- how the law's call ends -/
def Ended (s₁ : Shared) (r : Result) (s' : Shared) : Prop := r = .ok (.ret (.bool true)) ∧ OldK s₁.heap s'.heap ∧ s'.os = s₁.os ∧ AllBare s'.gens
theorem ended_of {H : Hp} (hO : Only H) (hok : HOk P w H s₁.heap) (hCX : ∀ e s', CX [] H s₁ (fun _ _ _ => False) e s' → False) {r : Result} {s' : Shared}
    (h : CR CX [] P w H s₁ (fun v _ => v = .bl true) (fun _ _ _ => False) r s') : Ended s₁ r s' := by
  cases r with
  | error e => exact (hCX e s' h).elim
  | ok fl => cases fl with
    | next => exact h.elim
    | brk => exact h.elim
    | cont => exact h.elim
    | ret u =>
      obtain ⟨v, H', os, bare, un, hok', rv, ev⟩ := h
      obtain rfl : v = .bl true := ev
      obtain rfl : u = Value.bool true := rv
      refine ⟨rfl, OldK.of_keep fun b o e => ?_, os, bare⟩
      rcases hO b with z | ⟨ob, xs, z⟩
      · exact un.keep b o e z (fun y => absurd (show b ∈ ([] : List Addr) from y) (by simp)) (by simp)
      · obtain ⟨e1, _⟩ := hok b _ z
        obtain ⟨e2, _⟩ := hok' b _ (un.frzs b ob _ z)
        rw [e] at e1
        cases e1
        exact e2
theorem law_callG (KX : K.In s₁.heap) (hns : s₁.heap.Ns mainGlobals mg) (hb : s₁.heap.Ns builtinsNs mb) (hbb : ∀ x : Str, x ≠ "__name__" → mb x = bootBuiltins x) (hlim : s₁.heap.NoLimit) (hg : s₁.gens = #[])
    (ha : s₁.heap.get? a = some { cls := .type "list", data := .seq vs.toArray }) (hi : IntsAre vs ns) (hl : ns.length ≤ sizeLine) (hr : Room k callerA) (hgd : callerA.guards = some [])
    (G : ∀ base : Heap, K.In base → base.Ns mainGlobals mg → FnG P w K mg base CX k fa fd [x] sp) (hbind : ∀ (s : Shared) (u : Value), BindsTo s fd ⟨[u], []⟩ [(x, u)])
    (hsp : ∀ H : Hp, Only H → SqL K H a (ns.map V.int) → sp [.ref a] H (fun v _ => v = .bl true) fun _ _ _ => False)
    (hCX : ∀ H e s', CX [] H s₁ (fun _ _ _ => False) e s' → False) : codeAny (model P w) callerA (.call (.ref fa) ⟨[.ref a], []⟩) (Ended s₁) s₁ := by
  have rv := vals_ints hi
  have main : ∀ H : Hp, Only H → SqL K H a (ns.map V.int) → HOk P w H s₁.heap → (∀ b, H b ≠ none → b = a) → (H a ≠ none → K.lookup a = none) →
      codeAny (model P w) callerA (.call (.ref fa) ⟨[.ref a], []⟩) (Ended s₁) s₁ := by
    intro H hO hS hok one hK
    -- what isn't the script lies in the base
    have off : ∀ {b : Addr}, b ≠ a → H b = none := fun {b} hb => Classical.byContradiction fun z => hb (one b z)
    have low : ∀ {b : Addr} {o : Obj}, s₁.heap.get? b = some o → H b = none → (hidT s₁.heap H).get? b = some o := fun e n => hidT_get e n
    have dic : ∀ {b : Addr} {o : Obj} {es : Array DictEntry} {ep : Nat}, s₁.heap.get? b = some o → o.data = .dict es ep → H b = none := fun {b o es ep} e d => off fun z => by
      subst z
      rw [ha] at e
      cases e
      cases (show Data.seq vs.toArray _ = Data.dict es ep from d)
    have nsB : ∀ {b : Addr} {m : Str → Option Value}, s₁.heap.Ns b m → (hidT s₁.heap H).Ns b m := fun {b m} ⟨o, es, ep, e, d, r⟩ => ⟨o, es, ep, low e (dic e d), d, r⟩
    have inB : K.In (hidT s₁.heap H) := fun b o e => low (KX b o e) (Classical.byContradiction fun z => by
      have eb := one b z
      subst eb
      rw [hK z] at e
      cases e)
    have md : Mod K mg (hidT s₁.heap H) := ⟨inB, nsB hns, ⟨mb, nsB hb, hbb⟩, let ⟨mc, h1, h2⟩ := hlim; ⟨mc, nsB h1, h2⟩⟩
    have e0 : Env0 P w K mg (hidT s₁.heap H) callerA [] s₁ H :=
      ⟨rfl, md, fun b o e => of_hidT e, Nat.le_of_eq (hidT_size _ _), trivial, fun b hb => absurd (show b ∈ ([] : List Addr) from hb) (by simp), hok, .of_eq hg⟩
    exact codeAny_mono ((G _ inB (nsB hns)).goes callerA [] s₁ H [.ref a] [.ref a] _ _ hgd hr e0 (hbind s₁ (.ref a)) (.cons rfl .nil) (hsp H hO hS)) fun r s' h => ended_of hO hok (hCX H) h
  cases hk : K.lookup a with
  | some o =>
    have e := KX a o hk
    rw [ha] at e
    cases e
    exact main (fun _ => none) (fun _ => .inl rfl) (.inr ⟨_, vs.toArray, _, hk, rfl, rfl, rfl, by rw [List.size_toArray, hi.length]; exact hl, by simpa using rv⟩) (fun b u z => nomatch (show (none : Option HO) = some u from z))
      (fun b z => absurd rfl z) fun z => absurd rfl z
  | none =>
    refine main (fun b => if b = a then some (.frz { cls := .type "list", data := .seq vs.toArray } (.lst (ns.map V.int))) else none) (fun b => ?_) (.inl (.inr ⟨{ cls := .type "list", data := .seq vs.toArray }, if_pos rfl⟩)) (fun b u z => ?_)
      (fun b z => Classical.byContradiction fun nb => z (if_neg nb)) fun _ => hk
    · by_cases nb : b = a
      · exact .inr ⟨_, _, if_pos nb⟩
      · exact .inl (if_neg nb)
    · by_cases nb : b = a
      · cases (if_pos nb).symm.trans z
        subst nb
        exact ⟨ha, by rw [List.length_map]; exact hl, vs, _, rv, ha⟩
      · cases (if_neg nb).symm.trans z
end
theorem walk_ofG {l : PySem.W.OpenLaw} {n k : Nat} {q : Program} {loose : List Str} {XP : (Str → Option Value) → Heap → Prop} {YP : World → Heap → Prop} {d : DefRec} {K : Params → PySem.W.Frag} {CX : World → CXT} {sp : World → Sp} {x : Str}
    (hn : l.most = some n) (hn2 : n ≤ sizeLine) (hdf : d.params.defaults = []) (hr : Room k callerA) (hgd : callerA.guards = some []) (hY : ∀ (w : World) (h : Heap), YP w h → (K w.params).In h)
    (F : ∀ (w : World) (mg : Str → Option Value) (fa : Addr) (h : Heap), (K w.params).In h → h.Ns mainGlobals mg → mg d.name = some (.ref fa) →
      ∃ fd : FuncData, (∀ (s : Shared) (u : Value), BindsTo s fd ⟨[u], []⟩ [(x, u)]) ∧ ∀ base : Heap, (K w.params).In base → base.Ns mainGlobals mg → FnG l.prog w (K w.params) mg base (CX w) k fa fd [x] (sp w))
    (hsp : ∀ (w : World) (H : Hp) (a : Addr) (ns : List Int), ns.length ≤ n → Only H → SqL (K w.params) H a (ns.map V.int) → sp w [.ref a] H (fun v _ => v = .bl true) fun _ _ _ => False)
    (hCX : ∀ (w : World) (H : Hp) (s : Shared) (e : Value) (s' : Shared), CX w [] H s (fun _ _ _ => False) e s' → False) : PySem.W.WalkO q loose XP YP l.row.toRowW d [] (fun f vs => PySem.call f vs) := by
  refine Att.attach_call hn hdf fun w s₀ s₁ mg mb fa o pm cd doc a vs ns G Y ho hd hcd hmg hobj hints hlen hg => ?_
  obtain ⟨fd, hb, hF⟩ := F w mg fa _ (hY w _ Y) G.T.g hmg
  exact law_callG (hY w _ Y) G.T.g G.T.b G.T.builtins G.T.nolimit hg hobj hints (Nat.le_trans hlen hn2) hr hgd hF hb (fun H hO hS => hsp w H a ns hlen hO hS) fun H e s' => hCX w H s₁ e s'
end Lm

set_option Elab.async false
set_option linter.all false
set_option maxRecDepth 100000
set_option maxHeartbeats 4000000
namespace Lm
open PySem PySem.Spec PyProof.Rows L2
section
variable {X : Cx} {CX : CXT} {k : Nat} {f C : Addr} {fd : FuncData} {ps : List Str} {sp : Sp} {E : L2.St → XK} {x : Str} {p pos : Pos} {e : Expr} {es : List Expr} {t : TA}
/-- C(e, ..), what its __init__ raises wished for at the slots -/
def tMakeS (C : Addr) (sp : Sp) (E : L2.St → XK) (t : TA) : TE := fun σ H Q => t σ H fun vs H1 => ∀ a dx, H1 a = none → H1 dx = none → dx ≠ a →
  sp (.ref a :: vs) (upd (upd H1 dx (.own a)) a (.ins C dx [])) (fun v H2 => v = .non ∧ Q (.ref a) H2) (E σ)
theorem pe_makeS (M : Mk X.K C f) (F : FnOk X.prog X.w X.K X.mg X.base CX k f fd ps sp) (hr : Room (k + 1) X.A) (hg : Gl X x) (hm : X.mg x = some (.ref C)) (hb : Binds X.K fd ps []) (hx : ∀ σ, PassesAt CX X σ (E σ))
    (ha : PA X (e :: es) t) (hdb : (x == ("__debug__" : Str)) = false := by decide) (he : starEach (e :: es) X.env = (false, eval e X.env) :: starEach es X.env := by rfl) (hpl : (backTo pos (starEach es X.env)).any (·.1) = false := by rfl) :
    PE X (.Call (.Name x p) (e :: es) [] pos) (tMakeS C sp E t) := by
  refine ⟨fun pins s σ H Q I h => ?_⟩
  refine wpAny_Call_Name_kw (ld_glob I hg hm (PySem.W.callWith_K (h₀ := X.base) I.ok.mod.kin M.kp (thn (ha.run pos pins s σ H _ I h) fun us s1 ⟨vs, H1, I1, r, q⟩ => ⟨I1.kIn, ?_⟩) he hpl) hdb)
  have hq := q (s1.heap.objs.size + 1) s1.heap.objs.size (I1.hok.fresh (Nat.le_succ _)) (I1.hok.fresh (Nat.le_refl _)) (Nat.ne_of_lt (Nat.lt_succ_self _))
  have J := Inv.made (C := C) I1
  have r2 : Vals (V.ref (s1.heap.objs.size + 1) :: vs) (Value.ref (s1.heap.objs.size + 1) :: us) := .cons rfl r
  have hl : (Value.ref (s1.heap.objs.size + 1) :: us).length = ps.length := (r2.length).symm.trans (F.len _ _ _ _ hq)
  have b := hb _ (Value.ref (s1.heap.objs.size + 1) :: us) J.kIn (by simpa using hl)
  rw [List.append_nil] at b
  show wpAny _ _ (call (.ref C) us) _ _ _
  refine wpAny_call (make_map (f := f) I1.kIn M.makes M.init (beq_iff_eq.mp M.fn) (codeAny_mono (F.run _ X.stack _ _ ⟨Value.ref (s1.heap.objs.size + 1) :: us, []⟩ _ _ _ (E σ) (hr.make C us []) (J.env0.make C us []) b r2 hq) fun z s' y => ?_))
  cases z with
  | error er => exact hx σ pins _ _ er s' J y
  | ok fl => cases fl with
    | ret u =>
      obtain ⟨v, H', I3, rv, ev, q3⟩ := J.after y
      subst ev
      exact ⟨rv, ⟨V.ref (s1.heap.objs.size + 1), H', I3, rfl, q3⟩⟩
    | next => exact y.elim
    | brk => exact y.elim
    | cont => exact y.elim
end
section
variable {P : Program} {w : World} {K : PySem.W.Frag} {mg : Str → Option Value} {base : Heap} {k : Nat} {f : Addr} {N ps : List Str} {sp : Sp} {x qual : Str} {st : Stmt} {fd : FuncData}
/-- .. of a def that no exception leaves -/
theorem FnG.ok (Fz : Fun K x qual st f fd) (S : FnScope N ps (defScope st)) (many : ∀ vs H Q E, sp vs H Q E → vs.length = ps.length)
    (body : ∀ (cdv : Value) (A : Around) (o : List Env) (s : Shared) (H : Hp) (vs : List V) (Q : VK) (E : XK), A.guards = some [] → Room k (A.deeper (envOfC qual (defScope st) s.heap.objs.size f cdv)) → sp vs H Q E →
      ∃ t, PSs (cxOf CX0 P w K mg base N qual (defScope st) f cdv A o s H E).nox (defBody st) t ∧ t { nx := fun _ H' => Q .non H', rt := Q } (start N vs) H) :
    FnG P w K mg base CX0 (k + 1) f fd ps sp :=
  FnG.of Fz S many fun cdv A o s H vs Q E hg hr hsp => let ⟨t, h, q⟩ := body cdv A o s H vs Q E hg hr hsp; ⟨t, h.nox, q⟩
theorem ifT {c : Bool} {Y Z : Prop} (e : c = true) (h : Y) : if c = true then Y else Z := by
  subst e
  exact iteT h
theorem ifF {c : Bool} {Y Z : Prop} (e : c = false) (h : Z) : if c = true then Y else Z := by
  subst e
  exact iteF h
theorem guards_deeper {A : Around} (env : Env) (h : A.guards = some []) : (A.deeper env).guards = some [] := by
  first
    | exact h
    | simpa [Around.deeper, pushGuards, Code.guards] using h
end
/-- what stood stands -/
theorem same_new {H : Hp} {p : Addr} {o : HO} (h : H p = none) : Same H (upd H p o) := fun b u e => by rw [upd_ne (ne_of_none e h)]; exact e
end Lm

set_option Elab.async false
set_option linter.all false
set_option maxRecDepth 100000
set_option maxHeartbeats 4000000
namespace Lm
open PySem PySem.Spec PyProof.Rows L2
theorem fm_take {α : Type} {os : List (Option α)} {i : Nat} {o : Option α} (h : os[i]? = some o) : (os.take (i + 1)).filterMap id = (os.take i).filterMap id ++ o.toList := by
  have hi : i < os.length := by
    have := List.getElem?_eq_some_iff.mp h
    exact this.1
  have e : os.take (i + 1) = os.take i ++ [o] := by
    rw [List.take_add_one, h]
    rfl
  rw [e, List.filterMap_append]
  cases o <;> rfl
theorem fm_len {α : Type} (os : List (Option α)) : (os.filterMap id).length ≤ os.length := List.length_filterMap_le _ _
/-- a comprehension over a list that stands: what each turn keeps -/
theorem lc_fm {K : PySem.W.Frag} {a : Addr} {xs : List V} {g : TG} {tt : TT} {te : TE} {vs : List Nat} {σ : L2.St} {H1 : Hp} {D : Addr} {Qd : Hp → Prop} (os : List (Option V)) (hS : SqL K H1 a xs) (hD : H1 D = none) (hl : xs.length = os.length) (hz : os.length ≤ sizeLine)
    (hs : ∀ (i : Nat) (x : V) (o : Option V) (H : Hp) (Qy : VK) (Qn : Hp → Prop), xs[i]? = some x → os[i]? = some o → Same H1 H → (∀ y, o = some y → ∀ H4, Same H H4 → Qy y H4) → (o = none → ∀ H4, Same H H4 → Qn H4) →
      g x (wipe σ vs) H fun σ2 H2 => wipe σ2 vs = wipe σ vs ∧ tt σ2 H2 fun b H3 => if b = true then te σ2 H3 Qy else Qn H3) (hd : ∀ H, Same H1 H → H D = some (.lst (os.filterMap id)) → Qd H) :
    ∃ W : Nat → Nat → Hp → Prop, (∃ m, W 0 m (upd H1 D (.lst []))) ∧ ∀ i m H, W i m H →
      ((Itl K a).stop i H ∧ Qd H) ∨ ((Itl K a).go i H ∧ ∃ Nx : Hp → Prop, (∀ H', Nx H' → ∃ m', m' < m ∧ W (i + 1) m' H') ∧ ∀ x H', (Itl K a).yld i H x H' → g x (wipe σ vs) H' fun σ2 H2 => wipe σ2 vs = wipe σ vs ∧ tt σ2 H2 fun b H3 =>
        if b = true then te σ2 H3 fun y H4 => ∃ acc, H4 D = some (.lst acc) ∧ acc.length < sizeLine ∧ Nx (upd H4 D (.lst (acc ++ [y]))) else Nx H3) := by
  refine lc_list (K := K) (a := a) (xs := xs) (fun i H => Same H1 H ∧ H D = some (.lst ((os.take i).filterMap id))) ⟨same_new hD, by rw [upd_same]; rfl⟩ (fun i H _ z => z.1.seq hS) (fun i x H hx z => ?_) (fun H z => hd H z.1 (by rw [z.2, hl, List.take_length]))
  obtain ⟨z1, z2⟩ := z
  have hi : i < os.length := by
    have := (List.getElem?_eq_some_iff.mp hx).1
    omega
  have ho : os[i]? = some os[i] := List.getElem?_eq_getElem hi
  refine hs i x os[i] H _ _ hx ho z1 (fun y e H4 s4 => ⟨_, s4 _ _ z2, ?_, ?_, ?_⟩) (fun e H4 s4 => ⟨z1.trans s4, ?_⟩)
  · have := fm_len (os.take i)
    rw [List.length_take] at this
    omega
  · intro b u eb
    rw [upd_ne (ne_of_none eb hD)]
    exact s4 _ _ (z1 _ _ eb)
  · rw [upd_same, fm_take ho, e]
    rfl
  · rw [s4 _ _ z2, fm_take ho, e]
    simp
theorem seqT {K : PySem.W.Frag} {H H' : Hp} {a : Addr} {xs : List V} (e : Same H H') (h : SqT K H a xs) : SqT K H' a xs := by
  rcases h with (h | ⟨o, h⟩) | h
  · exact .inl (.inl (e _ _ h))
  · exact .inl (.inr ⟨o, e _ _ h⟩)
  · exact .inr h
/-- a comprehension over a tuple that stands: what each turn keeps -/
theorem lc_fmT {K : PySem.W.Frag} {a : Addr} {xs : List V} {g : TG} {tt : TT} {te : TE} {vs : List Nat} {σ : L2.St} {H1 : Hp} {D : Addr} {Qd : Hp → Prop} (os : List (Option V)) (hS : SqT K H1 a xs) (hD : H1 D = none) (hl : xs.length = os.length) (hz : os.length ≤ sizeLine)
    (hs : ∀ (i : Nat) (x : V) (o : Option V) (H : Hp) (Qy : VK) (Qn : Hp → Prop), xs[i]? = some x → os[i]? = some o → Same H1 H → (∀ y, o = some y → ∀ H4, Same H H4 → Qy y H4) → (o = none → ∀ H4, Same H H4 → Qn H4) →
      g x (wipe σ vs) H fun σ2 H2 => wipe σ2 vs = wipe σ vs ∧ tt σ2 H2 fun b H3 => if b = true then te σ2 H3 Qy else Qn H3) (hd : ∀ H, Same H1 H → H D = some (.lst (os.filterMap id)) → Qd H) :
    ∃ W : Nat → Nat → Hp → Prop, (∃ m, W 0 m (upd H1 D (.lst []))) ∧ ∀ i m H, W i m H →
      ((Itt K a).stop i H ∧ Qd H) ∨ ((Itt K a).go i H ∧ ∃ Nx : Hp → Prop, (∀ H', Nx H' → ∃ m', m' < m ∧ W (i + 1) m' H') ∧ ∀ x H', (Itt K a).yld i H x H' → g x (wipe σ vs) H' fun σ2 H2 => wipe σ2 vs = wipe σ vs ∧ tt σ2 H2 fun b H3 =>
        if b = true then te σ2 H3 fun y H4 => ∃ acc, H4 D = some (.lst acc) ∧ acc.length < sizeLine ∧ Nx (upd H4 D (.lst (acc ++ [y]))) else Nx H3) := by
  refine lc_tup (K := K) (a := a) (xs := xs) (fun i H => Same H1 H ∧ H D = some (.lst ((os.take i).filterMap id))) ⟨same_new hD, by rw [upd_same]; rfl⟩ (fun i H _ z => seqT z.1 hS) (fun i x H hx z => ?_) (fun H z => hd H z.1 (by rw [z.2, hl, List.take_length]))
  obtain ⟨z1, z2⟩ := z
  have hi : i < os.length := by
    have := (List.getElem?_eq_some_iff.mp hx).1
    omega
  have ho : os[i]? = some os[i] := List.getElem?_eq_getElem hi
  refine hs i x os[i] H _ _ hx ho z1 (fun y e H4 s4 => ⟨_, s4 _ _ z2, ?_, ?_, ?_⟩) (fun e H4 s4 => ⟨z1.trans s4, ?_⟩)
  · have := fm_len (os.take i)
    rw [List.length_take] at this
    omega
  · intro b u eb
    rw [upd_ne (ne_of_none eb hD)]
    exact s4 _ _ (z1 _ _ eb)
  · rw [upd_same, fm_take ho, e]
    rfl
  · rw [s4 _ _ z2, fm_take ho, e]
    simp
end Lm

set_option Elab.async false
set_option linter.all false
set_option maxRecDepth 100000
set_option maxHeartbeats 4000000
namespace Lm
open PySem PySem.Spec PyProof.Rows L2
/-- o.m(e, ..), what m raises wished for at the slots -/
def tMethE (C : Addr) (m : Str) (sp : Sp) (E : L2.St → XK) (ta : TE) (t : TA) : TE := fun σ H Q => ta σ H fun x H1 => ∃ a dx fs, x = .ref a ∧ H1 a = some (.ins C dx fs) ∧ fs.lookup m = none ∧ t σ H1 fun vs H2 => sp (x :: vs) H2 Q (E σ)
/-- o(e, ..), o an instance of C -/
def tCallE (C : Addr) (sp : Sp) (E : L2.St → XK) (tf : TE) (t : TA) : TE := fun σ H Q => tf σ H fun y H1 => ∃ a, y = V.ref a ∧ t σ H1 fun vs H2 => (∃ dx fs, H2 a = some (.ins C dx fs)) ∧ sp (V.ref a :: vs) H2 Q (E σ)
section
variable {X : Cx} {CX : CXT} {k : Nat} {f C g : Addr} {fd : FuncData} {ps : List Str} {sp : Sp} {E : L2.St → XK} {m : Str} {apos pos : Pos} {o e fe : Expr} {es : List Expr} {ta tf : TE} {t : TA}
theorem pe_methE {pl : Sem Bool} (he : PE X o ta) (c : Cls X.K C) (hm : Meth X.K C m f) (F : FnOk X.prog X.w X.K X.mg X.base CX k f fd ps sp) (hr : Room k X.A) (hb : Binds X.K fd ps []) (hx : ∀ σ, PassesAt CX X σ (E σ)) (ha : PA X (e :: es) t)
    (hst : starEach (e :: es) X.env = (false, eval e X.env) :: starEach es X.env := by rfl) (hpl : (backTo pos (starEach es X.env)).any (·.1) = false := by rfl)
    (ht : eval (.Call (.Attribute o m apos) (e :: es) [] pos) X.env = (do
      let ov ← eval o X.env
      standAt apos.atName
      let (f, first) ← holding [ov] (getMethod ov m pl)
      callWith pos f first (backTo pos (starEach (e :: es) X.env)) (backToKw pos (keywordEach [] X.env))) := by rfl) :
    PE X (.Call (.Attribute o m apos) (e :: es) [] pos) (tMethE C m sp E ta t) := by
  refine ⟨fun pins s σ H Q I h => ?_⟩
  refine PySem.W.methodCall_KW (pl := pl) (thn (he.run pins s σ H _ I h) fun u s1 ⟨x, H1, I1, rx, a, dx, fs, ex, ea, l, q⟩ => ?_) ht
  subst ex
  obtain rfl : u = Value.ref a := rx
  refine getmeth_ok I1 ea c hm l ?_
  refine PySem.W.callWith_K (first := [.ref a]) (h₀ := X.base) I.ok.mod.kin hm.kp (thn (ha.run pos pins s1 σ H1 _ I1 q) fun us s2 ⟨vs, H2, I2, r, q2⟩ => ⟨I2.kIn, ?_⟩) hst hpl
  exact run_fnS (us := .ref a :: us) (vs := .ref a :: vs) F hr hb (hx σ) I2 (.cons rfl r) q2
theorem pe_callE (hf : PE X fe tf) (c : StX.CallO X.K C g) (F : FnOk X.prog X.w X.K X.mg X.base CX k g fd ps sp) (hr : Room k X.A) (hb : Binds X.K fd ps []) (hx : ∀ σ, PassesAt CX X σ (E σ)) (ha : PA X (e :: es) t)
    (ht : eval (.Call fe (e :: es) [] pos) X.env = (do callWith pos (← eval fe X.env) [] (backTo pos (starEach (e :: es) X.env)) (backToKw pos (keywordEach [] X.env))) := by rfl)
    (he : starEach (e :: es) X.env = (false, eval e X.env) :: starEach es X.env := by rfl) (hpl : (backTo pos (starEach es X.env)).any (·.1) = false := by rfl) : PE X (.Call fe (e :: es) [] pos) (tCallE C sp E tf t) := by
  refine ⟨fun pins s σ H Q I h => ?_⟩
  refine Call_ (thn (hf.run pins s σ H _ I h) fun u s1 ⟨y, H1, I1, ry, a, ey, q⟩ => ?_) ht
  subst ey
  obtain rfl : u = Value.ref a := ry
  refine StX.callO_with (thn (ha.run pos pins s1 σ H1 _ I1 q) fun us s2 ⟨vs, H2, I2, r, hi, q2⟩ => ?_) he hpl
  obtain ⟨ox, od, J, hd⟩ := StX.insC_at I2 (.inr hi)
  refine ⟨⟨C, ox, od, J, hd⟩, ?_⟩
  have r2 : Vals (V.ref a :: vs) (Value.ref a :: us) := .cons rfl r
  have hl : (Value.ref a :: us).length = ps.length := (r2.length).symm.trans (F.len _ _ _ _ q2)
  have b := hb _ (Value.ref a :: us) I2.kIn (by simpa using hl)
  rw [List.append_nil] at b
  refine wpAny_call (PySem.W.kco_code I2.kIn J hd c.at_ c.fn c.fi (codeAny_mono (F.run X.A X.stack s2 H2 ⟨Value.ref a :: us, []⟩ _ _ _ (E σ) hr I2.env0 b r2 q2) fun z s' y => ?_))
  cases z with
  | error er => exact hx σ pins _ _ er s' I2 y
  | ok fl => cases fl with
    | ret u => exact I2.after y
    | next => exact y.elim
    | brk => exact y.elim
    | cont => exact y.elim
end
/-! ### displays at places that are not the modules' dict -/
section
variable {X : Cx} {es : List Expr} {t : TA} {pos : Pos}
def tTupN (t : TA) : TE := fun σ H Q => t σ H fun xs H1 => xs.length ≤ sizeLine ∧ ∀ p, H1 p = none → p ≠ sysModules → Q (.ref p) (upd H1 p (.tup xs))
def tLstN (t : TA) : TE := fun σ H Q => t σ H fun xs H1 => xs.length ≤ sizeLine ∧ ∀ p, H1 p = none → p ≠ sysModules → Q (.ref p) (upd H1 p (.lst xs))
theorem pe_tupN {x1} (h : PA X es t) : PE X (.Tuple es x1 pos) (tTupN t) := by
  refine ⟨fun pins s σ H Q I hq => ?_⟩
  refine wpAny_Tuple_spliced (thn (h.run pos pins s σ H _ I hq) fun us s1 ⟨xs, H1, I1, r, z, q⟩ => ⟨by rw [← r.length]; exact z, ?_⟩)
  have hf : H1 s1.heap.objs.size = none := I1.hok.fresh (Nat.le_refl _)
  refine ⟨.ref s1.heap.objs.size, upd H1 s1.heap.objs.size (.tup xs), I1.laid (t' := s1.toks) (fun b u e => Heap.get?_push_of_some _ e) (Nat.le_refl _) ?_, rfl, q _ hf (Nat.ne_of_gt I1.big)⟩
  exact ⟨z, us, r, ⟨_, Heap.get?_push_size _ rfl, rfl, _, rfl⟩⟩
theorem pe_lstN (h : PA X es t) : PE X (.List es pos) (tLstN t) := by
  refine ⟨fun pins s σ H Q I hq => ?_⟩
  refine wpAny_List_spliced (thn (h.run pos pins s σ H _ I hq) fun us s1 ⟨xs, H1, I1, r, z, q⟩ => ⟨by rw [← r.length]; exact z, ?_⟩)
  have hf : H1 s1.heap.objs.size = none := I1.hok.fresh (Nat.le_refl _)
  refine ⟨.ref s1.heap.objs.size, upd H1 s1.heap.objs.size (.lst xs), I1.laid (t' := s1.toks) (fun b u e => Heap.get?_push_of_some _ e) (Nat.le_refl _) ?_, rfl, q _ hf (Nat.ne_of_gt I1.big)⟩
  exact ⟨z, us, 0, r, Heap.get?_push_size _ rfl⟩
end
/-! ### data with an empty dict in it -/
mutual
inductive DE (N : Addr → Prop) (H : Hp) : V → PyData → Prop
  | non : DE N H .non .none
  | bl (b : Bool) : DE N H (.bl b) (.bool b)
  | int (i : Int) : DE N H (.int i) (.int i)
  | str (x : Str) : DE N H (.str x) (.str x)
  | lst {a : Addr} {xs : List V} {ds : List PyData} : N a → H a = some (.lst xs) → DEs N H xs ds → DE N H (.ref a) (.list ds)
  | tup {a : Addr} {xs : List V} {ds : List PyData} : H a = some (.tup xs) → DEs N H xs ds → DE N H (.ref a) (.tuple ds)
  | emp {a : Addr} : H a = some (.dK []) → DE N H (.ref a) (.dict [])
inductive DEs (N : Addr → Prop) (H : Hp) : List V → List PyData → Prop
  | nil : DEs N H [] []
  | cons {v : V} {vs : List V} {d : PyData} {ds : List PyData} : DE N H v d → DEs N H vs ds → DEs N H (v :: vs) (d :: ds)
end
/-- off the modules' dict -/
abbrev Off : Addr → Prop := fun a => a ≠ sysModules
mutual
theorem DE.same {N : Addr → Prop} {H H' : Hp} (s : ∀ b o, H b = some o → H' b = some o) : ∀ {d : PyData} {v : V}, DE N H v d → DE N H' v d
  | .none, _, h => by cases h; exact .non
  | .bool b, _, h => by cases h; exact .bl b
  | .int i, _, h => by cases h; exact .int i
  | .str x, _, h => by cases h; exact .str x
  | .list ds, _, h => by cases h with | lst n e q => exact .lst n (s _ _ e) (DEs.same s q)
  | .tuple ds, _, h => by cases h with | tup e q => exact .tup (s _ _ e) (DEs.same s q)
  | .dict [], _, h => by cases h with | emp e => exact .emp (s _ _ e)
  | .dict (_ :: _), _, h => by cases h
theorem DEs.same {N : Addr → Prop} {H H' : Hp} (s : ∀ b o, H b = some o → H' b = some o) : ∀ {ds : List PyData} {vs : List V}, DEs N H vs ds → DEs N H' vs ds
  | [], _, h => by cases h; exact .nil
  | d :: ds, _, h => by cases h with | cons h1 h2 => exact .cons (DE.same s h1) (DEs.same s h2)
end
section
variable {X : Cx} {pins : List (Addr × Obj)} {σ : L2.St} {H : Hp} {s : Shared}
mutual
theorem DE.reads (I : Inv X pins σ H s) : ∀ (d : PyData) (v : V) (u : Value), DE Off H v d → RelV v u → ∃ as, Reads s.heap u d as ∧ sysModules ∉ as
  | .none, _, _, h, r => by
    cases h
    cases r
    exact ⟨_, Reads.none, by simp⟩
  | .bool b, _, _, h, r => by
    cases h
    cases r
    exact ⟨_, Reads.bool b, by simp⟩
  | .int i, _, _, h, r => by
    cases h
    obtain ⟨t, rfl⟩ := r
    exact ⟨_, Reads.int i t, by simp⟩
  | .str x, _, _, h, r => by
    cases h
    obtain ⟨t, rfl⟩ := r
    exact ⟨_, Reads.str x t, by simp⟩
  | .list ds, _, _, h, r => by
    cases h with
    | lst n hs ha =>
      cases r
      obtain ⟨its, rv, ⟨o, m, ho, hc, _, hd⟩, _⟩ := I.list (SqL.of hs)
      obtain ⟨as, hr, no⟩ := DE.readsAll I ds _ its ha rv
      exact ⟨_, Reads.list ho hc hd hr, by simpa using ⟨Ne.symm n, no⟩⟩
  | .tuple ds, _, _, h, r => by
    cases h with
    | tup hs ha =>
      cases r
      obtain ⟨its, rv, ⟨o, ho, hc, m, hd⟩, _⟩ := I.tuple (SqT.of hs)
      obtain ⟨as, hr, no⟩ := DE.readsAll I ds _ its ha rv
      exact ⟨_, Reads.tuple ho hc hd hr, by simpa using no⟩
  | .dict [], _, _, h, r => by
    cases h with
    | @emp a hE =>
      cases r
      obtain ⟨_, hsys, vs, rel, o, es, ep, ho, hx, hd, _, hp, _⟩ := dk_of I.hok hE
      have e0 : es.toList = [] := by
        have l := hp.length
        cases rel
        exact List.eq_nil_of_length_eq_zero (by simpa using l)
      refine ⟨a :: [] ++ [], .dict ho hx.1 hd (by rw [e0]; exact .nil) (by rw [e0]; exact .nil), fun hm => ?_⟩
      have e1 : sysModules = a := by simpa using hm
      rw [e1] at hsys
      simp at hsys
  | .dict (_ :: _), _, _, h, _ => by cases h
theorem DE.readsAll (I : Inv X pins σ H s) : ∀ (ds : List PyData) (vs : List V) (us : List Value), DEs Off H vs ds → Vals vs us → ∃ as, ReadsAll s.heap us ds as ∧ sysModules ∉ as
  | [], _, _, h, r => by
    cases h
    cases r
    exact ⟨_, ReadsAll.nil, by simp⟩
  | d :: ds, _, _, h, r => by
    cases h with
    | cons h1 h2 =>
      cases r with
      | cons r1 r2 =>
        obtain ⟨as, q1, n1⟩ := DE.reads I d _ _ h1 r1
        obtain ⟨bs, q2, n2⟩ := DE.readsAll I ds _ _ h2 r2
        exact ⟨_, ReadsAll.cons q1 q2, by simpa using ⟨n1, n2⟩⟩
end
end
/-- repr of such data -/
def rReprD : List V → Hp → VK → Prop := fun xs H Q => ∃ x d, xs = [x] ∧ DE Off H x d ∧ d.showable = true ∧ d.depth ≤ 60 ∧ d.shown.length ≤ sizeLine ∧ Q (.str d.shown) H
section
variable {X : Cx}
theorem call_reprD (hg : X.A.guards = some []) (hu : X.A.units + 64 < cLine) : CallR X (.builtin "repr") rReprD := by
  intro pins s σ H xs us Q I r h
  obtain ⟨x, d, rfl, hS, hs, hd, hz, q⟩ := h
  obtain ⟨u, rfl, ru⟩ := vals1 r
  cases hS with
  | non =>
    obtain rfl : u = Value.none := ru
    exact PySem.P.repr_of_none ⟨.str _, H, I.tok _, ⟨_, rfl⟩, q⟩
  | bl b =>
    obtain rfl : u = Value.bool b := ru
    exact PySem.P.repr_of_bool ⟨.str _, H, I.tok _, ⟨_, rfl⟩, q⟩
  | int i =>
    obtain ⟨tk, rfl⟩ := (show ∃ t, u = Value.int i t from ru)
    exact PySem.P.repr_of_int (by simpa [PyData.showable] using hs) ⟨.str _, H, I.tok _, ⟨_, rfl⟩, q⟩
  | str z =>
    obtain ⟨tk, rfl⟩ := (show ∃ t, u = Value.str z t from ru)
    exact PySem.P.repr_of_str (h := ⟨.str _, H, I.tok _, ⟨_, rfl⟩, q⟩) hz
  | @lst a xs ds n e l =>
    obtain rfl : u = Value.ref a := ru
    obtain ⟨as, rd, no⟩ := DE.reads I _ _ _ (.lst n e l) rfl
    exact repr_of_reads' rd hs (fun _ => no) hg (by omega) (fun _ _ e => e) (fun h' u tk hk => ⟨.str _, H, I.kept hk, ⟨_, rfl⟩, q⟩) hz
  | @tup a xs ds e l =>
    obtain rfl : u = Value.ref a := ru
    obtain ⟨as, rd, no⟩ := DE.reads I _ _ _ (.tup e l) rfl
    exact repr_of_reads' rd hs (fun _ => no) hg (by omega) (fun _ _ e => e) (fun h' u tk hk => ⟨.str _, H, I.kept hk, ⟨_, rfl⟩, q⟩) hz
  | @emp a e =>
    obtain rfl : u = Value.ref a := ru
    obtain ⟨as, rd, no⟩ := DE.reads I _ _ _ (.emp e) rfl
    exact repr_of_reads' rd hs (fun _ => no) hg (by omega) (fun _ _ e => e) (fun h' u tk hk => ⟨.str _, H, I.kept hk, ⟨_, rfl⟩, q⟩) hz
end
/-! ### isinstance of data -/
def tyD : PyData → String
  | .none => "NoneType"
  | .bool _ => "bool"
  | .int _ => "int"
  | .str _ => "str"
  | .list _ => "list"
  | .tuple _ => "tuple"
  | .dict _ => "dict"
theorem DE.ty {N : Addr → Prop} {K : PySem.W.Frag} {H : Hp} {v : V} {d : PyData} (h : DE N H v d) : TyX K H v (.type (tyD d)) := by
  cases h with
  | non => exact .base .non
  | bl b => exact .base (.bl b)
  | int i => exact .base (.int i)
  | str x => exact .base (.str x)
  | lst n e q => exact .base (.lst e)
  | tup e q => exact .base (.tup e)
  | emp e => exact .base (.dK e)
theorem ty_int {K : PySem.W.Frag} (d : PyData) : PySem.W.kitOne K (.type (tyD d)) (.type "int") = some (match d with | .int _ => true | .bool _ => true | _ => false) := by
  cases d with
  | none => exact kit_ty (show kitB "NoneType" "int" = some false by decide +kernel)
  | bool _ => exact kit_ty (show kitB "bool" "int" = some true by decide +kernel)
  | int _ => exact kit_ty (show kitB "int" "int" = some true by decide +kernel)
  | str _ => exact kit_ty (show kitB "str" "int" = some false by decide +kernel)
  | list _ => exact kit_ty (show kitB "list" "int" = some false by decide +kernel)
  | tuple _ => exact kit_ty (show kitB "tuple" "int" = some false by decide +kernel)
  | dict _ => exact kit_ty (show kitB "dict" "int" = some false by decide +kernel)
theorem ty_bool {K : PySem.W.Frag} (d : PyData) : PySem.W.kitOne K (.type (tyD d)) (.type "bool") = some (match d with | .bool _ => true | _ => false) := by
  cases d with
  | none => exact kit_ty (show kitB "NoneType" "bool" = some false by decide +kernel)
  | bool _ => exact kit_ty (show kitB "bool" "bool" = some true by decide +kernel)
  | int _ => exact kit_ty (show kitB "int" "bool" = some false by decide +kernel)
  | str _ => exact kit_ty (show kitB "str" "bool" = some false by decide +kernel)
  | list _ => exact kit_ty (show kitB "list" "bool" = some false by decide +kernel)
  | tuple _ => exact kit_ty (show kitB "tuple" "bool" = some false by decide +kernel)
  | dict _ => exact kit_ty (show kitB "dict" "bool" = some false by decide +kernel)
theorem ty_list {K : PySem.W.Frag} (d : PyData) : PySem.W.kitOne K (.type (tyD d)) (.type "list") = some (match d with | .list _ => true | _ => false) := by
  cases d with
  | none => exact kit_ty (show kitB "NoneType" "list" = some false by decide +kernel)
  | bool _ => exact kit_ty (show kitB "bool" "list" = some false by decide +kernel)
  | int _ => exact kit_ty (show kitB "int" "list" = some false by decide +kernel)
  | str _ => exact kit_ty (show kitB "str" "list" = some false by decide +kernel)
  | list _ => exact kit_ty (show kitB "list" "list" = some true by decide +kernel)
  | tuple _ => exact kit_ty (show kitB "tuple" "list" = some false by decide +kernel)
  | dict _ => exact kit_ty (show kitB "dict" "list" = some false by decide +kernel)
theorem ty_tuple {K : PySem.W.Frag} (d : PyData) : PySem.W.kitOne K (.type (tyD d)) (.type "tuple") = some (match d with | .tuple _ => true | _ => false) := by
  cases d with
  | none => exact kit_ty (show kitB "NoneType" "tuple" = some false by decide +kernel)
  | bool _ => exact kit_ty (show kitB "bool" "tuple" = some false by decide +kernel)
  | int _ => exact kit_ty (show kitB "int" "tuple" = some false by decide +kernel)
  | str _ => exact kit_ty (show kitB "str" "tuple" = some false by decide +kernel)
  | list _ => exact kit_ty (show kitB "list" "tuple" = some false by decide +kernel)
  | tuple _ => exact kit_ty (show kitB "tuple" "tuple" = some true by decide +kernel)
  | dict _ => exact kit_ty (show kitB "dict" "tuple" = some false by decide +kernel)
end Lm

set_option Elab.async false
set_option linter.all false
set_option maxRecDepth 100000
set_option maxHeartbeats 4000000
namespace Lm
open PySem PySem.Spec PyProof.Rows L2
/-! ### displays of data -/
mutual
def okSz : PyData → Bool
  | .list ds => decide (ds.length ≤ 1000) && okSzs ds
  | .tuple ds => decide (ds.length ≤ 1000) && okSzs ds
  | _ => true
def okSzs : List PyData → Bool
  | [] => true
  | d :: ds => okSz d && okSzs ds
end
def tDat (d : PyData) : TE := fun _ H Q => okSz d = true ∧ ∀ v H', Same H H' → DE Off H' v d → Q v H'
def tDats (ds : List PyData) : TA := fun _ H Q => okSzs ds = true ∧ ∀ vs H', Same H H' → DEs Off H' vs ds → Q vs H'
theorem DEs.len {N : Addr → Prop} {H : Hp} : ∀ {ds : List PyData} {vs : List V}, DEs N H vs ds → vs.length = ds.length
  | [], _, h => by cases h; rfl
  | d :: ds, _, h => by
    cases h with
    | cons h1 h2 => simp [DEs.len h2]
section
variable {X : Cx} {e : Expr} {es : List Expr} {t t' : TE} {u u' : TA} {d : PyData} {ds : List PyData} {pos : Pos}
theorem pe_weak (h : PE X e t) (w : ∀ σ H Q, t' σ H Q → t σ H Q) : PE X e t' := ⟨fun pins s σ H Q I q => h.run pins s σ H Q I (w σ H Q q)⟩
theorem pa_weak (h : PA X es u) (w : ∀ σ H Q, u' σ H Q → u σ H Q) : PA X es u' := ⟨fun pos pins s σ H Q I q => h.run pos pins s σ H Q I (w σ H Q q)⟩
theorem dat_non {j} : PE X (.Constant .none j pos) (tDat .none) := pe_weak pe_non fun σ H Q h => h.2 _ _ (Same.refl _) .non
theorem dat_bl {b j} : PE X (.Constant (.bool b) j pos) (tDat (.bool b)) := pe_weak pe_bl fun σ H Q h => h.2 _ _ (Same.refl _) (.bl b)
theorem dat_int {i j} : PE X (.Constant (.int i) j pos) (tDat (.int i)) := pe_weak pe_int fun σ H Q h => h.2 _ _ (Same.refl _) (.int i)
theorem dat_str {x j} : PE X (.Constant (.str x) j pos) (tDat (.str x)) := pe_weak pe_str fun σ H Q h => h.2 _ _ (Same.refl _) (.str x)
theorem dat_neg {i j pos'} : PE X (.UnaryOp .USub (.Constant (.int i) j pos') pos) (tDat (.int (-i))) := pe_weak (pe_un un_neg pe_int) fun σ H Q h => ⟨_, rfl, h.2 _ _ (Same.refl _) (.int (-i))⟩
theorem dat_emp : PE X (.Dict [] [] pos) (tDat (.dict [])) := pe_weak pe_dnewK fun σ H Q h p hp => h.2 _ _ (same_new hp) (.emp upd_same)
theorem dats_nil : PA X [] (tDats []) := pa_weak pa_nil fun σ H Q h => h.2 _ _ (Same.refl _) .nil
theorem dat_lst (h : PA X es (tDats ds)) : PE X (.List es pos) (tDat (.list ds)) := pe_weak (pe_lstN h) fun σ H Q q => by
  obtain ⟨q1, q⟩ := q
  have q2 := Bool.and_eq_true_iff.mp (show (decide (ds.length ≤ 1000) && okSzs ds) = true from q1)
  refine ⟨q2.2, fun vs H' s hd => ⟨?_, fun p hp off => q _ _ (s.trans (same_new hp)) (.lst off upd_same (hd.same (same_new hp)))⟩⟩
  rw [DEs.len hd, sizeLine_eq]
  exact Nat.le_trans (of_decide_eq_true q2.1) (by decide)
theorem dat_tup (h : PA X es (tDats ds)) {x1} : PE X (.Tuple es x1 pos) (tDat (.tuple ds)) := pe_weak (pe_tup h) fun σ H Q q => by
  obtain ⟨q1, q⟩ := q
  have q2 := Bool.and_eq_true_iff.mp (show (decide (ds.length ≤ 1000) && okSzs ds) = true from q1)
  refine ⟨q2.2, fun vs H' s hd => ⟨?_, fun p hp => q _ _ (s.trans (same_new hp)) (.tup upd_same (hd.same (same_new hp)))⟩⟩
  rw [DEs.len hd, sizeLine_eq]
  exact Nat.le_trans (of_decide_eq_true q2.1) (by decide)
theorem dats_cons (h : PE X e (tDat d)) (hs : PA X es (tDats ds)) (he : starEach (e :: es) X.env = (false, eval e X.env) :: starEach es X.env := by rfl) : PA X (e :: es) (tDats (d :: ds)) := pa_weak (pa_cons h hs he) fun σ H Q q => by
  obtain ⟨q1, q⟩ := q
  have q2 := Bool.and_eq_true_iff.mp (show (okSz d && okSzs ds) = true from q1)
  exact ⟨q2.1, fun v H1 s1 h1 => ⟨q2.2, fun vs H2 s2 h2 => q _ _ (s1.trans s2) (.cons (h1.same s2) h2)⟩⟩
end
section
variable {X : Cx} {CX : CXT} {k : Nat} {f : Addr} {fd : FuncData} {ps : List Str} {sp : Sp} {E : XK} {x : Str} {p pos : Pos}
/-- f() -/
theorem pe_callG0 (G : FnG X.prog X.w X.K X.mg X.base CX k f fd ps sp) (hgd : X.A.guards = some []) (hr : Room k X.A) (hg : Gl X x) (hm : X.mg x = some (.ref f)) (hk : PySem.W.keepIn X.K (.ref f) = true) (hb : Binds X.K fd ps [])
    (hx : Passes CX X E) (hdb : (x == ("__debug__" : Str)) = false := by decide) : PE X (.Call (.Name x p) [] [] pos) (tCall sp [] E tNil) := by
  refine ⟨fun pins s σ H Q I h => ?_⟩
  refine wpAny_Call_Name_kw (ld_glob I hg hm ?_ hdb)
  refine PySem.W.callWith_K0 I.kIn hk ?_
  have q : sp [] H Q E := h
  have hl : ([] : List Value).length = ps.length := G.many _ _ _ _ q
  have b := hb s [] I.kIn (by simpa using hl)
  rw [List.append_nil] at b
  refine wpAny_call (codeAny_mono (G.goes X.A X.stack s H [] [] Q E hgd hr I.env0 b .nil q) fun z s' y => ?_)
  cases z with
  | error er => exact hx pins σ H s er s' I y
  | ok fl => cases fl with
    | ret v => exact I.after y
    | next => exact y.elim
    | brk => exact y.elim
    | cont => exact y.elim
end
/-! ### data without dicts, as the layer has it -/
mutual
theorem DE.dp {N : Addr → Prop} {K : PySem.W.Frag} {H : Hp} : ∀ {d : PyData} {v : V}, DE N H v d → d.canLay0 = true → Dp K H v d
  | .none, _, h, _ => by cases h; exact .non
  | .bool b, _, h, _ => by cases h; exact .bl b
  | .int i, _, h, _ => by cases h; exact .int i
  | .str x, _, h, _ => by cases h; exact .str x
  | .list ds, _, h, c => by cases h with | lst n e q => exact .lst (SqL.of e) (DEs.dp q c)
  | .tuple ds, _, h, c => by cases h with | tup e q => exact .tup (SqT.of e) (DEs.dp q c)
  | .dict _, _, _, c => by cases c
theorem DEs.dp {N : Addr → Prop} {K : PySem.W.Frag} {H : Hp} : ∀ {ds : List PyData} {vs : List V}, DEs N H vs ds → PyData.canLayAll0 ds = true → DpAll K H vs ds
  | [], _, h, _ => by cases h; exact .nil
  | d :: ds, _, h, c => by
    have c2 := Bool.and_eq_true_iff.mp (show (d.canLay0 && PyData.canLayAll0 ds) = true from c)
    cases h with | cons h1 h2 => exact .cons (DE.dp h1 c2.1) (DEs.dp h2 c2.2)
end
end Lm

set_option Elab.async false
set_option linter.all false
set_option maxRecDepth 100000
set_option maxHeartbeats 4000000
namespace Lm
open PySem PySem.Spec PyProof.Rows L2
/-! ### own exceptions as values: made (not raised), and what they hold -/
def tMkV (C : Addr) (sp : Sp) (ta : TA) : TE := fun σ H Q => ta σ H fun vs H1 => vs.length ≤ 1000 ∧ ∀ a, H1 a = none → sp (.ref a :: vs) (upd H1 a (exo a C none)) (fun v H2 => v = .non ∧ Q (.ref a) H2) (fun _ _ _ => False)
section
variable {X : Cx} {e : Expr} {es : List Expr} {ta : TA} {te : TE} {p pos : Pos}
theorem pe_exv {CX : CXT} {x : Str} {C fI : Addr} {k : Nat} {fd : FuncData} {ps : List Str} {sp : Sp} (T : OexC X.K C) (iC : PySem.W.findIn X.K (.ref C) "__init__" = some (some (.ref fI))) (tI : PySem.W.typeIn X.K (.ref fI) = some (.type "function"))
    (F1 : FnOk X.prog X.w X.K X.mg X.base CX k fI fd ps sp) (hr : Room (k + 1) X.A) (hb : Binds X.K fd ps []) (hx : Passes CX X (fun _ _ _ => False)) (hg : Gl X x) (hm : X.mg x = some (.ref C)) (ha : PA X (e :: es) ta)
    (hdb : (x == ("__debug__" : Str)) = false := by decide) (he : starEach (e :: es) X.env = (false, eval e X.env) :: starEach es X.env := by rfl) (hpl : (backTo pos (starEach es X.env)).any (·.1) = false := by rfl) :
    PE X (.Call (.Name x p) (e :: es) [] pos) (tMkV C sp ta) := by
  refine ⟨fun pins s σ H Q I h => ?_⟩
  obtain ⟨nm, q, N, bs, bm, sn, sub, ab, col, dd, k0, k1, k2, k3, k5, hC, hbm⟩ := T.cls
  refine wpAny_Call_Name_kw (ld_glob I hg hm ?_ hdb)
  refine PySem.W.callWith_K (h₀ := X.base) I.ok.mod.kin T.kC (thn (ha.run pos pins s σ H _ I h) fun us s1 ⟨vs, H1, I1, r1, hz, q1⟩ => ⟨I1.kIn, ?_⟩) he hpl
  show wpAny _ _ (call (.ref C) us) _ _ _
  obtain ⟨hp, g, dr, tk, os⟩ := s1
  have hsz : hp.objs.size ≤ hp.objs.size + 1 := Nat.le_succ _
  have hn : H1 (hp.objs.size + 1) = none := I1.hok.fresh hsz
  have hq := q1 (hp.objs.size + 1) hn
  have kk : ∀ b o, hp.get? b = some o → ((hp.push (PySem.W.kdv_tup us)).push (PySem.HandSPX.excO C hp.objs.size)).get? b = some o := fun b o e => Heap.get?_push_of_some _ (Heap.get?_push_of_some _ e)
  have hget : ((hp.push (PySem.W.kdv_tup us)).push (PySem.HandSPX.excO C hp.objs.size)).get? (hp.objs.size + 1) = some (PySem.HandSPX.excO C hp.objs.size) := by heap_get
  have I2 : Inv X pins σ (upd H1 (hp.objs.size + 1) (exo (hp.objs.size + 1) C none)) ⟨(hp.push (PySem.W.kdv_tup us)).push (PySem.HandSPX.excO C hp.objs.size), g, dr, tk, os⟩ :=
    I1.laid (t' := tk) (a := hp.objs.size + 1) (o := exo (hp.objs.size + 1) C none) (h' := (hp.push (PySem.W.kdv_tup us)).push (PySem.HandSPX.excO C hp.objs.size)) kk hsz (exo_ok hget)
  have r2 : Vals (V.ref (hp.objs.size + 1) :: vs) (Value.ref (hp.objs.size + 1) :: us) := .cons rfl r1
  have hl : (Value.ref (hp.objs.size + 1) :: us).length = ps.length := by
    have e := r2.length
    rw [F1.len _ _ _ _ hq] at e
    exact e.symm
  have hus : us.length ≤ sizeLine := by
    rw [← Paired.length r1, sizeLine_eq]
    omega
  have b := hb _ (Value.ref (hp.objs.size + 1) :: us) I2.kIn (by simpa using hl)
  rw [List.append_nil] at b
  refine wpAny_call (PySem.HandSPX.call_own F.excBase_ValueError (fun Y => PySem.HandSPX.refsVE_contains Y bm hbm) (I1.kIn _ _ hC) (PySem.W.looks_findIn I1.kIn iC) (fun self => PySem.W.bind_fn I1.kIn self tI) hus
    (codeAny_mono (F1.run _ X.stack _ _ ⟨Value.ref (hp.objs.size + 1) :: us, []⟩ (Value.ref (hp.objs.size + 1) :: us) _ _ (fun _ _ _ => False) (hr.make C us []) (I2.env0.make C us []) b r2 hq) fun r s' hq' => ?_))
  cases r with
  | error er => exact hx pins σ _ _ er s' I2 hq'
  | ok fl =>
    cases fl with
    | ret u =>
      obtain ⟨v, H', I3, rv, ev, q3⟩ := I2.after hq'
      subst ev
      exact ⟨rv, ⟨V.ref (hp.objs.size + 1), H', I3, rfl, q3⟩⟩
    | next => exact False.elim hq'
    | brk => exact False.elim hq'
    | cont => exact False.elim hq'
/-- e.n, e an own exception that was made -/
def tXv (K : PySem.W.Frag) (n : Str) (te : TE) : TE := fun σ H Q => te σ H fun x H1 => ∃ (a C dd : Addr) (fs : List (Str × V)) (v : V), x = .ref a ∧ H1 a = some (exo a C (some dd)) ∧ XfC K C ∧ PySem.W.findIn K (.ref C) n = some none ∧ H1 dd = some (exd dd fs) ∧ fs.lookup n = some v ∧ Q v H1
theorem pe_xv {n : Str} (he : PE X e te) (hb : attributeBase e n X.env (eval e X.env) = eval e X.env := by rfl) : PE X (.Attribute e n pos) (tXv X.K n te) := by
  refine ⟨fun pins s σ H Q I h => ?_⟩
  refine attr_of hb (thn (he.run pins s σ H _ I h) fun u s1 hh => ?_)
  obtain ⟨x, H1, I1, rx, a, C, dd, fs, v, ex, ha, T, hno, ea, l, q⟩ := hh
  subst ex
  obtain rfl : u = Value.ref a := rx
  obtain ⟨t1, hget⟩ := exo_at I1.hok ha
  have hx : ObjOk X.prog X.w H1 s1.heap dd (exd dd fs) := I1.hok dd _ ea
  obtain ⟨⟨mA, hns, hr⟩, _⟩ := hx
  obtain ⟨od, ho, hl⟩ := lookIn_ns hns
  obtain ⟨u, hu, ru⟩ := RelO.some_of (v := v) (o := mA n) (by rw [← l]; exact hr n)
  have J : PySem.W.InstAt s1.heap a ({ cls := .ref C, dict := some dd, data := .fields #[.ref t1, .none, .none, .none, .bool false, .none] } : Obj) C (some od) := ⟨hget, rfl, rfl, ho⟩
  exact HandSPX.exc_get I1.kIn J T.ga T.gg T.exC (PySem.W.findObj_own T.hdC hno rfl (by rw [hl, hu])) (handed_of ru) ⟨v, H1, I1.tok _, ru, q⟩
end
end Lm

set_option Elab.async false
set_option linter.all false
set_option maxRecDepth 100000
set_option maxHeartbeats 4000000
namespace Lm
open PySem PySem.Spec PyProof.Rows L2
/-- isinstance(e, c), e an own exception that was made -/
def rIsV (K : PySem.W.Frag) : List V → Hp → VK → Prop := fun xs H Q => ∃ (a D dd : Addr) (fs : List (Str × V)) (c : V) (cv : Value) (b : Bool), xs = [.ref a, c] ∧ H a = some (exo a D (some dd)) ∧ H dd = some (exd dd fs) ∧ ExcC K D ∧ ClsV c cv ∧ PySem.W.kitOne K (.ref D) cv = some b ∧ Q (.bl b) H
theorem call_isV {X : Cx} : CallR X (.builtin "isinstance") (rIsV X.K) := by
  intro pins s σ H xs us Q I r h
  obtain ⟨a, D, dd, fs, c, cv, b, rfl, ha, hd, C, hcv, e, q⟩ := h
  cases r with
  | cons rx rr =>
    cases rr with
    | cons rt rr =>
      cases rr
      cases rx
      obtain rfl := hcv.eq rt
      obtain ⟨t1, hget⟩ := exo_at I.hok ha
      have hx : ObjOk X.prog X.w H s.heap dd (exd dd fs) := I.hok dd _ hd
      obtain ⟨⟨mA, hns, hr⟩, _⟩ := hx
      obtain ⟨od, ho, hl⟩ := lookIn_ns hns
      have J : PySem.W.InstAt s.heap a ({ cls := .ref D, dict := some dd, data := .fields #[.ref t1, .none, .none, .none, .bool false, .none] } : Obj) D (some od) := ⟨hget, rfl, rfl, ho⟩
      have hcl : (PySem.W.clsIn X.K D).isSome = true := by
        obtain ⟨cd, hc, _⟩ := PySem.W.any_some C.hd
        rw [hc]
        rfl
      exact PySem.W.kia_one (PySem.W.kitx_exc hcl C.hg C.hk C.hs C.ha C.hn C.ht C.hm) I.kIn J e (fun z => nomatch z) fun tk => ⟨.bl b, H, I.kept (t' := tk) fun _ _ z => z, rfl, q⟩
end Lm

set_option Elab.async false
set_option linter.all false
set_option maxRecDepth 100000
set_option maxHeartbeats 8000000
namespace PySem.HandSPX
open PySem PySem.Spec PySem.Calls PyProof.Rows Builtin Builtin.ObjectAttr
section
variable {prog : Program} {w : World} {A : Around} {E : Value → Shared → Prop} {R : Result → Shared → Prop} {h : Heap} {g : Array GenState} {d : Drawn} {t : Nat} {os : OsState}
variable {nm q : Str} {C N : Addr} {bs bm bmB : List Value} {hdct : Bool} {sn : List Str} {sub : List Value} {ab : Bool} {col : Option Bool} {dd : Option Addr} {k0 k1 k2 k3 k5 : Option Value} {B newId initId : String} {kn : Str} {kv : Value}
theorem kwNewCheck (F : ExcBaseFacts B newId initId bmB) (hT : ∀ X : String, bm.contains (.type X) = bmB.contains (.type X)) {Q : Unit → Shared → Prop}
    (hC : h.get? C = some (excClassObj nm q C N bs bm hdct sn sub ab col dd k0 k1 k2 k3 k5 newId)) (hq : Q () ⟨h, g, d, t, os⟩) : wpAny (model prog w) A (checkBuiltinCall newId ⟨[.ref C], [(kn, kv)]⟩) Q E ⟨h, g, d, t, os⟩ := by
  have hcont : (Value.ref C :: bm).contains (.type B) = true := by rw [List.contains_cons, hT, F.hasB, Bool.or_true]
  have hstar := F.noStar
  simp only [checkBuiltinCall, F.newKind, F.newSplit, F.newRow]
  repeat (first | refine wpAny_loadPart_at hC ?_ | (refine wpAny_isSubtype_exc hC ?_; rw [hcont]) | refine wpAny_staticBase_exc hC ?_ | refine wpAny_madeBy_exc hC ?_ | simp only [bne_self_eq_false, Bool.false_eq_true, if_false] | wp_step)
  exact hq
theorem kwNew (F : ExcBaseFacts B newId initId bmB) (hT : ∀ X : String, bm.contains (.type X) = bmB.contains (.type X))
    (hC : h.get? C = some (excClassObj nm q C N bs bm hdct sn sub ab col dd k0 k1 k2 k3 k5 newId))
    (hq : R (.ok (.ret (.ref (h.objs.size + 1)))) ⟨(h.push (W.kdv_tup [])).push (excO C h.objs.size), g, d, t, os⟩) :
    codeAny (model prog w) A (.builtin newId ⟨[.ref C], [(kn, kv)]⟩) R ⟨h, g, d, t, os⟩ := by
  have hends := F.ends
  have hcB : (Value.ref C :: bm).contains (.type B) = true := by rw [List.contains_cons, hT, F.hasB, Bool.or_true]
  have hcA : (Value.ref C :: bm).contains (.type "AttributeError") = false := by rw [List.contains_cons, hT, F.noAttr]; rfl
  have hcN : (Value.ref C :: bm).contains (.type "NameError") = false := by rw [List.contains_cons, hT, F.noName]; rfl
  refine codeAny_builtinAt F.entry ?_
  unfold Builtin.«BaseException.__new__»
  refine wpAt_bind ?_
  show wpAt _ _ _ (stack >>= _) _ _ _
  refine wpAt_bind (wpAt_stack fun p below => wpAt_of_wpAny ?_)
  wp_walk
  refine wpAt_of_wpAny ?_
  rw [F.owner]
  repeat (first | with_reducible refine wpAny_madeHere_exc F.canon hC ?_ | with_reducible refine wpAny_loadPart_at hC ?_ | (with_reducible refine wpAny_isSubtype_exc hC ?_; first | rw [hcB] | rw [hcA] | rw [hcN]) | wp_step)
  show R _ _
  rw [Heap.size_push]
  exact hq
theorem kwCallIn (F : ExcBaseFacts B newId initId bmB) (hT : ∀ X : String, bm.contains (.type X) = bmB.contains (.type X)) {fI : Addr} {Q : Fin → Shared → Prop}
    (hC : h.get? C = some (excClassObj nm q C N bs bm hdct sn sub ab col dd k0 k1 k2 k3 k5 newId))
    (hi : W.Looks (model prog w) h (typeLookup (.ref C) "__init__") (some (.ref fI))) (hb : ∀ self, W.Looks (model prog w) h (bindSpecial (.ref fI) self) (.ref fI, [self]))
    (hq : codeAny (model prog w) A (.call (.ref fI) ⟨[.ref (h.objs.size + 1)], [(kn, kv)]⟩)
      (fun r s' => match r with | .ok (.ret v) => v = .none ∧ Q (.done (.ret (.ref (h.objs.size + 1)))) s' | .ok _ => False | .error e => E e s')
      ⟨(h.push (W.kdv_tup [])).push (excO C h.objs.size), g, d, t, os⟩) :
    wpAny (model prog w) A (Builtin.«type.__call__» ⟨[.ref C], [(kn, kv)]⟩) Q E ⟨h, g, d, t, os⟩ := by
  repeat (first | with_reducible refine wpAny_loadPart_at hC ?_ | with_reducible refine wpAny_madeBy_exc hC ?_ | wp_step)
  refine codeAny_call_builtin_code (Code.quiet_builtin _ F.quiet) (kwNewCheck F hT hC ?_)
  refine kwNew F hT hC ?_
  show wpAny _ _ _ _ _ _
  have k : ∀ b o, h.get? b = some o → ((h.push (W.kdv_tup [])).push (excO C h.objs.size)).get? b = some o := fun b o e => Heap.get?_push_of_some _ (Heap.get?_push_of_some _ e)
  have hC₁ := k _ _ hC
  have hget : ((h.push (W.kdv_tup [])).push (excO C h.objs.size)).get? (h.objs.size + 1) = some (excO C h.objs.size) := by heap_get
  have hcC : (Value.ref C :: bm).contains (.ref C) = true := by simp
  have i1 := hi.keeps k
  have b1 := (hb (.ref (h.objs.size + 1))).keeps k
  unfold isInstance
  repeat (first | with_reducible refine wpAny_loadPart_at hget ?_ | (with_reducible refine wpAny_isSubtype_exc hC₁ ?_; rw [hcC]) | wp_step)
  show wpAny _ _ (typeLookup (.ref C) _) _ _ _
  refine i1.at ?_
  refine wpAny_holding (wpAny_bind (b1.at ?_))
  refine wpAny_bind (wpAny_call (codeAny_mono hq fun r s' z => ?_))
  rcases r with e | (v | _ | _ | _) <;> first | exact z | exact z.elim | skip
  obtain ⟨rfl, z⟩ := z
  first
    | exact wpAny_pure (wpAny_pure z)
    | (wp_walk; exact z)
theorem kwCall (F : ExcBaseFacts B newId initId bmB) (hT : ∀ X : String, bm.contains (.type X) = bmB.contains (.type X)) {fI : Addr}
    (hC : h.get? C = some (excClassObj nm q C N bs bm hdct sn sub ab col dd k0 k1 k2 k3 k5 newId))
    (hi : W.Looks (model prog w) h (typeLookup (.ref C) "__init__") (some (.ref fI))) (hb : ∀ self, W.Looks (model prog w) h (bindSpecial (.ref fI) self) (.ref fI, [self]))
    (hq : codeAny (model prog w) (A.under (.builtin "type.__call__" ⟨[.ref C], [(kn, kv)]⟩)) (.call (.ref fI) ⟨[.ref (h.objs.size + 1)], [(kn, kv)]⟩) (W.InitBack (h.objs.size + 1) R)
      ⟨(h.push (W.kdv_tup [])).push (excO C h.objs.size), g, d, t, os⟩) :
    codeAny (model prog w) A (.call (.ref C) ⟨[], [(kn, kv)]⟩) R ⟨h, g, d, t, os⟩ := by
  have f1 := tc_lookup
  have f2 := tc_bind (.ref C)
  have hTy : (⟨h, g, d, t, os⟩ : Shared).TypeIs (.ref C) "type" := ⟨_, hC, rfl⟩
  refine codeAny_of_tree ?_
  show wpAny _ _ (callAny (.ref C) _) _ _ _
  repeat (any_goals (first | assumption | with_reducible refine wpAny_loadPart_at hC ?_ | wp_step))
  refine ⟨rfl, ?_⟩
  refine codeAny_call_builtin_at (Code.quiet_builtin _ (by decide +kernel)) entry_typeCall (wpAny_check_type_call_sub hC (kwCallIn F hT hC hi hb ?_))
  refine codeAny_mono hq fun r s' z => ?_
  rcases r with e | (v | _ | _ | _) <;> exact z
end
end PySem.HandSPX

set_option Elab.async false
set_option linter.all false
set_option maxRecDepth 100000
set_option maxHeartbeats 8000000
namespace Lm
open PySem PySem.Spec PyProof.Rows L2
/-- C(k = e), C an own exception class: the exception made, not raised -/
def tMkVK (C : Addr) (sp : Sp) (tk : TA) : TE := fun σ H Q => tk σ H fun zs H1 => ∃ z, zs = [z] ∧ ∀ a, H1 a = none → sp [.ref a, z] (upd H1 a (exo a C none)) (fun v H2 => v = .non ∧ Q (.ref a) H2) (fun _ _ _ => False)
section
variable {X : Cx} {kws : List Keyword} {tk : TA} {p pos : Pos}
theorem pe_exvK {CX : CXT} {x kn : Str} {C fI : Addr} {k : Nat} {fd : FuncData} {ps : List Str} {sp : Sp} (T : OexC X.K C) (iC : PySem.W.findIn X.K (.ref C) "__init__" = some (some (.ref fI))) (tI : PySem.W.typeIn X.K (.ref fI) = some (.type "function"))
    (F1 : FnOk X.prog X.w X.K X.mg X.base CX k fI fd ps sp) (hr : Room (k + 1) X.A) (hb : ∀ (s : Shared) (self v : Value), X.K.In s.heap → BindsTo s fd ⟨[self], [(kn, v)]⟩ (ps.zip [self, v])) (hx : Passes CX X (fun _ _ _ => False)) (hg : Gl X x) (hm : X.mg x = some (.ref C)) (hkw : PK X kws tk)
    (hks : (backToKw pos (keywordEach kws X.env)).filterMap (·.1) = [kn] := by rfl) (hall : (backToKw pos (keywordEach kws X.env)).all (·.1.isSome) = true := by rfl) (hdb : (x == ("__debug__" : Str)) = false := by decide)
    (hpl : ((backTo pos (starEach [] X.env)).any (·.1) || (backToKw pos (keywordEach kws X.env)).any (·.1.isNone)) = false := by rfl) :
    PE X (.Call (.Name x p) [] kws pos) (tMkVK C sp tk) := by
  refine ⟨fun pins s σ H Q I h => ?_⟩
  obtain ⟨nm, q, N, bs, bm, sn, sub, ab, col, dd, k0, k1, k2, k3, k5, hC, hbm⟩ := T.cls
  refine wpAny_Call_Name_kw (ld_glob I hg hm ?_ hdb)
  refine PySem.W.callWith_KW0 (h₀ := X.base) I.ok.mod.kin T.kC hall ?_ hpl
  refine thn (hkw.run pos pins s σ H _ I h) fun ws s1 ⟨zs, H1, I1, rz, z, ez, q1⟩ => ⟨I1.kIn, ?_⟩
  rw [hks]
  subst ez
  obtain ⟨v, rfl, rv⟩ := vals1 rz
  show wpAny _ _ (call (.ref C) [] [(kn, v)]) _ _ _
  obtain ⟨hp, g, dr, tk, os⟩ := s1
  have fresh : H1 (hp.objs.size + 1) = none := I1.hok.fresh (Nat.le_succ _)
  have want := q1 (hp.objs.size + 1) fresh
  have old : ∀ b o, hp.get? b = some o → ((hp.push (PySem.W.kdv_tup [])).push (PySem.HandSPX.excO C hp.objs.size)).get? b = some o := fun b o e => Heap.get?_push_of_some _ (Heap.get?_push_of_some _ e)
  have here : ((hp.push (PySem.W.kdv_tup [])).push (PySem.HandSPX.excO C hp.objs.size)).get? (hp.objs.size + 1) = some (PySem.HandSPX.excO C hp.objs.size) := by heap_get
  have I2 : Inv X pins σ (upd H1 (hp.objs.size + 1) (exo (hp.objs.size + 1) C none)) ⟨(hp.push (PySem.W.kdv_tup [])).push (PySem.HandSPX.excO C hp.objs.size), g, dr, tk, os⟩ :=
    I1.laid (t' := tk) (a := hp.objs.size + 1) (o := exo (hp.objs.size + 1) C none) (h' := (hp.push (PySem.W.kdv_tup [])).push (PySem.HandSPX.excO C hp.objs.size)) old (Nat.le_succ _) (exo_ok here)
  have r2 : Vals [V.ref (hp.objs.size + 1), z] [Value.ref (hp.objs.size + 1), v] := .cons rfl (.cons rv .nil)
  refine wpAny_call (PySem.HandSPX.kwCall F.excBase_ValueError (fun Y => PySem.HandSPX.refsVE_contains Y bm hbm) (I1.kIn _ _ hC) (PySem.W.looks_findIn I1.kIn iC) (fun self => PySem.W.bind_fn I1.kIn self tI)
    (codeAny_mono (F1.run _ X.stack _ _ ⟨[Value.ref (hp.objs.size + 1)], [(kn, v)]⟩ [Value.ref (hp.objs.size + 1), v] _ _ (fun _ _ _ => False) (hr.make C [] [(kn, v)]) (I2.env0.make C [] [(kn, v)]) (hb _ _ _ I2.kIn) r2 want) fun r s' got => ?_))
  cases r with
  | error er => exact hx pins σ _ _ er s' I2 got
  | ok fl => cases fl with
    | ret u =>
      obtain ⟨v', H', I3, rv', ev, q3⟩ := I2.after got
      subst ev
      exact ⟨rv', ⟨V.ref (hp.objs.size + 1), H', I3, rfl, q3⟩⟩
    | next => exact got.elim
    | brk => exact got.elim
    | cont => exact got.elim
end
end Lm

set_option Elab.async false
set_option linter.all false
set_option maxRecDepth 100000
set_option maxHeartbeats 8000000
/-! own exception classes right under OverflowError: self.f = y, made by position, made by keyword -/
namespace PySem.HandSPX
open PySem.W PySem.Calls PyProof.Rows Builtin Builtin.ObjectAttr
def oeTail : List Value := [.type "OverflowError", .type "ArithmeticError", .type "Exception", .type "BaseException", .type "object"]
theorem oe_pass (self : Value) (C : Addr) : refuseLoop self "__setattr__" (.ref C :: oeTail) = pure () := by
  rw [refuseLoop_ref]
  first
    | rfl
    | kernel_rfl
section
variable {prog : Program} {w : World} {A : Around} {E : Value → Shared → Prop} {R : Result → Shared → Prop} {hp : Heap} {g : Array GenState} {d : Drawn} {t : Nat} {os : OsState}
theorem oe_osa {K : W.Frag} {name : Str} {tk : Tok} {v : Value} {x C : Addr} {fv : Array Value} {cd : ClassData}
    (X : K.In hp) (hx : hp.get? x = some { cls := .ref C, data := .fields fv }) (hcd : W.clsIn K C = some cd) (hm : cd.mro = .ref C :: oeTail) (hh : cd.hasDict = true) (ha : W.findIn K (.ref C) name = some none)
    (hq : ∀ h' tk' dx, (∀ b o, b ≠ x → hp.get? b = some o → h'.get? b = some o) → hp.objs.size ≤ dx → dx ≠ x → h'.get? x = some { cls := .ref C, dict := some dx, data := .fields fv } →
      h'.Ns1 dx (fun y => if y = name then some v else none) → R (.ok (.ret .none)) ⟨h', g, d, tk', os⟩) :
    codeAny (model prog w) A (.call (.builtin "object.__setattr__") ⟨[.ref x, .str name tk, v], []⟩) R ⟨hp, g, d, t, os⟩ := by
  have I : W.InstAt hp x { cls := .ref C, data := .fields fv } C none := ⟨hx, rfl, rfl, trivial⟩
  have SF := F.store_object
  have ne : cd.mro.isEmpty = false := by rw [hm]; rfl
  have hob : cd.mro.contains (.type "object") = true := by
    rw [hm, List.contains_cons]
    rw [show oeTail.contains (.type "object") = true by decide +kernel, Bool.or_true]
  have hxs : x ≠ hp.objs.size := Nat.ne_of_lt (Heap.lt_size hx)
  have sub : W.Looks (model prog w) hp (isInstance (.ref x) (.type "object")) true := I.type.andThen (W.looks_mroIn X (by unfold W.mroIn; rw [hcd, Option.bind_some, if_neg (by rw [ne]; decide), hob]))
  refine codeAny_call_builtin SF.slot.plain SF.entry (@W.check_slot (model prog w) _ _ ⟨hp, g, d, t, os⟩ "object.__setattr__" "object" "__setattr__" (.ref x) [.str name tk, v] [] _ SF.kind SF.split sub (SF.args (.ref x) (.str name tk) v) ?_)
  have hmr : W.Looks (model prog w) hp (mroOf (.ref C)) cd.mro := (W.looks_clsIn X hcd).andThen .now
  have L3 : W.Looks (model prog w) hp (storeTaker? none) none := .now
  have hcls : W.Looks (model prog w) hp (classData C) cd := W.looks_clsIn X hcd
  rw [W.osa_eq, refuse_eq]
  refine wpAny_bind (wpAny_bind (I.type.at (wpAny_bind (hmr.at ?_))))
  rw [hm, oe_pass]
  refine wpAny_pure (wpAny_bind (I.type.at (wpAny_bind ((W.looks_findIn X ha).at (wpAny_bind (L3.at ?_))))))
  show wpAny _ _ (storeInOwnDict (.ref x) (.ref C) (.str name tk) name v false) _ _ _
  obtain ⟨nm, bs, mro, ns, qn, hd, sn, sb, ab, col, del⟩ := cd
  dsimp only at hh
  subst hh
  unfold storeInOwnDict ownDictForStores
  repeat (first | with_reducible refine store_in_new ?_ ?_ | with_reducible refine wpAny_loadPart_at hx ?_ | with_reducible refine hcls.at ?_ | wp_step)
  · exact ⟨_, #[], _, (Heap.get?_update_ne _ _ _ _ hxs.symm).trans (Heap.get?_push_at rfl rfl), rfl, fun e he => absurd he (by simp), fun _ => rfl⟩
  · intro h' tk' hn' hs
    have hx₁ : (hp.push { cls := .type "dict", data := .dict #[] }).get? x = some { cls := .ref C, data := .fields fv } := Heap.get?_push_of_some _ hx
    refine hq h' tk' hp.objs.size (fun b o hb ho => ?_) (Nat.le_refl _) hxs.symm ?_ hn'
    · exact (hs.2 b (Nat.ne_of_lt (Heap.lt_size ho))).trans ((Heap.get?_update_ne _ _ _ _ hb).trans (Heap.get?_push_of_some _ ho))
    · exact (hs.2 x hxs).trans (Heap.get?_update_self _ hx₁ rfl)
end
end PySem.HandSPX
namespace Lm
open PySem PySem.Spec PyProof.Rows L2
structure OexO (K : PySem.W.Frag) (C : Addr) : Prop where
  cls : ∃ nm q N bs sn sub ab col dd k0 k1 k2 k3 k5, K.lookup C = some (excClassObj nm q C N bs PySem.HandSPX.oeTail true sn sub ab col dd k0 k1 k2 k3 k5 "OverflowError.__new__")
  sa : PySem.W.findIn K (.ref C) "__setattr__" = some (some (.builtin "object.__setattr__"))
  kC : PySem.W.keepIn K (.ref C) = true
section
variable {X : Cx} {pins : List (Addr × Obj)} {σ : L2.St} {H : Hp} {s : Shared} {a C : Addr} {f : Str} {y : V} {u : Value} {Q : Unit → Shared → Prop} {E : Value → Shared → Prop} {A : Around}
theorem ost_newO (T : OexO X.K C) (I : Inv X pins σ H s) (e : H a = some (exo a C none)) (hno : PySem.W.findIn X.K (.ref C) f = some none) (ry : RelV y u)
    (h : ∀ dx s', H dx = none → dx ≠ a → Inv X pins σ (upd (upd H dx (exd dx [(f, y)])) a (exo a C (some dx))) s' → Q () s') : wpAny (model X.prog X.w) A (setAttr (.ref a) f u) Q E s := by
  obtain ⟨nm, q, N, bs, sn, sub, ab, col, dd, k0, k1, k2, k3, k5, hC⟩ := T.cls
  have hcl : PySem.W.clsIn X.K C = some { name := nm, bases := bs, mro := .ref C :: PySem.HandSPX.oeTail, ns := N, qualname := q, hasDict := true, slotNames := sn, subclasses := sub, abstract := ab, collection := col, hasDel := false } := by unfold PySem.W.clsIn; rw [hC] <;> rfl
  obtain ⟨t1, ho⟩ := exo_at I.hok e
  obtain ⟨hp, g, d, t, os⟩ := s
  refine PySem.W.set_plain I.kIn (ox := { cls := .ref C, dict := none, data := .fields #[.ref t1, .none, .none, .none, .bool false, .none] }) (od := none) ⟨ho, rfl, rfl, trivial⟩ T.sa ?_
  refine PySem.HandSPX.oe_osa I.kIn ho hcl rfl rfl hno (fun h' tk' dx k dn dne hx hn => ?_)
  have hnd : H dx = none := I.hok.fresh dn
  have nd : ∀ {b : Addr} {o : Obj}, hp.get? b = some o → b ≠ dx := fun {b o} q => Nat.ne_of_lt (Nat.lt_of_lt_of_le (Heap.lt_size q) dn)
  have na : ∀ {b : Addr}, H b = none → b ≠ a := fun {b} n z => by
    rw [z, e] at n
    cases n
  have Un1 : Un X.fs [] H (upd (upd H dx (exd dx [(f, y)])) a (exo a C (some dx))) hp h' := {
    keep := fun b o q n _ _ => k b o (na n) q
    slot := fun b o q n _ _ => ⟨o.slots, k b o (na n) q⟩
    free := fun b o q n _ => by rw [upd_ne (na n), upd_ne (nd q)]; exact n
    there := fun b o q _ => by
      by_cases hb : b = a
      · exact ⟨_, by rw [hb]; exact hx⟩
      · exact ⟨o, k b o hb q⟩
    tups := fun b xs q => by rw [upd_ne (at_ne e q exo_tup), upd_ne (ne_of_none q hnd)]; exact q
    frzs := fun b o v q => by rw [upd_ne (at_ne e q exo_frz), upd_ne (ne_of_none q hnd)]; exact q
    tbls := fun b ps q => ⟨#[], by rw [upd_ne (at_ne e q exo_tbl), upd_ne (ne_of_none q hnd), q]; simp⟩ }
  refine h dx _ hnd dne (I.un (t' := tk') Un1 fun b o q => ?_)
  by_cases hb : b = a
  · subst hb
    rw [upd_same] at q
    cases q
    exact exo_ok hx
  · rw [upd_ne hb] at q
    by_cases hd : b = dx
    · subst hd
      rw [upd_same] at q
      cases q
      exact exd_ok hn (relO_put (fs := []) ry fun g => True.intro)
    · rw [upd_ne hd] at q
      exact (I.hok b o q).stay (fun c v hc z => k c v (by
          rcases hc with hc | hc
          · rw [hc]
            exact hb
          · exact at_ne e hc exo_own) z)
        (fun c hc => by rw [upd_ne (at_ne e hc exo_own), upd_ne (ne_of_none hc hnd)]; exact hc) (fun c xs hc => by rw [upd_ne (at_ne e hc exo_tup), upd_ne (ne_of_none hc hnd)]; exact hc)
end
/-- self.f = e, the first one, on an exception under OverflowError -/
def tOstO (K : PySem.W.Frag) (f : Str) (to te : TE) : TS := fun D σ H => te σ H fun y H1 => to σ H1 fun x H2 => ∃ a C : Addr, x = .ref a ∧ OexO K C ∧ PySem.W.findIn K (.ref C) f = some none ∧ H2 a = some (exo a C none) ∧ ∀ dx, H2 dx = none → dx ≠ a → D.nx σ (upd (upd H2 dx (exd dx [(f, y)])) a (exo a C (some dx)))
theorem ps_ostO {X : Cx} {o e : Expr} {to te : TE} {f : Str} {p' pos : Pos} (ho : PE X o to) (he : PE X e te) (hs : swapsWith e (some (.Attribute o f p')) pos.line X.env = pure false := by rfl) : PS X (.Assign [.Attribute o f p'] e pos) (tOstO X.K f to te) := by
  refine ⟨fun pins s σ H D I h => ?_⟩
  refine plainObj_wpAny_Assign_Attribute (thn (he.run pins s σ H _ I h) fun v s1 ⟨y, H1, I1, r1, q1⟩ => thn (ho.run pins s1 σ H1 _ I1 q1) fun u s2 ⟨x, H2, I2, r2, a, C, ex, T, hno, ea, q⟩ => ?_) hs
  subst ex
  obtain rfl : u = Value.ref a := r2
  exact ost_newO T I2 ea hno r1 fun dx s' n ne J => ⟨σ, _, J, q dx n ne⟩
end Lm

set_option Elab.async false
set_option linter.all false
set_option maxRecDepth 100000
set_option maxHeartbeats 8000000
namespace Lm
open PySem PySem.Spec PyProof.Rows L2
section
variable {X : Cx} {e : Expr} {es : List Expr} {ta : TA} {kws : List Keyword} {tk : TA} {p pos : Pos}
theorem pe_exvO {CX : CXT} {x : Str} {C fI : Addr} {k : Nat} {fd : FuncData} {ps : List Str} {sp : Sp} (T : OexO X.K C) (iC : PySem.W.findIn X.K (.ref C) "__init__" = some (some (.ref fI))) (tI : PySem.W.typeIn X.K (.ref fI) = some (.type "function"))
    (F1 : FnOk X.prog X.w X.K X.mg X.base CX k fI fd ps sp) (hr : Room (k + 1) X.A) (hb : Binds X.K fd ps []) (hx : Passes CX X (fun _ _ _ => False)) (hg : Gl X x) (hm : X.mg x = some (.ref C)) (ha : PA X (e :: es) ta)
    (hdb : (x == ("__debug__" : Str)) = false := by decide) (he : starEach (e :: es) X.env = (false, eval e X.env) :: starEach es X.env := by rfl) (hpl : (backTo pos (starEach es X.env)).any (·.1) = false := by rfl) :
    PE X (.Call (.Name x p) (e :: es) [] pos) (tMkV C sp ta) := by
  refine ⟨fun pins s σ H Q I h => ?_⟩
  obtain ⟨nm, q, N, bs, sn, sub, ab, col, dd, k0, k1, k2, k3, k5, hC⟩ := T.cls
  refine wpAny_Call_Name_kw (ld_glob I hg hm ?_ hdb)
  refine PySem.W.callWith_K (h₀ := X.base) I.ok.mod.kin T.kC (thn (ha.run pos pins s σ H _ I h) fun us s1 ⟨vs, H1, I1, r1, hz, q1⟩ => ⟨I1.kIn, ?_⟩) he hpl
  show wpAny _ _ (call (.ref C) us) _ _ _
  obtain ⟨hp, g, dr, tk, os⟩ := s1
  have hsz : hp.objs.size ≤ hp.objs.size + 1 := Nat.le_succ _
  have hn : H1 (hp.objs.size + 1) = none := I1.hok.fresh hsz
  have hq := q1 (hp.objs.size + 1) hn
  have kk : ∀ b o, hp.get? b = some o → ((hp.push (PySem.W.kdv_tup us)).push (PySem.HandSPX.excO C hp.objs.size)).get? b = some o := fun b o e => Heap.get?_push_of_some _ (Heap.get?_push_of_some _ e)
  have hget : ((hp.push (PySem.W.kdv_tup us)).push (PySem.HandSPX.excO C hp.objs.size)).get? (hp.objs.size + 1) = some (PySem.HandSPX.excO C hp.objs.size) := by heap_get
  have I2 : Inv X pins σ (upd H1 (hp.objs.size + 1) (exo (hp.objs.size + 1) C none)) ⟨(hp.push (PySem.W.kdv_tup us)).push (PySem.HandSPX.excO C hp.objs.size), g, dr, tk, os⟩ :=
    I1.laid (t' := tk) (a := hp.objs.size + 1) (o := exo (hp.objs.size + 1) C none) (h' := (hp.push (PySem.W.kdv_tup us)).push (PySem.HandSPX.excO C hp.objs.size)) kk hsz (exo_ok hget)
  have r2 : Vals (V.ref (hp.objs.size + 1) :: vs) (Value.ref (hp.objs.size + 1) :: us) := .cons rfl r1
  have hl : (Value.ref (hp.objs.size + 1) :: us).length = ps.length := by
    have e := r2.length
    rw [F1.len _ _ _ _ hq] at e
    exact e.symm
  have hus : us.length ≤ sizeLine := by
    rw [← Paired.length r1, sizeLine_eq]
    omega
  have b := hb _ (Value.ref (hp.objs.size + 1) :: us) I2.kIn (by simpa using hl)
  rw [List.append_nil] at b
  refine wpAny_call (PySem.HandSPX.call_own F.excBase_OverflowError (fun _ => rfl) (I1.kIn _ _ hC) (PySem.W.looks_findIn I1.kIn iC) (fun self => PySem.W.bind_fn I1.kIn self tI) hus
    (codeAny_mono (F1.run _ X.stack _ _ ⟨Value.ref (hp.objs.size + 1) :: us, []⟩ (Value.ref (hp.objs.size + 1) :: us) _ _ (fun _ _ _ => False) (hr.make C us []) (I2.env0.make C us []) b r2 hq) fun r s' hq' => ?_))
  cases r with
  | error er => exact hx pins σ _ _ er s' I2 hq'
  | ok fl =>
    cases fl with
    | ret u =>
      obtain ⟨v, H', I3, rv, ev, q3⟩ := I2.after hq'
      subst ev
      exact ⟨rv, ⟨V.ref (hp.objs.size + 1), H', I3, rfl, q3⟩⟩
    | next => exact False.elim hq'
    | brk => exact False.elim hq'
    | cont => exact False.elim hq'
theorem pe_exvOK {CX : CXT} {x kn : Str} {C fI : Addr} {k : Nat} {fd : FuncData} {ps : List Str} {sp : Sp} (T : OexO X.K C) (iC : PySem.W.findIn X.K (.ref C) "__init__" = some (some (.ref fI))) (tI : PySem.W.typeIn X.K (.ref fI) = some (.type "function"))
    (F1 : FnOk X.prog X.w X.K X.mg X.base CX k fI fd ps sp) (hr : Room (k + 1) X.A) (hb : ∀ (s : Shared) (self v : Value), X.K.In s.heap → BindsTo s fd ⟨[self], [(kn, v)]⟩ (ps.zip [self, v])) (hx : Passes CX X (fun _ _ _ => False)) (hg : Gl X x) (hm : X.mg x = some (.ref C)) (hkw : PK X kws tk)
    (hks : (backToKw pos (keywordEach kws X.env)).filterMap (·.1) = [kn] := by rfl) (hall : (backToKw pos (keywordEach kws X.env)).all (·.1.isSome) = true := by rfl) (hdb : (x == ("__debug__" : Str)) = false := by decide)
    (hpl : ((backTo pos (starEach [] X.env)).any (·.1) || (backToKw pos (keywordEach kws X.env)).any (·.1.isNone)) = false := by rfl) :
    PE X (.Call (.Name x p) [] kws pos) (tMkVK C sp tk) := by
  refine ⟨fun pins s σ H Q I h => ?_⟩
  obtain ⟨nm, q, N, bs, sn, sub, ab, col, dd, k0, k1, k2, k3, k5, hC⟩ := T.cls
  refine wpAny_Call_Name_kw (ld_glob I hg hm ?_ hdb)
  refine PySem.W.callWith_KW0 (h₀ := X.base) I.ok.mod.kin T.kC hall ?_ hpl
  refine thn (hkw.run pos pins s σ H _ I h) fun ws s1 ⟨zs, H1, I1, rz, z, ez, q1⟩ => ⟨I1.kIn, ?_⟩
  rw [hks]
  subst ez
  obtain ⟨v, rfl, rv⟩ := vals1 rz
  show wpAny _ _ (call (.ref C) [] [(kn, v)]) _ _ _
  obtain ⟨hp, g, dr, tk, os⟩ := s1
  have fresh : H1 (hp.objs.size + 1) = none := I1.hok.fresh (Nat.le_succ _)
  have want := q1 (hp.objs.size + 1) fresh
  have old : ∀ b o, hp.get? b = some o → ((hp.push (PySem.W.kdv_tup [])).push (PySem.HandSPX.excO C hp.objs.size)).get? b = some o := fun b o e => Heap.get?_push_of_some _ (Heap.get?_push_of_some _ e)
  have here : ((hp.push (PySem.W.kdv_tup [])).push (PySem.HandSPX.excO C hp.objs.size)).get? (hp.objs.size + 1) = some (PySem.HandSPX.excO C hp.objs.size) := by heap_get
  have I2 : Inv X pins σ (upd H1 (hp.objs.size + 1) (exo (hp.objs.size + 1) C none)) ⟨(hp.push (PySem.W.kdv_tup [])).push (PySem.HandSPX.excO C hp.objs.size), g, dr, tk, os⟩ :=
    I1.laid (t' := tk) (a := hp.objs.size + 1) (o := exo (hp.objs.size + 1) C none) (h' := (hp.push (PySem.W.kdv_tup [])).push (PySem.HandSPX.excO C hp.objs.size)) old (Nat.le_succ _) (exo_ok here)
  have r2 : Vals [V.ref (hp.objs.size + 1), z] [Value.ref (hp.objs.size + 1), v] := .cons rfl (.cons rv .nil)
  refine wpAny_call (PySem.HandSPX.kwCall F.excBase_OverflowError (fun _ => rfl) (I1.kIn _ _ hC) (PySem.W.looks_findIn I1.kIn iC) (fun self => PySem.W.bind_fn I1.kIn self tI)
    (codeAny_mono (F1.run _ X.stack _ _ ⟨[Value.ref (hp.objs.size + 1)], [(kn, v)]⟩ [Value.ref (hp.objs.size + 1), v] _ _ (fun _ _ _ => False) (hr.make C [] [(kn, v)]) (I2.env0.make C [] [(kn, v)]) (hb _ _ _ I2.kIn) r2 want) fun r s' got => ?_))
  cases r with
  | error er => exact hx pins σ _ _ er s' I2 got
  | ok fl => cases fl with
    | ret u =>
      obtain ⟨v', H', I3, rv', ev, q3⟩ := I2.after got
      subst ev
      exact ⟨rv', ⟨V.ref (hp.objs.size + 1), H', I3, rfl, q3⟩⟩
    | next => exact got.elim
    | brk => exact got.elim
    | cont => exact got.elim
end
end Lm

set_option Elab.async false
set_option linter.all false
set_option maxRecDepth 100000
set_option maxHeartbeats 8000000
namespace Lm
open PySem PySem.Spec PyProof.Rows L2
section
variable {X : Cx} {p pos : Pos}
/-- C(), an own exception class without own __init__: the exception made, not raised -/
theorem pe_exv0 {C : Addr} {bmB : List Value} {B newId initId : String} {x : Str} (F : ExcBaseFacts B newId initId bmB) (q : PySem.W.excIn X.K C bmB newId = true) (gC : X.mg x = some (.ref C)) (kC : PySem.W.keepIn X.K (.ref C) = true) (hg : Gl X x)
    (hdb : (x == ("__debug__" : Str)) = false := by decide) : PE X (.Call (.Name x p) [] [] pos) (fun _ H Q => ∀ a, H a = none → Q (.ref a) (upd H a (ExO (.ref C) a))) := by
  refine ⟨fun pins s σ H Q I h => ?_⟩
  refine wpAny_Call_Name_kw (ld_glob I hg gC ?_ hdb)
  refine PySem.W.callWith_K0 I.kIn kC ?_
  show wpAny _ _ (call (.ref C) []) _ _ _
  obtain ⟨bm, N, nm, qn, bs, hdct, sn, sub, ab, col, dd, k0, k1, k2, k3, k5, mN, hC, hN, hni, T⟩ := exc_obj I.kIn q
  refine wpAny_call_exc_subT F T hC hN hni (fun h' a hm => ?_) (by show 0 ≤ sizeLine; rw [sizeLine_eq]; omega)
  have hn : H a = none := I.hok.gone hm.new
  obtain ⟨t, ht, _, _⟩ := hm.there
  exact ⟨.ref a, upd H a (ExO (.ref C) a), I.laidN hm.keeps hm.new hn (exO_ok ht ⟨rfl, rfl⟩ rfl rfl rfl (show 4 < 6 by decide)), rfl, h a hn⟩
end
/-- isinstance(e, c), e an exception without a dict that was made -/
def rIsV0 (K : PySem.W.Frag) : List V → Hp → VK → Prop := fun xs H Q => ∃ (a D : Addr) (c : V) (cv : Value) (b : Bool), xs = [.ref a, c] ∧ H a = some (ExO (.ref D) a) ∧ ExcC K D ∧ ClsV c cv ∧ PySem.W.kitOne K (.ref D) cv = some b ∧ Q (.bl b) H
theorem call_isV0 {X : Cx} : CallR X (.builtin "isinstance") (rIsV0 X.K) := by
  intro pins s σ H xs us Q I r h
  obtain ⟨a, D, c, cv, b, rfl, ha, C, hcv, e, q⟩ := h
  cases r with
  | cons rx rr =>
    cases rr with
    | cons rt rr =>
      cases rr
      cases rx
      obtain rfl := hcv.eq rt
      obtain ⟨⟨oe, vs, ho, hz, hd, _⟩, _, _⟩ := I.hok a _ ha
      have J : PySem.W.InstAt s.heap a oe D none := by
        obtain ⟨oc, od, oda, osl⟩ := oe
        obtain ⟨h1, h2⟩ := hz
        dsimp only at h1 h2 hd
        subst h1 h2 hd
        exact ⟨ho, rfl, rfl, trivial⟩
      exact PySem.W.kia_one (PySem.W.handS_kitx_exc C.hg C.hk C.hs C.hd C.ha C.hn C.ht C.hm) I.kIn J e (fun z => nomatch z) fun tk => ⟨.bl b, H, I.kept (t' := tk) fun _ _ z => z, rfl, q⟩
/-- of any exception that was made -/
def rIsX (K : PySem.W.Frag) : List V → Hp → VK → Prop := fun xs H Q => rIsV K xs H Q ∨ rIsV0 K xs H Q
theorem call_isX {X : Cx} : CallR X (.builtin "isinstance") (rIsX X.K) := by
  intro pins s σ H xs us Q I r h
  rcases h with h | h
  · exact call_isV pins s σ H xs us Q I r h
  · exact call_isV0 pins s σ H xs us Q I r h
end Lm

set_option Elab.async false
set_option linter.all false
set_option maxRecDepth 100000
set_option maxHeartbeats 8000000
namespace K03
open PySem PySem.Spec PyProof.Rows L2 Lm
def top (i : Nat) : Stmt := PySem.Challenge.pw_safeupto_k03_error_classes.main.body.getD i (.Pass ⟨0, 0, 0, 0⟩)
/-- an exception that was made: its class, its one field -/
def ExAt (H : Hp) (a C : Addr) (f : Str) (v : V) : Prop := ∃ dd, H a = some (exo a C (some dd)) ∧ H dd = some (exd dd [(f, v)])
theorem ExAt.same {H H' : Hp} {a C : Addr} {f : Str} {v : V} (h : ExAt H a C f v) (s : Same H H') : ExAt H' a C f v := let ⟨dd, h1, h2⟩ := h; ⟨dd, s _ _ h1, s _ _ h2⟩
/-- an __init__ that lays its one field -/
def spE (C : Addr) (f : Str) : Sp := fun vs H Q _ => ∃ a v, vs = [.ref a, v] ∧ H a = some (exo a C none) ∧ ∀ dx, H dx = none → dx ≠ a → Q .non (upd (upd H dx (exd dx [(f, v)])) a (exo a C (some dx)))
theorem spE_mk {C a : Addr} {f : Str} {v : V} {H : Hp} {Q : VK} {E : XK} (na : H a = none) (k : ∀ a H', ExAt H' a C f v → Same H H' → Q (.ref a) H') : spE C f [.ref a, v] (upd H a (exo a C none)) (fun v H2 => v = .non ∧ Q (.ref a) H2) E := by
  refine ⟨a, v, rfl, upd_same, fun dx nd ne => ⟨rfl, k a _ ⟨dx, upd_same, by rw [upd_ne ne, upd_same]⟩ fun b o e => ?_⟩⟩
  have nb : b ≠ a := ne_of_none e na
  have nx : b ≠ dx := fun z => by
    rw [z] at e
    rw [upd_ne ne, e] at nd
    cases nd
  rw [upd_ne nb, upd_ne nx, upd_ne nb]
  exact e
structure Exk (P : Program) (w : World) (K : PySem.W.Frag) (mg : Str → Option Value) (base : Heap) (x : Str) (C : Addr) (f : Str) : Prop where
  mgx : mg x = some (.ref C)
  xf : XfC K C
  nf : PySem.W.findIn K (.ref C) f = some none
  ec : ExcC K C
  made : ∃ fI fd, PySem.W.findIn K (.ref C) "__init__" = some (some (.ref fI)) ∧ PySem.W.typeIn K (.ref fI) = some (.type "function") ∧ FnOk P w K mg base CX0 1 fI fd ["self", f] (spE C f) ∧ Binds K fd ["self", f] [] ∧
    (∀ (s : Shared) (self v : Value), K.In s.heap → BindsTo s fd ⟨[self], [(f, v)]⟩ [("self", self), (f, v)]) ∧ (OexC K C ∨ OexO K C)
/-- the exception made, whichever way -/
def tEx (C : Addr) (f : Str) (te : TE) : TE := fun σ H Q => te σ H fun v H1 => ∀ a H', ExAt H' a C f v → Same H1 H' → Q (.ref a) H'
section
variable {X : Cx} {x f : Str} {C : Addr} {e : Expr} {te : TE} {p pos kpos : Pos}
/-- what an expression is wished, by a wish that says more -/
def tMo (te : TE) : TE := fun σ H Q => ∃ Q0 : VK, te σ H Q0 ∧ ∀ v H1, Q0 v H1 → Q v H1
theorem pe_mo (he : PE X e te) : PE X e (tMo te) := ⟨fun pins s σ H Q I ⟨Q0, h, k⟩ => thn (he.run pins s σ H Q0 I h) fun u s1 ⟨v, H1, I1, r, q⟩ => ⟨v, H1, I1, r, k _ _ q⟩⟩
theorem pe_ex (E : Exk X.prog X.w X.K X.mg X.base x C f) (hr : Room 2 X.A) (hg : Gl X x) (he : PE X e te) (hdb : (x == ("__debug__" : Str)) = false := by decide) (hs : starEach [e] X.env = (false, eval e X.env) :: starEach [] X.env := by rfl)
    (hpl : (backTo pos (starEach [] X.env)).any (·.1) = false := by rfl) : PE X (.Call (.Name x p) [e] [] pos) (tEx C f te) := by
  obtain ⟨fI, fd, iC, tI, G, b, _, T⟩ := E.made
  have key : ∀ σ H Q, tEx C f te σ H Q → tMkV C (spE C f) (tCons (tMo te) tNil) σ H Q := fun σ H Q h =>
    ⟨_, h, fun v H1 q => ⟨(by show 1 ≤ 1000; decide), fun a na => spE_mk na fun a H' ea s => q a H' ea s⟩⟩
  rcases T with T | T
  · exact pe_weak (pe_exv T iC tI G hr b pass0 hg E.mgx (pa_cons (pe_mo he) pa_nil hs) hdb hs hpl) key
  · exact pe_weak (pe_exvO T iC tI G hr b pass0 hg E.mgx (pa_cons (pe_mo he) pa_nil hs) hdb hs hpl) key
theorem pe_exk {np : Str} (E : Exk X.prog X.w X.K X.mg X.base x C f) (hr : Room 2 X.A) (hg : Gl X x) (he : PE X e te) (hks : (backToKw pos (keywordEach [⟨np, e, kpos⟩] X.env)).filterMap (·.1) = [f] := by rfl) (hall : (backToKw pos (keywordEach [⟨np, e, kpos⟩] X.env)).all (·.1.isSome) = true := by rfl)
    (hdb : (x == ("__debug__" : Str)) = false := by decide) (hpl : ((backTo pos (starEach [] X.env)).any (·.1) || (backToKw pos (keywordEach [⟨np, e, kpos⟩] X.env)).any (·.1.isNone)) = false := by rfl) :
    PE X (.Call (.Name x p) [] [⟨np, e, kpos⟩] pos) (tEx C f te) := by
  obtain ⟨fI, fd, iC, tI, G, _, b, T⟩ := E.made
  have key : ∀ σ H Q, tEx C f te σ H Q → tMkVK C (spE C f) (tCons (tMo te) tNil) σ H Q := fun σ H Q h =>
    ⟨_, h, fun v H1 q => ⟨v, rfl, fun a na => spE_mk na fun a H' ea s => q a H' ea s⟩⟩
  rcases T with T | T
  · exact pe_weak (pe_exvK T iC tI G hr b pass0 hg E.mgx (pk_cons (pe_mo he) pk_nil) hks hall hdb hpl) key
  · exact pe_weak (pe_exvOK T iC tI G hr b pass0 hg E.mgx (pk_cons (pe_mo he) pk_nil) hks hall hdb hpl) key
end
end K03

set_option Elab.async false
set_option linter.all false
set_option maxRecDepth 100000
set_option maxHeartbeats 8000000
namespace K03
open PySem PySem.Spec PyProof.Rows L2 Lm
abbrev sMade : Stmt := top 17
abbrev sNamed : Stmt := top 18
structure Ad where
  c0 : Addr
  c1 : Addr
  c2 : Addr
  c3 : Addr
  c4 : Addr
  c5 : Addr
  c6 : Addr
  c7 : Addr
  c8 : Addr
  c9 : Addr
  c10 : Addr
  c11 : Addr
structure Tab (P : Program) (w : World) (K : PySem.W.Frag) (mg : Str → Option Value) (base : Heap) (a : Ad) : Prop where
  e0 : Exk P w K mg base "InvalidName" a.c0 "value"
  e1 : Exk P w K mg base "InvalidNumber" a.c1 "value"
  e2 : Exk P w K mg base "InvalidBody" a.c2 "value"
  e3 : Exk P w K mg base "InvalidProgram" a.c3 "value"
  e4 : Exk P w K mg base "InvalidState" a.c4 "value"
  e5 : Exk P w K mg base "InvalidChoice" a.c5 "value"
  e6 : Exk P w K mg base "InvalidCondition" a.c6 "value"
  e7 : Exk P w K mg base "InvalidSize" a.c7 "value"
  e8 : Exk P w K mg base "InvalidPaper" a.c8 "value"
  e9 : Exk P w K mg base "InvalidCommand" a.c9 "value"
  e10 : Exk P w K mg base "ParseError" a.c10 "line"
  e11 : Exk P w K mg base "TooMany" a.c11 "limit"
def Ad.all (a : Ad) : List (Addr × Str) := [(a.c0, "value"), (a.c1, "value"), (a.c2, "value"), (a.c3, "value"), (a.c4, "value"), (a.c5, "value"), (a.c6, "value"), (a.c7, "value"), (a.c8, "value"), (a.c9, "value"), (a.c10, "line"), (a.c11, "limit")]
def AllEx (H : Hp) : List Addr → List (Addr × Str) → V → Prop
  | [], [], _ => True
  | a :: as, c :: cs, v => ExAt H a c.1 c.2 v ∧ AllEx H as cs v
  | _, _, _ => False
theorem AllEx.same {H H' : Hp} {v : V} (s : Same H H') : ∀ {as : List Addr} {cs : List (Addr × Str)}, AllEx H as cs v → AllEx H' as cs v
  | [], [], _ => trivial
  | _ :: _, _ :: _, h => ⟨h.1.same s, AllEx.same s h.2⟩
  | [], _ :: _, h => h
  | _ :: _, [], h => h
section
variable {P : Program} {w : World} {K : PySem.W.Frag} {mg : Str → Option Value} {base : Heap} {a : Ad}
def spMade (a : Ad) : Sp := fun vs H Q _ => ∃ v, vs = [v] ∧ ∀ l as H', H' l = some (.lst (as.map V.ref)) → AllEx H' as a.all v → Same H H' → Q (.ref l) H'
theorem scMade : FnScope ["_law_x", "_law_some"] ["_law_x"] (defScope sMade) := ⟨rfl, rfl, rfl, by decide +kernel, rfl, by decide +kernel, by decide +kernel⟩
theorem ok_Made {f : Addr} {fd : FuncData} (F : Fun K "_law_made" "_law_made" sMade f fd) (T : Tab P w K mg base a) : FnOk P w K mg base CX0 3 f fd ["_law_x"] (spMade a) := by
  refine F.ok scMade (fun vs H Q E h => ?_) (fun cdv A outer s H vs Q E hr h => ?_)
  · obtain ⟨v, rfl, _⟩ := h
    rfl
  · obtain ⟨v, rfl, k⟩ := h
    refine ⟨_, (pss_cons (ps_set (i := 1) scMade.nd rfl (.inl rfl) (pe_lst (pa_cons (pe_ex T.e0 hr rfl (pv 0)) (pa_cons (pe_ex T.e1 hr rfl (pv 0)) (pa_cons (pe_ex T.e2 hr rfl (pv 0)) (pa_cons (pe_ex T.e3 hr rfl (pv 0)) (pa_cons (pe_ex T.e4 hr rfl (pv 0)) pa_nil)))))))
      (pss_cons (ps_set (i := 1) scMade.nd rfl (.inl rfl) (pe_op op_cat (pv 1) (pe_lst (pa_cons (pe_ex T.e5 hr rfl (pv 0)) (pa_cons (pe_ex T.e6 hr rfl (pv 0)) (pa_cons (pe_ex T.e7 hr rfl (pv 0)) (pa_cons (pe_ex T.e8 hr rfl (pv 0)) pa_nil)))))))
      (pss_one (ps_ret (pe_op op_cat (pv 1) (pe_lst (pa_cons (pe_ex T.e9 hr rfl (pv 0)) (pa_cons (pe_ex T.e10 hr rfl (pv 0)) (pa_cons (pe_ex T.e11 hr rfl (pv 0)) pa_nil))))))))), ?_⟩
    have hz : sizeLine = 16777216 := sizeLine_eq
    have s0 := Same.refl H
    refine ⟨_, rfl, fun a0 H0 x0 y0 => ?_⟩
    have s1 := s0.trans y0
    refine ⟨_, rfl, fun a1 H1 x1 y1 => ?_⟩
    have s2 := s1.trans y1
    have x0 := x0.same y1
    refine ⟨_, rfl, fun a2 H2 x2 y2 => ?_⟩
    have s3 := s2.trans y2
    have x0 := x0.same y2
    have x1 := x1.same y2
    refine ⟨_, rfl, fun a3 H3 x3 y3 => ?_⟩
    have s4 := s3.trans y3
    have x0 := x0.same y3
    have x1 := x1.same y3
    have x2 := x2.same y3
    refine ⟨_, rfl, fun a4 H4 x4 y4 => ?_⟩
    have s5 := s4.trans y4
    have x0 := x0.same y4
    have x1 := x1.same y4
    have x2 := x2.same y4
    have x3 := x3.same y4
    refine ⟨(by show 5 ≤ sizeLine; omega), fun l0 n0 => ?_⟩
    have z0 := same_new (o := .lst [V.ref a0, V.ref a1, V.ref a2, V.ref a3, V.ref a4]) n0
    have t0 := s5.trans z0
    have x0 := x0.same z0
    have x1 := x1.same z0
    have x2 := x2.same z0
    have x3 := x3.same z0
    have x4 := x4.same z0
    have w0 : upd H4 l0 (.lst [V.ref a0, V.ref a1, V.ref a2, V.ref a3, V.ref a4]) l0 = some (.lst [V.ref a0, V.ref a1, V.ref a2, V.ref a3, V.ref a4]) := upd_same
    refine ⟨_, rfl, ?_⟩
    refine ⟨_, rfl, fun a5 H5 x5 y5 => ?_⟩
    have s6 := t0.trans y5
    have x0 := x0.same y5
    have x1 := x1.same y5
    have x2 := x2.same y5
    have x3 := x3.same y5
    have x4 := x4.same y5
    have w0 := y5 _ _ w0
    refine ⟨_, rfl, fun a6 H6 x6 y6 => ?_⟩
    have s7 := s6.trans y6
    have x0 := x0.same y6
    have x1 := x1.same y6
    have x2 := x2.same y6
    have x3 := x3.same y6
    have x4 := x4.same y6
    have x5 := x5.same y6
    have w0 := y6 _ _ w0
    refine ⟨_, rfl, fun a7 H7 x7 y7 => ?_⟩
    have s8 := s7.trans y7
    have x0 := x0.same y7
    have x1 := x1.same y7
    have x2 := x2.same y7
    have x3 := x3.same y7
    have x4 := x4.same y7
    have x5 := x5.same y7
    have x6 := x6.same y7
    have w0 := y7 _ _ w0
    refine ⟨_, rfl, fun a8 H8 x8 y8 => ?_⟩
    have s9 := s8.trans y8
    have x0 := x0.same y8
    have x1 := x1.same y8
    have x2 := x2.same y8
    have x3 := x3.same y8
    have x4 := x4.same y8
    have x5 := x5.same y8
    have x6 := x6.same y8
    have x7 := x7.same y8
    have w0 := y8 _ _ w0
    refine ⟨(by show 4 ≤ sizeLine; omega), fun l1 n1 => ?_⟩
    have z1 := same_new (o := .lst [V.ref a5, V.ref a6, V.ref a7, V.ref a8]) n1
    have t1 := s9.trans z1
    have x0 := x0.same z1
    have x1 := x1.same z1
    have x2 := x2.same z1
    have x3 := x3.same z1
    have x4 := x4.same z1
    have x5 := x5.same z1
    have x6 := x6.same z1
    have x7 := x7.same z1
    have x8 := x8.same z1
    have w0 := z1 _ _ w0
    refine ⟨_, _, _, _, rfl, rfl, w0, upd_same, (by show _ ≤ _; simp; omega), fun m1 o1 => ?_⟩
    have u1 := same_new (o := .lst ([V.ref a0, V.ref a1, V.ref a2, V.ref a3, V.ref a4] ++ [V.ref a5, V.ref a6, V.ref a7, V.ref a8])) o1
    have v1 := t1.trans u1
    have x0 := x0.same u1
    have x1 := x1.same u1
    have x2 := x2.same u1
    have x3 := x3.same u1
    have x4 := x4.same u1
    have x5 := x5.same u1
    have x6 := x6.same u1
    have x7 := x7.same u1
    have x8 := x8.same u1
    have w1 : upd (upd H8 l1 (.lst [V.ref a5, V.ref a6, V.ref a7, V.ref a8])) m1 (.lst ([V.ref a0, V.ref a1, V.ref a2, V.ref a3, V.ref a4] ++ [V.ref a5, V.ref a6, V.ref a7, V.ref a8])) m1 = some (.lst [V.ref a0, V.ref a1, V.ref a2, V.ref a3, V.ref a4, V.ref a5, V.ref a6, V.ref a7, V.ref a8]) := upd_same
    refine ⟨_, rfl, ?_⟩
    refine ⟨_, rfl, fun a9 H9 x9 y9 => ?_⟩
    have s10 := v1.trans y9
    have x0 := x0.same y9
    have x1 := x1.same y9
    have x2 := x2.same y9
    have x3 := x3.same y9
    have x4 := x4.same y9
    have x5 := x5.same y9
    have x6 := x6.same y9
    have x7 := x7.same y9
    have x8 := x8.same y9
    have w1 := y9 _ _ w1
    refine ⟨_, rfl, fun a10 H10 x10 y10 => ?_⟩
    have s11 := s10.trans y10
    have x0 := x0.same y10
    have x1 := x1.same y10
    have x2 := x2.same y10
    have x3 := x3.same y10
    have x4 := x4.same y10
    have x5 := x5.same y10
    have x6 := x6.same y10
    have x7 := x7.same y10
    have x8 := x8.same y10
    have x9 := x9.same y10
    have w1 := y10 _ _ w1
    refine ⟨_, rfl, fun a11 H11 x11 y11 => ?_⟩
    have s12 := s11.trans y11
    have x0 := x0.same y11
    have x1 := x1.same y11
    have x2 := x2.same y11
    have x3 := x3.same y11
    have x4 := x4.same y11
    have x5 := x5.same y11
    have x6 := x6.same y11
    have x7 := x7.same y11
    have x8 := x8.same y11
    have x9 := x9.same y11
    have x10 := x10.same y11
    have w1 := y11 _ _ w1
    refine ⟨(by show 3 ≤ sizeLine; omega), fun l2 n2 => ?_⟩
    have z2 := same_new (o := .lst [V.ref a9, V.ref a10, V.ref a11]) n2
    have t2 := s12.trans z2
    have x0 := x0.same z2
    have x1 := x1.same z2
    have x2 := x2.same z2
    have x3 := x3.same z2
    have x4 := x4.same z2
    have x5 := x5.same z2
    have x6 := x6.same z2
    have x7 := x7.same z2
    have x8 := x8.same z2
    have x9 := x9.same z2
    have x10 := x10.same z2
    have x11 := x11.same z2
    have w1 := z2 _ _ w1
    refine ⟨_, _, _, _, rfl, rfl, w1, upd_same, (by show _ ≤ _; simp; omega), fun m2 o2 => ?_⟩
    have u2 := same_new (o := .lst ([V.ref a0, V.ref a1, V.ref a2, V.ref a3, V.ref a4, V.ref a5, V.ref a6, V.ref a7, V.ref a8] ++ [V.ref a9, V.ref a10, V.ref a11])) o2
    have v2 := t2.trans u2
    have x0 := x0.same u2
    have x1 := x1.same u2
    have x2 := x2.same u2
    have x3 := x3.same u2
    have x4 := x4.same u2
    have x5 := x5.same u2
    have x6 := x6.same u2
    have x7 := x7.same u2
    have x8 := x8.same u2
    have x9 := x9.same u2
    have x10 := x10.same u2
    have x11 := x11.same u2
    exact k m2 [a0, a1, a2, a3, a4, a5, a6, a7, a8, a9, a10, a11] _ upd_same ⟨x0, x1, x2, x3, x4, x5, x6, x7, x8, x9, x10, x11, trivial⟩ v2
theorem scNamed : FnScope ["_law_x", "_law_some"] ["_law_x"] (defScope sNamed) := ⟨rfl, rfl, rfl, by decide +kernel, rfl, by decide +kernel, by decide +kernel⟩
theorem ok_Named {f : Addr} {fd : FuncData} (F : Fun K "_law_named" "_law_named" sNamed f fd) (T : Tab P w K mg base a) : FnOk P w K mg base CX0 3 f fd ["_law_x"] (spMade a) := by
  refine F.ok scNamed (fun vs H Q E h => ?_) (fun cdv A outer s H vs Q E hr h => ?_)
  · obtain ⟨v, rfl, _⟩ := h
    rfl
  · obtain ⟨v, rfl, k⟩ := h
    refine ⟨_, (pss_cons (ps_set (i := 1) scNamed.nd rfl (.inl rfl) (pe_lst (pa_cons (pe_exk T.e0 hr rfl (pv 0)) (pa_cons (pe_exk T.e1 hr rfl (pv 0)) (pa_cons (pe_exk T.e2 hr rfl (pv 0)) (pa_cons (pe_exk T.e3 hr rfl (pv 0)) pa_nil))))))
      (pss_cons (ps_set (i := 1) scNamed.nd rfl (.inl rfl) (pe_op op_cat (pv 1) (pe_lst (pa_cons (pe_exk T.e4 hr rfl (pv 0)) (pa_cons (pe_exk T.e5 hr rfl (pv 0)) (pa_cons (pe_exk T.e6 hr rfl (pv 0)) pa_nil))))))
      (pss_cons (ps_set (i := 1) scNamed.nd rfl (.inl rfl) (pe_op op_cat (pv 1) (pe_lst (pa_cons (pe_exk T.e7 hr rfl (pv 0)) (pa_cons (pe_exk T.e8 hr rfl (pv 0)) (pa_cons (pe_exk T.e9 hr rfl (pv 0)) pa_nil))))))
      (pss_one (ps_ret (pe_op op_cat (pv 1) (pe_lst (pa_cons (pe_exk T.e10 hr rfl (pv 0)) (pa_cons (pe_exk T.e11 hr rfl (pv 0)) pa_nil))))))))), ?_⟩
    have hz : sizeLine = 16777216 := sizeLine_eq
    have s0 := Same.refl H
    refine ⟨_, rfl, fun a0 H0 x0 y0 => ?_⟩
    have s1 := s0.trans y0
    refine ⟨_, rfl, fun a1 H1 x1 y1 => ?_⟩
    have s2 := s1.trans y1
    have x0 := x0.same y1
    refine ⟨_, rfl, fun a2 H2 x2 y2 => ?_⟩
    have s3 := s2.trans y2
    have x0 := x0.same y2
    have x1 := x1.same y2
    refine ⟨_, rfl, fun a3 H3 x3 y3 => ?_⟩
    have s4 := s3.trans y3
    have x0 := x0.same y3
    have x1 := x1.same y3
    have x2 := x2.same y3
    refine ⟨(by show 4 ≤ sizeLine; omega), fun l0 n0 => ?_⟩
    have z0 := same_new (o := .lst [V.ref a0, V.ref a1, V.ref a2, V.ref a3]) n0
    have t0 := s4.trans z0
    have x0 := x0.same z0
    have x1 := x1.same z0
    have x2 := x2.same z0
    have x3 := x3.same z0
    have w0 : upd H3 l0 (.lst [V.ref a0, V.ref a1, V.ref a2, V.ref a3]) l0 = some (.lst [V.ref a0, V.ref a1, V.ref a2, V.ref a3]) := upd_same
    refine ⟨_, rfl, ?_⟩
    refine ⟨_, rfl, fun a4 H4 x4 y4 => ?_⟩
    have s5 := t0.trans y4
    have x0 := x0.same y4
    have x1 := x1.same y4
    have x2 := x2.same y4
    have x3 := x3.same y4
    have w0 := y4 _ _ w0
    refine ⟨_, rfl, fun a5 H5 x5 y5 => ?_⟩
    have s6 := s5.trans y5
    have x0 := x0.same y5
    have x1 := x1.same y5
    have x2 := x2.same y5
    have x3 := x3.same y5
    have x4 := x4.same y5
    have w0 := y5 _ _ w0
    refine ⟨_, rfl, fun a6 H6 x6 y6 => ?_⟩
    have s7 := s6.trans y6
    have x0 := x0.same y6
    have x1 := x1.same y6
    have x2 := x2.same y6
    have x3 := x3.same y6
    have x4 := x4.same y6
    have x5 := x5.same y6
    have w0 := y6 _ _ w0
    refine ⟨(by show 3 ≤ sizeLine; omega), fun l1 n1 => ?_⟩
    have z1 := same_new (o := .lst [V.ref a4, V.ref a5, V.ref a6]) n1
    have t1 := s7.trans z1
    have x0 := x0.same z1
    have x1 := x1.same z1
    have x2 := x2.same z1
    have x3 := x3.same z1
    have x4 := x4.same z1
    have x5 := x5.same z1
    have x6 := x6.same z1
    have w0 := z1 _ _ w0
    refine ⟨_, _, _, _, rfl, rfl, w0, upd_same, (by show _ ≤ _; simp; omega), fun m1 o1 => ?_⟩
    have u1 := same_new (o := .lst ([V.ref a0, V.ref a1, V.ref a2, V.ref a3] ++ [V.ref a4, V.ref a5, V.ref a6])) o1
    have v1 := t1.trans u1
    have x0 := x0.same u1
    have x1 := x1.same u1
    have x2 := x2.same u1
    have x3 := x3.same u1
    have x4 := x4.same u1
    have x5 := x5.same u1
    have x6 := x6.same u1
    have w1 : upd (upd H6 l1 (.lst [V.ref a4, V.ref a5, V.ref a6])) m1 (.lst ([V.ref a0, V.ref a1, V.ref a2, V.ref a3] ++ [V.ref a4, V.ref a5, V.ref a6])) m1 = some (.lst [V.ref a0, V.ref a1, V.ref a2, V.ref a3, V.ref a4, V.ref a5, V.ref a6]) := upd_same
    refine ⟨_, rfl, ?_⟩
    refine ⟨_, rfl, fun a7 H7 x7 y7 => ?_⟩
    have s8 := v1.trans y7
    have x0 := x0.same y7
    have x1 := x1.same y7
    have x2 := x2.same y7
    have x3 := x3.same y7
    have x4 := x4.same y7
    have x5 := x5.same y7
    have x6 := x6.same y7
    have w1 := y7 _ _ w1
    refine ⟨_, rfl, fun a8 H8 x8 y8 => ?_⟩
    have s9 := s8.trans y8
    have x0 := x0.same y8
    have x1 := x1.same y8
    have x2 := x2.same y8
    have x3 := x3.same y8
    have x4 := x4.same y8
    have x5 := x5.same y8
    have x6 := x6.same y8
    have x7 := x7.same y8
    have w1 := y8 _ _ w1
    refine ⟨_, rfl, fun a9 H9 x9 y9 => ?_⟩
    have s10 := s9.trans y9
    have x0 := x0.same y9
    have x1 := x1.same y9
    have x2 := x2.same y9
    have x3 := x3.same y9
    have x4 := x4.same y9
    have x5 := x5.same y9
    have x6 := x6.same y9
    have x7 := x7.same y9
    have x8 := x8.same y9
    have w1 := y9 _ _ w1
    refine ⟨(by show 3 ≤ sizeLine; omega), fun l2 n2 => ?_⟩
    have z2 := same_new (o := .lst [V.ref a7, V.ref a8, V.ref a9]) n2
    have t2 := s10.trans z2
    have x0 := x0.same z2
    have x1 := x1.same z2
    have x2 := x2.same z2
    have x3 := x3.same z2
    have x4 := x4.same z2
    have x5 := x5.same z2
    have x6 := x6.same z2
    have x7 := x7.same z2
    have x8 := x8.same z2
    have x9 := x9.same z2
    have w1 := z2 _ _ w1
    refine ⟨_, _, _, _, rfl, rfl, w1, upd_same, (by show _ ≤ _; simp; omega), fun m2 o2 => ?_⟩
    have u2 := same_new (o := .lst ([V.ref a0, V.ref a1, V.ref a2, V.ref a3, V.ref a4, V.ref a5, V.ref a6] ++ [V.ref a7, V.ref a8, V.ref a9])) o2
    have v2 := t2.trans u2
    have x0 := x0.same u2
    have x1 := x1.same u2
    have x2 := x2.same u2
    have x3 := x3.same u2
    have x4 := x4.same u2
    have x5 := x5.same u2
    have x6 := x6.same u2
    have x7 := x7.same u2
    have x8 := x8.same u2
    have x9 := x9.same u2
    have w2 : upd (upd H9 l2 (.lst [V.ref a7, V.ref a8, V.ref a9])) m2 (.lst ([V.ref a0, V.ref a1, V.ref a2, V.ref a3, V.ref a4, V.ref a5, V.ref a6] ++ [V.ref a7, V.ref a8, V.ref a9])) m2 = some (.lst [V.ref a0, V.ref a1, V.ref a2, V.ref a3, V.ref a4, V.ref a5, V.ref a6, V.ref a7, V.ref a8, V.ref a9]) := upd_same
    refine ⟨_, rfl, ?_⟩
    refine ⟨_, rfl, fun a10 H10 x10 y10 => ?_⟩
    have s11 := v2.trans y10
    have x0 := x0.same y10
    have x1 := x1.same y10
    have x2 := x2.same y10
    have x3 := x3.same y10
    have x4 := x4.same y10
    have x5 := x5.same y10
    have x6 := x6.same y10
    have x7 := x7.same y10
    have x8 := x8.same y10
    have x9 := x9.same y10
    have w2 := y10 _ _ w2
    refine ⟨_, rfl, fun a11 H11 x11 y11 => ?_⟩
    have s12 := s11.trans y11
    have x0 := x0.same y11
    have x1 := x1.same y11
    have x2 := x2.same y11
    have x3 := x3.same y11
    have x4 := x4.same y11
    have x5 := x5.same y11
    have x6 := x6.same y11
    have x7 := x7.same y11
    have x8 := x8.same y11
    have x9 := x9.same y11
    have x10 := x10.same y11
    have w2 := y11 _ _ w2
    refine ⟨(by show 2 ≤ sizeLine; omega), fun l3 n3 => ?_⟩
    have z3 := same_new (o := .lst [V.ref a10, V.ref a11]) n3
    have t3 := s12.trans z3
    have x0 := x0.same z3
    have x1 := x1.same z3
    have x2 := x2.same z3
    have x3 := x3.same z3
    have x4 := x4.same z3
    have x5 := x5.same z3
    have x6 := x6.same z3
    have x7 := x7.same z3
    have x8 := x8.same z3
    have x9 := x9.same z3
    have x10 := x10.same z3
    have x11 := x11.same z3
    have w2 := z3 _ _ w2
    refine ⟨_, _, _, _, rfl, rfl, w2, upd_same, (by show _ ≤ _; simp; omega), fun m3 o3 => ?_⟩
    have u3 := same_new (o := .lst ([V.ref a0, V.ref a1, V.ref a2, V.ref a3, V.ref a4, V.ref a5, V.ref a6, V.ref a7, V.ref a8, V.ref a9] ++ [V.ref a10, V.ref a11])) o3
    have v3 := t3.trans u3
    have x0 := x0.same u3
    have x1 := x1.same u3
    have x2 := x2.same u3
    have x3 := x3.same u3
    have x4 := x4.same u3
    have x5 := x5.same u3
    have x6 := x6.same u3
    have x7 := x7.same u3
    have x8 := x8.same u3
    have x9 := x9.same u3
    have x10 := x10.same u3
    have x11 := x11.same u3
    exact k m3 [a0, a1, a2, a3, a4, a5, a6, a7, a8, a9, a10, a11] _ upd_same ⟨x0, x1, x2, x3, x4, x5, x6, x7, x8, x9, x10, x11, trivial⟩ v3
end
end K03

set_option Elab.async false
set_option linter.all false
set_option maxRecDepth 100000
set_option maxHeartbeats 8000000
namespace K03
open PySem PySem.Spec PyProof.Rows L2 Lm
abbrev sSigns : Stmt := top 19
abbrev sBases : Stmt := top 20
/-- an exception of a class, with a field or with none -/
def Exc (H : Hp) (a C : Addr) : Prop := (∃ f v, ExAt H a C f v) ∨ H a = some (ExO (.ref C) a)
theorem Exc.same {H H' : Hp} {a C : Addr} (h : Exc H a C) (s : Same H H') : Exc H' a C := by
  rcases h with ⟨f, v, h⟩ | h
  · exact .inl ⟨f, v, h.same s⟩
  · exact .inr (s _ _ h)
theorem isx {K : PySem.W.Frag} {H : Hp} {Q : VK} {a C : Addr} {c : V} {cv : Value} {b : Bool} (h : Exc H a C) (ec : ExcC K C) (hc : ClsV c cv) (k : PySem.W.kitOne K (.ref C) cv = some b) (q : Q (.bl b) H) : rIsX K [.ref a, c] H Q := by
  rcases h with ⟨f, v, dd, h1, h2⟩ | h
  · exact .inl ⟨a, C, dd, _, c, cv, b, rfl, h1, h2, ec, hc, k, q⟩
  · exact .inr ⟨a, C, c, cv, b, rfl, h, ec, hc, k, q⟩
structure Cs (K : PySem.W.Frag) (mg : Str → Option Value) (cs : List Addr) : Prop where
  isi : mg "isinstance" = none
  len : cs.length = 14
  ec : ∀ c ∈ cs, ExcC K c
  kit : ∀ (i j : Nat) (c d : Addr), cs[i]? = some c → cs[j]? = some d → PySem.W.kitOne K (.ref c) (.ref d) = some (decide (i = j))
  m0 : ∃ c, cs[0]? = some c ∧ mg "InvalidName" = some (.ref c)
  m1 : ∃ c, cs[1]? = some c ∧ mg "InvalidNumber" = some (.ref c)
  m2 : ∃ c, cs[2]? = some c ∧ mg "InvalidBody" = some (.ref c)
  m3 : ∃ c, cs[3]? = some c ∧ mg "InvalidProgram" = some (.ref c)
  m4 : ∃ c, cs[4]? = some c ∧ mg "InvalidState" = some (.ref c)
  m5 : ∃ c, cs[5]? = some c ∧ mg "InvalidChoice" = some (.ref c)
  m6 : ∃ c, cs[6]? = some c ∧ mg "InvalidCondition" = some (.ref c)
  m7 : ∃ c, cs[7]? = some c ∧ mg "InvalidSize" = some (.ref c)
  m8 : ∃ c, cs[8]? = some c ∧ mg "InvalidPaper" = some (.ref c)
  m9 : ∃ c, cs[9]? = some c ∧ mg "InvalidCommand" = some (.ref c)
  m10 : ∃ c, cs[10]? = some c ∧ mg "ParseError" = some (.ref c)
  m11 : ∃ c, cs[11]? = some c ∧ mg "TooMany" = some (.ref c)
  m12 : ∃ c, cs[12]? = some c ∧ mg "NothingToUndo" = some (.ref c)
  m13 : ∃ c, cs[13]? = some c ∧ mg "NothingToRedo" = some (.ref c)
section
variable {P : Program} {w : World} {K : PySem.W.Frag} {mg : Str → Option Value} {base : Heap} {cs : List Addr}
def spSigns (cs : List Addr) : Sp := fun vs H Q _ => ∃ (a C : Addr) (i : Nat), vs = [.ref a] ∧ cs[i]? = some C ∧ Exc H a C ∧ ∀ l H', H' l = some (.lst ((List.range 14).map fun j => V.bl (decide (i = j)))) → Same H H' → Q (.ref l) H'
theorem scSigns : FnScope ["_law_e", "_law_some"] ["_law_e"] (defScope sSigns) := ⟨rfl, rfl, rfl, by decide +kernel, rfl, by decide +kernel, by decide +kernel⟩
theorem ok_signs {f : Addr} {fd : FuncData} (F : Fun K "_law_signs" "_law_signs" sSigns f fd) (T : Cs K mg cs) : FnOk P w K mg base CX0 1 f fd ["_law_e"] (spSigns cs) := by
  obtain ⟨c0, g0, mg0⟩ := T.m0
  obtain ⟨c1, g1, mg1⟩ := T.m1
  obtain ⟨c2, g2, mg2⟩ := T.m2
  obtain ⟨c3, g3, mg3⟩ := T.m3
  obtain ⟨c4, g4, mg4⟩ := T.m4
  obtain ⟨c5, g5, mg5⟩ := T.m5
  obtain ⟨c6, g6, mg6⟩ := T.m6
  obtain ⟨c7, g7, mg7⟩ := T.m7
  obtain ⟨c8, g8, mg8⟩ := T.m8
  obtain ⟨c9, g9, mg9⟩ := T.m9
  obtain ⟨c10, g10, mg10⟩ := T.m10
  obtain ⟨c11, g11, mg11⟩ := T.m11
  obtain ⟨c12, g12, mg12⟩ := T.m12
  obtain ⟨c13, g13, mg13⟩ := T.m13
  refine F.ok scSigns (fun vs H Q E h => ?_) (fun cdv A outer s H vs Q E hr h => ?_)
  · obtain ⟨a, C, i, rfl, _⟩ := h
    rfl
  · obtain ⟨a, C, i, rfl, hi, he, k⟩ := h
    refine ⟨_, (pss_cons (ps_set (i := 1) scSigns.nd rfl (.inl rfl) (pe_lst (pa_cons (pe_callB call_isX (by rfl) T.isi (by decide +kernel) (pa_cons (pv 0) (pa_cons (pe_glob (v := .ref c0) rfl mg0 rfl) pa_nil))) (pa_cons (pe_callB call_isX (by rfl) T.isi (by decide +kernel) (pa_cons (pv 0) (pa_cons (pe_glob (v := .ref c1) rfl mg1 rfl) pa_nil))) (pa_cons (pe_callB call_isX (by rfl) T.isi (by decide +kernel) (pa_cons (pv 0) (pa_cons (pe_glob (v := .ref c2) rfl mg2 rfl) pa_nil))) pa_nil)))))
      (pss_cons (ps_set (i := 1) scSigns.nd rfl (.inl rfl) (pe_op op_cat (pv 1) (pe_lst (pa_cons (pe_callB call_isX (by rfl) T.isi (by decide +kernel) (pa_cons (pv 0) (pa_cons (pe_glob (v := .ref c3) rfl mg3 rfl) pa_nil))) (pa_cons (pe_callB call_isX (by rfl) T.isi (by decide +kernel) (pa_cons (pv 0) (pa_cons (pe_glob (v := .ref c4) rfl mg4 rfl) pa_nil))) (pa_cons (pe_callB call_isX (by rfl) T.isi (by decide +kernel) (pa_cons (pv 0) (pa_cons (pe_glob (v := .ref c5) rfl mg5 rfl) pa_nil))) pa_nil))))))
      (pss_cons (ps_set (i := 1) scSigns.nd rfl (.inl rfl) (pe_op op_cat (pv 1) (pe_lst (pa_cons (pe_callB call_isX (by rfl) T.isi (by decide +kernel) (pa_cons (pv 0) (pa_cons (pe_glob (v := .ref c6) rfl mg6 rfl) pa_nil))) (pa_cons (pe_callB call_isX (by rfl) T.isi (by decide +kernel) (pa_cons (pv 0) (pa_cons (pe_glob (v := .ref c7) rfl mg7 rfl) pa_nil))) (pa_cons (pe_callB call_isX (by rfl) T.isi (by decide +kernel) (pa_cons (pv 0) (pa_cons (pe_glob (v := .ref c8) rfl mg8 rfl) pa_nil))) pa_nil))))))
      (pss_cons (ps_set (i := 1) scSigns.nd rfl (.inl rfl) (pe_op op_cat (pv 1) (pe_lst (pa_cons (pe_callB call_isX (by rfl) T.isi (by decide +kernel) (pa_cons (pv 0) (pa_cons (pe_glob (v := .ref c9) rfl mg9 rfl) pa_nil))) (pa_cons (pe_callB call_isX (by rfl) T.isi (by decide +kernel) (pa_cons (pv 0) (pa_cons (pe_glob (v := .ref c10) rfl mg10 rfl) pa_nil))) (pa_cons (pe_callB call_isX (by rfl) T.isi (by decide +kernel) (pa_cons (pv 0) (pa_cons (pe_glob (v := .ref c11) rfl mg11 rfl) pa_nil))) pa_nil))))))
      (pss_one (ps_ret (pe_op op_cat (pv 1) (pe_lst (pa_cons (pe_callB call_isX (by rfl) T.isi (by decide +kernel) (pa_cons (pv 0) (pa_cons (pe_glob (v := .ref c12) rfl mg12 rfl) pa_nil))) (pa_cons (pe_callB call_isX (by rfl) T.isi (by decide +kernel) (pa_cons (pv 0) (pa_cons (pe_glob (v := .ref c13) rfl mg13 rfl) pa_nil))) pa_nil)))))))))), ?_⟩
    have hz : sizeLine = 16777216 := sizeLine_eq
    have ec := T.ec C (List.mem_of_getElem? hi)
    refine ⟨_, rfl, isx he ec (.own c0) (T.kit i 0 C c0 hi g0) ?_⟩
    refine ⟨_, rfl, isx he ec (.own c1) (T.kit i 1 C c1 hi g1) ?_⟩
    refine ⟨_, rfl, isx he ec (.own c2) (T.kit i 2 C c2 hi g2) ?_⟩
    refine ⟨(by show 3 ≤ sizeLine; omega), fun l0 n0 => ?_⟩
    have z0 := same_new (o := .lst [V.bl (decide (i = 0)), V.bl (decide (i = 1)), V.bl (decide (i = 2))]) n0
    have he0 := Exc.same he z0
    have acc0 := z0
    have w0 : upd H l0 (.lst [V.bl (decide (i = 0)), V.bl (decide (i = 1)), V.bl (decide (i = 2))]) l0 = some (.lst [V.bl (decide (i = 0)), V.bl (decide (i = 1)), V.bl (decide (i = 2))]) := upd_same
    refine ⟨_, rfl, ?_⟩
    refine ⟨_, rfl, isx he0 ec (.own c3) (T.kit i 3 C c3 hi g3) ?_⟩
    refine ⟨_, rfl, isx he0 ec (.own c4) (T.kit i 4 C c4 hi g4) ?_⟩
    refine ⟨_, rfl, isx he0 ec (.own c5) (T.kit i 5 C c5 hi g5) ?_⟩
    refine ⟨(by show 3 ≤ sizeLine; omega), fun l1 n1 => ?_⟩
    have z1 := same_new (o := .lst [V.bl (decide (i = 3)), V.bl (decide (i = 4)), V.bl (decide (i = 5))]) n1
    have he1 := Exc.same he0 z1
    have w0 := z1 _ _ w0
    have acc1a := acc0.trans z1
    refine ⟨_, _, _, _, rfl, rfl, w0, upd_same, (by show _ ≤ _; simp; omega), fun m1 o1 => ?_⟩
    have u1 := same_new (o := .lst ([V.bl (decide (i = 0)), V.bl (decide (i = 1)), V.bl (decide (i = 2))] ++ [V.bl (decide (i = 3)), V.bl (decide (i = 4)), V.bl (decide (i = 5))])) o1
    have acc1 := acc1a.trans u1
    have he1b := Exc.same he1 u1
    have w1 : (upd (upd (upd H l0 (.lst [V.bl (decide (i = 0)), V.bl (decide (i = 1)), V.bl (decide (i = 2))])) l1 (.lst [V.bl (decide (i = 3)), V.bl (decide (i = 4)), V.bl (decide (i = 5))])) m1 (.lst ([V.bl (decide (i = 0)), V.bl (decide (i = 1)), V.bl (decide (i = 2))] ++ [V.bl (decide (i = 3)), V.bl (decide (i = 4)), V.bl (decide (i = 5))]))) m1 = some (.lst [V.bl (decide (i = 0)), V.bl (decide (i = 1)), V.bl (decide (i = 2)), V.bl (decide (i = 3)), V.bl (decide (i = 4)), V.bl (decide (i = 5))]) := upd_same
    refine ⟨_, rfl, ?_⟩
    refine ⟨_, rfl, isx he1b ec (.own c6) (T.kit i 6 C c6 hi g6) ?_⟩
    refine ⟨_, rfl, isx he1b ec (.own c7) (T.kit i 7 C c7 hi g7) ?_⟩
    refine ⟨_, rfl, isx he1b ec (.own c8) (T.kit i 8 C c8 hi g8) ?_⟩
    refine ⟨(by show 3 ≤ sizeLine; omega), fun l2 n2 => ?_⟩
    have z2 := same_new (o := .lst [V.bl (decide (i = 6)), V.bl (decide (i = 7)), V.bl (decide (i = 8))]) n2
    have he2 := Exc.same he1b z2
    have w1 := z2 _ _ w1
    have acc2a := acc1.trans z2
    refine ⟨_, _, _, _, rfl, rfl, w1, upd_same, (by show _ ≤ _; simp; omega), fun m2 o2 => ?_⟩
    have u2 := same_new (o := .lst ([V.bl (decide (i = 0)), V.bl (decide (i = 1)), V.bl (decide (i = 2)), V.bl (decide (i = 3)), V.bl (decide (i = 4)), V.bl (decide (i = 5))] ++ [V.bl (decide (i = 6)), V.bl (decide (i = 7)), V.bl (decide (i = 8))])) o2
    have acc2 := acc2a.trans u2
    have he2b := Exc.same he2 u2
    have w2 : (upd (upd (upd (upd (upd H l0 (.lst [V.bl (decide (i = 0)), V.bl (decide (i = 1)), V.bl (decide (i = 2))])) l1 (.lst [V.bl (decide (i = 3)), V.bl (decide (i = 4)), V.bl (decide (i = 5))])) m1 (.lst ([V.bl (decide (i = 0)), V.bl (decide (i = 1)), V.bl (decide (i = 2))] ++ [V.bl (decide (i = 3)), V.bl (decide (i = 4)), V.bl (decide (i = 5))]))) l2 (.lst [V.bl (decide (i = 6)), V.bl (decide (i = 7)), V.bl (decide (i = 8))])) m2 (.lst ([V.bl (decide (i = 0)), V.bl (decide (i = 1)), V.bl (decide (i = 2)), V.bl (decide (i = 3)), V.bl (decide (i = 4)), V.bl (decide (i = 5))] ++ [V.bl (decide (i = 6)), V.bl (decide (i = 7)), V.bl (decide (i = 8))]))) m2 = some (.lst [V.bl (decide (i = 0)), V.bl (decide (i = 1)), V.bl (decide (i = 2)), V.bl (decide (i = 3)), V.bl (decide (i = 4)), V.bl (decide (i = 5)), V.bl (decide (i = 6)), V.bl (decide (i = 7)), V.bl (decide (i = 8))]) := upd_same
    refine ⟨_, rfl, ?_⟩
    refine ⟨_, rfl, isx he2b ec (.own c9) (T.kit i 9 C c9 hi g9) ?_⟩
    refine ⟨_, rfl, isx he2b ec (.own c10) (T.kit i 10 C c10 hi g10) ?_⟩
    refine ⟨_, rfl, isx he2b ec (.own c11) (T.kit i 11 C c11 hi g11) ?_⟩
    refine ⟨(by show 3 ≤ sizeLine; omega), fun l3 n3 => ?_⟩
    have z3 := same_new (o := .lst [V.bl (decide (i = 9)), V.bl (decide (i = 10)), V.bl (decide (i = 11))]) n3
    have he3 := Exc.same he2b z3
    have w2 := z3 _ _ w2
    have acc3a := acc2.trans z3
    refine ⟨_, _, _, _, rfl, rfl, w2, upd_same, (by show _ ≤ _; simp; omega), fun m3 o3 => ?_⟩
    have u3 := same_new (o := .lst ([V.bl (decide (i = 0)), V.bl (decide (i = 1)), V.bl (decide (i = 2)), V.bl (decide (i = 3)), V.bl (decide (i = 4)), V.bl (decide (i = 5)), V.bl (decide (i = 6)), V.bl (decide (i = 7)), V.bl (decide (i = 8))] ++ [V.bl (decide (i = 9)), V.bl (decide (i = 10)), V.bl (decide (i = 11))])) o3
    have acc3 := acc3a.trans u3
    have he3b := Exc.same he3 u3
    have w3 : (upd (upd (upd (upd (upd (upd (upd H l0 (.lst [V.bl (decide (i = 0)), V.bl (decide (i = 1)), V.bl (decide (i = 2))])) l1 (.lst [V.bl (decide (i = 3)), V.bl (decide (i = 4)), V.bl (decide (i = 5))])) m1 (.lst ([V.bl (decide (i = 0)), V.bl (decide (i = 1)), V.bl (decide (i = 2))] ++ [V.bl (decide (i = 3)), V.bl (decide (i = 4)), V.bl (decide (i = 5))]))) l2 (.lst [V.bl (decide (i = 6)), V.bl (decide (i = 7)), V.bl (decide (i = 8))])) m2 (.lst ([V.bl (decide (i = 0)), V.bl (decide (i = 1)), V.bl (decide (i = 2)), V.bl (decide (i = 3)), V.bl (decide (i = 4)), V.bl (decide (i = 5))] ++ [V.bl (decide (i = 6)), V.bl (decide (i = 7)), V.bl (decide (i = 8))]))) l3 (.lst [V.bl (decide (i = 9)), V.bl (decide (i = 10)), V.bl (decide (i = 11))])) m3 (.lst ([V.bl (decide (i = 0)), V.bl (decide (i = 1)), V.bl (decide (i = 2)), V.bl (decide (i = 3)), V.bl (decide (i = 4)), V.bl (decide (i = 5)), V.bl (decide (i = 6)), V.bl (decide (i = 7)), V.bl (decide (i = 8))] ++ [V.bl (decide (i = 9)), V.bl (decide (i = 10)), V.bl (decide (i = 11))]))) m3 = some (.lst [V.bl (decide (i = 0)), V.bl (decide (i = 1)), V.bl (decide (i = 2)), V.bl (decide (i = 3)), V.bl (decide (i = 4)), V.bl (decide (i = 5)), V.bl (decide (i = 6)), V.bl (decide (i = 7)), V.bl (decide (i = 8)), V.bl (decide (i = 9)), V.bl (decide (i = 10)), V.bl (decide (i = 11))]) := upd_same
    refine ⟨_, rfl, ?_⟩
    refine ⟨_, rfl, isx he3b ec (.own c12) (T.kit i 12 C c12 hi g12) ?_⟩
    refine ⟨_, rfl, isx he3b ec (.own c13) (T.kit i 13 C c13 hi g13) ?_⟩
    refine ⟨(by show 2 ≤ sizeLine; omega), fun l4 n4 => ?_⟩
    have z4 := same_new (o := .lst [V.bl (decide (i = 12)), V.bl (decide (i = 13))]) n4
    have he4 := Exc.same he3b z4
    have w3 := z4 _ _ w3
    have acc4a := acc3.trans z4
    refine ⟨_, _, _, _, rfl, rfl, w3, upd_same, (by show _ ≤ _; simp; omega), fun m4 o4 => ?_⟩
    have u4 := same_new (o := .lst ([V.bl (decide (i = 0)), V.bl (decide (i = 1)), V.bl (decide (i = 2)), V.bl (decide (i = 3)), V.bl (decide (i = 4)), V.bl (decide (i = 5)), V.bl (decide (i = 6)), V.bl (decide (i = 7)), V.bl (decide (i = 8)), V.bl (decide (i = 9)), V.bl (decide (i = 10)), V.bl (decide (i = 11))] ++ [V.bl (decide (i = 12)), V.bl (decide (i = 13))])) o4
    have acc4 := acc4a.trans u4
    have he4b := Exc.same he4 u4
    exact k m4 _ upd_same acc4
end
end K03

set_option Elab.async false
set_option linter.all false
set_option maxRecDepth 100000
set_option maxHeartbeats 8000000
namespace K03
open PySem PySem.Spec PyProof.Rows L2 Lm
structure Bs (K : PySem.W.Frag) (mg : Str → Option Value) (cs : List Addr) (S : Addr) : Prop where
  mS : mg "SafeError" = some (.ref S)
  mV : mg "ValueError" = none
  mO : mg "OverflowError" = none
  mL : mg "LookupError" = none
  kS : ∀ (i : Nat) (c : Addr), cs[i]? = some c → PySem.W.kitOne K (.ref c) (.ref S) = some (decide (i < 11))
  kV : ∀ (i : Nat) (c : Addr), cs[i]? = some c → PySem.W.kitOne K (.ref c) (.type "ValueError") = some (decide (i < 11))
  kO : ∀ (i : Nat) (c : Addr), cs[i]? = some c → PySem.W.kitOne K (.ref c) (.type "OverflowError") = some (decide (i = 11))
  kL : ∀ (i : Nat) (c : Addr), cs[i]? = some c → PySem.W.kitOne K (.ref c) (.type "LookupError") = some (decide (11 < i))
section
variable {P : Program} {w : World} {K : PySem.W.Frag} {mg : Str → Option Value} {base : Heap} {cs : List Addr} {S : Addr}
def spBases (cs : List Addr) : Sp := fun vs H Q _ => ∃ (a C : Addr) (i : Nat), vs = [.ref a] ∧ cs[i]? = some C ∧ Exc H a C ∧ ∀ l H', H' l = some (.lst [V.bl (decide (i < 11)), V.bl (decide (i < 11)), V.bl (decide (i = 11)), V.bl (decide (11 < i))]) → Same H H' → Q (.ref l) H'
theorem scBases : FnScope ["_law_e", "_law_some"] ["_law_e"] (defScope sBases) := ⟨rfl, rfl, rfl, by decide +kernel, rfl, by decide +kernel, by decide +kernel⟩
theorem ok_bases {f : Addr} {fd : FuncData} (F : Fun K "_law_bases" "_law_bases" sBases f fd) (T : Cs K mg cs) (B : Bs K mg cs S) : FnOk P w K mg base CX0 1 f fd ["_law_e"] (spBases cs) := by
  refine F.ok scBases (fun vs H Q E h => ?_) (fun cdv A outer s H vs Q E hr h => ?_)
  · obtain ⟨a, C, i, rfl, _⟩ := h
    rfl
  · obtain ⟨a, C, i, rfl, hi, he, k⟩ := h
    refine ⟨_, pss_cons (ps_set (i := 1) scBases.nd rfl (.inl rfl) (pe_lst (pa_cons (pe_callB call_isX (by rfl) T.isi (by decide +kernel) (pa_cons (pv 0) (pa_cons (pe_glob (v := .ref S) rfl B.mS rfl) pa_nil)))
        (pa_cons (pe_callB call_isX (by rfl) T.isi (by decide +kernel) (pa_cons (pv 0) (pa_cons (pe_bltn (v := .ty "ValueError") (by rfl) B.mV (by decide +kernel) rfl) pa_nil))) pa_nil))))
      (pss_one (ps_ret (pe_op op_cat (pv 1) (pe_lst (pa_cons (pe_callB call_isX (by rfl) T.isi (by decide +kernel) (pa_cons (pv 0) (pa_cons (pe_bltn (v := .ty "OverflowError") (by rfl) B.mO (by decide +kernel) rfl) pa_nil)))
        (pa_cons (pe_callB call_isX (by rfl) T.isi (by decide +kernel) (pa_cons (pv 0) (pa_cons (pe_bltn (v := .ty "LookupError") (by rfl) B.mL (by decide +kernel) rfl) pa_nil))) pa_nil)))))), ?_⟩
    have hz : sizeLine = 16777216 := sizeLine_eq
    have ec := T.ec C (List.mem_of_getElem? hi)
    refine ⟨_, rfl, isx he ec (.own S) (B.kS i C hi) ⟨_, rfl, isx he ec (.ty "ValueError") (B.kV i C hi) ⟨(by show 2 ≤ sizeLine; omega), fun l n => ?_⟩⟩⟩
    have z0 := same_new (o := .lst [V.bl (decide (i < 11)), V.bl (decide (i < 11))]) n
    have he0 := Exc.same he z0
    refine ⟨_, rfl, _, rfl, isx he0 ec (.ty "OverflowError") (B.kO i C hi) ⟨_, rfl, isx he0 ec (.ty "LookupError") (B.kL i C hi) ⟨(by show 2 ≤ sizeLine; omega), fun l1 n1 => ?_⟩⟩⟩
    have z1 := same_new (o := .lst [V.bl (decide (i = 11)), V.bl (decide (11 < i))]) n1
    refine ⟨_, _, _, _, rfl, rfl, z1 _ _ upd_same, upd_same, (by show _ ≤ _; simp; omega), fun m o => ?_⟩
    exact k m _ upd_same ((z0.trans z1).trans (same_new o))
end
end K03

set_option Elab.async false
set_option linter.all false
set_option maxRecDepth 100000
set_option maxHeartbeats 8000000
namespace K03
open PySem PySem.Spec PyProof.Rows L2 Lm
/-! ### list.count of flat items -/
theorem count_eqU {x : V} : ∀ {ys : List V} {us : List Value}, Vals ys us → ys.all flatV = true → us.countP (eqU x) = ys.countP fun y => eqV y x
  | _, _, .nil, _ => rfl
  | y :: ys, u :: us, .cons r t, f => by
    rw [List.all_cons, Bool.and_eq_true] at f
    rw [List.countP_cons, List.countP_cons, eqU_of r f.1, count_eqU t f.2]
def rCntV (K : PySem.W.Frag) : V → List V → Hp → VK → Prop := fun x xs H Q => ∃ (a : Addr) (ys : List V) (y : V), x = .ref a ∧ xs = [y] ∧ SqL K H a ys ∧ flatV y = true ∧ ys.all flatV = true ∧ Q (.int ((ys.countP fun z => eqV z y : Nat) : Int)) H
theorem mt_countV {X : Cx} : MtR X "list.count" (rCntV X.K) := by
  intro pins s σ H x xs v us Q I rx rxs h
  obtain ⟨a, ys, y, rfl, rfl, hs, fy, fys, q⟩ := h
  cases rx
  obtain ⟨uy, rfl, ry⟩ := rxs.one
  obtain ⟨its, rv, ⟨⟨cls, dd, data, sl⟩, n, ho, hc, hdn, hd⟩, hlen⟩ := I.list hs
  simp only at hc hd
  subst hc hd
  have ec : its.toArray.toList.countP (eqU y) = ys.countP fun z => eqV z y := count_eqU rv fys
  refine call_meets PySem.F.slot_list_count ⟨_, ho, rfl⟩ PySem.F.entry_list_count (PySem.F.args_list_count_2 _ _) (SeqAt.list_countAt a its.toArray n dd sl uy (eqU y)) ⟨ho, fun u' hu' => mem_eqAt ry fy rv fys u' (by simpa using hu'), ?_⟩
  rw [ec]
  exact ⟨.int _, H, I.tok _, ⟨s.toks, rfl⟩, q⟩
section
variable {X : Cx}
/-! ### != of data, of dicts -/
def rNeX (K : PySem.W.Frag) : R2 := fun x y H Q => rNeD K x y H Q ∨ rNeDA x y H Q
theorem op_neX (hu : X.A.units + 64 < cLine) : OpR X (compareOp .NotEq) (rNeX X.K) := by
  intro pins s σ H x y v u Q I rx ry h
  rcases h with h | h
  · exact op_neD hu pins s σ H x y v u Q I rx ry h
  · exact op_ne_dictA (by omega) pins s σ H x y v u Q I rx ry h
/-! ### new lists off the modules' dict -/
def rCatN : R2 := fun x y H Q => ∃ l b xs zs, x = .ref l ∧ y = .ref b ∧ H l = some (.lst xs) ∧ H b = some (.lst zs) ∧ xs.length + zs.length ≤ sizeLine ∧ ∀ p, H p = none → p ≠ sysModules → Q (.ref p) (upd H p (.lst (xs ++ zs)))
theorem op_catN : OpR X (binaryOp .Add) rCatN := by
  intro pins s σ H x y v u Q I rx ry h
  obtain ⟨l, b, xs, zs, rfl, rfl, hl, hb, hz, q⟩ := h
  cases rx
  cases ry
  obtain ⟨_, us, n, r1, n1, e1⟩ := I.lstM hl
  obtain ⟨_, ws, m, r2, n2, e2⟩ := I.lstM hb
  refine PySem.P.add_list e1 e2 ?_ (by simp only [List.size_toArray]; omega)
  rw [show us.toArray ++ ws.toArray = (us ++ ws).toArray by simp]
  exact ⟨.ref _, _, I.lnew (t' := s.toks) (r1.append r2) (by rw [List.length_append]; omega), rfl, q _ I.fresh (Nat.ne_of_gt I.big)⟩
def rRepN : R2 := fun x y H Q => ∃ l k xs, x = .ref l ∧ y = .int k ∧ H l = some (.lst xs) ∧ 0 ≤ k ∧ k ≤ 100 ∧ xs.length ≤ 10 ∧ ∀ p, H p = none → p ≠ sysModules → Q (.ref p) (upd H p (.lst (List.replicate k.toNat xs).flatten))
theorem op_repN : OpR X (binaryOp .Mult) rRepN := by
  intro pins s σ H x y v u Q I rx ry h
  obtain ⟨l, k, xs, rfl, rfl, hl, k0, k1, hx, q⟩ := h
  cases rx
  obtain ⟨t, rfl⟩ := ry
  obtain ⟨_, us, n, r1, n1, e1⟩ := I.lstM hl
  have hz : sizeLine = 16777216 := sizeLine_eq
  have hk : k.toNat ≤ 100 := by omega
  have many : us.length * k.toNat ≤ 1000 := Nat.le_trans (Nat.mul_le_mul (by omega : us.length ≤ 10) hk) (by decide)
  have cap : ¬ us.toArray.size * k.toNat > (2 ^ 63 - 1) / 8 := by rw [List.size_toArray]; omega
  have fits : ¬ (!Builtin.List.listFitsIndex k) = true := by rw [fitsIndex_both (by omega) (by omega)]; exact Bool.false_ne_true
  have long : ¬ Builtin.List.listTooLong (us.toArray.size * k.toNat) = true := by rw [List.size_toArray, notLongL (by omega)]; exact Bool.false_ne_true
  have made : List.foldl (fun a b => a ++ b) #[] (List.replicate (if us.toArray.isEmpty = true then 0 else k.toNat) us.toArray) = (List.replicate k.toNat us).flatten.toArray := by
    have all : ∀ m : Nat, List.foldl (fun a b => a ++ b) #[] (List.replicate m us.toArray) = (List.replicate m us).flatten.toArray := fun m => by simpa using foldl_rep us m []
    rw [all]
    cases us with
    | nil => simp
    | cons _ _ => rw [if_neg (by simp)]
  have here : s.TypeIs (.ref l) "list" := ⟨_, e1, rfl⟩
  have tree := AutoListH.list___mul___list_int_3 l us.toArray n k t fits cap long
  refine wpAny_binaryOp_repeat_ref (T := "list") (U := "int") (by decide) here (fun s' => typeIs_int s' k t) noFill_list_mul F.fills_int_mul F.slot_int_rmul repeat_list F.slot_int_index.lookup ?_
  refine call_meets F.slot_int_rmul (typeIs_int s k t) F.entry_int_rmul (F.args_int_rmul_2 _ _) (int___rmul___int_list k t l us.toArray n) ⟨e1, rfl, here, ?_⟩
  refine call_meets F.slot_list_mul here F.entry_list_mul (F.args_list_mul_2 _ _) tree ⟨e1, ?_⟩
  rw [made]
  exact ⟨.ref _, _, I.lnew (t' := s.toks) (r1.rep k.toNat) (by rw [PyProof.Rows.lm_len_rep_flat, n1, Nat.mul_comm]; omega), rfl, q _ I.fresh (Nat.ne_of_gt I.big)⟩
end
/-! ### the values that errors are made with -/
def dA : PyData := .dict [(.str "a", .int 1)]
inductive XV (H : Hp) : V → PyData → Prop
  | dat {v : V} {d : PyData} : DE Off H v d → XV H v d
  | dic {a : Addr} : H a = some (.dK [(Sum.inr "a", .int 1)]) → XV H (.ref a) dA
theorem XV.same {H H' : Hp} {v : V} {d : PyData} (h : XV H v d) (s : Same H H') : XV H' v d := by
  cases h with
  | dat h => exact .dat (h.same s)
  | dic h => exact .dic (s _ _ h)
section
variable {X : Cx} {pins : List (Addr × Obj)} {σ : L2.St} {H : Hp} {s : Shared}
theorem XV.reads (I : Inv X pins σ H s) {v : V} {d : PyData} {u : Value} (h : XV H v d) (r : RelV v u) : ∃ as, Reads s.heap u d as ∧ sysModules ∉ as := by
  cases h with
  | dat h => exact DE.reads I d v u h r
  | @dic a h =>
    obtain rfl : u = Value.ref a := r
    obtain ⟨_, hsys, vs, rel, o, es, ep, ho, hx, hd, _, hp, _⟩ := dk_of I.hok h
    cases rel with
    | @cons _ q _ _ h1 h2 =>
      cases h2
      obtain ⟨k, w⟩ := q
      obtain ⟨e1, t, e2⟩ := h1
      dsimp only at e1 e2
      subst e1 e2
      generalize hes : es.toList = el at hp
      cases hp with
      | @cons e _ _ _ hk hv h3 =>
        cases h3
        obtain ⟨t2, ek⟩ := Value.isStrOf_shape (x := "a") (v := e.key) hk
        refine ⟨a :: ([] ++ []) ++ ([] ++ []), .dict ho hx.1 hd ?_ ?_, fun hm => ?_⟩
        · rw [hes]
          show ReadsAll s.heap [e.key] [.str "a"] _
          rw [ek]
          exact .cons (.str _ _) .nil
        · rw [hes]
          show ReadsAll s.heap [e.val] [.int 1] _
          rw [hv]
          exact .cons (.int _ _) .nil
        · have e1 : sysModules = a := by simpa using hm
          rw [e1] at hsys
          simp at hsys
theorem XV.readsN (I : Inv X pins σ H s) {v : V} {d : PyData} (h : XV H v d) : ∀ (n : Nat) {us : List Value}, Vals (List.replicate n v) us → ∃ as, ReadsAll s.heap us (List.replicate n d) as ∧ sysModules ∉ as
  | 0, _, r => by
    cases r
    exact ⟨_, .nil, by simp⟩
  | n + 1, _, r => by
    cases r with
    | cons r1 r2 =>
      obtain ⟨as, q1, n1⟩ := XV.reads I h r1
      obtain ⟨bs, q2, n2⟩ := XV.readsN I h n r2
      exact ⟨_, .cons q1 q2, by simpa using ⟨n1, n2⟩⟩
end
/-- repr of a list of twelve times the same -/
def rRep12 : List V → Hp → VK → Prop := fun xs H Q => ∃ l v d, xs = [.ref l] ∧ H l = some (.lst (List.replicate 12 v)) ∧ l ≠ sysModules ∧ XV H v d ∧ (PyData.list (List.replicate 12 d)).showable = true ∧ (PyData.list (List.replicate 12 d)).depth ≤ 60 ∧
  (PyData.list (List.replicate 12 d)).shown.length ≤ sizeLine ∧ Q (.str (PyData.list (List.replicate 12 d)).shown) H
theorem call_rep12 {X : Cx} (hg : X.A.guards = some []) (hu : X.A.units + 64 < cLine) : CallR X (.builtin "repr") rRep12 := by
  intro pins s σ H xs us Q I r h
  obtain ⟨l, v, d, rfl, hl, no, hx, hs, hd, hz, q⟩ := h
  obtain ⟨u, rfl, ru⟩ := vals1 r
  obtain rfl : u = Value.ref l := ru
  obtain ⟨its, rv, ⟨o, m, ho, hc, _, hdt⟩, _⟩ := I.list (SqL.of hl)
  obtain ⟨as, rd, na⟩ := XV.readsN I hx 12 rv
  have rr : Reads s.heap (.ref l) (.list (List.replicate 12 d)) (l :: as) := .list ho hc hdt (by simpa using rd)
  exact repr_of_reads' rr hs (fun _ => by simpa using ⟨Ne.symm no, na⟩) hg (by omega) (fun _ _ e => e) (fun h' u tk hk => ⟨.str _, H, I.kept hk, ⟨_, rfl⟩, q⟩) hz
/-! ### what is asked of such a value -/
def okX (d : PyData) : Bool := d.canLay0 && decide (d.depth ≤ 64) && PyData.eqv d d && (PyData.list (List.replicate 12 d)).showable && decide ((PyData.list (List.replicate 12 d)).depth ≤ 60) && decide ((PyData.list (List.replicate 12 d)).shown.length ≤ 1000)
def okS (d : PyData) : Bool := (PyData.list (List.replicate 12 d)).showable && decide ((PyData.list (List.replicate 12 d)).depth ≤ 60) && decide ((PyData.list (List.replicate 12 d)).shown.length ≤ 1000)
def items : List PyData := [.none, .int 5, .str "x", .tuple [.int 1, .list [.int 2]], .list [], .bool true, .int (-(10 : Int) ^ (30 : Int).toNat)]
theorem items_ok : items.all okX = true := by decide +kernel
theorem dA_ok : okS dA = true := by decide +kernel
end K03

set_option Elab.async false
set_option linter.all false
set_option maxRecDepth 100000
set_option maxHeartbeats 8000000
namespace K03
open PySem PySem.Spec PyProof.Rows L2 Lm
/-! ### the twelve errors, by their places -/
theorem AllEx.len {H : Hp} {v : V} : ∀ {as : List Addr} {cs : List (Addr × Str)}, AllEx H as cs v → as.length = cs.length
  | [], [], _ => rfl
  | _ :: _, _ :: _, h => by
    have := AllEx.len h.2
    simp [this]
  | [], _ :: _, h => h.elim
  | _ :: _, [], h => h.elim
theorem AllEx.get {H : Hp} {v : V} : ∀ {as : List Addr} {cs : List (Addr × Str)}, AllEx H as cs v → ∀ {i : Nat} {x : Addr}, as[i]? = some x → ∃ c, cs[i]? = some c ∧ ExAt H x c.1 c.2 v
  | [], [], _, i, x, e => by cases e
  | _ :: _, c :: _, h, 0, x, e => by
    cases e
    exact ⟨c, rfl, h.1⟩
  | _ :: _, _ :: _, h, i + 1, x, e => AllEx.get (i := i) h.2 (by simpa using e)
  | [], _ :: _, h, _, _, _ => h.elim
  | _ :: _, [], h, _, _, _ => h.elim
section
variable {P : Program} {w : World} {K : PySem.W.Frag} {mg : Str → Option Value} {base : Heap} {a : Ad}
theorem Tab.cls (T : Tab P w K mg base a) : ∀ {i : Nat} {c : Addr × Str}, a.all[i]? = some c → XfC K c.1 ∧ PySem.W.findIn K (.ref c.1) c.2 = some none
  | 0, _, e => by cases e; exact ⟨T.e0.xf, T.e0.nf⟩
  | 1, _, e => by cases e; exact ⟨T.e1.xf, T.e1.nf⟩
  | 2, _, e => by cases e; exact ⟨T.e2.xf, T.e2.nf⟩
  | 3, _, e => by cases e; exact ⟨T.e3.xf, T.e3.nf⟩
  | 4, _, e => by cases e; exact ⟨T.e4.xf, T.e4.nf⟩
  | 5, _, e => by cases e; exact ⟨T.e5.xf, T.e5.nf⟩
  | 6, _, e => by cases e; exact ⟨T.e6.xf, T.e6.nf⟩
  | 7, _, e => by cases e; exact ⟨T.e7.xf, T.e7.nf⟩
  | 8, _, e => by cases e; exact ⟨T.e8.xf, T.e8.nf⟩
  | 9, _, e => by cases e; exact ⟨T.e9.xf, T.e9.nf⟩
  | 10, _, e => by cases e; exact ⟨T.e10.xf, T.e10.nf⟩
  | 11, _, e => by cases e; exact ⟨T.e11.xf, T.e11.nf⟩
  | n + 12, _, e => by cases e
theorem fname {a : Ad} : ∀ {i : Nat} {c : Addr × Str}, a.all[i]? = some c → i < 10 → c.2 = "value"
  | 0, _, e, _ => by cases e; rfl
  | 1, _, e, _ => by cases e; rfl
  | 2, _, e, _ => by cases e; rfl
  | 3, _, e, _ => by cases e; rfl
  | 4, _, e, _ => by cases e; rfl
  | 5, _, e, _ => by cases e; rfl
  | 6, _, e, _ => by cases e; rfl
  | 7, _, e, _ => by cases e; rfl
  | 8, _, e, _ => by cases e; rfl
  | 9, _, e, _ => by cases e; rfl
  | n + 10, _, _, h => by omega
/-- the field of one of the twelve, read -/
theorem rd_field (T : Tab P w K mg base a) {H : Hp} {v : V} {as : List Addr} (i : Nat) {x : Addr} {c : Addr × Str} {f : Str} (A : AllEx H as a.all v) (hx : as[i]? = some x) (hc : a.all[i]? = some c) (hf : c.2 = f) :
    ∃ (C dd : Addr) (fs : List (Str × V)), H x = some (exo x C (some dd)) ∧ XfC K C ∧ PySem.W.findIn K (.ref C) f = some none ∧ H dd = some (exd dd fs) ∧ fs.lookup f = some v := by
  obtain ⟨c', e, dd, h1, h2⟩ := A.get hx
  rw [hc] at e
  cases e
  obtain ⟨xf, nf⟩ := T.cls hc
  subst hf
  exact ⟨c.1, dd, _, h1, xf, nf, h2, by simp [List.lookup]⟩
end
/-! ### what the signs are -/
theorem signs_flat (i : Nat) : ((List.range 14).map fun j => V.bl (decide (i = j))).all flatV = true := rfl
theorem signs_count : ∀ i : Nat, i < 14 → (((List.range 14).map fun j => V.bl (decide (i = j))).countP fun z => eqV z (.bl true)) = 1 := by decide +kernel
theorem signs_at {i : Nat} (h : i < 14) : ((List.range 14).map fun j => V.bl (decide (i = j)))[i]? = some (.bl true) := by
  rw [List.getElem?_map, List.getElem?_range h]
  simp
theorem signs_no {i m : Nat} {z : V} (h : i < 14) (hm : m < i) (e : ((List.range 14).map fun j => V.bl (decide (i = j)))[m]? = some z) : eqV z (.bl true) = false := by
  rw [List.getElem?_map, List.getElem?_range (by omega)] at e
  obtain rfl := Option.some.inj e
  show eqV (V.bl (decide (i = m))) (.bl true) = false
  rw [decide_eq_false (by omega)]
  rfl
/-! ### lists of bools compared -/
theorem dpB {K : PySem.W.Frag} {H : Hp} : ∀ bs : List Bool, DpAll K H (bs.map V.bl) (bs.map PyData.bool)
  | [] => .nil
  | b :: bs => .cons (.bl b) (dpB bs)
theorem four (b c d e : Bool) : SeqAt.shaped (.list ([b, c, d, e].map PyData.bool)) = true ∧ (!PyData.eqv (.list ([b, c, d, e].map PyData.bool)) (.list ([b, c, d, e].map PyData.bool))) = false := by
  revert b c d e
  decide +kernel
theorem ne_four {K : PySem.W.Frag} {H : Hp} {l m : Addr} {b c d e : Bool} {Q : VK} (h1 : H l = some (.lst [.bl b, .bl c, .bl d, .bl e])) (h2 : H m = some (.lst [.bl b, .bl c, .bl d, .bl e])) (q : Q (.bl false) H) : rNeD K (.ref l) (.ref m) H Q :=
  ⟨.list ([b, c, d, e].map PyData.bool), .list ([b, c, d, e].map PyData.bool), .lst (SqL.of h1) (dpB [b, c, d, e]), .lst (SqL.of h2) (dpB [b, c, d, e]), (four b c d e).1, (four b c d e).1, by rw [(four b c d e).2]; exact q⟩
theorem ne_nils {K : PySem.W.Frag} {H : Hp} {l m : Addr} {Q : VK} (h1 : H l = some (.lst [])) (h2 : H m = some (.lst [])) (q : Q (.bl false) H) : rNeD K (.ref l) (.ref m) H Q :=
  ⟨.list [], .list [], .lst (SqL.of h1) .nil, .lst (SqL.of h2) .nil, by decide +kernel, by decide +kernel, q⟩
theorem ne_12 {K : PySem.W.Frag} {H : Hp} {l m : Addr} {Q : VK} (h1 : H l = some (.lst [.int 1, .int 2])) (h2 : H m = some (.lst [.int 1, .int 2])) (q : Q (.bl false) H) : rNeD K (.ref l) (.ref m) H Q :=
  ⟨.list [.int 1, .int 2], .list [.int 1, .int 2], .lst (SqL.of h1) (.cons (.int 1) (.cons (.int 2) .nil)), .lst (SqL.of h2) (.cons (.int 1) (.cons (.int 2) .nil)), by decide +kernel, by decide +kernel, q⟩
/-- a value is not unequal to itself -/
theorem ne_self {K : PySem.W.Frag} {H : Hp} {v : V} {d : PyData} {Q : VK} (h : XV H v d) (ok : d ≠ dA → okX d = true) (q : Q (.bl false) H) : rNeX K v v H Q := by
  cases h with
  | dat h =>
    by_cases e : d = dA
    · subst e
      cases h
    · have k := ok e
      unfold okX at k
      simp only [Bool.and_eq_true, decide_eq_true_eq] at k
      obtain ⟨⟨⟨⟨⟨c, dp⟩, ev⟩, _⟩, _⟩, _⟩ := k
      have sh : SeqAt.shaped d = true := by
        unfold SeqAt.shaped
        rw [c, decide_eq_true dp]
        rfl
      exact .inl ⟨d, d, DE.dp h c, DE.dp h c, sh, sh, by rw [ev]; exact q⟩
  | dic h => exact .inr ⟨_, _, _, _, rfl, rfl, h, h, rfl, fun p hp => by
      cases List.mem_singleton.mp hp
      exact ⟨by simp [valV], rfl⟩, q⟩
end K03

set_option Elab.async false
set_option linter.all false
set_option maxRecDepth 100000
set_option maxHeartbeats 32000000
namespace K03
open PySem PySem.Spec PyProof.Rows L2 Lm
abbrev sLaw : Stmt := top 21
def NL : List Str := ["_law_script", "_law_x", "_law_some", "_law_e", "_law_told", "_law_at", "_law_held", "_law_one"]
theorem scLaw : FnScope NL ["_law_script"] (defScope sLaw) := ⟨rfl, rfl, rfl, by decide +kernel, rfl, by decide +kernel, by decide +kernel⟩
def Ad.cs (a : Ad) (cU cR : Addr) : List Addr := [a.c0, a.c1, a.c2, a.c3, a.c4, a.c5, a.c6, a.c7, a.c8, a.c9, a.c10, a.c11, cU, cR]
theorem cs_at {a : Ad} {cU cR : Addr} : ∀ {i : Nat} {c : Addr × Str}, a.all[i]? = some c → (a.cs cU cR)[i]? = some c.1
  | 0, _, e => by cases e; rfl
  | 1, _, e => by cases e; rfl
  | 2, _, e => by cases e; rfl
  | 3, _, e => by cases e; rfl
  | 4, _, e => by cases e; rfl
  | 5, _, e => by cases e; rfl
  | 6, _, e => by cases e; rfl
  | 7, _, e => by cases e; rfl
  | 8, _, e => by cases e; rfl
  | 9, _, e => by cases e; rfl
  | 10, _, e => by cases e; rfl
  | 11, _, e => by cases e; rfl
  | n + 12, _, e => by cases e
structure Text (P : Program) (w : World) (K : PySem.W.Frag) (mg : Str → Option Value) (base : Heap) (a : Ad) (cU cR S : Addr) : Prop where
  T : Tab P w K mg base a
  C : Cs K mg (a.cs cU cR)
  B : Bs K mg (a.cs cU cR) S
  rep : mg "repr" = none
  enum : mg "enumerate" = none
  mU : mg "NothingToUndo" = some (.ref cU)
  mR : mg "NothingToRedo" = some (.ref cR)
  xb : ∃ bm newId initId B, ExcBaseFacts B newId initId bm ∧ PySem.W.excIn K cU bm newId = true ∧ PySem.W.excIn K cR bm newId = true
  kU : PySem.W.keepIn K (.ref cU) = true
  kR : PySem.W.keepIn K (.ref cR) = true
  GM : ∃ f fd, FnOk P w K mg base CX0 3 f fd ["_law_x"] (spMade a) ∧ Binds K fd ["_law_x"] [] ∧ mg "_law_made" = some (.ref f) ∧ PySem.W.keepIn K (.ref f) = true
  GN : ∃ f fd, FnOk P w K mg base CX0 3 f fd ["_law_x"] (spMade a) ∧ Binds K fd ["_law_x"] [] ∧ mg "_law_named" = some (.ref f) ∧ PySem.W.keepIn K (.ref f) = true
  GS : ∃ f fd, FnOk P w K mg base CX0 1 f fd ["_law_e"] (spSigns (a.cs cU cR)) ∧ Binds K fd ["_law_e"] [] ∧ mg "_law_signs" = some (.ref f) ∧ PySem.W.keepIn K (.ref f) = true
  GB : ∃ f fd, FnOk P w K mg base CX0 1 f fd ["_law_e"] (spBases (a.cs cU cR)) ∧ Binds K fd ["_law_e"] [] ∧ mg "_law_bases" = some (.ref f) ∧ PySem.W.keepIn K (.ref f) = true
theorem v_ne (v : V) : (!decide (v = v)) = false := by simp
theorem okS_of {d : PyData} (h : d ≠ dA → okX d = true) : (PyData.list (List.replicate 12 d)).showable = true ∧ (PyData.list (List.replicate 12 d)).depth ≤ 60 ∧ (PyData.list (List.replicate 12 d)).shown.length ≤ sizeLine := by
  have k : okS d = true := by
    by_cases e : d = dA
    · rw [e]
      exact dA_ok
    · have := h e
      unfold okX at this
      unfold okS
      simp only [Bool.and_eq_true] at this ⊢
      exact ⟨⟨this.1.1.2, this.1.2⟩, this.2⟩
  unfold okS at k
  simp only [Bool.and_eq_true, decide_eq_true_eq] at k
  have hz : sizeLine = 16777216 := sizeLine_eq
  exact ⟨k.1.1, k.1.2, by omega⟩
theorem dec_lt (i : Nat) : decide (((i : Nat) : Int) < 11) = decide (i < 11) := decide_eq_decide.mpr (by omega)
theorem dec_eq (i : Nat) : decide (V.int ((i : Nat) : Int) = V.int 11) = decide (i = 11) := decide_eq_decide.mpr ⟨fun h => by injection h with h; omega, fun h => by subst h; rfl⟩
theorem ExAt.put {H : Hp} {b C h : Addr} {f : Str} {v : V} {xs : List V} {o : HO} (e : ExAt H b C f v) (hh : H h = some (.lst xs)) : ExAt (upd H h o) b C f v := by
  obtain ⟨dd, h1, h2⟩ := e
  exact ⟨dd, by rw [upd_ne (ne_of h1 hh (by intro z; cases z))]; exact h1, by rw [upd_ne (ne_of h2 hh (by intro z; cases z))]; exact h2⟩
theorem AllEx.put {H : Hp} {h : Addr} {v : V} {xs : List V} {o : HO} (hh : H h = some (.lst xs)) : ∀ {as : List Addr} {cs : List (Addr × Str)}, AllEx H as cs v → AllEx (upd H h o) as cs v
  | [], [], _ => trivial
  | _ :: _, _ :: _, h => ⟨h.1.put hh, AllEx.put hh h.2⟩
  | [], _ :: _, h => h
  | _ :: _, [], h => h
theorem twelve {α : Type} : ∀ {l : List α}, l.length = 12 → ∃ x0 x1 x2 x3 x4 x5 x6 x7 x8 x9 x10 x11, l = [x0, x1, x2, x3, x4, x5, x6, x7, x8, x9, x10, x11]
  | [x0, x1, x2, x3, x4, x5, x6, x7, x8, x9, x10, x11], _ => ⟨x0, x1, x2, x3, x4, x5, x6, x7, x8, x9, x10, x11, rfl⟩
section
variable {P : Program} {w : World} {K : PySem.W.Frag} {mg : Str → Option Value} {base : Heap} {a : Ad} {cU cR S : Addr}
def spLaw (K : PySem.W.Frag) : Sp := fun vs H Q _ => ∃ (sa : Addr) (ns : List Int), vs = [.ref sa] ∧ SqL K H sa (ns.map V.int) ∧ ns.length ≤ 63 ∧ ∀ H', Q (.bl true) H'
theorem ok_law {f : Addr} {fd : FuncData} (F : Fun K "law" "law" sLaw f fd) (X : Text P w K mg base a cU cR S) : FnG P w K mg base CX0 4 f fd ["_law_script"] (spLaw K) := by
  obtain ⟨T, C, B, rep, enum, mU, mR, ⟨bmB, newId, initId, Bn, EF, qU, qR⟩, kU, kR, ⟨fM, fdM, GM, bM, mM, kM⟩, ⟨fN, fdN, GN, bN, mN, kN⟩, ⟨fS, fdS, GS, bS, mS, kS⟩, ⟨fB, fdB, GB, bB, mB, kB⟩⟩ := X
  refine FnG.ok F scLaw (fun vs H Q E h => ?_) (fun cdv A outer s H vs Q E hgA hr h => ?_)
  · obtain ⟨sa, ns, rfl, _⟩ := h
    rfl
  · obtain ⟨sa, ns, rfl, _, _, k⟩ := h
    have hg := guards_deeper (envOfC "law" (defScope sLaw) s.heap.objs.size f cdv) hgA
    have hu : (A.deeper (envOfC "law" (defScope sLaw) s.heap.objs.size f cdv)).units + 64 < cLine := by have := hr.un; omega
    have hr1 : Room 1 (A.deeper (envOfC "law" (defScope sLaw) s.heap.objs.size f cdv)) := hr.mono (by decide)
    refine ⟨_, (pss_cons (ps_for PassesOwn.never rfl (pi_list (pe_lst (pa_cons dat_non (pa_cons dat_int (pa_cons dat_str (pa_cons (dat_tup (dats_cons dat_int (dats_cons (dat_lst (dats_cons dat_int dats_nil)) dats_nil))) (pa_cons (dat_lst dats_nil) (pa_cons (pe_disp (pps_cons pe_str pe_int pps_nil) rfl rfl (by simp) (by decide)) (pa_cons dat_bl (pa_cons (pe_un un_neg (pe_op op_pow pe_int pe_int)) pa_nil)))))))))) (pg_name (i := 1) scLaw.nd rfl (.inr rfl))
        (pss_one (ps_for PassesOwn.never rfl (pi_list (pe_lst (pa_cons (pe_call GM hr (by rfl) mM kM bM .nil pass0 (pa_cons (pv 1) pa_nil)) (pa_cons (pe_call GN hr (by rfl) mN kN bN .nil pass0 (pa_cons (pv 1) pa_nil)) pa_nil)))) (pg_name (i := 2) scLaw.nd rfl (.inl rfl))
        (pss_cons (ps_set (i := 4) scLaw.nd rfl (.inl rfl) (pe_op op_catN (pe_lc (own := [("_law_e", 3)]) (g := gName 3) (tt := tYes) (by rfl) scLaw.nd (pi_list (pe_slice sl_list (pv 2) po_none (po_some pe_int))) (blkOk_by (N := NL) (sc := defScope sLaw) (by decide +kernel)) (fun _ _ _ _ _ => pg_name (i := 3) scLaw.nd rfl (Or.inl rfl)) (fun _ _ _ _ _ => pts_nil) (fun _ _ _ _ _ => (show PE _ _ (tXv K "value" (tVar 3)) from pe_xv (pv 3)))) (pe_lst (pa_cons (pe_xv (pe_ix ix_list (pv 2) pe_int (fun _ _ => rfl))) (pa_cons (pe_xv (pe_ix ix_list (pv 2) pe_int (fun _ _ => rfl))) pa_nil)))))
      (pss_cons (ps_if (PW.pt (pw_or (pt_cmpR (op_neD hu) (pe_lc (own := [("_law_one", 7)]) (g := gName 7) (by rfl) scLaw.nd (pi_list (pv 4)) (blkOk_by (N := NL) (sc := defScope sLaw) (by decide +kernel)) (fun _ _ _ _ _ => pg_name (i := 7) scLaw.nd rfl (Or.inl rfl)) (fun _ _ _ _ _ => (pts_one (PW.pt (pw_and (pt_cmp (pc_notN (pv 7))) (pw_and1 (pt_cmpR (show OpR _ _ (rNeX K) from op_neX hu) (pv 7) (pv 1) (nomark _))))))) (fun _ _ _ _ _ => (pv 7))) (pe_lst pa_nil) (nomark _)) (pw_or1 (pt_cmpR op_ne (pe_callB (call_rep12 hg hu) (by rfl) rep (by decide +kernel) (pa_cons (pv 4) pa_nil)) (pe_callB (call_rep12 hg hu) (by rfl) rep (by decide +kernel) (pa_cons (pe_op op_repN (pe_lst (pa_cons (pv 1) pa_nil)) pe_int) pa_nil)) (nomark _))))) (pss_one (ps_ret pe_bl)) pss_nil)
      (pss_one (ps_for PassesOwn.never rfl (pi_enum (by rfl) enum (pa_cons (pv 2) pa_nil)) (pg_tup (by rfl) (pgs_cons (pg_name (i := 5) scLaw.nd rfl (.inl rfl)) (pgs_cons (pg_name (i := 3) scLaw.nd rfl (.inl rfl)) pgs_nil)))
        (pss_cons (ps_if (PW.pt (pw_or (pt_cmpR op_ne (pe_bm PySem.F.plainAttrs_list PySem.F.slot_list_count PySem.F.type_list_count mt_countV (pe_call GS hr1 (by rfl) mS kS bS .nil pass0 (pa_cons (pv 3) pa_nil)) (pa_cons pe_bl pa_nil)) pe_int (nomark _)) (pw_or1 (pt_cmpR op_ne (pe_bm PySem.F.plainAttrs_list PySem.F.slot_list_index PySem.F.type_list_index mt_index (pe_call GS hr1 (by rfl) mS kS bS .nil pass0 (pa_cons (pv 3) pa_nil)) (pa_cons pe_bl pa_nil)) (pv 5) (nomark _))))) (pss_one (ps_ret pe_bl)) pss_nil)
      (pss_one (ps_if (pt_cmpR (op_neD hu) (pe_call GB hr1 (by rfl) mB kB bB .nil pass0 (pa_cons (pv 3) pa_nil)) (pe_lst (pa_cons (pe_cmpR op_lt (pv 5) pe_int (nomark _)) (pa_cons (pe_cmpR op_lt (pv 5) pe_int (nomark _)) (pa_cons (pe_cmpR op_eq (pv 5) pe_int (nomark _)) (pa_cons pe_bl pa_nil))))) (nomark _)) (pss_one (ps_ret pe_bl)) pss_nil))))))))))
      (pss_cons (ps_set (i := 6) scLaw.nd rfl (.inl rfl) (pe_lst (pa_cons pe_int pa_nil)))
      (pss_cons (ps_set (i := 2) scLaw.nd rfl (.inl rfl) (pe_op op_cat (pe_call GM hr (by rfl) mM kM bM .nil pass0 (pa_cons (pv 6) pa_nil)) (pe_call GN hr (by rfl) mN kN bN .nil pass0 (pa_cons (pv 6) pa_nil))))
      (pss_cons (ps_expr (pe_bm PySem.F.plainAttrs_list PySem.F.slot_list_append PySem.F.type_list_append mt_append (pv 6) (pa_cons pe_int pa_nil)))
      (pss_cons (ps_if (pt_cmpR (op_neD hu) (pe_lc (own := [("_law_one", 7)]) (g := gName 7) (by rfl) scLaw.nd (pi_list (pe_op op_cat (pe_slice sl_list (pv 2) po_none (po_some pe_int)) (pe_slice sl_list (pv 2) (po_some pe_int) (po_some pe_int)))) (blkOk_by (N := NL) (sc := defScope sLaw) (by decide +kernel)) (fun _ _ _ _ _ => pg_name (i := 7) scLaw.nd rfl (Or.inl rfl)) (fun _ _ _ _ _ => (pts_one (pt_cmpR (show OpR _ _ (rNeD K) from op_neD hu) (show PE _ _ (tXv K "value" (tVar 7)) from pe_xv (pv 7)) (pe_lst (pa_cons pe_int (pa_cons pe_int pa_nil))) (nomark _)))) (fun _ _ _ _ _ => (pv 7))) (pe_lst pa_nil) (nomark _)) (pss_one (ps_ret pe_bl)) pss_nil)
      (pss_cons (ps_if (pt_cmpR (op_neD hu) (pe_lst (pa_cons (pe_xv (pe_ix ix_list (pv 2) pe_int (fun _ _ => rfl))) (pa_cons (pe_xv (pe_ix ix_list (pv 2) pe_int (fun _ _ => rfl))) (pa_cons (pe_xv (pe_ix ix_list (pv 2) pe_int (fun _ _ => rfl))) (pa_cons (pe_xv (pe_ix ix_list (pv 2) pe_int (fun _ _ => rfl))) pa_nil))))) (pe_op op_rep (pe_lst (pa_cons (pe_lst (pa_cons pe_int (pa_cons pe_int pa_nil))) pa_nil)) pe_int) (nomark _)) (pss_one (ps_ret pe_bl)) pss_nil)
      (pss_cons (ps_for PassesOwn.never rfl (pi_enum (by rfl) enum (pa_cons (pe_lst (pa_cons (pe_exv0 EF qU mU kU (by rfl)) (pa_cons (pe_exv0 EF qR mR kR (by rfl)) pa_nil))) pa_nil)) (pg_tup (by rfl) (pgs_cons (pg_name (i := 5) scLaw.nd rfl (.inl rfl)) (pgs_cons (pg_name (i := 3) scLaw.nd rfl (.inl rfl)) pgs_nil)))
        (pss_cons (ps_if (PW.pt (pw_or (pt_cmpR op_ne (pe_bm PySem.F.plainAttrs_list PySem.F.slot_list_count PySem.F.type_list_count mt_countV (pe_call GS hr1 (by rfl) mS kS bS .nil pass0 (pa_cons (pv 3) pa_nil)) (pa_cons pe_bl pa_nil)) pe_int (nomark _)) (pw_or1 (pt_cmpR op_ne (pe_bm PySem.F.plainAttrs_list PySem.F.slot_list_index PySem.F.type_list_index mt_index (pe_call GS hr1 (by rfl) mS kS bS .nil pass0 (pa_cons (pv 3) pa_nil)) (pa_cons pe_bl pa_nil)) (pe_op op_add pe_int (pv 5)) (nomark _))))) (pss_one (ps_ret pe_bl)) pss_nil)
      (pss_one (ps_if (pt_cmpR (op_neD hu) (pe_call GB hr1 (by rfl) mB kB bB .nil pass0 (pa_cons (pv 3) pa_nil)) (pe_lst (pa_cons pe_bl (pa_cons pe_bl (pa_cons pe_bl (pa_cons pe_bl pa_nil))))) (nomark _)) (pss_one (ps_ret pe_bl)) pss_nil))))
      (pss_one (ps_ret pe_bl))))))))), ?_⟩
    have hz : sizeLine = 16777216 := sizeLine_eq
    -- the eight values
    refine ⟨rfl, fun v0 H0 s0 e0 => ⟨rfl, fun v1 H1 s1 e1 => ⟨rfl, fun v2 H2 s2 e2 => ⟨by decide +kernel, fun v3 H3 s3 e3 => ⟨by decide +kernel, fun v4 H4 s4 e4 => fun p np => ⟨upd_same, [(Sum.inr "a", .int 1)], rfl, by decide, ⟨rfl, fun v6 H6 s6 e6 =>
      ⟨_, _, rfl, rfl, ⟨by decide, by decide, by decide⟩, _, rfl, (by show 8 ≤ sizeLine; omega), fun L nL => ?_⟩⟩⟩⟩⟩⟩⟩⟩
    have s5 : Same H4 H6 := fun b o e => s6 _ _ (by rw [upd_ne (ne_of_none e np), upd_ne (ne_of_none e np)]; exact e)
    have s7 : Same H6 (upd H6 L (.lst [v0, v1, v2, v3, v4, .ref p, v6, .int (-((10 : Int) ^ (30 : Int).toNat))])) := same_new nL
    have it : ∀ (i : Nat) (y : V), [v0, v1, v2, v3, v4, .ref p, v6, .int (-((10 : Int) ^ (30 : Int).toNat))][i]? = some y → ∃ d, XV (upd H6 L (.lst [v0, v1, v2, v3, v4, .ref p, v6, .int (-((10 : Int) ^ (30 : Int).toNat))])) y d ∧ (d ≠ dA → okX d = true) := by
      have ok := List.all_eq_true.mp items_ok
      intro i y e
      match i, e with
      | 0, e => cases e; exact ⟨_, (XV.dat (((((((e0.same s1).same s2).same s3).same s4).same s5).same s7))), fun _ => ok _ (by simp [items])⟩
      | 1, e => cases e; exact ⟨_, (XV.dat ((((((e1.same s2).same s3).same s4).same s5).same s7))), fun _ => ok _ (by simp [items])⟩
      | 2, e => cases e; exact ⟨_, (XV.dat (((((e2.same s3).same s4).same s5).same s7))), fun _ => ok _ (by simp [items])⟩
      | 3, e => cases e; exact ⟨_, (XV.dat ((((e3.same s4).same s5).same s7))), fun _ => ok _ (by simp [items])⟩
      | 4, e => cases e; exact ⟨_, (XV.dat (((e4.same s5).same s7))), fun _ => ok _ (by simp [items])⟩
      | 5, e => cases e; exact ⟨dA, XV.dic (s7 _ _ (s6 _ _ upd_same)), fun n => absurd rfl n⟩
      | 6, e => cases e; exact ⟨_, (XV.dat (e6.same s7)), fun _ => ok _ (by simp [items])⟩
      | 7, e => cases e; exact ⟨_, (XV.dat (.int _)), fun _ => ok _ (by simp [items])⟩
      | n + 8, e => cases e
    obtain ⟨xs, exs⟩ : ∃ xs, xs = [v0, v1, v2, v3, v4, .ref p, v6, .int (-((10 : Int) ^ (30 : Int).toNat))] := ⟨_, rfl⟩
    obtain ⟨HL, eHL⟩ : ∃ HL, HL = upd H6 L (.lst xs) := ⟨_, rfl⟩
    rw [← exs] at it s7
    rw [← eHL] at it
    have hL : HL L = some (.lst xs) := by rw [eHL]; exact upd_same
    refine ⟨L, rfl, ⟨_, SqL.of upd_same⟩, for_list (K := K) (a := L) (xs := xs) (fun i σ H' => ∃ v1 v2 v3 v4 v5 v6 v7, σ = [some (.ref sa), v1, v2, v3, v4, v5, v6, v7] ∧ Same HL H')
      ⟨_, _, _, _, _, _, _, rfl, (by rw [eHL, exs]; exact Same.refl _)⟩ (fun i σ H' _ ⟨_, _, _, _, _, _, _, _, z⟩ => SqL.of (z _ _ hL)) ?_ ?_⟩
    · rintro i y σ Ha hi ⟨v1', v2', v3', v4', v5', v6', v7', rfl, za⟩
      obtain ⟨d, hx, od⟩ := it i y hi
      clear it exs eHL s7 s5 e0 e1 e2 e3 e4 e6
      have hx := hx.same za
      -- both ways of making
      refine ⟨_, rfl, y, rfl, fun l1 as1 HM hl1 ae1 sM => ⟨_, rfl, y, rfl, fun l2 as2 HN hl2 ae2 sN => ⟨(by show 2 ≤ sizeLine; omega), fun I nI => ?_⟩⟩⟩
      have sI : Same HN (upd HN I (.lst [.ref l1, .ref l2])) := same_new nI
      obtain ⟨HI, eHI⟩ : ∃ HI, HI = upd HN I (.lst [.ref l1, .ref l2]) := ⟨_, rfl⟩
      have hI : HI I = some (.lst [.ref l1, .ref l2]) := by rw [eHI]; exact upd_same
      rw [← eHI] at sI
      have both : ∀ (j : Nat) (u : V), [V.ref l1, .ref l2][j]? = some u → ∃ l as, u = .ref l ∧ HI l = some (.lst (as.map V.ref)) ∧ AllEx HI as a.all y := fun j u e => match j, e with
        | 0, e => by cases e; exact ⟨_, _, rfl, sI _ _ (sN _ _ hl1), (ae1.same sN).same sI⟩
        | 1, e => by cases e; exact ⟨_, _, rfl, sI _ _ hl2, ae2.same sI⟩
        | n + 2, e => by cases e
      have hx := ((hx.same sM).same sN).same sI
      have zI := ((za.trans sM).trans sN).trans sI
      refine ⟨I, rfl, ⟨_, SqL.of upd_same⟩, for_list (K := K) (a := I) (xs := [.ref l1, .ref l2]) (fun i σ H' => ∃ v2 v3 v4 v5 v6 v7, σ = [some (.ref sa), some y, v2, v3, v4, v5, v6, v7] ∧ Same HI H')
        ⟨_, _, _, _, _, _, rfl, (by rw [eHI]; exact Same.refl _)⟩ (fun i σ H' _ ⟨_, _, _, _, _, _, _, z⟩ => SqL.of (z _ _ hI)) ?_ ?_⟩
      rotate_left
      · rintro σ Hb ⟨_, _, _, _, _, _, rfl, zb⟩
        exact ⟨_, _, _, _, _, _, _, rfl, zI.trans zb⟩
      rintro j u σ Hb hj ⟨v2', v3', v4', v5', v6', v7', rfl, zb⟩
      obtain ⟨l, as, rfl, hl, ae⟩ := both j u hj
      clear both ae1 ae2 hl1 hl2 sM sN hI
      have hl := zb _ _ hl
      have ae := ae.same zb
      have hx := hx.same zb
      obtain ⟨x0, x1, x2, x3, x4, x5, x6, x7, x8, x9, x10, x11, rfl⟩ := twelve (ae.len.trans rfl)
      -- told
      refine ⟨_, rfl, 10, rfl, l, _, rfl, SqL.of hl, fun p1 np1 => ⟨p1, rfl, ⟨_, SqL.of upd_same⟩, fun D nD => lc_fm (List.replicate 10 (some y)) (SqL.of upd_same) nD rfl (by show 10 ≤ sizeLine; omega) ?_ (fun HD sD hD => ?_)⟩⟩
      · intro i u o H' Qy Qn hi ho s' yes _
        have i10 : i < 10 := (List.getElem?_eq_some_iff.mp ho).1
        have ho' : some y = o := Option.some.inj ((List.getElem?_replicate_of_lt i10).symm.trans ho)
        have ae' := (ae.same (same_new np1)).same s'
        have hx' : ∃ x, u = .ref x ∧ [x0, x1, x2, x3, x4, x5, x6, x7, x8, x9, x10, x11][i]? = some x := by
          match i, i10, hi with
          | 0, _, hi => exact ⟨_, (Option.some.inj hi).symm, rfl⟩
          | 1, _, hi => exact ⟨_, (Option.some.inj hi).symm, rfl⟩
          | 2, _, hi => exact ⟨_, (Option.some.inj hi).symm, rfl⟩
          | 3, _, hi => exact ⟨_, (Option.some.inj hi).symm, rfl⟩
          | 4, _, hi => exact ⟨_, (Option.some.inj hi).symm, rfl⟩
          | 5, _, hi => exact ⟨_, (Option.some.inj hi).symm, rfl⟩
          | 6, _, hi => exact ⟨_, (Option.some.inj hi).symm, rfl⟩
          | 7, _, hi => exact ⟨_, (Option.some.inj hi).symm, rfl⟩
          | 8, _, hi => exact ⟨_, (Option.some.inj hi).symm, rfl⟩
          | 9, _, hi => exact ⟨_, (Option.some.inj hi).symm, rfl⟩
        obtain ⟨x, rfl, hx9⟩ := hx'
        obtain ⟨c, hc, _⟩ := ae'.get hx9
        obtain ⟨C1, d1, g1, q1, q2, q3, q4, q5⟩ := rd_field T i ae' hx9 hc (fname hc i10)
        exact ⟨rfl, _, rfl, x, C1, d1, g1, y, rfl, q1, q2, q3, q4, q5, yes _ ho'.symm _ (Same.refl _)⟩
      have sD1 : Same Hb HD := (same_new np1).trans sD
      have aeD := ae.same sD1
      have hlD := sD1 _ _ hl
      obtain ⟨C1, d1, g1, q1, q2, q3, q4, q5⟩ := rd_field T 10 (x := x10) (c := (a.c10, "line")) (f := "line") aeD rfl rfl rfl
      obtain ⟨C2, d2, g2, r1, r2, r3, r4, r5⟩ := rd_field T 11 (x := x11) (c := (a.c11, "limit")) (f := "limit") aeD rfl rfl rfl
      refine ⟨_, rfl, l, _, _, _, rfl, rfl, SqL.of hlD, atI_nat (j := 10) rfl, x10, C1, d1, g1, y, rfl, q1, q2, q3, q4, q5, ?_⟩
      refine ⟨_, rfl, l, _, _, _, rfl, rfl, SqL.of hlD, atI_nat (j := 11) rfl, x11, C2, d2, g2, y, rfl, r1, r2, r3, r4, r5, ?_⟩
      refine ⟨(by show 2 ≤ sizeLine; omega), fun e ne => ⟨D, e, _, _, rfl, rfl, same_new ne _ _ hD, upd_same, (by show 12 ≤ sizeLine; omega), fun t nt nS => ?_⟩⟩
      have st := (sD1.trans (same_new (o := .lst [y, y]) ne)).trans (same_new (o := .lst ((List.replicate 10 (some y)).filterMap id ++ [y, y])) nt)
      obtain ⟨Ht, eHt⟩ : ∃ Ht, Ht = upd (upd HD e (.lst [y, y])) t (.lst ((List.replicate 10 (some y)).filterMap id ++ [y, y])) := ⟨_, rfl⟩
      have ht : Ht t = some (.lst (List.replicate 12 y)) := by rw [eHt]; exact upd_same
      rw [← eHt] at st ⊢
      clear eHt aeD hlD sD hD sD1
      have hx := hx.same st
      have ae := ae.same st
      have hl := st _ _ hl
      have zt := zb.trans st
      clear st
      -- the two tests of what is told
      refine ⟨_, rfl, t, rfl, ⟨_, SqL.of ht⟩, fun D nD => lc_fm (List.replicate 12 none) (SqL.of ht) nD rfl (by decide +kernel) ?_ (fun HD sD hD => ?_)⟩
      · intro i u o H' Qy Qn hi ho s' _ no
        have i12 : i < 12 := (List.getElem?_eq_some_iff.mp ho).1
        obtain rfl : none = o := Option.some.inj ((List.getElem?_replicate_of_lt i12).symm.trans ho)
        obtain rfl : y = u := Option.some.inj ((List.getElem?_replicate_of_lt i12).symm.trans hi)
        refine ⟨rfl, _, rfl, _, rfl, ?_⟩
        by_cases hn : y = .non
        · exact ifF (by simp [hn]) (no rfl _ (Same.refl _))
        · exact ifT (by simp [hn]) ⟨_, rfl, _, rfl, ne_self (hx.same s') od ⟨_, rfl, no rfl _ (Same.refl _)⟩⟩
      have hD : HD D = some (.lst []) := hD
      obtain ⟨k1, k2, k3⟩ := okS_of od
      refine ⟨(by show 0 ≤ sizeLine; omega), fun e ne => ne_nils (same_new ne _ _ hD) upd_same ⟨_, rfl, iteF ?_⟩⟩
      have se := sD.trans (same_new (o := .lst []) ne)
      refine ⟨_, rfl, t, y, d, rfl, se _ _ ht, nS, hx.same se, k1, k2, k3, _, rfl, (by show 1 ≤ sizeLine; omega), fun e2 ne2 => ⟨e2, 12, [y], rfl, rfl, upd_same, by decide, by decide, (by show 1 ≤ 10; decide), fun p3 np3 nS3 => ?_⟩⟩
      have sf := (se.trans (same_new (o := .lst [y]) ne2)).trans (same_new (o := .lst (List.replicate (12 : Int).toNat [y]).flatten) np3)
      refine ⟨p3, y, d, rfl, upd_same, nS3, hx.same sf, k1, k2, k3, rfl, _, rfl, ifF (v_ne _) ?_⟩
      have ae := ae.same sf
      have hl := sf _ _ hl
      have zf := zt.trans sf
      obtain ⟨Hf, eHf⟩ : ∃ Hf, Hf = upd (upd (upd HD e (.lst [])) e2 (.lst [y])) p3 (.lst (List.replicate (12 : Int).toNat [y]).flatten) := ⟨_, rfl⟩
      rw [← eHf] at ae hl zf ⊢
      clear eHf se sf sD hD ht zt hx
      -- the signs of each
      refine ⟨_, rfl, l, _, rfl, SqL.of hl, for_it (walk_enum (K := K) (a := l) (xs := [x0, x1, x2, x3, x4, x5, x6, x7, x8, x9, x10, x11].map V.ref)) (fun i σ H' => ∃ v3 v5, σ = [some (.ref sa), some y, some (.ref l), v3, some (.ref t), v5, v6', v7'] ∧ Same Hf H')
        ⟨_, _, rfl, Same.refl _⟩ (fun i σ H' _ ⟨_, _, _, z⟩ => SqL.of (z _ _ hl)) ?_ ?_⟩
      · rintro i u σ Hp Hq hi ⟨v3'', v5'', rfl, zp⟩ ⟨tt, x, z, rfl, nt, rfl, hx, hy⟩
        obtain rfl := Option.some.inj hx
        rw [List.length_map] at hi
        have hi : i < 12 := hi
        obtain ⟨x, hx9⟩ : ∃ x, [x0, x1, x2, x3, x4, x5, x6, x7, x8, x9, x10, x11][i]? = some x := ⟨_, List.getElem?_eq_getElem hi⟩
        obtain rfl : V.ref x = z := Option.some.inj ((by rw [List.getElem?_map, hx9]; rfl : (List.map V.ref [x0, x1, x2, x3, x4, x5, x6, x7, x8, x9, x10, x11])[i]? = some (V.ref x)).symm.trans hy)
        have sq : Same Hf (upd Hp tt (.tup [.int (i : Nat), .ref x])) := zp.trans (same_new nt)
        obtain ⟨c, hc, exx⟩ := ae.get hx9
        have hcs := cs_at (cU := cU) (cR := cR) hc
        have ex : Exc Hf x c.1 := .inl ⟨_, _, exx⟩
        have i14 : i < 14 := by omega
        refine ⟨tt, _, rfl, SqT.of upd_same, rfl, _, _, rfl, _, _, rfl, rfl, ?_⟩
        refine ⟨_, rfl, x, c.1, i, rfl, hcs, ex.same sq, fun m Hm hm sm => ⟨.inl ⟨rfl, _, SqL.of hm⟩, m, _, _, rfl, rfl, SqL.of hm, rfl, signs_flat i, rfl, _, rfl, ifF (by rw [signs_count i i14]; rfl) ?_⟩⟩
        refine ⟨_, rfl, x, c.1, i, rfl, hcs, (ex.same sq).same sm, fun m2 Hm2 hm2 sm2 => ⟨.inl ⟨rfl, _, SqL.of hm2⟩, m2, _, _, i, _, rfl, rfl, SqL.of hm2, rfl, signs_flat i, signs_at i14, rfl, fun m z hm e => signs_no i14 hm e, _, rfl, rfl, _, rfl, ifF (v_ne _) ?_⟩⟩
        refine ⟨_, rfl, x, c.1, i, rfl, hcs, ((ex.same sq).same sm).same sm2, fun m3 Hm3 hm3 sm3 => ⟨_, rfl, _, _, rfl, rfl, _, rfl, _, _, rfl, rfl, _, rfl, rfl, (by show 4 ≤ sizeLine; omega), fun e4 ne4 => ?_⟩⟩
        have h9 : decide (11 < i) = false := decide_eq_false (by omega)
        rw [← dec_lt i, ← dec_eq i, h9] at hm3
        exact ne_four (same_new ne4 _ _ hm3) upd_same ⟨_, rfl, iteF ⟨_, _, rfl, (((sq.trans sm).trans sm2).trans sm3).trans (same_new ne4)⟩⟩
      · rintro σ Hp ⟨v3'', v5'', rfl, zp⟩
        exact ⟨_, _, _, _, _, _, rfl, zf.trans zp⟩
    · rintro σ Hz ⟨v1', v2', v3', v4', v5', v6', v7', rfl, za⟩
      -- what is held and grows
      refine ⟨(by show 1 ≤ sizeLine; omega), fun h nh => ?_⟩
      obtain ⟨HA, eHA⟩ : ∃ HA, HA = upd Hz h (.lst [V.int 1]) := ⟨_, rfl⟩
      have hA : HA h = some (.lst [V.int 1]) := by rw [eHA]; exact upd_same
      rw [← eHA]
      clear eHA nh za it hL
      refine ⟨_, rfl, .ref h, rfl, fun l1 as1 H1 hl1 ae1 s1 => ⟨_, rfl, .ref h, rfl, fun l2 as2 H2 hl2 ae2 s2 => ?_⟩⟩
      obtain ⟨x0, x1, x2, x3, x4, x5, x6, x7, x8, x9, x10, x11, rfl⟩ := twelve (ae1.len.trans rfl)
      obtain ⟨y0, y1, y2, y3, y4, y5, y6, y7, y8, y9, y10, y11, rfl⟩ := twelve (ae2.len.trans rfl)
      refine ⟨l1, l2, _, _, rfl, rfl, s2 _ _ hl1, hl2, (by show 24 ≤ sizeLine; omega), fun m nm => ?_⟩
      have sm := same_new (o := .lst ([x0, x1, x2, x3, x4, x5, x6, x7, x8, x9, x10, x11].map V.ref ++ [y0, y1, y2, y3, y4, y5, y6, y7, y8, y9, y10, y11].map V.ref)) nm
      obtain ⟨HB, eHB⟩ : ∃ HB, HB = upd H2 m (.lst ([x0, x1, x2, x3, x4, x5, x6, x7, x8, x9, x10, x11].map V.ref ++ [y0, y1, y2, y3, y4, y5, y6, y7, y8, y9, y10, y11].map V.ref)) := ⟨_, rfl⟩
      have hB : HB m = some (.lst [.ref x0, .ref x1, .ref x2, .ref x3, .ref x4, .ref x5, .ref x6, .ref x7, .ref x8, .ref x9, .ref x10, .ref x11, .ref y0, .ref y1, .ref y2, .ref y3, .ref y4, .ref y5, .ref y6, .ref y7, .ref y8, .ref y9, .ref y10, .ref y11]) := by rw [eHB]; exact upd_same
      rw [← eHB] at sm ⊢
      have hh : HB h = some (.lst [V.int 1]) := sm _ _ (s2 _ _ (s1 _ _ hA))
      have ae1 := (ae1.same s2).same sm
      have ae2 := ae2.same sm
      clear eHB sm hl1 hl2 s1 s2 hA nm
      refine ⟨_, rfl, .inl ⟨rfl, _, SqL.of hh⟩, h, _, _, rfl, rfl, hh, (by show 1 < sizeLine; omega), ?_⟩
      have nmh : m ≠ h := fun z => by
        rw [z, hh] at hB
        have := HO.lst.inj (Option.some.inj hB)
        cases this
      have ae1 := ae1.put (o := .lst ([V.int 1] ++ [V.int 2])) hh
      have ae2 := ae2.put (o := .lst ([V.int 1] ++ [V.int 2])) hh
      obtain ⟨HC, eHC⟩ : ∃ HC, HC = upd HB h (.lst ([V.int 1] ++ [V.int 2])) := ⟨_, rfl⟩
      have hC : HC h = some (.lst [V.int 1, .int 2]) := by rw [eHC]; exact upd_same
      have hM : HC m = some (.lst [.ref x0, .ref x1, .ref x2, .ref x3, .ref x4, .ref x5, .ref x6, .ref x7, .ref x8, .ref x9, .ref x10, .ref x11, .ref y0, .ref y1, .ref y2, .ref y3, .ref y4, .ref y5, .ref y6, .ref y7, .ref y8, .ref y9, .ref y10, .ref y11]) := by rw [eHC, upd_ne nmh]; exact hB
      rw [← eHC] at ae1 ae2 ⊢
      clear eHC hh hB nmh
      -- twenty fields
      refine ⟨_, rfl, 10, rfl, m, _, rfl, SqL.of hM, fun p1 np1 => ⟨_, rfl, 12, rfl, 22, rfl, m, _, rfl, SqL.of (same_new np1 _ _ hM), fun p2 np2 => ⟨p1, p2, _, _, rfl, rfl, same_new np2 _ _ upd_same, upd_same, (by show 20 ≤ sizeLine; omega), fun p3 np3 => ⟨p3, rfl, ⟨_, SqL.of upd_same⟩, fun D nD =>
        lc_fm (List.replicate 20 none) (SqL.of upd_same) nD rfl (by show 20 ≤ sizeLine; omega) ?_ (fun HD sD hD => ?_)⟩⟩⟩⟩
      · intro i u o H' Qy Qn hi ho s' _ no
        have i20 : i < 20 := (List.getElem?_eq_some_iff.mp ho).1
        obtain rfl : none = o := Option.some.inj ((List.getElem?_replicate_of_lt i20).symm.trans ho)
        have sC : Same HC H' := (((same_new np1).trans (same_new np2)).trans (same_new np3)).trans s'
        have which : (∃ x j, u = .ref x ∧ [x0, x1, x2, x3, x4, x5, x6, x7, x8, x9, x10, x11][j]? = some x ∧ j < 10) ∨ ∃ x j, u = .ref x ∧ [y0, y1, y2, y3, y4, y5, y6, y7, y8, y9, y10, y11][j]? = some x ∧ j < 10 := by
          match i, i20, hi with
          | 0, _, hi => exact .inl ⟨_, 0, (Option.some.inj hi).symm, rfl, by decide⟩
          | 1, _, hi => exact .inl ⟨_, 1, (Option.some.inj hi).symm, rfl, by decide⟩
          | 2, _, hi => exact .inl ⟨_, 2, (Option.some.inj hi).symm, rfl, by decide⟩
          | 3, _, hi => exact .inl ⟨_, 3, (Option.some.inj hi).symm, rfl, by decide⟩
          | 4, _, hi => exact .inl ⟨_, 4, (Option.some.inj hi).symm, rfl, by decide⟩
          | 5, _, hi => exact .inl ⟨_, 5, (Option.some.inj hi).symm, rfl, by decide⟩
          | 6, _, hi => exact .inl ⟨_, 6, (Option.some.inj hi).symm, rfl, by decide⟩
          | 7, _, hi => exact .inl ⟨_, 7, (Option.some.inj hi).symm, rfl, by decide⟩
          | 8, _, hi => exact .inl ⟨_, 8, (Option.some.inj hi).symm, rfl, by decide⟩
          | 9, _, hi => exact .inl ⟨_, 9, (Option.some.inj hi).symm, rfl, by decide⟩
          | 10, _, hi => exact .inr ⟨_, 0, (Option.some.inj hi).symm, rfl, by decide⟩
          | 11, _, hi => exact .inr ⟨_, 1, (Option.some.inj hi).symm, rfl, by decide⟩
          | 12, _, hi => exact .inr ⟨_, 2, (Option.some.inj hi).symm, rfl, by decide⟩
          | 13, _, hi => exact .inr ⟨_, 3, (Option.some.inj hi).symm, rfl, by decide⟩
          | 14, _, hi => exact .inr ⟨_, 4, (Option.some.inj hi).symm, rfl, by decide⟩
          | 15, _, hi => exact .inr ⟨_, 5, (Option.some.inj hi).symm, rfl, by decide⟩
          | 16, _, hi => exact .inr ⟨_, 6, (Option.some.inj hi).symm, rfl, by decide⟩
          | 17, _, hi => exact .inr ⟨_, 7, (Option.some.inj hi).symm, rfl, by decide⟩
          | 18, _, hi => exact .inr ⟨_, 8, (Option.some.inj hi).symm, rfl, by decide⟩
          | 19, _, hi => exact .inr ⟨_, 9, (Option.some.inj hi).symm, rfl, by decide⟩
        have field : ∃ x C1 d1 g1, u = .ref x ∧ H' x = some (exo x C1 (some d1)) ∧ XfC K C1 ∧ PySem.W.findIn K (.ref C1) "value" = some none ∧ H' d1 = some (exd d1 g1) ∧ g1.lookup ("value" : Str) = some (V.ref h) := by
          rcases which with ⟨x, j, rfl, hx, hj⟩ | ⟨x, j, rfl, hx, hj⟩
          · obtain ⟨c, hc, _⟩ := (ae1.same sC).get hx
            obtain ⟨C1, d1, g1, q1, q2, q3, q4, q5⟩ := rd_field T j (ae1.same sC) hx hc (fname hc hj)
            exact ⟨x, C1, d1, g1, rfl, q1, q2, q3, q4, q5⟩
          · obtain ⟨c, hc, _⟩ := (ae2.same sC).get hx
            obtain ⟨C1, d1, g1, q1, q2, q3, q4, q5⟩ := rd_field T j (ae2.same sC) hx hc (fname hc hj)
            exact ⟨x, C1, d1, g1, rfl, q1, q2, q3, q4, q5⟩
        obtain ⟨x, C1, d1, g1, rfl, q1, q2, q3, q4, q5⟩ := field
        exact ⟨rfl, _, rfl, x, C1, d1, g1, .ref h, rfl, q1, q2, q3, q4, q5, (by show 2 ≤ sizeLine; omega), fun e ne => ne_12 (same_new ne _ _ (sC _ _ hC)) upd_same ⟨_, rfl, no rfl _ (same_new ne)⟩⟩
      have hD : HD D = some (.lst []) := hD
      refine ⟨(by show 0 ≤ sizeLine; omega), fun e ne => ne_nils (same_new ne _ _ hD) upd_same ⟨_, rfl, iteF ?_⟩⟩
      have sE : Same HC (upd HD e (.lst [])) := ((((same_new np1).trans (same_new np2)).trans (same_new np3)).trans sD).trans (same_new ne)
      obtain ⟨HE, eHE⟩ : ∃ HE, HE = upd HD e (.lst []) := ⟨_, rfl⟩
      rw [← eHE] at sE ⊢
      have hE := sE _ _ hC
      have hM := sE _ _ hM
      have ae1 := ae1.same sE
      have ae2 := ae2.same sE
      clear eHE sE hD sD nD np1 np2 np3 ne hC
      -- the other four
      obtain ⟨C1, d1, g1, q1, q2, q3, q4, q5⟩ := rd_field T 10 (x := x10) (c := (a.c10, "line")) (f := "line") ae1 rfl rfl rfl
      obtain ⟨C2, d2, g2, r1, r2, r3, r4, r5⟩ := rd_field T 11 (x := x11) (c := (a.c11, "limit")) (f := "limit") ae1 rfl rfl rfl
      obtain ⟨C3, d3, g3, t1, t2, t3, t4, t5⟩ := rd_field T 10 (x := y10) (c := (a.c10, "line")) (f := "line") ae2 rfl rfl rfl
      obtain ⟨C4, d4, g4, u1, u2, u3, u4, u5⟩ := rd_field T 11 (x := y11) (c := (a.c11, "limit")) (f := "limit") ae2 rfl rfl rfl
      refine ⟨_, rfl, m, _, _, _, rfl, rfl, SqL.of hM, atI_nat (j := 10) rfl, x10, C1, d1, g1, .ref h, rfl, q1, q2, q3, q4, q5, ?_⟩
      refine ⟨_, rfl, m, _, _, _, rfl, rfl, SqL.of hM, atI_nat (j := 11) rfl, x11, C2, d2, g2, .ref h, rfl, r1, r2, r3, r4, r5, ?_⟩
      refine ⟨_, rfl, m, _, _, _, rfl, rfl, SqL.of hM, atI_nat (j := 22) rfl, y10, C3, d3, g3, .ref h, rfl, t1, t2, t3, t4, t5, ?_⟩
      refine ⟨_, rfl, m, _, _, _, rfl, rfl, SqL.of hM, atI_nat (j := 23) rfl, y11, C4, d4, g4, .ref h, rfl, u1, u2, u3, u4, u5, ?_⟩
      refine ⟨(by show 4 ≤ sizeLine; omega), fun e ne => ⟨(by show 2 ≤ sizeLine; omega), fun e2 ne2 => ⟨(by show 1 ≤ sizeLine; omega), fun e3 ne3 => ⟨e3, 4, [.ref e2], rfl, rfl, upd_same, by decide, by decide, (by show 4 ≤ sizeLine; omega), fun p np => ?_⟩⟩⟩⟩
      have z2 := same_new (o := .lst [V.int 1, .int 2]) ne2
      have z3 := same_new (o := .lst [V.ref e2]) ne3
      have z4 := same_new (o := .lst (List.replicate (4 : Int).toNat [V.ref e2]).flatten) np
      have dp : ∀ {H0 : Hp} {l : Addr}, H0 l = some (.lst [V.int 1, .int 2]) → Dp K H0 (.ref l) (.list [.int 1, .int 2]) := fun h => .lst (SqL.of h) (.cons (.int 1) (.cons (.int 2) .nil))
      have da := dp (z4 _ _ (z3 _ _ (z2 _ _ (same_new ne _ _ hE))))
      have db := dp (z4 _ _ (z3 _ _ (upd_same (H := upd HE e (.lst [V.ref h, .ref h, .ref h, .ref h])) (a := e2) (o := .lst [V.int 1, .int 2]))))
      refine ⟨.list [.list [.int 1, .int 2], .list [.int 1, .int 2], .list [.int 1, .int 2], .list [.int 1, .int 2]], .list [.list [.int 1, .int 2], .list [.int 1, .int 2], .list [.int 1, .int 2], .list [.int 1, .int 2]],
        .lst (SqL.of (z4 _ _ (z3 _ _ (z2 _ _ upd_same)))) (.cons da (.cons da (.cons da (.cons da .nil)))), .lst (SqL.of upd_same) (.cons db (.cons db (.cons db (.cons db .nil)))), by decide +kernel, by decide +kernel, _, rfl, ifF (by decide +kernel) ?_⟩
      clear da db dp z2 z3 z4
      -- the two without a field
      refine fun aU nU => fun aR nR => ⟨(by show 2 ≤ sizeLine; omega), fun l nl => ?_⟩
      have sl := same_new (o := .lst [V.ref aU, .ref aR]) nl
      generalize eHU : upd _ aU (ExO (.ref cU) aU) = HU at nR nl sl ⊢
      have hU : HU aU = some (ExO (.ref cU) aU) := by rw [← eHU]; exact upd_same
      have exU := sl _ _ (same_new (o := ExO (.ref cR) aR) nR _ _ hU)
      have exR := sl _ _ (upd_same (H := HU) (a := aR) (o := ExO (.ref cR) aR))
      generalize eHF : upd (upd HU aR (ExO (.ref cR) aR)) l (.lst [V.ref aU, .ref aR]) = HF at sl exU exR ⊢
      have hF : HF l = some (.lst [V.ref aU, .ref aR]) := by rw [← eHF]; exact upd_same
      clear eHF sl nl nR eHU hU hM hE ae1 ae2
      refine ⟨l, _, rfl, SqL.of hF, for_it (walk_enum (K := K) (a := l) (xs := [V.ref aU, .ref aR])) (fun i σ H' => ∃ v3 v5, σ = [some (.ref sa), v1', some (.ref m), v3, v4', v5, some (.ref h), v7'] ∧ Same HF H')
        ⟨_, _, rfl, Same.refl _⟩ (fun i σ H' _ ⟨_, _, _, z⟩ => SqL.of (z _ _ hF)) ?_ ?_⟩
      · rintro i u σ Hp Hq hi ⟨v3'', v5'', rfl, zp⟩ ⟨tt, x, z, rfl, nt, rfl, hx, hy⟩
        obtain rfl := Option.some.inj hx
        have hi : i < 2 := hi
        obtain ⟨x, c, rfl, hcs, ex⟩ : ∃ x c, z = .ref x ∧ (a.cs cU cR)[12 + i]? = some c ∧ Exc HF x c := by
          match i, hi, hy with
          | 0, _, hy => exact ⟨aU, cU, (Option.some.inj hy).symm, rfl, .inr exU⟩
          | 1, _, hy => exact ⟨aR, cR, (Option.some.inj hy).symm, rfl, .inr exR⟩
        have sq : Same HF (upd Hp tt (.tup [.int (i : Nat), .ref x])) := zp.trans (same_new nt)
        have i14 : 12 + i < 14 := by omega
        refine ⟨tt, _, rfl, SqT.of upd_same, rfl, _, _, rfl, _, _, rfl, rfl, ?_⟩
        refine ⟨_, rfl, x, c, 12 + i, rfl, hcs, ex.same sq, fun m Hm hm sm => ⟨.inl ⟨rfl, _, SqL.of hm⟩, m, _, _, rfl, rfl, SqL.of hm, rfl, signs_flat _, rfl, _, rfl, ifF (by rw [signs_count _ i14]; rfl) ?_⟩⟩
        refine ⟨_, rfl, x, c, 12 + i, rfl, hcs, (ex.same sq).same sm, fun m2 Hm2 hm2 sm2 => ⟨.inl ⟨rfl, _, SqL.of hm2⟩, m2, _, _, 12 + i, _, rfl, rfl, SqL.of hm2, rfl, signs_flat _, signs_at i14, rfl, fun m z hm e => signs_no i14 hm e, _, rfl, _, _, rfl, rfl, rfl, _, rfl, ifF (show (!decide (V.int ((12 + i : Nat) : Int) = V.int ((12 : Int) + ((i : Nat) : Int)))) = false from by rw [show (12 : Int) + ((i : Nat) : Int) = ((12 + i : Nat) : Int) by omega]; exact v_ne _) ?_⟩⟩
        refine ⟨_, rfl, x, c, 12 + i, rfl, hcs, ((ex.same sq).same sm).same sm2, fun m3 Hm3 hm3 sm3 => ⟨(by show 4 ≤ sizeLine; omega), fun e4 ne4 => ?_⟩⟩
        rw [decide_eq_false (show ¬ 12 + i < 11 by omega), decide_eq_false (show ¬ 12 + i = 11 by omega), decide_eq_true (show 11 < 12 + i by omega)] at hm3
        exact ne_four (same_new ne4 _ _ hm3) upd_same ⟨_, rfl, iteF ⟨_, _, rfl, (((sq.trans sm).trans sm2).trans sm3).trans (same_new ne4)⟩⟩
      · rintro σ Hp ⟨v3'', v5'', rfl, zp⟩
        exact k _
end
end K03

set_option Elab.async false
set_option linter.all false
set_option maxRecDepth 100000
set_option maxHeartbeats 32000000
namespace K03
open PySem PySem.Spec PyProof.Rows L2 Lm

section
variable {P : Program} {w : World} {K : PySem.W.Frag} {mg : Str → Option Value} {base : Heap}
theorem sc0 : FnScope ["self", "value"] ["self", "value"] (defScope (inClass (top 2) 0)) := ⟨rfl, rfl, rfl, by decide +kernel, rfl, by decide +kernel, by decide +kernel⟩
theorem ok_i0 {f C : Addr} {fd : FuncData} (F : Fun K "__init__" "InvalidName.__init__" (inClass (top 2) 0) f fd) (ox : OexC K C) (nf : PySem.W.findIn K (.ref C) "value" = some none) : FnOk P w K mg base CX0 1 f fd ["self", "value"] (spE C "value") := by
  refine F.ok sc0 (fun vs H Q E h => ?_) (fun cdv A outer s H vs Q E hr h => ?_)
  · obtain ⟨a, v, rfl, _⟩ := h
    rfl
  · obtain ⟨x, v, rfl, ha, k⟩ := h
    refine ⟨_, pss_one (ps_ost (pv 0) (pv 1)), ?_⟩
    exact ⟨_, rfl, _, rfl, x, C, rfl, ox, nf, .inl ⟨ha, fun dx h1 h2 => k dx h1 h2⟩⟩
theorem sc1 : FnScope ["self", "value"] ["self", "value"] (defScope (inClass (top 3) 0)) := ⟨rfl, rfl, rfl, by decide +kernel, rfl, by decide +kernel, by decide +kernel⟩
theorem ok_i1 {f C : Addr} {fd : FuncData} (F : Fun K "__init__" "InvalidNumber.__init__" (inClass (top 3) 0) f fd) (ox : OexC K C) (nf : PySem.W.findIn K (.ref C) "value" = some none) : FnOk P w K mg base CX0 1 f fd ["self", "value"] (spE C "value") := by
  refine F.ok sc1 (fun vs H Q E h => ?_) (fun cdv A outer s H vs Q E hr h => ?_)
  · obtain ⟨a, v, rfl, _⟩ := h
    rfl
  · obtain ⟨x, v, rfl, ha, k⟩ := h
    refine ⟨_, pss_one (ps_ost (pv 0) (pv 1)), ?_⟩
    exact ⟨_, rfl, _, rfl, x, C, rfl, ox, nf, .inl ⟨ha, fun dx h1 h2 => k dx h1 h2⟩⟩
theorem sc2 : FnScope ["self", "value"] ["self", "value"] (defScope (inClass (top 4) 0)) := ⟨rfl, rfl, rfl, by decide +kernel, rfl, by decide +kernel, by decide +kernel⟩
theorem ok_i2 {f C : Addr} {fd : FuncData} (F : Fun K "__init__" "InvalidBody.__init__" (inClass (top 4) 0) f fd) (ox : OexC K C) (nf : PySem.W.findIn K (.ref C) "value" = some none) : FnOk P w K mg base CX0 1 f fd ["self", "value"] (spE C "value") := by
  refine F.ok sc2 (fun vs H Q E h => ?_) (fun cdv A outer s H vs Q E hr h => ?_)
  · obtain ⟨a, v, rfl, _⟩ := h
    rfl
  · obtain ⟨x, v, rfl, ha, k⟩ := h
    refine ⟨_, pss_one (ps_ost (pv 0) (pv 1)), ?_⟩
    exact ⟨_, rfl, _, rfl, x, C, rfl, ox, nf, .inl ⟨ha, fun dx h1 h2 => k dx h1 h2⟩⟩
theorem sc3 : FnScope ["self", "value"] ["self", "value"] (defScope (inClass (top 5) 0)) := ⟨rfl, rfl, rfl, by decide +kernel, rfl, by decide +kernel, by decide +kernel⟩
theorem ok_i3 {f C : Addr} {fd : FuncData} (F : Fun K "__init__" "InvalidProgram.__init__" (inClass (top 5) 0) f fd) (ox : OexC K C) (nf : PySem.W.findIn K (.ref C) "value" = some none) : FnOk P w K mg base CX0 1 f fd ["self", "value"] (spE C "value") := by
  refine F.ok sc3 (fun vs H Q E h => ?_) (fun cdv A outer s H vs Q E hr h => ?_)
  · obtain ⟨a, v, rfl, _⟩ := h
    rfl
  · obtain ⟨x, v, rfl, ha, k⟩ := h
    refine ⟨_, pss_one (ps_ost (pv 0) (pv 1)), ?_⟩
    exact ⟨_, rfl, _, rfl, x, C, rfl, ox, nf, .inl ⟨ha, fun dx h1 h2 => k dx h1 h2⟩⟩
theorem sc4 : FnScope ["self", "value"] ["self", "value"] (defScope (inClass (top 6) 0)) := ⟨rfl, rfl, rfl, by decide +kernel, rfl, by decide +kernel, by decide +kernel⟩
theorem ok_i4 {f C : Addr} {fd : FuncData} (F : Fun K "__init__" "InvalidState.__init__" (inClass (top 6) 0) f fd) (ox : OexC K C) (nf : PySem.W.findIn K (.ref C) "value" = some none) : FnOk P w K mg base CX0 1 f fd ["self", "value"] (spE C "value") := by
  refine F.ok sc4 (fun vs H Q E h => ?_) (fun cdv A outer s H vs Q E hr h => ?_)
  · obtain ⟨a, v, rfl, _⟩ := h
    rfl
  · obtain ⟨x, v, rfl, ha, k⟩ := h
    refine ⟨_, pss_one (ps_ost (pv 0) (pv 1)), ?_⟩
    exact ⟨_, rfl, _, rfl, x, C, rfl, ox, nf, .inl ⟨ha, fun dx h1 h2 => k dx h1 h2⟩⟩
theorem sc5 : FnScope ["self", "value"] ["self", "value"] (defScope (inClass (top 7) 0)) := ⟨rfl, rfl, rfl, by decide +kernel, rfl, by decide +kernel, by decide +kernel⟩
theorem ok_i5 {f C : Addr} {fd : FuncData} (F : Fun K "__init__" "InvalidChoice.__init__" (inClass (top 7) 0) f fd) (ox : OexC K C) (nf : PySem.W.findIn K (.ref C) "value" = some none) : FnOk P w K mg base CX0 1 f fd ["self", "value"] (spE C "value") := by
  refine F.ok sc5 (fun vs H Q E h => ?_) (fun cdv A outer s H vs Q E hr h => ?_)
  · obtain ⟨a, v, rfl, _⟩ := h
    rfl
  · obtain ⟨x, v, rfl, ha, k⟩ := h
    refine ⟨_, pss_one (ps_ost (pv 0) (pv 1)), ?_⟩
    exact ⟨_, rfl, _, rfl, x, C, rfl, ox, nf, .inl ⟨ha, fun dx h1 h2 => k dx h1 h2⟩⟩
theorem sc6 : FnScope ["self", "value"] ["self", "value"] (defScope (inClass (top 8) 0)) := ⟨rfl, rfl, rfl, by decide +kernel, rfl, by decide +kernel, by decide +kernel⟩
theorem ok_i6 {f C : Addr} {fd : FuncData} (F : Fun K "__init__" "InvalidCondition.__init__" (inClass (top 8) 0) f fd) (ox : OexC K C) (nf : PySem.W.findIn K (.ref C) "value" = some none) : FnOk P w K mg base CX0 1 f fd ["self", "value"] (spE C "value") := by
  refine F.ok sc6 (fun vs H Q E h => ?_) (fun cdv A outer s H vs Q E hr h => ?_)
  · obtain ⟨a, v, rfl, _⟩ := h
    rfl
  · obtain ⟨x, v, rfl, ha, k⟩ := h
    refine ⟨_, pss_one (ps_ost (pv 0) (pv 1)), ?_⟩
    exact ⟨_, rfl, _, rfl, x, C, rfl, ox, nf, .inl ⟨ha, fun dx h1 h2 => k dx h1 h2⟩⟩
theorem sc7 : FnScope ["self", "value"] ["self", "value"] (defScope (inClass (top 9) 0)) := ⟨rfl, rfl, rfl, by decide +kernel, rfl, by decide +kernel, by decide +kernel⟩
theorem ok_i7 {f C : Addr} {fd : FuncData} (F : Fun K "__init__" "InvalidSize.__init__" (inClass (top 9) 0) f fd) (ox : OexC K C) (nf : PySem.W.findIn K (.ref C) "value" = some none) : FnOk P w K mg base CX0 1 f fd ["self", "value"] (spE C "value") := by
  refine F.ok sc7 (fun vs H Q E h => ?_) (fun cdv A outer s H vs Q E hr h => ?_)
  · obtain ⟨a, v, rfl, _⟩ := h
    rfl
  · obtain ⟨x, v, rfl, ha, k⟩ := h
    refine ⟨_, pss_one (ps_ost (pv 0) (pv 1)), ?_⟩
    exact ⟨_, rfl, _, rfl, x, C, rfl, ox, nf, .inl ⟨ha, fun dx h1 h2 => k dx h1 h2⟩⟩
theorem sc8 : FnScope ["self", "value"] ["self", "value"] (defScope (inClass (top 10) 0)) := ⟨rfl, rfl, rfl, by decide +kernel, rfl, by decide +kernel, by decide +kernel⟩
theorem ok_i8 {f C : Addr} {fd : FuncData} (F : Fun K "__init__" "InvalidPaper.__init__" (inClass (top 10) 0) f fd) (ox : OexC K C) (nf : PySem.W.findIn K (.ref C) "value" = some none) : FnOk P w K mg base CX0 1 f fd ["self", "value"] (spE C "value") := by
  refine F.ok sc8 (fun vs H Q E h => ?_) (fun cdv A outer s H vs Q E hr h => ?_)
  · obtain ⟨a, v, rfl, _⟩ := h
    rfl
  · obtain ⟨x, v, rfl, ha, k⟩ := h
    refine ⟨_, pss_one (ps_ost (pv 0) (pv 1)), ?_⟩
    exact ⟨_, rfl, _, rfl, x, C, rfl, ox, nf, .inl ⟨ha, fun dx h1 h2 => k dx h1 h2⟩⟩
theorem sc9 : FnScope ["self", "value"] ["self", "value"] (defScope (inClass (top 11) 0)) := ⟨rfl, rfl, rfl, by decide +kernel, rfl, by decide +kernel, by decide +kernel⟩
theorem ok_i9 {f C : Addr} {fd : FuncData} (F : Fun K "__init__" "InvalidCommand.__init__" (inClass (top 11) 0) f fd) (ox : OexC K C) (nf : PySem.W.findIn K (.ref C) "value" = some none) : FnOk P w K mg base CX0 1 f fd ["self", "value"] (spE C "value") := by
  refine F.ok sc9 (fun vs H Q E h => ?_) (fun cdv A outer s H vs Q E hr h => ?_)
  · obtain ⟨a, v, rfl, _⟩ := h
    rfl
  · obtain ⟨x, v, rfl, ha, k⟩ := h
    refine ⟨_, pss_one (ps_ost (pv 0) (pv 1)), ?_⟩
    exact ⟨_, rfl, _, rfl, x, C, rfl, ox, nf, .inl ⟨ha, fun dx h1 h2 => k dx h1 h2⟩⟩
theorem sc10 : FnScope ["self", "line"] ["self", "line"] (defScope (inClass (top 12) 0)) := ⟨rfl, rfl, rfl, by decide +kernel, rfl, by decide +kernel, by decide +kernel⟩
theorem ok_i10 {f C : Addr} {fd : FuncData} (F : Fun K "__init__" "ParseError.__init__" (inClass (top 12) 0) f fd) (ox : OexC K C) (nf : PySem.W.findIn K (.ref C) "line" = some none) : FnOk P w K mg base CX0 1 f fd ["self", "line"] (spE C "line") := by
  refine F.ok sc10 (fun vs H Q E h => ?_) (fun cdv A outer s H vs Q E hr h => ?_)
  · obtain ⟨a, v, rfl, _⟩ := h
    rfl
  · obtain ⟨x, v, rfl, ha, k⟩ := h
    refine ⟨_, pss_one (ps_ost (pv 0) (pv 1)), ?_⟩
    exact ⟨_, rfl, _, rfl, x, C, rfl, ox, nf, .inl ⟨ha, fun dx h1 h2 => k dx h1 h2⟩⟩
theorem sc11 : FnScope ["self", "limit"] ["self", "limit"] (defScope (inClass (top 13) 0)) := ⟨rfl, rfl, rfl, by decide +kernel, rfl, by decide +kernel, by decide +kernel⟩
theorem ok_i11 {f C : Addr} {fd : FuncData} (F : Fun K "__init__" "TooMany.__init__" (inClass (top 13) 0) f fd) (ox : OexO K C) (nf : PySem.W.findIn K (.ref C) "limit" = some none) : FnOk P w K mg base CX0 1 f fd ["self", "limit"] (spE C "limit") := by
  refine F.ok sc11 (fun vs H Q E h => ?_) (fun cdv A outer s H vs Q E hr h => ?_)
  · obtain ⟨a, v, rfl, _⟩ := h
    rfl
  · obtain ⟨x, v, rfl, ha, k⟩ := h
    refine ⟨_, pss_one (ps_ostO (pv 0) (pv 1)), ?_⟩
    exact ⟨_, rfl, _, rfl, x, C, rfl, ox, nf, ha, fun dx h1 h2 => k dx h1 h2⟩
end
/-- whether each of the classes is a kind of itself alone -/
def kitAll (K : PySem.W.Frag) (cs : List Addr) : Bool := (List.range 14).all fun i => (List.range 14).all fun j => match cs[i]?, cs[j]? with
  | some c, some d => PySem.W.kitOne K (.ref c) (.ref d) == some (decide (i = j))
  | _, _ => true
theorem kit_of {K : PySem.W.Frag} {cs : List Addr} (hl : cs.length = 14) (h : kitAll K cs = true) (i j : Nat) (c d : Addr) (hc : cs[i]? = some c) (hd : cs[j]? = some d) : PySem.W.kitOne K (.ref c) (.ref d) = some (decide (i = j)) := by
  have hi := (List.getElem?_eq_some_iff.mp hc).1
  have hj := (List.getElem?_eq_some_iff.mp hd).1
  have := List.all_eq_true.mp (List.all_eq_true.mp h i (List.mem_range.mpr (by omega))) j (List.mem_range.mpr (by omega))
  rw [hc, hd] at this
  exact eq_of_beq this
def kitBase (K : PySem.W.Frag) (cs : List Addr) (b : Value) (p : Nat → Bool) : Bool := (List.range 14).all fun i => match cs[i]? with
  | some c => PySem.W.kitOne K (.ref c) b == some (p i)
  | none => true
theorem base_of {K : PySem.W.Frag} {cs : List Addr} {b : Value} {p : Nat → Bool} (hl : cs.length = 14) (h : kitBase K cs b p = true) (i : Nat) (c : Addr) (hc : cs[i]? = some c) : PySem.W.kitOne K (.ref c) b = some (p i) := by
  have hi := (List.getElem?_eq_some_iff.mp hc).1
  have := List.all_eq_true.mp h i (List.mem_range.mpr (by omega))
  rw [hc] at this
  exact eq_of_beq this
end K03

set_option Elab.async false
set_option linter.all false
set_option maxRecDepth 100000
set_option maxHeartbeats 32000000
namespace K03
open PySem PySem.Spec PyProof.Rows L2 Lm

theorem all_mk {l : PySem.W.OpenLaw} {w : World} {K : PySem.W.Frag} {h : Heap} {mg : Str → Option Value} {fa C0 C1 C2 C3 C4 C5 C6 C7 C8 C9 C10 C11 C12 C13 CS fI0 fI1 fI2 fI3 fI4 fI5 fI6 fI7 fI8 fI9 fI10 fI11 fM fN fS fB fL : Addr} (Y : K.In h) (G : h.Ns mainGlobals mg) (hfa : mg "law" = some (.ref fa))
    {nm0 q0 : Str} {N0 : Addr} {bs0 : List Value} {sn0 : List Str} {sub0 : List Value} {ab0 : Bool} {col0 : Option Bool} {dd0 : Option Addr} {m00 m10 m20 m30 m50 : Option Value}
    {odI0 anI0 : Option Addr} {slI0 : Array (Option Value)} {ocI0 kVI0 dcI0 pmI0 cdI0 ctI0 : Value}
    {nm1 q1 : Str} {N1 : Addr} {bs1 : List Value} {sn1 : List Str} {sub1 : List Value} {ab1 : Bool} {col1 : Option Bool} {dd1 : Option Addr} {m01 m11 m21 m31 m51 : Option Value}
    {odI1 anI1 : Option Addr} {slI1 : Array (Option Value)} {ocI1 kVI1 dcI1 pmI1 cdI1 ctI1 : Value}
    {nm2 q2 : Str} {N2 : Addr} {bs2 : List Value} {sn2 : List Str} {sub2 : List Value} {ab2 : Bool} {col2 : Option Bool} {dd2 : Option Addr} {m02 m12 m22 m32 m52 : Option Value}
    {odI2 anI2 : Option Addr} {slI2 : Array (Option Value)} {ocI2 kVI2 dcI2 pmI2 cdI2 ctI2 : Value}
    {nm3 q3 : Str} {N3 : Addr} {bs3 : List Value} {sn3 : List Str} {sub3 : List Value} {ab3 : Bool} {col3 : Option Bool} {dd3 : Option Addr} {m03 m13 m23 m33 m53 : Option Value}
    {odI3 anI3 : Option Addr} {slI3 : Array (Option Value)} {ocI3 kVI3 dcI3 pmI3 cdI3 ctI3 : Value}
    {nm4 q4 : Str} {N4 : Addr} {bs4 : List Value} {sn4 : List Str} {sub4 : List Value} {ab4 : Bool} {col4 : Option Bool} {dd4 : Option Addr} {m04 m14 m24 m34 m54 : Option Value}
    {odI4 anI4 : Option Addr} {slI4 : Array (Option Value)} {ocI4 kVI4 dcI4 pmI4 cdI4 ctI4 : Value}
    {nm5 q5 : Str} {N5 : Addr} {bs5 : List Value} {sn5 : List Str} {sub5 : List Value} {ab5 : Bool} {col5 : Option Bool} {dd5 : Option Addr} {m05 m15 m25 m35 m55 : Option Value}
    {odI5 anI5 : Option Addr} {slI5 : Array (Option Value)} {ocI5 kVI5 dcI5 pmI5 cdI5 ctI5 : Value}
    {nm6 q6 : Str} {N6 : Addr} {bs6 : List Value} {sn6 : List Str} {sub6 : List Value} {ab6 : Bool} {col6 : Option Bool} {dd6 : Option Addr} {m06 m16 m26 m36 m56 : Option Value}
    {odI6 anI6 : Option Addr} {slI6 : Array (Option Value)} {ocI6 kVI6 dcI6 pmI6 cdI6 ctI6 : Value}
    {nm7 q7 : Str} {N7 : Addr} {bs7 : List Value} {sn7 : List Str} {sub7 : List Value} {ab7 : Bool} {col7 : Option Bool} {dd7 : Option Addr} {m07 m17 m27 m37 m57 : Option Value}
    {odI7 anI7 : Option Addr} {slI7 : Array (Option Value)} {ocI7 kVI7 dcI7 pmI7 cdI7 ctI7 : Value}
    {nm8 q8 : Str} {N8 : Addr} {bs8 : List Value} {sn8 : List Str} {sub8 : List Value} {ab8 : Bool} {col8 : Option Bool} {dd8 : Option Addr} {m08 m18 m28 m38 m58 : Option Value}
    {odI8 anI8 : Option Addr} {slI8 : Array (Option Value)} {ocI8 kVI8 dcI8 pmI8 cdI8 ctI8 : Value}
    {nm9 q9 : Str} {N9 : Addr} {bs9 : List Value} {sn9 : List Str} {sub9 : List Value} {ab9 : Bool} {col9 : Option Bool} {dd9 : Option Addr} {m09 m19 m29 m39 m59 : Option Value}
    {odI9 anI9 : Option Addr} {slI9 : Array (Option Value)} {ocI9 kVI9 dcI9 pmI9 cdI9 ctI9 : Value}
    {nm10 q10 : Str} {N10 : Addr} {bs10 : List Value} {sn10 : List Str} {sub10 : List Value} {ab10 : Bool} {col10 : Option Bool} {dd10 : Option Addr} {m010 m110 m210 m310 m510 : Option Value}
    {odI10 anI10 : Option Addr} {slI10 : Array (Option Value)} {ocI10 kVI10 dcI10 pmI10 cdI10 ctI10 : Value}
    {nm11 q11 : Str} {N11 : Addr} {bs11 : List Value} {sn11 : List Str} {sub11 : List Value} {ab11 : Bool} {col11 : Option Bool} {dd11 : Option Addr} {m011 m111 m211 m311 m511 : Option Value}
    {odI11 anI11 : Option Addr} {slI11 : Array (Option Value)} {ocI11 kVI11 dcI11 pmI11 cdI11 ctI11 : Value}
    {odM anM : Option Addr} {slM : Array (Option Value)} {ocM kVM dcM pmM cdM ctM : Value}
    {odN anN : Option Addr} {slN : Array (Option Value)} {ocN kVN dcN pmN cdN ctN : Value}
    {odS anS : Option Addr} {slS : Array (Option Value)} {ocS kVS dcS pmS cdS ctS : Value}
    {odB anB : Option Addr} {slB : Array (Option Value)} {ocB kVB dcB pmB cdB ctB : Value}
    {odL anL : Option Addr} {slL : Array (Option Value)} {ocL kVL dcL pmL cdL ctL : Value}
    (o0 : PySem.W.nsIn K mainGlobals "InvalidName" = some (some (.ref C0)))
    (o1 : PySem.W.nsIn K mainGlobals "InvalidNumber" = some (some (.ref C1)))
    (o2 : PySem.W.nsIn K mainGlobals "InvalidBody" = some (some (.ref C2)))
    (o3 : PySem.W.nsIn K mainGlobals "InvalidProgram" = some (some (.ref C3)))
    (o4 : PySem.W.nsIn K mainGlobals "InvalidState" = some (some (.ref C4)))
    (o5 : PySem.W.nsIn K mainGlobals "InvalidChoice" = some (some (.ref C5)))
    (o6 : PySem.W.nsIn K mainGlobals "InvalidCondition" = some (some (.ref C6)))
    (o7 : PySem.W.nsIn K mainGlobals "InvalidSize" = some (some (.ref C7)))
    (o8 : PySem.W.nsIn K mainGlobals "InvalidPaper" = some (some (.ref C8)))
    (o9 : PySem.W.nsIn K mainGlobals "InvalidCommand" = some (some (.ref C9)))
    (o10 : PySem.W.nsIn K mainGlobals "ParseError" = some (some (.ref C10)))
    (o11 : PySem.W.nsIn K mainGlobals "TooMany" = some (some (.ref C11)))
    (o12 : PySem.W.nsIn K mainGlobals "NothingToUndo" = some (some (.ref C12)))
    (o13 : PySem.W.nsIn K mainGlobals "NothingToRedo" = some (some (.ref C13)))
    (oS : PySem.W.nsIn K mainGlobals "SafeError" = some (some (.ref CS)))
    (xg0 : PySem.W.findIn K (.ref C0) "__getattribute__" = some (some (.builtin "BaseException.__getattribute__")))
    (xh0 : PySem.W.findIn K (.ref C0) "__getattr__" = some none)
    (xe0 : PySem.W.subIn K (.ref C0) (.type "BaseException") = some true)
    (xd0 : PySem.W.hasDictIn K C0 = true)
    (xc0 : PySem.W.findIn K (.ref C0) "__class__" = some (some (.builtin "object.__class__")))
    (xm0 : PySem.W.mroIn K C0 (.type "object") = some true)
    (xk0 : PySem.W.keepIn K (.ref C0) = true)
    (xL0 : K.lookup C0 = some (excClassObj nm0 q0 C0 N0 bs0 [.ref CS, .type "ValueError", .type "Exception", .type "BaseException", .type "object"] true sn0 sub0 ab0 col0 dd0 m00 m10 m20 m30 m50 "ValueError.__new__"))
    (xa0 : PySem.W.findIn K (.ref C0) "__setattr__" = some (some (.builtin "object.__setattr__")))
    (xv0 : PySem.W.findIn K (.ref C0) "value" = some none)
    (xt0 : PySem.W.typeIn K (.ref C0) = some (.type "type"))
    (aI0 : PySem.W.findIn K (.ref C0) "__init__" = some (some (.ref fI0)))
    (iI0 : PySem.W.typeIn K (.ref fI0) = some (.type "function"))
    (lI0 : K.lookup fI0 = some ⟨ocI0, odI0, .func (PySem.W.fnOf "__init__" "InvalidName.__init__" (defArgs (inClass (top 2) 0)) (defBody (inClass (top 2) 0)) (defScope (inClass (top 2) 0)) .none kVI0 dcI0 pmI0 anI0 cdI0 ctI0), slI0⟩)
    (cI0 : PySem.W.codeIn K cdI0 "InvalidName.__init__" = true)
    (kI0 : PySem.W.keepIn K (.ref fI0) = true)
    (xg1 : PySem.W.findIn K (.ref C1) "__getattribute__" = some (some (.builtin "BaseException.__getattribute__")))
    (xh1 : PySem.W.findIn K (.ref C1) "__getattr__" = some none)
    (xe1 : PySem.W.subIn K (.ref C1) (.type "BaseException") = some true)
    (xd1 : PySem.W.hasDictIn K C1 = true)
    (xc1 : PySem.W.findIn K (.ref C1) "__class__" = some (some (.builtin "object.__class__")))
    (xm1 : PySem.W.mroIn K C1 (.type "object") = some true)
    (xk1 : PySem.W.keepIn K (.ref C1) = true)
    (xL1 : K.lookup C1 = some (excClassObj nm1 q1 C1 N1 bs1 [.ref CS, .type "ValueError", .type "Exception", .type "BaseException", .type "object"] true sn1 sub1 ab1 col1 dd1 m01 m11 m21 m31 m51 "ValueError.__new__"))
    (xa1 : PySem.W.findIn K (.ref C1) "__setattr__" = some (some (.builtin "object.__setattr__")))
    (xv1 : PySem.W.findIn K (.ref C1) "value" = some none)
    (xt1 : PySem.W.typeIn K (.ref C1) = some (.type "type"))
    (aI1 : PySem.W.findIn K (.ref C1) "__init__" = some (some (.ref fI1)))
    (iI1 : PySem.W.typeIn K (.ref fI1) = some (.type "function"))
    (lI1 : K.lookup fI1 = some ⟨ocI1, odI1, .func (PySem.W.fnOf "__init__" "InvalidNumber.__init__" (defArgs (inClass (top 3) 0)) (defBody (inClass (top 3) 0)) (defScope (inClass (top 3) 0)) .none kVI1 dcI1 pmI1 anI1 cdI1 ctI1), slI1⟩)
    (cI1 : PySem.W.codeIn K cdI1 "InvalidNumber.__init__" = true)
    (kI1 : PySem.W.keepIn K (.ref fI1) = true)
    (xg2 : PySem.W.findIn K (.ref C2) "__getattribute__" = some (some (.builtin "BaseException.__getattribute__")))
    (xh2 : PySem.W.findIn K (.ref C2) "__getattr__" = some none)
    (xe2 : PySem.W.subIn K (.ref C2) (.type "BaseException") = some true)
    (xd2 : PySem.W.hasDictIn K C2 = true)
    (xc2 : PySem.W.findIn K (.ref C2) "__class__" = some (some (.builtin "object.__class__")))
    (xm2 : PySem.W.mroIn K C2 (.type "object") = some true)
    (xk2 : PySem.W.keepIn K (.ref C2) = true)
    (xL2 : K.lookup C2 = some (excClassObj nm2 q2 C2 N2 bs2 [.ref CS, .type "ValueError", .type "Exception", .type "BaseException", .type "object"] true sn2 sub2 ab2 col2 dd2 m02 m12 m22 m32 m52 "ValueError.__new__"))
    (xa2 : PySem.W.findIn K (.ref C2) "__setattr__" = some (some (.builtin "object.__setattr__")))
    (xv2 : PySem.W.findIn K (.ref C2) "value" = some none)
    (xt2 : PySem.W.typeIn K (.ref C2) = some (.type "type"))
    (aI2 : PySem.W.findIn K (.ref C2) "__init__" = some (some (.ref fI2)))
    (iI2 : PySem.W.typeIn K (.ref fI2) = some (.type "function"))
    (lI2 : K.lookup fI2 = some ⟨ocI2, odI2, .func (PySem.W.fnOf "__init__" "InvalidBody.__init__" (defArgs (inClass (top 4) 0)) (defBody (inClass (top 4) 0)) (defScope (inClass (top 4) 0)) .none kVI2 dcI2 pmI2 anI2 cdI2 ctI2), slI2⟩)
    (cI2 : PySem.W.codeIn K cdI2 "InvalidBody.__init__" = true)
    (kI2 : PySem.W.keepIn K (.ref fI2) = true)
    (xg3 : PySem.W.findIn K (.ref C3) "__getattribute__" = some (some (.builtin "BaseException.__getattribute__")))
    (xh3 : PySem.W.findIn K (.ref C3) "__getattr__" = some none)
    (xe3 : PySem.W.subIn K (.ref C3) (.type "BaseException") = some true)
    (xd3 : PySem.W.hasDictIn K C3 = true)
    (xc3 : PySem.W.findIn K (.ref C3) "__class__" = some (some (.builtin "object.__class__")))
    (xm3 : PySem.W.mroIn K C3 (.type "object") = some true)
    (xk3 : PySem.W.keepIn K (.ref C3) = true)
    (xL3 : K.lookup C3 = some (excClassObj nm3 q3 C3 N3 bs3 [.ref CS, .type "ValueError", .type "Exception", .type "BaseException", .type "object"] true sn3 sub3 ab3 col3 dd3 m03 m13 m23 m33 m53 "ValueError.__new__"))
    (xa3 : PySem.W.findIn K (.ref C3) "__setattr__" = some (some (.builtin "object.__setattr__")))
    (xv3 : PySem.W.findIn K (.ref C3) "value" = some none)
    (xt3 : PySem.W.typeIn K (.ref C3) = some (.type "type"))
    (aI3 : PySem.W.findIn K (.ref C3) "__init__" = some (some (.ref fI3)))
    (iI3 : PySem.W.typeIn K (.ref fI3) = some (.type "function"))
    (lI3 : K.lookup fI3 = some ⟨ocI3, odI3, .func (PySem.W.fnOf "__init__" "InvalidProgram.__init__" (defArgs (inClass (top 5) 0)) (defBody (inClass (top 5) 0)) (defScope (inClass (top 5) 0)) .none kVI3 dcI3 pmI3 anI3 cdI3 ctI3), slI3⟩)
    (cI3 : PySem.W.codeIn K cdI3 "InvalidProgram.__init__" = true)
    (kI3 : PySem.W.keepIn K (.ref fI3) = true)
    (xg4 : PySem.W.findIn K (.ref C4) "__getattribute__" = some (some (.builtin "BaseException.__getattribute__")))
    (xh4 : PySem.W.findIn K (.ref C4) "__getattr__" = some none)
    (xe4 : PySem.W.subIn K (.ref C4) (.type "BaseException") = some true)
    (xd4 : PySem.W.hasDictIn K C4 = true)
    (xc4 : PySem.W.findIn K (.ref C4) "__class__" = some (some (.builtin "object.__class__")))
    (xm4 : PySem.W.mroIn K C4 (.type "object") = some true)
    (xk4 : PySem.W.keepIn K (.ref C4) = true)
    (xL4 : K.lookup C4 = some (excClassObj nm4 q4 C4 N4 bs4 [.ref CS, .type "ValueError", .type "Exception", .type "BaseException", .type "object"] true sn4 sub4 ab4 col4 dd4 m04 m14 m24 m34 m54 "ValueError.__new__"))
    (xa4 : PySem.W.findIn K (.ref C4) "__setattr__" = some (some (.builtin "object.__setattr__")))
    (xv4 : PySem.W.findIn K (.ref C4) "value" = some none)
    (xt4 : PySem.W.typeIn K (.ref C4) = some (.type "type"))
    (aI4 : PySem.W.findIn K (.ref C4) "__init__" = some (some (.ref fI4)))
    (iI4 : PySem.W.typeIn K (.ref fI4) = some (.type "function"))
    (lI4 : K.lookup fI4 = some ⟨ocI4, odI4, .func (PySem.W.fnOf "__init__" "InvalidState.__init__" (defArgs (inClass (top 6) 0)) (defBody (inClass (top 6) 0)) (defScope (inClass (top 6) 0)) .none kVI4 dcI4 pmI4 anI4 cdI4 ctI4), slI4⟩)
    (cI4 : PySem.W.codeIn K cdI4 "InvalidState.__init__" = true)
    (kI4 : PySem.W.keepIn K (.ref fI4) = true)
    (xg5 : PySem.W.findIn K (.ref C5) "__getattribute__" = some (some (.builtin "BaseException.__getattribute__")))
    (xh5 : PySem.W.findIn K (.ref C5) "__getattr__" = some none)
    (xe5 : PySem.W.subIn K (.ref C5) (.type "BaseException") = some true)
    (xd5 : PySem.W.hasDictIn K C5 = true)
    (xc5 : PySem.W.findIn K (.ref C5) "__class__" = some (some (.builtin "object.__class__")))
    (xm5 : PySem.W.mroIn K C5 (.type "object") = some true)
    (xk5 : PySem.W.keepIn K (.ref C5) = true)
    (xL5 : K.lookup C5 = some (excClassObj nm5 q5 C5 N5 bs5 [.ref CS, .type "ValueError", .type "Exception", .type "BaseException", .type "object"] true sn5 sub5 ab5 col5 dd5 m05 m15 m25 m35 m55 "ValueError.__new__"))
    (xa5 : PySem.W.findIn K (.ref C5) "__setattr__" = some (some (.builtin "object.__setattr__")))
    (xv5 : PySem.W.findIn K (.ref C5) "value" = some none)
    (xt5 : PySem.W.typeIn K (.ref C5) = some (.type "type"))
    (aI5 : PySem.W.findIn K (.ref C5) "__init__" = some (some (.ref fI5)))
    (iI5 : PySem.W.typeIn K (.ref fI5) = some (.type "function"))
    (lI5 : K.lookup fI5 = some ⟨ocI5, odI5, .func (PySem.W.fnOf "__init__" "InvalidChoice.__init__" (defArgs (inClass (top 7) 0)) (defBody (inClass (top 7) 0)) (defScope (inClass (top 7) 0)) .none kVI5 dcI5 pmI5 anI5 cdI5 ctI5), slI5⟩)
    (cI5 : PySem.W.codeIn K cdI5 "InvalidChoice.__init__" = true)
    (kI5 : PySem.W.keepIn K (.ref fI5) = true)
    (xg6 : PySem.W.findIn K (.ref C6) "__getattribute__" = some (some (.builtin "BaseException.__getattribute__")))
    (xh6 : PySem.W.findIn K (.ref C6) "__getattr__" = some none)
    (xe6 : PySem.W.subIn K (.ref C6) (.type "BaseException") = some true)
    (xd6 : PySem.W.hasDictIn K C6 = true)
    (xc6 : PySem.W.findIn K (.ref C6) "__class__" = some (some (.builtin "object.__class__")))
    (xm6 : PySem.W.mroIn K C6 (.type "object") = some true)
    (xk6 : PySem.W.keepIn K (.ref C6) = true)
    (xL6 : K.lookup C6 = some (excClassObj nm6 q6 C6 N6 bs6 [.ref CS, .type "ValueError", .type "Exception", .type "BaseException", .type "object"] true sn6 sub6 ab6 col6 dd6 m06 m16 m26 m36 m56 "ValueError.__new__"))
    (xa6 : PySem.W.findIn K (.ref C6) "__setattr__" = some (some (.builtin "object.__setattr__")))
    (xv6 : PySem.W.findIn K (.ref C6) "value" = some none)
    (xt6 : PySem.W.typeIn K (.ref C6) = some (.type "type"))
    (aI6 : PySem.W.findIn K (.ref C6) "__init__" = some (some (.ref fI6)))
    (iI6 : PySem.W.typeIn K (.ref fI6) = some (.type "function"))
    (lI6 : K.lookup fI6 = some ⟨ocI6, odI6, .func (PySem.W.fnOf "__init__" "InvalidCondition.__init__" (defArgs (inClass (top 8) 0)) (defBody (inClass (top 8) 0)) (defScope (inClass (top 8) 0)) .none kVI6 dcI6 pmI6 anI6 cdI6 ctI6), slI6⟩)
    (cI6 : PySem.W.codeIn K cdI6 "InvalidCondition.__init__" = true)
    (kI6 : PySem.W.keepIn K (.ref fI6) = true)
    (xg7 : PySem.W.findIn K (.ref C7) "__getattribute__" = some (some (.builtin "BaseException.__getattribute__")))
    (xh7 : PySem.W.findIn K (.ref C7) "__getattr__" = some none)
    (xe7 : PySem.W.subIn K (.ref C7) (.type "BaseException") = some true)
    (xd7 : PySem.W.hasDictIn K C7 = true)
    (xc7 : PySem.W.findIn K (.ref C7) "__class__" = some (some (.builtin "object.__class__")))
    (xm7 : PySem.W.mroIn K C7 (.type "object") = some true)
    (xk7 : PySem.W.keepIn K (.ref C7) = true)
    (xL7 : K.lookup C7 = some (excClassObj nm7 q7 C7 N7 bs7 [.ref CS, .type "ValueError", .type "Exception", .type "BaseException", .type "object"] true sn7 sub7 ab7 col7 dd7 m07 m17 m27 m37 m57 "ValueError.__new__"))
    (xa7 : PySem.W.findIn K (.ref C7) "__setattr__" = some (some (.builtin "object.__setattr__")))
    (xv7 : PySem.W.findIn K (.ref C7) "value" = some none)
    (xt7 : PySem.W.typeIn K (.ref C7) = some (.type "type"))
    (aI7 : PySem.W.findIn K (.ref C7) "__init__" = some (some (.ref fI7)))
    (iI7 : PySem.W.typeIn K (.ref fI7) = some (.type "function"))
    (lI7 : K.lookup fI7 = some ⟨ocI7, odI7, .func (PySem.W.fnOf "__init__" "InvalidSize.__init__" (defArgs (inClass (top 9) 0)) (defBody (inClass (top 9) 0)) (defScope (inClass (top 9) 0)) .none kVI7 dcI7 pmI7 anI7 cdI7 ctI7), slI7⟩)
    (cI7 : PySem.W.codeIn K cdI7 "InvalidSize.__init__" = true)
    (kI7 : PySem.W.keepIn K (.ref fI7) = true)
    (xg8 : PySem.W.findIn K (.ref C8) "__getattribute__" = some (some (.builtin "BaseException.__getattribute__")))
    (xh8 : PySem.W.findIn K (.ref C8) "__getattr__" = some none)
    (xe8 : PySem.W.subIn K (.ref C8) (.type "BaseException") = some true)
    (xd8 : PySem.W.hasDictIn K C8 = true)
    (xc8 : PySem.W.findIn K (.ref C8) "__class__" = some (some (.builtin "object.__class__")))
    (xm8 : PySem.W.mroIn K C8 (.type "object") = some true)
    (xk8 : PySem.W.keepIn K (.ref C8) = true)
    (xL8 : K.lookup C8 = some (excClassObj nm8 q8 C8 N8 bs8 [.ref CS, .type "ValueError", .type "Exception", .type "BaseException", .type "object"] true sn8 sub8 ab8 col8 dd8 m08 m18 m28 m38 m58 "ValueError.__new__"))
    (xa8 : PySem.W.findIn K (.ref C8) "__setattr__" = some (some (.builtin "object.__setattr__")))
    (xv8 : PySem.W.findIn K (.ref C8) "value" = some none)
    (xt8 : PySem.W.typeIn K (.ref C8) = some (.type "type"))
    (aI8 : PySem.W.findIn K (.ref C8) "__init__" = some (some (.ref fI8)))
    (iI8 : PySem.W.typeIn K (.ref fI8) = some (.type "function"))
    (lI8 : K.lookup fI8 = some ⟨ocI8, odI8, .func (PySem.W.fnOf "__init__" "InvalidPaper.__init__" (defArgs (inClass (top 10) 0)) (defBody (inClass (top 10) 0)) (defScope (inClass (top 10) 0)) .none kVI8 dcI8 pmI8 anI8 cdI8 ctI8), slI8⟩)
    (cI8 : PySem.W.codeIn K cdI8 "InvalidPaper.__init__" = true)
    (kI8 : PySem.W.keepIn K (.ref fI8) = true)
    (xg9 : PySem.W.findIn K (.ref C9) "__getattribute__" = some (some (.builtin "BaseException.__getattribute__")))
    (xh9 : PySem.W.findIn K (.ref C9) "__getattr__" = some none)
    (xe9 : PySem.W.subIn K (.ref C9) (.type "BaseException") = some true)
    (xd9 : PySem.W.hasDictIn K C9 = true)
    (xc9 : PySem.W.findIn K (.ref C9) "__class__" = some (some (.builtin "object.__class__")))
    (xm9 : PySem.W.mroIn K C9 (.type "object") = some true)
    (xk9 : PySem.W.keepIn K (.ref C9) = true)
    (xL9 : K.lookup C9 = some (excClassObj nm9 q9 C9 N9 bs9 [.ref CS, .type "ValueError", .type "Exception", .type "BaseException", .type "object"] true sn9 sub9 ab9 col9 dd9 m09 m19 m29 m39 m59 "ValueError.__new__"))
    (xa9 : PySem.W.findIn K (.ref C9) "__setattr__" = some (some (.builtin "object.__setattr__")))
    (xv9 : PySem.W.findIn K (.ref C9) "value" = some none)
    (xt9 : PySem.W.typeIn K (.ref C9) = some (.type "type"))
    (aI9 : PySem.W.findIn K (.ref C9) "__init__" = some (some (.ref fI9)))
    (iI9 : PySem.W.typeIn K (.ref fI9) = some (.type "function"))
    (lI9 : K.lookup fI9 = some ⟨ocI9, odI9, .func (PySem.W.fnOf "__init__" "InvalidCommand.__init__" (defArgs (inClass (top 11) 0)) (defBody (inClass (top 11) 0)) (defScope (inClass (top 11) 0)) .none kVI9 dcI9 pmI9 anI9 cdI9 ctI9), slI9⟩)
    (cI9 : PySem.W.codeIn K cdI9 "InvalidCommand.__init__" = true)
    (kI9 : PySem.W.keepIn K (.ref fI9) = true)
    (xg10 : PySem.W.findIn K (.ref C10) "__getattribute__" = some (some (.builtin "BaseException.__getattribute__")))
    (xh10 : PySem.W.findIn K (.ref C10) "__getattr__" = some none)
    (xe10 : PySem.W.subIn K (.ref C10) (.type "BaseException") = some true)
    (xd10 : PySem.W.hasDictIn K C10 = true)
    (xc10 : PySem.W.findIn K (.ref C10) "__class__" = some (some (.builtin "object.__class__")))
    (xm10 : PySem.W.mroIn K C10 (.type "object") = some true)
    (xk10 : PySem.W.keepIn K (.ref C10) = true)
    (xL10 : K.lookup C10 = some (excClassObj nm10 q10 C10 N10 bs10 [.ref CS, .type "ValueError", .type "Exception", .type "BaseException", .type "object"] true sn10 sub10 ab10 col10 dd10 m010 m110 m210 m310 m510 "ValueError.__new__"))
    (xa10 : PySem.W.findIn K (.ref C10) "__setattr__" = some (some (.builtin "object.__setattr__")))
    (xv10 : PySem.W.findIn K (.ref C10) "line" = some none)
    (xt10 : PySem.W.typeIn K (.ref C10) = some (.type "type"))
    (aI10 : PySem.W.findIn K (.ref C10) "__init__" = some (some (.ref fI10)))
    (iI10 : PySem.W.typeIn K (.ref fI10) = some (.type "function"))
    (lI10 : K.lookup fI10 = some ⟨ocI10, odI10, .func (PySem.W.fnOf "__init__" "ParseError.__init__" (defArgs (inClass (top 12) 0)) (defBody (inClass (top 12) 0)) (defScope (inClass (top 12) 0)) .none kVI10 dcI10 pmI10 anI10 cdI10 ctI10), slI10⟩)
    (cI10 : PySem.W.codeIn K cdI10 "ParseError.__init__" = true)
    (kI10 : PySem.W.keepIn K (.ref fI10) = true)
    (xg11 : PySem.W.findIn K (.ref C11) "__getattribute__" = some (some (.builtin "BaseException.__getattribute__")))
    (xh11 : PySem.W.findIn K (.ref C11) "__getattr__" = some none)
    (xe11 : PySem.W.subIn K (.ref C11) (.type "BaseException") = some true)
    (xd11 : PySem.W.hasDictIn K C11 = true)
    (xc11 : PySem.W.findIn K (.ref C11) "__class__" = some (some (.builtin "object.__class__")))
    (xm11 : PySem.W.mroIn K C11 (.type "object") = some true)
    (xk11 : PySem.W.keepIn K (.ref C11) = true)
    (xL11 : K.lookup C11 = some (excClassObj nm11 q11 C11 N11 bs11 PySem.HandSPX.oeTail true sn11 sub11 ab11 col11 dd11 m011 m111 m211 m311 m511 "OverflowError.__new__"))
    (xa11 : PySem.W.findIn K (.ref C11) "__setattr__" = some (some (.builtin "object.__setattr__")))
    (xv11 : PySem.W.findIn K (.ref C11) "limit" = some none)
    (xt11 : PySem.W.typeIn K (.ref C11) = some (.type "type"))
    (aI11 : PySem.W.findIn K (.ref C11) "__init__" = some (some (.ref fI11)))
    (iI11 : PySem.W.typeIn K (.ref fI11) = some (.type "function"))
    (lI11 : K.lookup fI11 = some ⟨ocI11, odI11, .func (PySem.W.fnOf "__init__" "TooMany.__init__" (defArgs (inClass (top 13) 0)) (defBody (inClass (top 13) 0)) (defScope (inClass (top 13) 0)) .none kVI11 dcI11 pmI11 anI11 cdI11 ctI11), slI11⟩)
    (cI11 : PySem.W.codeIn K cdI11 "TooMany.__init__" = true)
    (kI11 : PySem.W.keepIn K (.ref fI11) = true)
    (xg12 : PySem.W.findIn K (.ref C12) "__getattribute__" = some (some (.builtin "BaseException.__getattribute__")))
    (xh12 : PySem.W.findIn K (.ref C12) "__getattr__" = some none)
    (xe12 : PySem.W.subIn K (.ref C12) (.type "BaseException") = some true)
    (xd12 : PySem.W.hasDictIn K C12 = true)
    (xc12 : PySem.W.findIn K (.ref C12) "__class__" = some (some (.builtin "object.__class__")))
    (xm12 : PySem.W.mroIn K C12 (.type "object") = some true)
    (xk12 : PySem.W.keepIn K (.ref C12) = true)
    (xn12 : PySem.W.excIn K C12 [.type "LookupError", .type "Exception", .type "BaseException", .type "object"] "LookupError.__new__" = true)
    (xg13 : PySem.W.findIn K (.ref C13) "__getattribute__" = some (some (.builtin "BaseException.__getattribute__")))
    (xh13 : PySem.W.findIn K (.ref C13) "__getattr__" = some none)
    (xe13 : PySem.W.subIn K (.ref C13) (.type "BaseException") = some true)
    (xd13 : PySem.W.hasDictIn K C13 = true)
    (xc13 : PySem.W.findIn K (.ref C13) "__class__" = some (some (.builtin "object.__class__")))
    (xm13 : PySem.W.mroIn K C13 (.type "object") = some true)
    (xk13 : PySem.W.keepIn K (.ref C13) = true)
    (xn13 : PySem.W.excIn K C13 [.type "LookupError", .type "Exception", .type "BaseException", .type "object"] "LookupError.__new__" = true)
    (hn : PySem.W.specialIn K (.builtin "object.__class__") "__get__" = some (some (.builtin "getset_descriptor.__get__")))
    (ht : PySem.W.takesIn K (.builtin "object.__class__") = some true)
    (kit : kitAll K [C0, C1, C2, C3, C4, C5, C6, C7, C8, C9, C10, C11, C12, C13] = true)
    (bS_ : kitBase K [C0, C1, C2, C3, C4, C5, C6, C7, C8, C9, C10, C11, C12, C13] (.ref CS) (fun i => decide (i < 11)) = true)
    (bV_ : kitBase K [C0, C1, C2, C3, C4, C5, C6, C7, C8, C9, C10, C11, C12, C13] (.type "ValueError") (fun i => decide (i < 11)) = true)
    (bO_ : kitBase K [C0, C1, C2, C3, C4, C5, C6, C7, C8, C9, C10, C11, C12, C13] (.type "OverflowError") (fun i => decide (i = 11)) = true)
    (bL_ : kitBase K [C0, C1, C2, C3, C4, C5, C6, C7, C8, C9, C10, C11, C12, C13] (.type "LookupError") (fun i => decide (11 < i)) = true)
    (aM : PySem.W.nsIn K mainGlobals "_law_made" = some (some (.ref fM)))
    (lM : K.lookup fM = some ⟨ocM, odM, .func (PySem.W.fnOf "_law_made" "_law_made" (defArgs (sMade)) (defBody (sMade)) (defScope (sMade)) .none kVM dcM pmM anM cdM ctM), slM⟩)
    (cM : PySem.W.codeIn K cdM "_law_made" = true)
    (kM : PySem.W.keepIn K (.ref fM) = true)
    (aN : PySem.W.nsIn K mainGlobals "_law_named" = some (some (.ref fN)))
    (lN : K.lookup fN = some ⟨ocN, odN, .func (PySem.W.fnOf "_law_named" "_law_named" (defArgs (sNamed)) (defBody (sNamed)) (defScope (sNamed)) .none kVN dcN pmN anN cdN ctN), slN⟩)
    (cN : PySem.W.codeIn K cdN "_law_named" = true)
    (kN : PySem.W.keepIn K (.ref fN) = true)
    (aS : PySem.W.nsIn K mainGlobals "_law_signs" = some (some (.ref fS)))
    (lS : K.lookup fS = some ⟨ocS, odS, .func (PySem.W.fnOf "_law_signs" "_law_signs" (defArgs (sSigns)) (defBody (sSigns)) (defScope (sSigns)) .none kVS dcS pmS anS cdS ctS), slS⟩)
    (cS : PySem.W.codeIn K cdS "_law_signs" = true)
    (kS : PySem.W.keepIn K (.ref fS) = true)
    (aB : PySem.W.nsIn K mainGlobals "_law_bases" = some (some (.ref fB)))
    (lB : K.lookup fB = some ⟨ocB, odB, .func (PySem.W.fnOf "_law_bases" "_law_bases" (defArgs (sBases)) (defBody (sBases)) (defScope (sBases)) .none kVB dcB pmB anB cdB ctB), slB⟩)
    (cB : PySem.W.codeIn K cdB "_law_bases" = true)
    (kB : PySem.W.keepIn K (.ref fB) = true)
    (aL : PySem.W.nsIn K mainGlobals "law" = some (some (.ref fL)))
    (lL : K.lookup fL = some ⟨ocL, odL, .func (PySem.W.fnOf "law" "law" (defArgs (sLaw)) (defBody (sLaw)) (defScope (sLaw)) .none kVL dcL pmL anL cdL ctL), slL⟩)
    (cL : PySem.W.codeIn K cdL "law" = true)
    (kL : PySem.W.keepIn K (.ref fL) = true)
    (z0 : PySem.W.nsIn K mainGlobals "isinstance" = some none)
    (z1 : PySem.W.nsIn K mainGlobals "repr" = some none)
    (z2 : PySem.W.nsIn K mainGlobals "enumerate" = some none)
    (z3 : PySem.W.nsIn K mainGlobals "ValueError" = some none)
    (z4 : PySem.W.nsIn K mainGlobals "OverflowError" = some none)
    (z5 : PySem.W.nsIn K mainGlobals "LookupError" = some none)
    : ∃ fd : FuncData, (∀ (s : Shared) (u : Value), BindsTo s fd ⟨[u], []⟩ [("_law_script", u)]) ∧ ∀ base : Heap, K.In base → base.Ns mainGlobals mg → FnG l.prog w K mg base CX0 4 fa fd ["_law_script"] (spLaw K) := by
  have e := hfa.symm.trans (PySem.W.mg_of Y G aL)
  cases e
  have EC0 : ExcC K C0 := ⟨xg0, xh0, xe0, xd0, xc0, hn, ht, xm0⟩
  have EC1 : ExcC K C1 := ⟨xg1, xh1, xe1, xd1, xc1, hn, ht, xm1⟩
  have EC2 : ExcC K C2 := ⟨xg2, xh2, xe2, xd2, xc2, hn, ht, xm2⟩
  have EC3 : ExcC K C3 := ⟨xg3, xh3, xe3, xd3, xc3, hn, ht, xm3⟩
  have EC4 : ExcC K C4 := ⟨xg4, xh4, xe4, xd4, xc4, hn, ht, xm4⟩
  have EC5 : ExcC K C5 := ⟨xg5, xh5, xe5, xd5, xc5, hn, ht, xm5⟩
  have EC6 : ExcC K C6 := ⟨xg6, xh6, xe6, xd6, xc6, hn, ht, xm6⟩
  have EC7 : ExcC K C7 := ⟨xg7, xh7, xe7, xd7, xc7, hn, ht, xm7⟩
  have EC8 : ExcC K C8 := ⟨xg8, xh8, xe8, xd8, xc8, hn, ht, xm8⟩
  have EC9 : ExcC K C9 := ⟨xg9, xh9, xe9, xd9, xc9, hn, ht, xm9⟩
  have EC10 : ExcC K C10 := ⟨xg10, xh10, xe10, xd10, xc10, hn, ht, xm10⟩
  have EC11 : ExcC K C11 := ⟨xg11, xh11, xe11, xd11, xc11, hn, ht, xm11⟩
  have EC12 : ExcC K C12 := ⟨xg12, xh12, xe12, xd12, xc12, hn, ht, xm12⟩
  have EC13 : ExcC K C13 := ⟨xg13, xh13, xe13, xd13, xc13, hn, ht, xm13⟩
  have OX0 : OexC K C0 := ⟨⟨nm0, q0, N0, bs0, _, sn0, sub0, ab0, col0, dd0, m00, m10, m20, m30, m50, xL0, rfl⟩, xa0, xe0, xt0, xk0⟩
  have FI0 := fun_mk (st := inClass (top 2) 0) lI0 cI0 kI0
  have bI0 := FI0.binds (ps := ["self", "value"]) fun _ _ _ _ _ _ us hl => match us, hl with | [_, _], _ => rfl
  have OX1 : OexC K C1 := ⟨⟨nm1, q1, N1, bs1, _, sn1, sub1, ab1, col1, dd1, m01, m11, m21, m31, m51, xL1, rfl⟩, xa1, xe1, xt1, xk1⟩
  have FI1 := fun_mk (st := inClass (top 3) 0) lI1 cI1 kI1
  have bI1 := FI1.binds (ps := ["self", "value"]) fun _ _ _ _ _ _ us hl => match us, hl with | [_, _], _ => rfl
  have OX2 : OexC K C2 := ⟨⟨nm2, q2, N2, bs2, _, sn2, sub2, ab2, col2, dd2, m02, m12, m22, m32, m52, xL2, rfl⟩, xa2, xe2, xt2, xk2⟩
  have FI2 := fun_mk (st := inClass (top 4) 0) lI2 cI2 kI2
  have bI2 := FI2.binds (ps := ["self", "value"]) fun _ _ _ _ _ _ us hl => match us, hl with | [_, _], _ => rfl
  have OX3 : OexC K C3 := ⟨⟨nm3, q3, N3, bs3, _, sn3, sub3, ab3, col3, dd3, m03, m13, m23, m33, m53, xL3, rfl⟩, xa3, xe3, xt3, xk3⟩
  have FI3 := fun_mk (st := inClass (top 5) 0) lI3 cI3 kI3
  have bI3 := FI3.binds (ps := ["self", "value"]) fun _ _ _ _ _ _ us hl => match us, hl with | [_, _], _ => rfl
  have OX4 : OexC K C4 := ⟨⟨nm4, q4, N4, bs4, _, sn4, sub4, ab4, col4, dd4, m04, m14, m24, m34, m54, xL4, rfl⟩, xa4, xe4, xt4, xk4⟩
  have FI4 := fun_mk (st := inClass (top 6) 0) lI4 cI4 kI4
  have bI4 := FI4.binds (ps := ["self", "value"]) fun _ _ _ _ _ _ us hl => match us, hl with | [_, _], _ => rfl
  have OX5 : OexC K C5 := ⟨⟨nm5, q5, N5, bs5, _, sn5, sub5, ab5, col5, dd5, m05, m15, m25, m35, m55, xL5, rfl⟩, xa5, xe5, xt5, xk5⟩
  have FI5 := fun_mk (st := inClass (top 7) 0) lI5 cI5 kI5
  have bI5 := FI5.binds (ps := ["self", "value"]) fun _ _ _ _ _ _ us hl => match us, hl with | [_, _], _ => rfl
  have OX6 : OexC K C6 := ⟨⟨nm6, q6, N6, bs6, _, sn6, sub6, ab6, col6, dd6, m06, m16, m26, m36, m56, xL6, rfl⟩, xa6, xe6, xt6, xk6⟩
  have FI6 := fun_mk (st := inClass (top 8) 0) lI6 cI6 kI6
  have bI6 := FI6.binds (ps := ["self", "value"]) fun _ _ _ _ _ _ us hl => match us, hl with | [_, _], _ => rfl
  have OX7 : OexC K C7 := ⟨⟨nm7, q7, N7, bs7, _, sn7, sub7, ab7, col7, dd7, m07, m17, m27, m37, m57, xL7, rfl⟩, xa7, xe7, xt7, xk7⟩
  have FI7 := fun_mk (st := inClass (top 9) 0) lI7 cI7 kI7
  have bI7 := FI7.binds (ps := ["self", "value"]) fun _ _ _ _ _ _ us hl => match us, hl with | [_, _], _ => rfl
  have OX8 : OexC K C8 := ⟨⟨nm8, q8, N8, bs8, _, sn8, sub8, ab8, col8, dd8, m08, m18, m28, m38, m58, xL8, rfl⟩, xa8, xe8, xt8, xk8⟩
  have FI8 := fun_mk (st := inClass (top 10) 0) lI8 cI8 kI8
  have bI8 := FI8.binds (ps := ["self", "value"]) fun _ _ _ _ _ _ us hl => match us, hl with | [_, _], _ => rfl
  have OX9 : OexC K C9 := ⟨⟨nm9, q9, N9, bs9, _, sn9, sub9, ab9, col9, dd9, m09, m19, m29, m39, m59, xL9, rfl⟩, xa9, xe9, xt9, xk9⟩
  have FI9 := fun_mk (st := inClass (top 11) 0) lI9 cI9 kI9
  have bI9 := FI9.binds (ps := ["self", "value"]) fun _ _ _ _ _ _ us hl => match us, hl with | [_, _], _ => rfl
  have OX10 : OexC K C10 := ⟨⟨nm10, q10, N10, bs10, _, sn10, sub10, ab10, col10, dd10, m010, m110, m210, m310, m510, xL10, rfl⟩, xa10, xe10, xt10, xk10⟩
  have FI10 := fun_mk (st := inClass (top 12) 0) lI10 cI10 kI10
  have bI10 := FI10.binds (ps := ["self", "line"]) fun _ _ _ _ _ _ us hl => match us, hl with | [_, _], _ => rfl
  have OX11 : OexO K C11 := ⟨⟨nm11, q11, N11, bs11, sn11, sub11, ab11, col11, dd11, m011, m111, m211, m311, m511, xL11⟩, xa11, xk11⟩
  have FI11 := fun_mk (st := inClass (top 13) 0) lI11 cI11 kI11
  have bI11 := FI11.binds (ps := ["self", "limit"]) fun _ _ _ _ _ _ us hl => match us, hl with | [_, _], _ => rfl
  have FM := fun_mk (st := sMade) lM cM kM
  have bM := FM.binds (ps := ["_law_x"]) fun _ _ _ _ _ _ us hl => match us, hl with | [_], _ => rfl
  have FN := fun_mk (st := sNamed) lN cN kN
  have bN := FN.binds (ps := ["_law_x"]) fun _ _ _ _ _ _ us hl => match us, hl with | [_], _ => rfl
  have FS := fun_mk (st := sSigns) lS cS kS
  have bS := FS.binds (ps := ["_law_e"]) fun _ _ _ _ _ _ us hl => match us, hl with | [_], _ => rfl
  have FB := fun_mk (st := sBases) lB cB kB
  have bB := FB.binds (ps := ["_law_e"]) fun _ _ _ _ _ _ us hl => match us, hl with | [_], _ => rfl
  have FL := fun_mk (st := sLaw) lL cL kL
  have bL := FL.binds (ps := ["_law_script"]) fun _ _ _ _ _ _ us hl => match us, hl with | [_], _ => rfl
  refine ⟨PySem.W.fnOf "law" "law" (defArgs sLaw) (defBody sLaw) (defScope sLaw) .none kVL dcL pmL anL cdL ctL, fun s u => .of_eq rfl, fun base _ _ => ?_⟩
  have E0 : Exk l.prog w K mg base "InvalidName" C0 "value" := { mgx := PySem.W.mg_of Y G o0, xf := ⟨xg0, xh0, xe0, xd0⟩, nf := xv0, ec := EC0, made := ⟨_, _, aI0, iI0, ok_i0 FI0 OX0 xv0, bI0, fun s self v _ => .of_eq rfl, .inl OX0⟩ }
  have E1 : Exk l.prog w K mg base "InvalidNumber" C1 "value" := { mgx := PySem.W.mg_of Y G o1, xf := ⟨xg1, xh1, xe1, xd1⟩, nf := xv1, ec := EC1, made := ⟨_, _, aI1, iI1, ok_i1 FI1 OX1 xv1, bI1, fun s self v _ => .of_eq rfl, .inl OX1⟩ }
  have E2 : Exk l.prog w K mg base "InvalidBody" C2 "value" := { mgx := PySem.W.mg_of Y G o2, xf := ⟨xg2, xh2, xe2, xd2⟩, nf := xv2, ec := EC2, made := ⟨_, _, aI2, iI2, ok_i2 FI2 OX2 xv2, bI2, fun s self v _ => .of_eq rfl, .inl OX2⟩ }
  have E3 : Exk l.prog w K mg base "InvalidProgram" C3 "value" := { mgx := PySem.W.mg_of Y G o3, xf := ⟨xg3, xh3, xe3, xd3⟩, nf := xv3, ec := EC3, made := ⟨_, _, aI3, iI3, ok_i3 FI3 OX3 xv3, bI3, fun s self v _ => .of_eq rfl, .inl OX3⟩ }
  have E4 : Exk l.prog w K mg base "InvalidState" C4 "value" := { mgx := PySem.W.mg_of Y G o4, xf := ⟨xg4, xh4, xe4, xd4⟩, nf := xv4, ec := EC4, made := ⟨_, _, aI4, iI4, ok_i4 FI4 OX4 xv4, bI4, fun s self v _ => .of_eq rfl, .inl OX4⟩ }
  have E5 : Exk l.prog w K mg base "InvalidChoice" C5 "value" := { mgx := PySem.W.mg_of Y G o5, xf := ⟨xg5, xh5, xe5, xd5⟩, nf := xv5, ec := EC5, made := ⟨_, _, aI5, iI5, ok_i5 FI5 OX5 xv5, bI5, fun s self v _ => .of_eq rfl, .inl OX5⟩ }
  have E6 : Exk l.prog w K mg base "InvalidCondition" C6 "value" := { mgx := PySem.W.mg_of Y G o6, xf := ⟨xg6, xh6, xe6, xd6⟩, nf := xv6, ec := EC6, made := ⟨_, _, aI6, iI6, ok_i6 FI6 OX6 xv6, bI6, fun s self v _ => .of_eq rfl, .inl OX6⟩ }
  have E7 : Exk l.prog w K mg base "InvalidSize" C7 "value" := { mgx := PySem.W.mg_of Y G o7, xf := ⟨xg7, xh7, xe7, xd7⟩, nf := xv7, ec := EC7, made := ⟨_, _, aI7, iI7, ok_i7 FI7 OX7 xv7, bI7, fun s self v _ => .of_eq rfl, .inl OX7⟩ }
  have E8 : Exk l.prog w K mg base "InvalidPaper" C8 "value" := { mgx := PySem.W.mg_of Y G o8, xf := ⟨xg8, xh8, xe8, xd8⟩, nf := xv8, ec := EC8, made := ⟨_, _, aI8, iI8, ok_i8 FI8 OX8 xv8, bI8, fun s self v _ => .of_eq rfl, .inl OX8⟩ }
  have E9 : Exk l.prog w K mg base "InvalidCommand" C9 "value" := { mgx := PySem.W.mg_of Y G o9, xf := ⟨xg9, xh9, xe9, xd9⟩, nf := xv9, ec := EC9, made := ⟨_, _, aI9, iI9, ok_i9 FI9 OX9 xv9, bI9, fun s self v _ => .of_eq rfl, .inl OX9⟩ }
  have E10 : Exk l.prog w K mg base "ParseError" C10 "line" := { mgx := PySem.W.mg_of Y G o10, xf := ⟨xg10, xh10, xe10, xd10⟩, nf := xv10, ec := EC10, made := ⟨_, _, aI10, iI10, ok_i10 FI10 OX10 xv10, bI10, fun s self v _ => .of_eq rfl, .inl OX10⟩ }
  have E11 : Exk l.prog w K mg base "TooMany" C11 "limit" := { mgx := PySem.W.mg_of Y G o11, xf := ⟨xg11, xh11, xe11, xd11⟩, nf := xv11, ec := EC11, made := ⟨_, _, aI11, iI11, ok_i11 FI11 OX11 xv11, bI11, fun s self v _ => .of_eq rfl, .inr OX11⟩ }
  have T : Tab l.prog w K mg base ⟨C0, C1, C2, C3, C4, C5, C6, C7, C8, C9, C10, C11⟩ := ⟨E0, E1, E2, E3, E4, E5, E6, E7, E8, E9, E10, E11⟩
  have ecs : ∀ c ∈ [C0, C1, C2, C3, C4, C5, C6, C7, C8, C9, C10, C11, C12, C13], ExcC K c := by
    intro c hc
    simp only [List.mem_cons, List.mem_nil_iff, or_false] at hc
    rcases hc with rfl | rfl | rfl | rfl | rfl | rfl | rfl | rfl | rfl | rfl | rfl | rfl | rfl | rfl
    all_goals assumption
  have C : Cs K mg [C0, C1, C2, C3, C4, C5, C6, C7, C8, C9, C10, C11, C12, C13] := { isi := PySem.W.mg_none_of Y G z0, len := rfl, ec := ecs, kit := kit_of rfl kit, m0 := ⟨_, rfl, PySem.W.mg_of Y G o0⟩, m1 := ⟨_, rfl, PySem.W.mg_of Y G o1⟩, m2 := ⟨_, rfl, PySem.W.mg_of Y G o2⟩, m3 := ⟨_, rfl, PySem.W.mg_of Y G o3⟩, m4 := ⟨_, rfl, PySem.W.mg_of Y G o4⟩, m5 := ⟨_, rfl, PySem.W.mg_of Y G o5⟩, m6 := ⟨_, rfl, PySem.W.mg_of Y G o6⟩, m7 := ⟨_, rfl, PySem.W.mg_of Y G o7⟩, m8 := ⟨_, rfl, PySem.W.mg_of Y G o8⟩, m9 := ⟨_, rfl, PySem.W.mg_of Y G o9⟩, m10 := ⟨_, rfl, PySem.W.mg_of Y G o10⟩, m11 := ⟨_, rfl, PySem.W.mg_of Y G o11⟩, m12 := ⟨_, rfl, PySem.W.mg_of Y G o12⟩, m13 := ⟨_, rfl, PySem.W.mg_of Y G o13⟩ }
  have B : Bs K mg [C0, C1, C2, C3, C4, C5, C6, C7, C8, C9, C10, C11, C12, C13] CS := { mS := PySem.W.mg_of Y G oS, mV := PySem.W.mg_none_of Y G z3, mO := PySem.W.mg_none_of Y G z4, mL := PySem.W.mg_none_of Y G z5, kS := base_of rfl bS_, kV := base_of rfl bV_, kO := base_of rfl bO_, kL := base_of rfl bL_ }
  exact ok_law (a := ⟨C0, C1, C2, C3, C4, C5, C6, C7, C8, C9, C10, C11⟩) (cU := C12) (cR := C13) (S := CS) FL { T := T, C := C, B := B, rep := PySem.W.mg_none_of Y G z1, enum := PySem.W.mg_none_of Y G z2, mU := PySem.W.mg_of Y G o12, mR := PySem.W.mg_of Y G o13, xb := ⟨_, _, _, _, PySem.F.excBase_LookupError, xn12, xn13⟩, kU := xk12, kR := xk13, GM := ⟨_, _, ok_Made FM T, bM, PySem.W.mg_of Y G aM, kM⟩, GN := ⟨_, _, ok_Named FN T, bN, PySem.W.mg_of Y G aN, kN⟩, GS := ⟨_, _, ok_signs FS C, bS, PySem.W.mg_of Y G aS, kS⟩, GB := ⟨_, _, ok_bases FB C B, bB, PySem.W.mg_of Y G aB, kB⟩ }
theorem walk {l : PySem.W.OpenLaw} {q : Program} {loose : List Str} {XP : (Str → Option Value) → Heap → Prop} {YP : World → Heap → Prop} {d : DefRec} {K : Params → PySem.W.Frag} (hn : l.most = some 63) (hdf : d.params.defaults = [])
    (hY : ∀ (w : World) (h : Heap), YP w h → (K w.params).In h)
    (F : ∀ (w : World) (mg : Str → Option Value) (fa : Addr) (h : Heap), (K w.params).In h → h.Ns mainGlobals mg → mg d.name = some (.ref fa) →
      ∃ fd : FuncData, (∀ (s : Shared) (u : Value), BindsTo s fd ⟨[u], []⟩ [("_law_script", u)]) ∧ ∀ base : Heap, (K w.params).In base → base.Ns mainGlobals mg → FnG l.prog w (K w.params) mg base CX0 4 fa fd ["_law_script"] (spLaw (K w.params))) :
    PySem.W.WalkO q loose XP YP l.row.toRowW d [] (fun f vs => PySem.call f vs) :=
  walk_ofG (n := 63) (k := 4) (x := "_law_script") (CX := fun _ => CX0) (sp := fun w => spLaw (K w.params)) hn (by decide) hdf ⟨rfl, by decide, by decide⟩ rfl hY F (fun _ _ a ns hl _ hS => ⟨a, ns, rfl, hS, hl, fun _ => rfl⟩) fun _ _ _ _ _ z => z
end K03

set_option Elab.async false
open PySem PySem.W PyProof.Rows
set_option maxRecDepth 100000 in
set_option maxHeartbeats 0 in
theorem PySem.Challenge.cw_safeupto_k03_error_classes_holds : PySem.Challenge.rw_safeupto_k03_error_classes.Holds := by
  w_on; o_law; k_head; (case hw => w_witness2)
  k_fill
  refine K03.walk (l := PySem.Challenge.rw_safeupto_k03_error_classes) rfl rfl (fun w h Y => PySem.W.kIn_of Y) ?F
  case F =>
    intro w mg fa h KX G hmg
    refine' K03.all_mk KX G hmg ?o0 ?o1 ?o2 ?o3 ?o4 ?o5 ?o6 ?o7 ?o8 ?o9 ?o10 ?o11 ?o12 ?o13 ?oS ?xg0 ?xh0 ?xe0 ?xd0 ?xc0 ?xm0 ?xk0 ?xL0 ?xa0 ?xv0 ?xt0 ?aI0 ?iI0 ?lI0 ?cI0 ?kI0 ?xg1 ?xh1 ?xe1 ?xd1 ?xc1 ?xm1 ?xk1 ?xL1 ?xa1 ?xv1 ?xt1 ?aI1 ?iI1 ?lI1 ?cI1 ?kI1 ?xg2 ?xh2 ?xe2 ?xd2 ?xc2 ?xm2 ?xk2 ?xL2 ?xa2 ?xv2 ?xt2 ?aI2 ?iI2 ?lI2 ?cI2 ?kI2 ?xg3 ?xh3 ?xe3 ?xd3 ?xc3 ?xm3 ?xk3 ?xL3 ?xa3 ?xv3 ?xt3 ?aI3 ?iI3 ?lI3 ?cI3 ?kI3 ?xg4 ?xh4 ?xe4 ?xd4 ?xc4 ?xm4 ?xk4 ?xL4 ?xa4 ?xv4 ?xt4 ?aI4 ?iI4 ?lI4 ?cI4 ?kI4 ?xg5 ?xh5 ?xe5 ?xd5 ?xc5 ?xm5 ?xk5 ?xL5 ?xa5 ?xv5 ?xt5 ?aI5 ?iI5 ?lI5 ?cI5 ?kI5 ?xg6 ?xh6 ?xe6 ?xd6 ?xc6 ?xm6 ?xk6 ?xL6 ?xa6 ?xv6 ?xt6 ?aI6 ?iI6 ?lI6 ?cI6 ?kI6 ?xg7 ?xh7 ?xe7 ?xd7 ?xc7 ?xm7 ?xk7 ?xL7 ?xa7 ?xv7 ?xt7 ?aI7 ?iI7 ?lI7 ?cI7 ?kI7 ?xg8 ?xh8 ?xe8 ?xd8 ?xc8 ?xm8 ?xk8 ?xL8 ?xa8 ?xv8 ?xt8 ?aI8 ?iI8 ?lI8 ?cI8 ?kI8 ?xg9 ?xh9 ?xe9 ?xd9 ?xc9 ?xm9 ?xk9 ?xL9 ?xa9 ?xv9 ?xt9 ?aI9 ?iI9 ?lI9 ?cI9 ?kI9 ?xg10 ?xh10 ?xe10 ?xd10 ?xc10 ?xm10 ?xk10 ?xL10 ?xa10 ?xv10 ?xt10 ?aI10 ?iI10 ?lI10 ?cI10 ?kI10 ?xg11 ?xh11 ?xe11 ?xd11 ?xc11 ?xm11 ?xk11 ?xL11 ?xa11 ?xv11 ?xt11 ?aI11 ?iI11 ?lI11 ?cI11 ?kI11 ?xg12 ?xh12 ?xe12 ?xd12 ?xc12 ?xm12 ?xk12 ?xn12 ?xg13 ?xh13 ?xe13 ?xd13 ?xc13 ?xm13 ?xk13 ?xn13 ?hn ?ht ?kit ?bS_ ?bV_ ?bO_ ?bL_ ?aM ?lM ?cM ?kM ?aN ?lN ?cN ?kN ?aS ?lS ?cS ?kS ?aB ?lB ?cB ?kB ?aL ?lL ?cL ?kL ?z0 ?z1 ?z2 ?z3 ?z4 ?z5
    (case o0 => first | k_is | rfl | kernel_rfl)
    (case o1 => first | k_is | rfl | kernel_rfl)
    (case o2 => first | k_is | rfl | kernel_rfl)
    (case o3 => first | k_is | rfl | kernel_rfl)
    (case o4 => first | k_is | rfl | kernel_rfl)
    (case o5 => first | k_is | rfl | kernel_rfl)
    (case o6 => first | k_is | rfl | kernel_rfl)
    (case o7 => first | k_is | rfl | kernel_rfl)
    (case o8 => first | k_is | rfl | kernel_rfl)
    (case o9 => first | k_is | rfl | kernel_rfl)
    (case o10 => first | k_is | rfl | kernel_rfl)
    (case o11 => first | k_is | rfl | kernel_rfl)
    (case o12 => first | k_is | rfl | kernel_rfl)
    (case o13 => first | k_is | rfl | kernel_rfl)
    (case oS => first | k_is | rfl | kernel_rfl)
    (case xg0 => first | k_is | rfl | kernel_rfl)
    (case xh0 => first | k_is | rfl | kernel_rfl)
    (case xe0 => first | k_is | rfl | kernel_rfl)
    (case xd0 => first | k_is | rfl | kernel_rfl)
    (case xc0 => first | k_is | rfl | kernel_rfl)
    (case xm0 => first | k_is | rfl | kernel_rfl)
    (case xk0 => first | k_is | rfl | kernel_rfl)
    (case xL0 => first | k_is | rfl | kernel_rfl)
    (case xa0 => first | k_is | rfl | kernel_rfl)
    (case xv0 => first | k_is | rfl | kernel_rfl)
    (case xt0 => first | k_is | rfl | kernel_rfl)
    (case aI0 => first | k_is | rfl | kernel_rfl)
    (case iI0 => first | k_is | rfl | kernel_rfl)
    (case lI0 => first | k_is | rfl | kernel_rfl)
    (case cI0 => first | k_is | rfl | kernel_rfl)
    (case kI0 => first | k_is | rfl | kernel_rfl)
    (case xg1 => first | k_is | rfl | kernel_rfl)
    (case xh1 => first | k_is | rfl | kernel_rfl)
    (case xe1 => first | k_is | rfl | kernel_rfl)
    (case xd1 => first | k_is | rfl | kernel_rfl)
    (case xc1 => first | k_is | rfl | kernel_rfl)
    (case xm1 => first | k_is | rfl | kernel_rfl)
    (case xk1 => first | k_is | rfl | kernel_rfl)
    (case xL1 => first | k_is | rfl | kernel_rfl)
    (case xa1 => first | k_is | rfl | kernel_rfl)
    (case xv1 => first | k_is | rfl | kernel_rfl)
    (case xt1 => first | k_is | rfl | kernel_rfl)
    (case aI1 => first | k_is | rfl | kernel_rfl)
    (case iI1 => first | k_is | rfl | kernel_rfl)
    (case lI1 => first | k_is | rfl | kernel_rfl)
    (case cI1 => first | k_is | rfl | kernel_rfl)
    (case kI1 => first | k_is | rfl | kernel_rfl)
    (case xg2 => first | k_is | rfl | kernel_rfl)
    (case xh2 => first | k_is | rfl | kernel_rfl)
    (case xe2 => first | k_is | rfl | kernel_rfl)
    (case xd2 => first | k_is | rfl | kernel_rfl)
    (case xc2 => first | k_is | rfl | kernel_rfl)
    (case xm2 => first | k_is | rfl | kernel_rfl)
    (case xk2 => first | k_is | rfl | kernel_rfl)
    (case xL2 => first | k_is | rfl | kernel_rfl)
    (case xa2 => first | k_is | rfl | kernel_rfl)
    (case xv2 => first | k_is | rfl | kernel_rfl)
    (case xt2 => first | k_is | rfl | kernel_rfl)
    (case aI2 => first | k_is | rfl | kernel_rfl)
    (case iI2 => first | k_is | rfl | kernel_rfl)
    (case lI2 => first | k_is | rfl | kernel_rfl)
    (case cI2 => first | k_is | rfl | kernel_rfl)
    (case kI2 => first | k_is | rfl | kernel_rfl)
    (case xg3 => first | k_is | rfl | kernel_rfl)
    (case xh3 => first | k_is | rfl | kernel_rfl)
    (case xe3 => first | k_is | rfl | kernel_rfl)
    (case xd3 => first | k_is | rfl | kernel_rfl)
    (case xc3 => first | k_is | rfl | kernel_rfl)
    (case xm3 => first | k_is | rfl | kernel_rfl)
    (case xk3 => first | k_is | rfl | kernel_rfl)
    (case xL3 => first | k_is | rfl | kernel_rfl)
    (case xa3 => first | k_is | rfl | kernel_rfl)
    (case xv3 => first | k_is | rfl | kernel_rfl)
    (case xt3 => first | k_is | rfl | kernel_rfl)
    (case aI3 => first | k_is | rfl | kernel_rfl)
    (case iI3 => first | k_is | rfl | kernel_rfl)
    (case lI3 => first | k_is | rfl | kernel_rfl)
    (case cI3 => first | k_is | rfl | kernel_rfl)
    (case kI3 => first | k_is | rfl | kernel_rfl)
    (case xg4 => first | k_is | rfl | kernel_rfl)
    (case xh4 => first | k_is | rfl | kernel_rfl)
    (case xe4 => first | k_is | rfl | kernel_rfl)
    (case xd4 => first | k_is | rfl | kernel_rfl)
    (case xc4 => first | k_is | rfl | kernel_rfl)
    (case xm4 => first | k_is | rfl | kernel_rfl)
    (case xk4 => first | k_is | rfl | kernel_rfl)
    (case xL4 => first | k_is | rfl | kernel_rfl)
    (case xa4 => first | k_is | rfl | kernel_rfl)
    (case xv4 => first | k_is | rfl | kernel_rfl)
    (case xt4 => first | k_is | rfl | kernel_rfl)
    (case aI4 => first | k_is | rfl | kernel_rfl)
    (case iI4 => first | k_is | rfl | kernel_rfl)
    (case lI4 => first | k_is | rfl | kernel_rfl)
    (case cI4 => first | k_is | rfl | kernel_rfl)
    (case kI4 => first | k_is | rfl | kernel_rfl)
    (case xg5 => first | k_is | rfl | kernel_rfl)
    (case xh5 => first | k_is | rfl | kernel_rfl)
    (case xe5 => first | k_is | rfl | kernel_rfl)
    (case xd5 => first | k_is | rfl | kernel_rfl)
    (case xc5 => first | k_is | rfl | kernel_rfl)
    (case xm5 => first | k_is | rfl | kernel_rfl)
    (case xk5 => first | k_is | rfl | kernel_rfl)
    (case xL5 => first | k_is | rfl | kernel_rfl)
    (case xa5 => first | k_is | rfl | kernel_rfl)
    (case xv5 => first | k_is | rfl | kernel_rfl)
    (case xt5 => first | k_is | rfl | kernel_rfl)
    (case aI5 => first | k_is | rfl | kernel_rfl)
    (case iI5 => first | k_is | rfl | kernel_rfl)
    (case lI5 => first | k_is | rfl | kernel_rfl)
    (case cI5 => first | k_is | rfl | kernel_rfl)
    (case kI5 => first | k_is | rfl | kernel_rfl)
    (case xg6 => first | k_is | rfl | kernel_rfl)
    (case xh6 => first | k_is | rfl | kernel_rfl)
    (case xe6 => first | k_is | rfl | kernel_rfl)
    (case xd6 => first | k_is | rfl | kernel_rfl)
    (case xc6 => first | k_is | rfl | kernel_rfl)
    (case xm6 => first | k_is | rfl | kernel_rfl)
    (case xk6 => first | k_is | rfl | kernel_rfl)
    (case xL6 => first | k_is | rfl | kernel_rfl)
    (case xa6 => first | k_is | rfl | kernel_rfl)
    (case xv6 => first | k_is | rfl | kernel_rfl)
    (case xt6 => first | k_is | rfl | kernel_rfl)
    (case aI6 => first | k_is | rfl | kernel_rfl)
    (case iI6 => first | k_is | rfl | kernel_rfl)
    (case lI6 => first | k_is | rfl | kernel_rfl)
    (case cI6 => first | k_is | rfl | kernel_rfl)
    (case kI6 => first | k_is | rfl | kernel_rfl)
    (case xg7 => first | k_is | rfl | kernel_rfl)
    (case xh7 => first | k_is | rfl | kernel_rfl)
    (case xe7 => first | k_is | rfl | kernel_rfl)
    (case xd7 => first | k_is | rfl | kernel_rfl)
    (case xc7 => first | k_is | rfl | kernel_rfl)
    (case xm7 => first | k_is | rfl | kernel_rfl)
    (case xk7 => first | k_is | rfl | kernel_rfl)
    (case xL7 => first | k_is | rfl | kernel_rfl)
    (case xa7 => first | k_is | rfl | kernel_rfl)
    (case xv7 => first | k_is | rfl | kernel_rfl)
    (case xt7 => first | k_is | rfl | kernel_rfl)
    (case aI7 => first | k_is | rfl | kernel_rfl)
    (case iI7 => first | k_is | rfl | kernel_rfl)
    (case lI7 => first | k_is | rfl | kernel_rfl)
    (case cI7 => first | k_is | rfl | kernel_rfl)
    (case kI7 => first | k_is | rfl | kernel_rfl)
    (case xg8 => first | k_is | rfl | kernel_rfl)
    (case xh8 => first | k_is | rfl | kernel_rfl)
    (case xe8 => first | k_is | rfl | kernel_rfl)
    (case xd8 => first | k_is | rfl | kernel_rfl)
    (case xc8 => first | k_is | rfl | kernel_rfl)
    (case xm8 => first | k_is | rfl | kernel_rfl)
    (case xk8 => first | k_is | rfl | kernel_rfl)
    (case xL8 => first | k_is | rfl | kernel_rfl)
    (case xa8 => first | k_is | rfl | kernel_rfl)
    (case xv8 => first | k_is | rfl | kernel_rfl)
    (case xt8 => first | k_is | rfl | kernel_rfl)
    (case aI8 => first | k_is | rfl | kernel_rfl)
    (case iI8 => first | k_is | rfl | kernel_rfl)
    (case lI8 => first | k_is | rfl | kernel_rfl)
    (case cI8 => first | k_is | rfl | kernel_rfl)
    (case kI8 => first | k_is | rfl | kernel_rfl)
    (case xg9 => first | k_is | rfl | kernel_rfl)
    (case xh9 => first | k_is | rfl | kernel_rfl)
    (case xe9 => first | k_is | rfl | kernel_rfl)
    (case xd9 => first | k_is | rfl | kernel_rfl)
    (case xc9 => first | k_is | rfl | kernel_rfl)
    (case xm9 => first | k_is | rfl | kernel_rfl)
    (case xk9 => first | k_is | rfl | kernel_rfl)
    (case xL9 => first | k_is | rfl | kernel_rfl)
    (case xa9 => first | k_is | rfl | kernel_rfl)
    (case xv9 => first | k_is | rfl | kernel_rfl)
    (case xt9 => first | k_is | rfl | kernel_rfl)
    (case aI9 => first | k_is | rfl | kernel_rfl)
    (case iI9 => first | k_is | rfl | kernel_rfl)
    (case lI9 => first | k_is | rfl | kernel_rfl)
    (case cI9 => first | k_is | rfl | kernel_rfl)
    (case kI9 => first | k_is | rfl | kernel_rfl)
    (case xg10 => first | k_is | rfl | kernel_rfl)
    (case xh10 => first | k_is | rfl | kernel_rfl)
    (case xe10 => first | k_is | rfl | kernel_rfl)
    (case xd10 => first | k_is | rfl | kernel_rfl)
    (case xc10 => first | k_is | rfl | kernel_rfl)
    (case xm10 => first | k_is | rfl | kernel_rfl)
    (case xk10 => first | k_is | rfl | kernel_rfl)
    (case xL10 => first | k_is | rfl | kernel_rfl)
    (case xa10 => first | k_is | rfl | kernel_rfl)
    (case xv10 => first | k_is | rfl | kernel_rfl)
    (case xt10 => first | k_is | rfl | kernel_rfl)
    (case aI10 => first | k_is | rfl | kernel_rfl)
    (case iI10 => first | k_is | rfl | kernel_rfl)
    (case lI10 => first | k_is | rfl | kernel_rfl)
    (case cI10 => first | k_is | rfl | kernel_rfl)
    (case kI10 => first | k_is | rfl | kernel_rfl)
    (case xg11 => first | k_is | rfl | kernel_rfl)
    (case xh11 => first | k_is | rfl | kernel_rfl)
    (case xe11 => first | k_is | rfl | kernel_rfl)
    (case xd11 => first | k_is | rfl | kernel_rfl)
    (case xc11 => first | k_is | rfl | kernel_rfl)
    (case xm11 => first | k_is | rfl | kernel_rfl)
    (case xk11 => first | k_is | rfl | kernel_rfl)
    (case xL11 => first | k_is | rfl | kernel_rfl)
    (case xa11 => first | k_is | rfl | kernel_rfl)
    (case xv11 => first | k_is | rfl | kernel_rfl)
    (case xt11 => first | k_is | rfl | kernel_rfl)
    (case aI11 => first | k_is | rfl | kernel_rfl)
    (case iI11 => first | k_is | rfl | kernel_rfl)
    (case lI11 => first | k_is | rfl | kernel_rfl)
    (case cI11 => first | k_is | rfl | kernel_rfl)
    (case kI11 => first | k_is | rfl | kernel_rfl)
    (case xg12 => first | k_is | rfl | kernel_rfl)
    (case xh12 => first | k_is | rfl | kernel_rfl)
    (case xe12 => first | k_is | rfl | kernel_rfl)
    (case xd12 => first | k_is | rfl | kernel_rfl)
    (case xc12 => first | k_is | rfl | kernel_rfl)
    (case xm12 => first | k_is | rfl | kernel_rfl)
    (case xk12 => first | k_is | rfl | kernel_rfl)
    (case xn12 => first | k_is | rfl | kernel_rfl)
    (case xg13 => first | k_is | rfl | kernel_rfl)
    (case xh13 => first | k_is | rfl | kernel_rfl)
    (case xe13 => first | k_is | rfl | kernel_rfl)
    (case xd13 => first | k_is | rfl | kernel_rfl)
    (case xc13 => first | k_is | rfl | kernel_rfl)
    (case xm13 => first | k_is | rfl | kernel_rfl)
    (case xk13 => first | k_is | rfl | kernel_rfl)
    (case xn13 => first | k_is | rfl | kernel_rfl)
    (case hn => first | k_is | rfl | kernel_rfl)
    (case ht => first | k_is | rfl | kernel_rfl)
    (case kit => first | k_is | rfl | kernel_rfl)
    (case bS_ => first | k_is | rfl | kernel_rfl)
    (case bV_ => first | k_is | rfl | kernel_rfl)
    (case bO_ => first | k_is | rfl | kernel_rfl)
    (case bL_ => first | k_is | rfl | kernel_rfl)
    (case aM => first | k_is | rfl | kernel_rfl)
    (case lM => first | k_is | rfl | kernel_rfl)
    (case cM => first | k_is | rfl | kernel_rfl)
    (case kM => first | k_is | rfl | kernel_rfl)
    (case aN => first | k_is | rfl | kernel_rfl)
    (case lN => first | k_is | rfl | kernel_rfl)
    (case cN => first | k_is | rfl | kernel_rfl)
    (case kN => first | k_is | rfl | kernel_rfl)
    (case aS => first | k_is | rfl | kernel_rfl)
    (case lS => first | k_is | rfl | kernel_rfl)
    (case cS => first | k_is | rfl | kernel_rfl)
    (case kS => first | k_is | rfl | kernel_rfl)
    (case aB => first | k_is | rfl | kernel_rfl)
    (case lB => first | k_is | rfl | kernel_rfl)
    (case cB => first | k_is | rfl | kernel_rfl)
    (case kB => first | k_is | rfl | kernel_rfl)
    (case aL => first | k_is | rfl | kernel_rfl)
    (case lL => first | k_is | rfl | kernel_rfl)
    (case cL => first | k_is | rfl | kernel_rfl)
    (case kL => first | k_is | rfl | kernel_rfl)
    (case z0 => first | k_is | rfl | kernel_rfl)
    (case z1 => first | k_is | rfl | kernel_rfl)
    (case z2 => first | k_is | rfl | kernel_rfl)
    (case z3 => first | k_is | rfl | kernel_rfl)
    (case z4 => first | k_is | rfl | kernel_rfl)
    (case z5 => first | k_is | rfl | kernel_rfl)
