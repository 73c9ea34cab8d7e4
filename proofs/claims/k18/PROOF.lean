import PyProof.Rows.All
import Wide.All
import OpenK.AllK
import Wide.FinOn
import PyProof.InstNe
import PyProof.MeetsIn
import PyProof.CallType
import PyProof.Conv_bool
import HandS.ForMost
import HandS.Exc
import HandS.TryOnly
import HandS.ExcOwn
import HandS.ExcInit
import HandS.ExcField
import HandS.WordsExc
import HandS.IsInst
import HandS.Property
import HandS.Wide
import PyProof.ReprRoads
import PyProof.CallFns
import HandS.Flow
import PySem.Challenge.RW_safeupto_k18_limits
set_option Elab.async false
set_option linter.all false
set_option maxRecDepth 100000
set_option maxHeartbeats 4000000
/-! Rules of our own: operators that an own class defines, repr of data, defs that are run where no repr is under way. -/
namespace Lm
open PySem PySem.Spec PyProof.Rows L2

section
variable {X : Cx} {CX : CXT} {k : Nat} {C f : Addr} {fd : FuncData} {ps : List Str} {sp : Sp} {E : XK}

/-- what a call that hands back a bool leaves -/
def BoolTo (Q : VK) : VK := fun v H' => ∃ b, v = .bl b ∧ Q (.bl b) H'

theorem ins_of {pins : List (Addr × Obj)} {σ : L2.St} {H : Hp} {s : Shared} {a dx : Addr} {fs : List (Str × V)} (I : Inv X pins σ H s) (ea : H a = some (.ins C dx fs)) :
    ∃ ox od, PySem.W.InstAt s.heap a ox C od := by
  obtain ⟨mA, O, _⟩ := ins_get I.hok ea
  obtain ⟨od, J, _⟩ := O.look
  exact ⟨_, _, J⟩

/-- v in o -/
def rInO (C : Addr) (sp : Sp) (E : XK) : R2 := fun x y H Q => ∃ a dx fs, y = .ref a ∧ H a = some (.ins C dx fs) ∧ sp [.ref a, x] H (BoolTo Q) E
theorem op_inO (F : FnOk X.prog X.w X.K X.mg X.base CX k f fd ps sp) (hs : PySem.W.findIn X.K (.ref C) "__contains__" = some (some (.ref f))) (hf : PySem.W.isFn X.K (.ref f) = true)
    (hb : Binds X.K fd ps []) (hr : Room k X.A) (hx : Passes CX X E) : OpR X (compareOp .In) (rInO C sp E) := by
  intro pins s σ H x y v u Q I rx ry h
  obtain ⟨a, dx, fs, rfl, ea, q⟩ := h
  obtain rfl : u = Value.ref a := ry
  obtain ⟨ox, od, J⟩ := ins_of I ea
  obtain ⟨m, hF⟩ := I.fr
  refine PySem.W.in_K hF I.ok.mod.kin J hs hf ?_
  refine wpAny_mono (run_fn (us := [.ref a, v]) (vs := [.ref a, x]) F hr hb .nil hx I (.cons rfl (.cons rx .nil)) q) (fun r s' z => ?_) fun _ _ z => z
  obtain ⟨v1, H1, I1, r1, b, e, q1⟩ := z
  subst e
  obtain rfl : r = Value.bool b := r1
  exact wpAny_truthy_bool ⟨.bl b, H1, I1, rfl, q1⟩

/-- o & o', both of one class -/
def rBinO (C : Addr) (sp : Sp) (E : XK) : R2 := fun x y H Q => ∃ a dx fs b dy gs, x = .ref a ∧ y = .ref b ∧ H a = some (.ins C dx fs) ∧ H b = some (.ins C dy gs) ∧
  sp [.ref a, .ref b] H (fun v H' => ∃ p, v = .ref p ∧ Q (.ref p) H') E
theorem op_binO {op : Operator} (F : FnOk X.prog X.w X.K X.mg X.base CX k f fd ps sp) (hs : PySem.W.findIn X.K (.ref C) (PySem.dunder op.info.2) = some (some (.ref f))) (hf : PySem.W.isFn X.K (.ref f) = true)
    (hc : PySem.W.selfFirst X.K C = true) (hb : Binds X.K fd ps []) (hr : Room k X.A) (hx : Passes CX X E) : OpR X (binaryOp op) (rBinO C sp E) := by
  intro pins s σ H x y v u Q I rx ry h
  obtain ⟨a, dx, fs, b, dy, gs, rfl, rfl, ea, eb, q⟩ := h
  obtain rfl : v = Value.ref a := rx
  obtain rfl : u = Value.ref b := ry
  obtain ⟨ox, od, J⟩ := ins_of I ea
  obtain ⟨oy, oe, J2⟩ := ins_of I eb
  obtain ⟨m, hF⟩ := I.fr
  refine PySem.W.binop_K hF I.ok.mod.kin J J2.type hc hs hf ?_
  refine wpAny_mono (run_fn (us := [.ref a, .ref b]) (vs := [.ref a, .ref b]) F hr hb .nil hx I (.cons rfl (.cons rfl .nil)) q) (fun r s' z => ?_) fun _ _ z => z
  obtain ⟨v1, H1, I1, r1, p, e, q1⟩ := z
  subst e
  obtain rfl : r = Value.ref p := r1
  exact ⟨.ref p, H1, I1, rfl, q1⟩

/-- what may stand to the right of an own == -/
inductive Right (K : PySem.W.Frag) (C : Addr) (H : Hp) : V → Prop where
  | own {b dy : Addr} {gs : List (Str × V)} (e : H b = some (.ins C dy gs)) : Right K C H (.ref b)
  | int (i : Int) (n : PySem.W.notFirst K C (.type "int") = true) : Right K C H (.int i)
  | non (n : PySem.W.notFirst K C (.type "NoneType") = true) : Right K C H .non
theorem right_looks {pins : List (Addr × Obj)} {σ : L2.St} {H : Hp} {s : Shared} {y : V} {u : Value} (I : Inv X pins σ H s) (r : Right X.K C H y) (ry : RelV y u) :
    ∃ tb, PySem.W.Looks (model X.prog X.w) s.heap (typeOf u) tb ∧ PySem.W.notFirst X.K C tb = true := by
  cases r with
  | own e =>
    rename_i b dy gs
    obtain rfl : u = Value.ref b := ry
    obtain ⟨oy, oe, J⟩ := ins_of I e
    exact ⟨_, J.type, by simp [PySem.W.notFirst]⟩
  | int i n =>
    obtain ⟨t, rfl⟩ := (show ∃ t, u = Value.int i t from ry)
    exact ⟨_, PySem.W.Looks.of_pure rfl, n⟩
  | non n =>
    obtain rfl : u = Value.none := ry
    exact ⟨_, PySem.W.Looks.of_pure rfl, n⟩
/-- o == y -/
def rEqO (K : PySem.W.Frag) (C : Addr) (sp : Sp) (E : XK) : R2 := fun x y H Q => ∃ a dx fs, x = .ref a ∧ H a = some (.ins C dx fs) ∧ Right K C H y ∧ sp [.ref a, y] H (BoolTo Q) E
theorem op_eqO (F : FnOk X.prog X.w X.K X.mg X.base CX k f fd ps sp) (hs : PySem.W.findIn X.K (.ref C) "__eq__" = some (some (.ref f))) (hf : PySem.W.isFn X.K (.ref f) = true)
    (hb : Binds X.K fd ps []) (hr : Room k X.A) (hx : Passes CX X E) : OpR X (compareOp .Eq) (rEqO X.K C sp E) := by
  intro pins s σ H x y v u Q I rx ry h
  obtain ⟨a, dx, fs, rfl, ea, ri, q⟩ := h
  obtain rfl : v = Value.ref a := rx
  obtain ⟨ox, od, J⟩ := ins_of I ea
  obtain ⟨m, hF⟩ := I.fr
  obtain ⟨tb, hL, hn⟩ := right_looks I ri ry
  show wpAny (model X.prog X.w) X.A (richCompare .Eq (.ref a) u) _ _ _
  refine PySem.W.cmp_K (op := .Eq) (tb := tb) hr.units0 hF I.ok.mod.kin J hL hn hs hf ?_
  refine wpAny_mono (run_fn (us := [.ref a, u]) (vs := [.ref a, y]) F hr hb .nil hx I (.cons rfl (.cons ry .nil)) q) (fun r s' z => ?_) fun _ _ z => z
  obtain ⟨v1, H1, I1, r1, b, e, q1⟩ := z
  subst e
  obtain rfl : r = Value.bool b := r1
  exact ⟨.bl b, H1, I1, rfl, q1⟩
end
end Lm

set_option Elab.async false
set_option linter.all false
set_option maxRecDepth 100000
set_option maxHeartbeats 4000000
namespace Lm
open PySem PySem.Spec PyProof.Rows L2

section
open Builtin
variable {prog : Program} {w : World} {A : Around} {E : Value → Shared → Prop} {s : Shared} {K : PySem.W.Frag} {x C L f : Addr} {h₀ : Heap} {m : Str → Option Value} {ox : Obj} {od : Option Obj} {u tb : Value}

/-- the default != of object, found by the class -/
theorem bound_ne {M : Model} {r : List Value} {Q : Option Value → Shared → Prop} (Y : K.In s.heap) (J : PySem.W.InstAt s.heap x ox C od)
    (hs : PySem.W.findIn K (.ref C) "__ne__" = some (some (.builtin "object.__ne__")))
    (h : wpAny M A (call (.builtin "object.__ne__") (.ref x :: r)) (fun v => Q (some v)) E s) : wpAny M A (callSpecialIfBound? (.ref x) "__ne__" r) Q E s := by
  have last : wpAny M A (call (.builtin "object.__ne__") ([.ref x] ++ r) >>= fun v => pure (some v)) Q E s :=
    wpAny_bind (wpAny_mono h (fun _ _ y => wpAny_pure y) fun _ _ y => y)
  simp only [bindSpecialIfBound?, callSpecialIfBound?]
  refine wpAny_holding (wpAny_bind (wpAny_bind (wpAny_bind (J.type.here ((PySem.W.looks_findIn Y hs).here (wpAny_bind (wpAny_askSetting (wpAny_ite ?_))))))))
  split
  · exact wpAny_bind (wpAny_of_eq (F.cmp_object.ne.bind _) (wpAny_pure (by exact last)))
  · exact wpAny_tryCatch (wpAny_bind (wpAny_of_eq (F.cmp_object.ne.bind _) (wpAny_pure (by exact last))))

/-- o != y where the class has an == of its own and no != -/
theorem neq_K {Q : Value → Shared → Prop} (hu : A.units + 1 < cLine) (Fz : Fr h₀ L s.heap m) (X₀ : K.In h₀) (J : PySem.W.InstAt s.heap x ox C od) (hL : PySem.W.Looks (model prog w) s.heap (typeOf u) tb)
    (hn : PySem.W.notFirst K C tb = true) (hne : PySem.W.findIn K (.ref C) "__ne__" = some (some (.builtin "object.__ne__"))) (hm : PySem.W.mroIn K C (.type "object") = some true)
    (hs : PySem.W.findIn K (.ref C) "__eq__" = some (some (.ref f))) (hf : PySem.W.isFn K (.ref f) = true)
    (h : wpAny (model prog w) A.in1 (call (.ref f) [.ref x, u]) (fun v s' => ∃ b, v = .bool b ∧ Q (.bool (!b)) s') E s) : wpAny (model prog w) A (richCompare .NotEq (.ref x) u) Q E s := by
  have Y := X₀.keeps Fz.keep
  have inner : wpAny (model prog w) A.in1 (Builtin.«object.__ne__» ⟨[.ref x, u], []⟩) (fun fin s' => ∃ b, fin = .done (.ret (.bool b)) ∧ Q (.bool b) s') E s := by
    unfold Builtin.«object.__ne__»
    refine wpAny_bind (wpAny_pure ?_)
    refine wpAny_bind (wpAny_cRoomFor hu ?_)
    refine wpAny_bind (PySem.W.ifBound_K Y J hs hf (wpAny_mono h (fun r s' hr => ?_) fun _ _ e => e))
    obtain ⟨b, rfl, hq⟩ := hr
    refine wpAny_bind (wpAny_truthy_bool ?_)
    exact wpAny_pure ⟨_, rfl, hq⟩
  have one : wpAny (model prog w) A (tryCompare (.ref x) "__ne__" u) (fun r s' => ∃ b, r = some (.bool b) ∧ Q (.bool b) s') E s := by
    unfold tryCompare
    refine wpAny_bind (bound_ne Y J hne (wpAny_call (codeAny_call_builtin F.cmp_object.ne.plain F.cmpEntry_ne (PySem.W.check_slot F.cmpKind_ne F.cmpSplit_ne (J.type.andThen (PySem.W.looks_mroIn Y hm)) (F.cmpArgs_ne _ _)
      (wpAny_mono inner (fun fin s' z => ?_) fun _ _ z => z)))))
    obtain ⟨b, rfl, hq⟩ := z
    exact wpAny_pure ⟨b, rfl, hq⟩
  unfold richCompare
  simp only [oneThing_ref]
  refine wpAny_holding (wpAny_bind (wpAny_cRoomFor (Nat.lt_of_succ_lt hu) (wpAny_bind (J.type.here (wpAny_bind (hL.here ?_))))))
  have fin : ∀ {k : Bool}, k = false → True := fun _ => trivial
  split
  · rename_i q
    have e : PySem.W.subIn K tb (.ref C) = some false := by
      rcases Bool.or_eq_true_iff.mp hn with e | e
      · rw [beq_iff_eq.mp e] at q
        simp at q
      · exact beq_iff_eq.mp e
    refine wpAny_bind ((PySem.W.looks_subIn Y e).here ?_)
    simp only [Bool.false_eq_true, if_false]
    refine wpAny_bind (wpAny_mono one (fun r s' z => ?_) fun _ _ e => e)
    obtain ⟨b, rfl, hq⟩ := z
    exact wpAny_pure hq
  · refine wpAny_bind (wpAny_pure ?_)
    simp only [Bool.false_eq_true, if_false]
    refine wpAny_bind (wpAny_mono one (fun r s' z => ?_) fun _ _ e => e)
    obtain ⟨b, rfl, hq⟩ := z
    exact wpAny_pure hq
end

section
variable {X : Cx} {CX : CXT} {k : Nat} {C f : Addr} {fd : FuncData} {ps : List Str} {sp : Sp} {E : XK}

/-- the callee runs one step deeper -/
theorem run_fn1 {pins : List (Addr × Obj)} {σ : L2.St} {H : Hp} {s : Shared} {Q : VK} {us : List Value} {vs : List V} (F : FnOk X.prog X.w X.K X.mg X.base CX k f fd ps sp) (hr : Room k X.A.in1) (hb : Binds X.K fd ps [])
    (hx : Passes CX X E) (I : Inv X pins σ H s) (r : Vals vs us) (h : sp vs H Q E) : wpAny (model X.prog X.w) X.A.in1 (call (.ref f) us) (EP X pins σ Q) X.xe s := by
  have hl : us.length = ps.length := (r.length).symm.trans (F.len _ _ _ _ h)
  have b := hb s us I.kIn (by simpa using hl)
  rw [List.append_nil] at b
  refine wpAny_call (codeAny_mono (F.run X.A.in1 X.stack s H ⟨us, []⟩ us vs Q E hr I.env0.in1 b r h) fun z s' hq => ?_)
  cases z with
  | error e => exact hx pins σ H s e s' I hq
  | ok fl => cases fl with
    | ret y => exact I.after hq
    | next => exact hq.elim
    | brk => exact hq.elim
    | cont => exact hq.elim

/-- o != y -/
def rNeO (K : PySem.W.Frag) (C : Addr) (sp : Sp) (E : XK) : R2 := fun x y H Q => ∃ a dx fs, x = .ref a ∧ H a = some (.ins C dx fs) ∧ Right K C H y ∧ sp [.ref a, y] H (fun v H' => ∃ b, v = .bl b ∧ Q (.bl (!b)) H') E
theorem op_neO (F : FnOk X.prog X.w X.K X.mg X.base CX k f fd ps sp) (hne : PySem.W.findIn X.K (.ref C) "__ne__" = some (some (.builtin "object.__ne__"))) (hm : PySem.W.mroIn X.K C (.type "object") = some true)
    (hs : PySem.W.findIn X.K (.ref C) "__eq__" = some (some (.ref f))) (hf : PySem.W.isFn X.K (.ref f) = true)
    (hb : Binds X.K fd ps []) (hr : Room (k + 1) X.A) (hx : Passes CX X E) : OpR X (compareOp .NotEq) (rNeO X.K C sp E) := by
  intro pins s σ H x y v u Q I rx ry h
  obtain ⟨a, dx, fs, rfl, ea, ri, q⟩ := h
  obtain rfl : v = Value.ref a := rx
  obtain ⟨ox, od, J⟩ := ins_of I ea
  obtain ⟨m, hF⟩ := I.fr
  obtain ⟨tb, hL, hn⟩ := right_looks I ri ry
  show wpAny (model X.prog X.w) X.A (richCompare .NotEq (.ref a) u) _ _ _
  refine neq_K (tb := tb) (by have := hr.un; omega) hF I.ok.mod.kin J hL hn hne hm hs hf ?_
  refine wpAny_mono (run_fn1 (us := [.ref a, u]) (vs := [.ref a, y]) F hr.in1 hb hx I (.cons rfl (.cons ry .nil)) q) (fun r s' z => ?_) fun _ _ z => z
  obtain ⟨v1, H1, I1, r1, b, e, q1⟩ := z
  subst e
  obtain rfl : r = Value.bool b := r1
  exact ⟨b, rfl, .bl (!b), H1, I1, rfl, q1⟩
end
end Lm

set_option Elab.async false
set_option linter.all false
set_option maxRecDepth 100000
set_option maxHeartbeats 4000000
namespace Lm
open PySem PySem.Spec PyProof.Rows L2

section
variable {prog : Program} {w : World} {A : Around} {E : Value → Shared → Prop} {s : Shared}
/-- bool.__new__ of a thing whose truth is known here -/
theorem bool_body {v : Value} {R : Result → Shared → Prop} (h : wpAny (model prog w) A.in1 (truthy v) (fun b s' => R (.ok (.ret (.bool b))) s') (fun e s' => R (.error e) s') s) :
    wpAny (model prog w) A.in1 (Builtin.«bool.__new__» ⟨[.type "bool", v], []⟩)
      (fun fin s' => match fin with | .done f => R (.ok f) s' | .again c' => c'.quiet = true ∧ codeAny (model prog w) A c' R s') (fun e s' => R (.error e) s') s := by
  have f1 := F.conv_sub_bool
  unfold Builtin.«bool.__new__»
  repeat (any_goals (first | assumption | (with_reducible refine wpAny_bind (m := truthy v) (wpAny_mono h (fun b s' hb => ?_) fun _ _ z => z)) | wp_step))
  all_goals exact hb
/-- a bool is handed back, or what is raised is passed on -/
def BoolWish (Q E : Value → Shared → Prop) : Result → Shared → Prop
  | .ok (.ret o), s' => (∃ b, o = .bool b) ∧ Q o s'
  | .ok _, _ => False
  | .error e, s' => E e s'
/-- bool(v) -/
theorem bool_call {v : Value} {Q : Value → Shared → Prop} (h : wpAny (model prog w) A.in1.in1 (truthy v) (fun b s' => Q (.bool b) s') E s) :
    wpAny (model prog w) A (call (.type "bool") [v]) Q E s := by
  have ft := F.called_bool
  obtain ⟨c, tl, hmro⟩ := ft.mro
  have hmade := ft.made
  have hsub := ft.sub
  have h1 := ft.notType
  have h2 := ft.canCreate
  refine wpAny_call (codeAny_of_tree (show wpAny _ _ (callAny (.type "bool") _) _ _ _ from wpAny_pure ⟨Code.quiet_builtin _ (by decide +kernel), codeAny_builtin F.entry_type_call ?_⟩))
  rw [Around.under_plain (weight_type_call_type "bool" [v] []) (units_type_call_type "bool" [v] [])]
  repeat (any_goals (first | assumption | wp_step))
  refine codeAny_mono (R := BoolWish Q E) (codeAny_call_builtin ft.plain F.entry_bool_new (wpAny_of_eq (F.newCall_bool_1 v) (bool_body (A := A.in1) (v := v) (R := BoolWish Q E) ?_))) fun r s₁ hr => ?_
  · exact wpAny_mono h (fun b s' hb => ⟨⟨b, rfl⟩, hb⟩) fun _ _ z => z
  · cases r with
    | error e => exact hr
    | ok fl => cases fl with
      | ret o =>
        obtain ⟨⟨b, rfl⟩, hq⟩ := hr
        have hli := ft.init.lookup
        have hbi := ft.init.bind (.bool b)
        have hT : s₁.TypeIs (.bool b) "bool" := by first | exact typeIs_bool _ _ | exact rfl
        repeat (any_goals (first | assumption | wp_step))
        have g := object_init_meets (self := .bool b) (rest := [v]) ft.init.lookup ft.made F.newNe_bool
        refine codeAny_mono (R := fun r s₂ => r = .ok (.ret .none) ∧ s₂ = s₁) (codeAny_call_builtin ft.init.plain F.entry_object_init (ft.init.check _ _ _ _ _ _ _ _ hT (F.args_object_init_2 (.bool b) v)
          (g prog w A.in1 (fun r s₂ => r = .ok (.ret .none) ∧ s₂ = s₁) s₁ ⟨hT, rfl, rfl⟩))) fun r₂ s₂ hr₂ => ?_
        obtain ⟨rfl, rfl⟩ := hr₂
        repeat (any_goals (first | assumption | wp_step))
      | next => exact hr.elim
      | brk => exact hr.elim
      | cont => exact hr.elim
end
end Lm

namespace Lm
open PySem PySem.Spec PyProof.Rows L2
section
variable {X : Cx} {CX : CXT} {k : Nat} {C f : Addr} {fd : FuncData} {ps : List Str} {sp : Sp} {E : XK}
theorem Room.two {k : Nat} {A : Around} (r : Room (k + 1) A) : Room k A.in1.in1 :=
  ⟨r.hd, by have := r.dp; show A.depth + 3 * k + 5 < _; omega, by have := r.un; show A.units + 1 + 1 + 16 * k + 200 < _; omega⟩
theorem Env0.two {P : Program} {w : World} {K : PySem.W.Frag} {mg : Str → Option Value} {base : Heap} {A : Around} {outer : List Env} {s : Shared} {H : Hp} (e : Env0 P w K mg base A outer s H) :
    Env0 P w K mg base A.in1.in1 outer s H := e.in1.in1
/-- the callee runs two steps deeper -/
theorem run_fn2 {pins : List (Addr × Obj)} {σ : L2.St} {H : Hp} {s : Shared} {Q : VK} {us : List Value} {vs : List V} (F : FnOk X.prog X.w X.K X.mg X.base CX k f fd ps sp) (hr : Room k X.A.in1.in1) (hb : Binds X.K fd ps [])
    (hx : Passes CX X E) (I : Inv X pins σ H s) (r : Vals vs us) (h : sp vs H Q E) : wpAny (model X.prog X.w) X.A.in1.in1 (call (.ref f) us) (EP X pins σ Q) X.xe s := by
  have hl : us.length = ps.length := (r.length).symm.trans (F.len _ _ _ _ h)
  have b := hb s us I.kIn (by simpa using hl)
  rw [List.append_nil] at b
  refine wpAny_call (codeAny_mono (F.run X.A.in1.in1 X.stack s H ⟨us, []⟩ us vs Q E hr I.env0.in1.in1 b r h) fun z s' hq => ?_)
  cases z with
  | error e => exact hx pins σ H s e s' I hq
  | ok fl => cases fl with
    | ret y => exact I.after hq
    | next => exact hq.elim
    | brk => exact hq.elim
    | cont => exact hq.elim
/-- bool(o) by its own __bool__ -/
def rBoolO (C : Addr) (sp : Sp) (E : XK) : List V → Hp → VK → Prop := fun xs H Q => ∃ a dx fs, xs = [.ref a] ∧ H a = some (.ins C dx fs) ∧ sp [.ref a] H (BoolTo Q) E
theorem call_boolO (F : FnOk X.prog X.w X.K X.mg X.base CX k f fd ps sp) (hs : PySem.W.findIn X.K (.ref C) "__bool__" = some (some (.ref f))) (hf : PySem.W.isFn X.K (.ref f) = true)
    (hb : Binds X.K fd ps []) (hr : Room (k + 1) X.A) (hx : Passes CX X E) : CallR X (.type "bool") (rBoolO C sp E) := by
  intro pins s σ H xs us Q I r h
  obtain ⟨a, dx, fs, rfl, ea, q⟩ := h
  obtain ⟨u, rfl, r1⟩ := vals1 r
  obtain rfl : u = Value.ref a := r1
  obtain ⟨ox, od, J⟩ := ins_of I ea
  obtain ⟨m, hF⟩ := I.fr
  refine bool_call (PySem.W.truthy_K hF I.ok.mod.kin J hs hf ?_)
  refine wpAny_mono (run_fn2 (us := [.ref a]) (vs := [.ref a]) F (Room.two hr) hb hx I (.cons rfl .nil) q) (fun z s' y => ?_) fun _ _ z => z
  obtain ⟨v1, H1, I1, r2, b, e, q1⟩ := y
  subst e
  obtain rfl : z = Value.bool b := r2
  exact ⟨.bl b, H1, I1, rfl, q1⟩
end
end Lm

set_option Elab.async false
set_option linter.all false
set_option maxRecDepth 100000
set_option maxHeartbeats 4000000
namespace Lm
open PySem PySem.Spec PyProof.Rows L2

/-! ### repr of data, where no repr is under way -/
/-- the text that repr hands back of a value -/
inductive Shown (K : PySem.W.Frag) (H : Hp) : V → Str → Prop where
  | non : Shown K H .non "None"
  | bl (b : Bool) : Shown K H (.bl b) (if b then "True" else "False")
  | int (i : Int) (h : i.natAbs.log2 < 1920) : Shown K H (.int i) (toString i)
  | str (x : Str) (h : (reprText x).length ≤ sizeLine) : Shown K H (.str x) (reprText x)
  | dat {a : Addr} {d : PyData} (h : Dp K H (.ref a) d) (hn : d.hasDict = false) (hs : d.showable = true) (hd : d.depth ≤ 60) (hz : d.shown.length ≤ sizeLine) : Shown K H (.ref a) d.shown
  | emp {a : Addr} (h : H a = some (.dK [])) : Shown K H (.ref a) (PyData.dict []).shown
def rRepr (K : PySem.W.Frag) : List V → Hp → VK → Prop := fun xs H Q => ∃ x t, xs = [x] ∧ Shown K H x t ∧ Q (.str t) H
section
variable {X : Cx}
theorem call_reprS (hg : X.A.guards = some []) (hu : X.A.units + 64 < cLine) : CallR X (.builtin "repr") (rRepr X.K) := by
  intro pins s σ H xs us Q I r h
  obtain ⟨x, t, rfl, hS, q⟩ := h
  obtain ⟨u, rfl, ru⟩ := vals1 r
  cases hS with
  | non =>
    obtain rfl : u = Value.none := ru
    exact PySem.P.repr_of_none ⟨.str _, H, I.tok _, ⟨_, rfl⟩, q⟩
  | bl b =>
    obtain rfl : u = Value.bool b := ru
    exact PySem.P.repr_of_bool ⟨.str _, H, I.tok _, ⟨_, rfl⟩, q⟩
  | int i hi =>
    obtain ⟨tk, rfl⟩ := (show ∃ t, u = Value.int i t from ru)
    exact PySem.P.repr_of_int hi ⟨.str _, H, I.tok _, ⟨_, rfl⟩, q⟩
  | str z hz =>
    obtain ⟨tk, rfl⟩ := (show ∃ t, u = Value.str z t from ru)
    exact PySem.P.repr_of_str (h := ⟨.str _, H, I.tok _, ⟨_, rfl⟩, q⟩) hz
  | @dat a d hD hn hs hd hz =>
    obtain rfl : u = Value.ref a := ru
    obtain ⟨as, rd⟩ := Dp.reads I d _ _ hD rfl
    exact repr_of_reads' rd hs (PyData.noDict_hsm hn) hg (by omega) (fun _ _ e => e) (fun h' u tk hk => ⟨.str _, H, I.kept hk, ⟨_, rfl⟩, q⟩) hz
  | @emp a hE =>
    obtain rfl : u = Value.ref a := ru
    obtain ⟨_, hsys, vs, rel, o, es, ep, ho, hx, hd, _, hp, _⟩ := dk_of I.hok hE
    have e0 : es.toList = [] := by
      have l := hp.length
      cases rel
      exact List.eq_nil_of_length_eq_zero (by simpa using l)
    have rd : Reads s.heap (.ref a) (.dict []) (a :: [] ++ []) := .dict ho hx.1 hd (by rw [e0]; exact .nil) (by rw [e0]; exact .nil)
    have hdp : (PyData.dict []).depth ≤ 60 := by decide
    refine repr_of_reads' rd (by decide +kernel) (fun _ hm => ?_) hg (by omega) (fun _ _ e => e) (fun h' u tk hk => ⟨.str _, H, I.kept hk, ⟨_, rfl⟩, q⟩) (by decide +kernel)
    have e1 : sysModules = a := by simpa using hm
    rw [e1] at hsys
    simp at hsys
end

/-! ### a def that keeps its promise where no repr is under way -/
structure FnG (P : Program) (w : World) (K : PySem.W.Frag) (mg : Str → Option Value) (base : Heap) (CX : CXT) (k : Nat) (f : Addr) (fd : FuncData) (ps : List Str) (sp : Sp) : Prop where
  many : ∀ vs H Q E, sp vs H Q E → vs.length = ps.length
  goes : ∀ (A : Around) (o : List Env) (s : Shared) (H : Hp) (us : List Value) (vs : List V) (Q : VK) (E : XK), A.guards = some [] → Room k A → Env0 P w K mg base A o s H →
    BindsTo s fd ⟨us, []⟩ (ps.zip us) → Vals vs us → sp vs H Q E → codeAny (model P w) A (.call (.ref f) ⟨us, []⟩) (CR CX o P w H s Q E) s

section
variable {CX : CXT} {P : Program} {w : World} {K : PySem.W.Frag} {mg : Str → Option Value} {base : Heap} {k : Nat} {f : Addr} {N ps : List Str} {sp : Sp} {x qual : Str} {st : Stmt} {fd : FuncData}
theorem FnG.of (Fz : Fun K x qual st f fd) (S : FnScope N ps (defScope st)) (many : ∀ vs H Q E, sp vs H Q E → vs.length = ps.length)
    (body : ∀ (cdv : Value) (A : Around) (o : List Env) (s : Shared) (H : Hp) (vs : List V) (Q : VK) (E : XK), A.guards = some [] → Room k (A.deeper (envOfC qual (defScope st) s.heap.objs.size f cdv)) → sp vs H Q E →
      ∃ t, PSs (cxOf CX P w K mg base N qual (defScope st) f cdv A o s H E) (defBody st) t ∧ t { nx := fun _ H' => Q .non H', rt := Q } (start N vs) H) :
    FnG P w K mg base CX (k + 1) f fd ps sp := by
  obtain ⟨oc, od, kV, doc, pm, an, cdv, ct, osl, rfl, lk, hcd⟩ := Fz.ex
  refine ⟨many, fun A o s H us vs Q E hg hr e0 hb r hsp => ?_⟩
  have inK : K.In s.heap := e0.mod.kin.keeps fun b u e => (e0.bs b u e).1
  have noL : s.heap.NoLimit := e0.mod.nolimit.keeps fun b u e => (e0.bs b u e).1
  refine codeAny_call_function hr.depth (inK _ _ lk) rfl S.co S.gen rfl (PySem.W.codeRec_of inK hcd) (hb _ _ _ _ (wpAny_newFunctionEnv_cells S.kind (fun y hy => ?_) fun env he s1 z => ?_))
  · rcases S.par y.1 (List.of_mem_zip hy).1 with q | q
    · exact .inl q
    · exact .inr ⟨q, PySem.W.cellsFrom_some _ _ _ (.inl q)⟩
  · subst he
    refine ⟨noL.keeps z.toInCall.keep, codeAny_func ?_⟩
    obtain ⟨t, ht, hq⟩ := body cdv A o s H vs Q E hg (hr.deeper _) hsp
    have J : Inv (cxOf CX P w K mg base N qual (defScope st) f cdv A o s H E) [] (start N vs) H s1 := inv_start S hr.hd e0 (many _ _ _ _ hsp) r z
    refine wpAny_mono (ht.run [] s1 (start N vs) H _ J hq) (fun fl s' y => ?_) fun _ _ y => y
    cases fl with
    | ret u =>
      obtain ⟨v, _, H', J', rv, q⟩ := y
      exact ⟨v, H', J'.os, J'.bare, J'.base, J'.hok, rv, q⟩
    | next =>
      obtain ⟨_, H', J', q⟩ := y
      exact ⟨V.non, H', J'.os, J'.bare, J'.base, J'.hok, rfl, q⟩
    | brk => exact y.elim fun _ y => y.elim fun _ y => y.2.elim
    | cont => exact y.elim fun _ y => y.elim fun _ y => y.2.elim
end

section
variable {X : Cx} {CX : CXT} {k : Nat} {f : Addr} {fd : FuncData} {ps : List Str} {sp : Sp} {E : XK} {x : Str} {p pos : Pos} {e : Expr} {es : List Expr} {t : TA}
/-- f(e, ..) -/
theorem pe_callG (G : FnG X.prog X.w X.K X.mg X.base CX k f fd ps sp) (hgd : X.A.guards = some []) (hr : Room k X.A) (hg : Gl X x) (hm : X.mg x = some (.ref f)) (hk : PySem.W.keepIn X.K (.ref f) = true) (hb : Binds X.K fd ps [])
    (hx : Passes CX X E) (ha : PA X (e :: es) t) (hdb : (x == ("__debug__" : Str)) = false := by decide) (he : starEach (e :: es) X.env = (false, eval e X.env) :: starEach es X.env := by rfl)
    (hpl : (backTo pos (starEach es X.env)).any (·.1) = false := by rfl) : PE X (.Call (.Name x p) (e :: es) [] pos) (tCall sp [] E t) := by
  refine ⟨fun pins s σ H Q I h => ?_⟩
  refine wpAny_Call_Name_kw (ld_glob I hg hm (PySem.W.callWith_K (h₀ := X.base) I.ok.mod.kin hk (thn (ha.run pos pins s σ H _ I h) fun us s1 ⟨vs, H1, I1, r, q⟩ => ⟨I1.kIn, ?_⟩) he hpl) hdb)
  have q : sp vs H1 Q E := by simpa using q
  have hl : us.length = ps.length := (r.length).symm.trans (G.many _ _ _ _ q)
  have b := hb s1 us I1.kIn (by simpa using hl)
  rw [List.append_nil] at b
  refine wpAny_call (codeAny_mono (G.goes X.A X.stack s1 H1 us vs Q E hgd hr I1.env0 b r q) fun z s' y => ?_)
  cases z with
  | error er => exact hx pins σ H1 s1 er s' I1 y
  | ok fl => cases fl with
    | ret v => exact I1.after y
    | next => exact y.elim
    | brk => exact y.elim
    | cont => exact y.elim
end
end Lm

set_option Elab.async false
set_option linter.all false
set_option maxRecDepth 100000
set_option maxHeartbeats 4000000
namespace Lm
open PySem PySem.Spec PyProof.Rows L2

/-! ### the law's own call, by a promise kept where no repr is under way -/
section
variable {P : Program} {w : World} {K : PySem.W.Frag} {mg mb : Str → Option Value} {CX : CXT} {k : Nat} {fa a : Addr} {fd : FuncData} {x : Str} {sp : Sp} {s₁ : Shared} {vs : List Value} {ns : List Int}
/-- how the law's call ends -/
def Ended (s₁ : Shared) (r : Result) (s' : Shared) : Prop := r = .ok (.ret (.bool true)) ∧ OldK s₁.heap s'.heap ∧ s'.os = s₁.os ∧ AllBare s'.gens
theorem ended_of {H : Hp} (hO : Only H) (hok : HOk P w H s₁.heap) (hCX : ∀ e s', CX [] H s₁ (fun _ _ _ => False) e s' → False) {r : Result} {s' : Shared}
    (h : CR CX [] P w H s₁ (fun v _ => v = .bl true) (fun _ _ _ => False) r s') : Ended s₁ r s' := by
  cases r with
  | error e => exact (hCX e s' h).elim
  | ok fl => cases fl with
    | next => exact h.elim
    | brk => exact h.elim
    | cont => exact h.elim
    | ret u =>
      obtain ⟨v, H', os, bare, un, hok', rv, ev⟩ := h
      obtain rfl : v = .bl true := ev
      obtain rfl : u = Value.bool true := rv
      refine ⟨rfl, OldK.of_keep fun b o e => ?_, os, bare⟩
      rcases hO b with z | ⟨ob, xs, z⟩
      · exact un.keep b o e z (fun y => absurd (show b ∈ ([] : List Addr) from y) (by simp)) (by simp)
      · obtain ⟨e1, _⟩ := hok b _ z
        obtain ⟨e2, _⟩ := hok' b _ (un.frzs b ob _ z)
        rw [e] at e1
        cases e1
        exact e2
theorem law_callG (KX : K.In s₁.heap) (hns : s₁.heap.Ns mainGlobals mg) (hb : s₁.heap.Ns builtinsNs mb) (hbb : ∀ x : Str, x ≠ "__name__" → mb x = bootBuiltins x) (hlim : s₁.heap.NoLimit) (hg : s₁.gens = #[])
    (ha : s₁.heap.get? a = some { cls := .type "list", data := .seq vs.toArray }) (hi : IntsAre vs ns) (hl : ns.length ≤ sizeLine) (hr : Room k callerA) (hgd : callerA.guards = some [])
    (G : ∀ base : Heap, K.In base → base.Ns mainGlobals mg → FnG P w K mg base CX k fa fd [x] sp) (hbind : ∀ (s : Shared) (u : Value), BindsTo s fd ⟨[u], []⟩ [(x, u)])
    (hsp : ∀ H : Hp, Only H → SqL K H a (ns.map V.int) → sp [.ref a] H (fun v _ => v = .bl true) fun _ _ _ => False)
    (hCX : ∀ H e s', CX [] H s₁ (fun _ _ _ => False) e s' → False) : codeAny (model P w) callerA (.call (.ref fa) ⟨[.ref a], []⟩) (Ended s₁) s₁ := by
  have rv := vals_ints hi
  have main : ∀ H : Hp, Only H → SqL K H a (ns.map V.int) → HOk P w H s₁.heap → (∀ b, H b ≠ none → b = a) → (H a ≠ none → K.lookup a = none) →
      codeAny (model P w) callerA (.call (.ref fa) ⟨[.ref a], []⟩) (Ended s₁) s₁ := by
    intro H hO hS hok one hK
    -- what isn't the script lies in the base
    have off : ∀ {b : Addr}, b ≠ a → H b = none := fun {b} hb => Classical.byContradiction fun z => hb (one b z)
    have low : ∀ {b : Addr} {o : Obj}, s₁.heap.get? b = some o → H b = none → (hidT s₁.heap H).get? b = some o := fun e n => hidT_get e n
    have dic : ∀ {b : Addr} {o : Obj} {es : Array DictEntry} {ep : Nat}, s₁.heap.get? b = some o → o.data = .dict es ep → H b = none := fun {b o es ep} e d => off fun z => by
      subst z
      rw [ha] at e
      cases e
      cases (show Data.seq vs.toArray _ = Data.dict es ep from d)
    have nsB : ∀ {b : Addr} {m : Str → Option Value}, s₁.heap.Ns b m → (hidT s₁.heap H).Ns b m := fun {b m} ⟨o, es, ep, e, d, r⟩ => ⟨o, es, ep, low e (dic e d), d, r⟩
    have inB : K.In (hidT s₁.heap H) := fun b o e => low (KX b o e) (Classical.byContradiction fun z => by
      have eb := one b z
      subst eb
      rw [hK z] at e
      cases e)
    have md : Mod K mg (hidT s₁.heap H) := ⟨inB, nsB hns, ⟨mb, nsB hb, hbb⟩, let ⟨mc, h1, h2⟩ := hlim; ⟨mc, nsB h1, h2⟩⟩
    have e0 : Env0 P w K mg (hidT s₁.heap H) callerA [] s₁ H :=
      ⟨rfl, md, fun b o e => of_hidT e, Nat.le_of_eq (hidT_size _ _), trivial, fun b hb => absurd (show b ∈ ([] : List Addr) from hb) (by simp), hok, .of_eq hg⟩
    exact codeAny_mono ((G _ inB (nsB hns)).goes callerA [] s₁ H [.ref a] [.ref a] _ _ hgd hr e0 (hbind s₁ (.ref a)) (.cons rfl .nil) (hsp H hO hS)) fun r s' h => ended_of hO hok (hCX H) h
  cases hk : K.lookup a with
  | some o =>
    have e := KX a o hk
    rw [ha] at e
    cases e
    exact main (fun _ => none) (fun _ => .inl rfl) (.inr ⟨_, vs.toArray, _, hk, rfl, rfl, rfl, by rw [List.size_toArray, hi.length]; exact hl, by simpa using rv⟩) (fun b u z => nomatch (show (none : Option HO) = some u from z))
      (fun b z => absurd rfl z) fun z => absurd rfl z
  | none =>
    refine main (fun b => if b = a then some (.frz { cls := .type "list", data := .seq vs.toArray } (.lst (ns.map V.int))) else none) (fun b => ?_) (.inl (.inr ⟨{ cls := .type "list", data := .seq vs.toArray }, if_pos rfl⟩)) (fun b u z => ?_)
      (fun b z => Classical.byContradiction fun nb => z (if_neg nb)) fun _ => hk
    · by_cases nb : b = a
      · exact .inr ⟨_, _, if_pos nb⟩
      · exact .inl (if_neg nb)
    · by_cases nb : b = a
      · cases (if_pos nb).symm.trans z
        subst nb
        exact ⟨ha, by rw [List.length_map]; exact hl, vs, _, rv, ha⟩
      · cases (if_neg nb).symm.trans z
end
theorem walk_ofG {l : PySem.W.OpenLaw} {n k : Nat} {q : Program} {loose : List Str} {XP : (Str → Option Value) → Heap → Prop} {YP : World → Heap → Prop} {d : DefRec} {K : Params → PySem.W.Frag} {CX : World → CXT} {sp : World → Sp} {x : Str}
    (hn : l.most = some n) (hn2 : n ≤ sizeLine) (hdf : d.params.defaults = []) (hr : Room k callerA) (hgd : callerA.guards = some []) (hY : ∀ (w : World) (h : Heap), YP w h → (K w.params).In h)
    (F : ∀ (w : World) (mg : Str → Option Value) (fa : Addr) (h : Heap), (K w.params).In h → h.Ns mainGlobals mg → mg d.name = some (.ref fa) →
      ∃ fd : FuncData, (∀ (s : Shared) (u : Value), BindsTo s fd ⟨[u], []⟩ [(x, u)]) ∧ ∀ base : Heap, (K w.params).In base → base.Ns mainGlobals mg → FnG l.prog w (K w.params) mg base (CX w) k fa fd [x] (sp w))
    (hsp : ∀ (w : World) (H : Hp) (a : Addr) (ns : List Int), ns.length ≤ n → Only H → SqL (K w.params) H a (ns.map V.int) → sp w [.ref a] H (fun v _ => v = .bl true) fun _ _ _ => False)
    (hCX : ∀ (w : World) (H : Hp) (s : Shared) (e : Value) (s' : Shared), CX w [] H s (fun _ _ _ => False) e s' → False) : PySem.W.WalkO q loose XP YP l.row.toRowW d [] (fun f vs => PySem.call f vs) := by
  refine Att.attach_call hn hdf fun w s₀ s₁ mg mb fa o pm cd doc a vs ns G Y ho hd hcd hmg hobj hints hlen hg => ?_
  obtain ⟨fd, hb, hF⟩ := F w mg fa _ (hY w _ Y) G.T.g hmg
  exact law_callG (hY w _ Y) G.T.g G.T.b G.T.builtins G.T.nolimit hg hobj hints (Nat.le_trans hlen hn2) hr hgd hF hb (fun H hO hS => hsp w H a ns hlen hO hS) fun H e s' => hCX w H s₁ e s'
end Lm

set_option Elab.async false
set_option linter.all false
set_option maxRecDepth 100000
set_option maxHeartbeats 4000000
namespace Lm
open PySem PySem.Spec PyProof.Rows L2
/-! ### is True, is not False: the right side a truth value, the left one anything -/
theorem beq_bl {x : V} {v : Value} (r : RelV x v) (b : Bool) : PySem.plainIs v (.bool b) = true ∧ (v == Value.bool b) = decide (x = V.bl b) := by
  cases x with
  | bl c => cases (show v = Value.bool c from r); refine ⟨rfl, ?_⟩; by_cases e : c = b
            · subst e; simp
            · rw [decide_eq_false (fun z => e (V.bl.inj z)), beq_eq_false_iff_ne]; exact fun z => e (Value.bool.inj z)
  | non => cases (show v = Value.none from r); exact ⟨rfl, by simp⟩
  | int i => obtain ⟨t, rfl⟩ := r; exact ⟨rfl, by simp⟩
  | str i => obtain ⟨t, rfl⟩ := r; exact ⟨rfl, by simp⟩
  | byt i => obtain ⟨t, rfl⟩ := r; exact ⟨rfl, by simp⟩
  | flt i => obtain ⟨t, rfl⟩ := r; exact ⟨rfl, by simp⟩
  | ref a => cases (show v = Value.ref a from r); exact ⟨rfl, by simp⟩
  | ty a => cases (show v = Value.type a from r); exact ⟨rfl, by simp⟩
theorem op_isB {X : Cx} : OpR X (compareOp .Is) (fun x y H Q => ∃ b, y = .bl b ∧ Q (.bl (decide (x = V.bl b))) H) := by
  intro pins s σ H x y v u Q I rx ry h
  obtain ⟨b, rfl, q⟩ := h
  cases (show u = Value.bool b from ry)
  obtain ⟨p, e⟩ := beq_bl rx b
  exact wpAny_is_plain p (fin_bl I q e.symm)
theorem op_notB {X : Cx} : OpR X (compareOp .IsNot) (fun x y H Q => ∃ b, y = .bl b ∧ Q (.bl (!decide (x = V.bl b))) H) := by
  intro pins s σ H x y v u Q I rx ry h
  obtain ⟨b, rfl, q⟩ := h
  cases (show u = Value.bool b from ry)
  obtain ⟨p, e⟩ := beq_bl rx b
  exact wpAny_isNot_plain p (fin_bl I q (by rw [e]))
end Lm

namespace K18
open PySem PySem.Spec PyProof.Rows L2 Lm
/-! ### the text -/
def top (i : Nat) : Stmt := PySem.Challenge.pw_safeupto_k18_limits.main.body.getD i (.Pass ⟨0, 0, 0, 0⟩)
abbrev sNI : Stmt := inClass (top 2) 0
abbrev sIsI : Stmt := top 4
abbrev sInit : Stmt := inClass (top 6) 0
abbrev sSize : Stmt := inClass (top 6) 1
abbrev sIn : Stmt := inClass (top 6) 2
abbrev sAnd : Stmt := inClass (top 6) 3
abbrev sBool : Stmt := inClass (top 6) 4
abbrev sEq : Stmt := inClass (top 6) 5
abbrev sWithin : Stmt := inClass (top 6) 6
abbrev sPool : Stmt := top 8
abbrev sTake : Stmt := top 9
abbrev sDrawn : Stmt := top 10
abbrev sIsIn : Stmt := top 11
abbrev sRef : Stmt := top 12
abbrev sLaw : Stmt := top 13
/-! ### what limits are -/
def vO : Option Int → V
  | none => .non
  | some n => .int n
def Good (z : Option Int) : Prop := ∀ n, z = some n → -1 ≤ n
abbrev fld (v : V) : List (Str × V) := [("_size", v)]
theorem fld_get (v : V) : (fld v).lookup ("_size" : Str) = some v := by simp [List.lookup]
def LimAt (C : Addr) (H : Hp) (p : Addr) (z : Option Int) : Prop := ∃ dx, H p = some (.ins C dx (fld (vO z)))
theorem LimAt.same {C : Addr} {H H' : Hp} {p : Addr} {z : Option Int} (h : LimAt C H p z) (s : Same H H') : LimAt C H' p z := let ⟨dx, e⟩ := h; ⟨dx, s _ _ e⟩
def inO : Option Int → Int → Bool
  | none, _ => true
  | some n, x => decide (x ≤ n)
def minO : Option Int → Option Int → Option Int
  | none, z => z
  | some a, none => some a
  | some a, some b => some (if b < a then b else a)
def leO : Option Int → Option Int → Bool
  | none, none => true
  | none, some _ => false
  | some _, none => true
  | some a, some b => decide (a ≤ b)
/-- what the walk asks of the text -/
structure Txt (K : PySem.W.Frag) (mg : Str → Option Value) (C CN fN pS fS : Addr) : Prop where
  cl : Cls K C
  nS : NoAttr K C "_size"
  pS : PropOf K C "size" pS fS
  mgL : mg "Limit" = some (.ref C)
  mgN : mg "InvalidNumber" = some (.ref CN)
  ox : OexC K CN
  nV : PySem.W.findIn K (.ref CN) "value" = some none
  iN : PySem.W.findIn K (.ref CN) "__init__" = some (some (.ref fN))
  tN : PySem.W.typeIn K (.ref fN) = some (.type "function")
  xf : XfC K CN
  te : PySem.W.exmOne K (.ref CN) (.ref CN) = some true
  ha : PySem.W.findIn K (.ref C) "__class__" = some (some (.builtin "object.__class__"))
  hn : PySem.W.specialIn K (.builtin "object.__class__") "__get__" = some (some (.builtin "getset_descriptor.__get__"))
  ht : PySem.W.takesIn K (.builtin "object.__class__") = some true
  hm : PySem.W.mroIn K C (.type "object") = some true
  kCC : PySem.W.kitOne K (.ref C) (.ref C) = some true
  kIC : PySem.W.kitOne K (.type "int") (.ref C) = some false
  kNC : PySem.W.kitOne K (.type "NoneType") (.ref C) = some false
  isi : mg "isinstance" = none
  int_ : mg "int" = none
  bool_ : mg "bool" = none
  min_ : mg "min" = none
  max_ : mg "max" = none
  abs_ : mg "abs" = none
  len_ : mg "len" = none
  rep : mg "repr" = none
  rng : mg "range" = none
theorem Txt.tyL {K : PySem.W.Frag} {mg : Str → Option Value} {C CN fN pS fS p dx : Addr} {fs : List (Str × V)} {H : Hp} (T : Txt K mg C CN fN pS fS) (h : H p = some (.ins C dx fs)) : TyX K H (.ref p) (.ref C) :=
  .base (.ins h T.cl T.ha T.hn T.ht T.hm)
/-- an exception that comes of a call which can raise none -/
theorem passF {X : Cx} : Passes (L2.CX X.prog X.w) X (fun _ _ _ => False) := fun pins σ H s e s' I c => passAt (takes0 (X := X)) σ pins H s e s' I c

section
variable {P : Program} {w : World} {K : PySem.W.Frag} {mg : Str → Option Value} {base : Heap} {C CN fN pS fS : Addr}
/-! ### is_integer -/
def isB (v : V) : Bool := decide (v = .bl true) || decide (v = .bl false)
def spIsI (K : PySem.W.Frag) : Sp := fun vs H Q _ => ∃ v t b1, vs = [v] ∧ TyX K H v t ∧ PySem.W.kitOne K t (.type "int") = some b1 ∧ Q (.bl (b1 && !isB v)) H
theorem scIsI : FnScope ["value"] ["value"] (defScope sIsI) := ⟨rfl, rfl, rfl, by decide +kernel, rfl, by decide +kernel, by decide +kernel⟩
theorem ok_isI {f : Addr} {fd : FuncData} (F : Fun K "is_integer" "is_integer" sIsI f fd) (T : Txt K mg C CN fN pS fS) : FnOk P w K mg base CX0 1 f fd ["value"] (spIsI K) := by
  refine F.ok scIsI (fun vs H Q E h => ?_) (fun cdv A outer s H vs Q E hr h => ?_)
  · obtain ⟨v, t, b1, rfl, _⟩ := h
    rfl
  · obtain ⟨v, t, b1, rfl, ty, h1, k⟩ := h
    refine ⟨_, pss_one (ps_ret (pe_and (pe_callB call_isi (by rfl) T.isi (by decide +kernel) (pa_cons (pv 0) (pa_cons (pe_bltn (v := .ty "int") (by rfl) T.int_ (by decide +kernel) rfl) pa_nil)))
      (pe_and (pe_cmpR op_notB (pv 0) pe_bl (nomark _)) (pe_one (pe_cmpR op_notB (pv 0) pe_bl (nomark _)))))), ?_⟩
    refine ⟨_, rfl, v, .ty "int", t, .type "int", b1, rfl, .ty "int", ty, h1, b1, rfl, ?_⟩
    cases b1 with
    | false => exact iteF k
    | true =>
      refine iteT ⟨_, rfl, true, rfl, _, rfl, ?_⟩
      unfold isB at k
      cases e : decide (v = V.bl true) with
      | true => rw [e] at k; exact iteF k
      | false => rw [e] at k; exact iteT ⟨_, rfl, false, rfl, k⟩
/-! ### InvalidNumber.__init__ -/
def spNI (CN : Addr) : Sp := fun vs H Q _ => ∃ a v, vs = [.ref a, v] ∧ H a = some (exo a CN none) ∧ ∀ dx, H dx = none → dx ≠ a → Q .non (upd (upd H dx (exd dx [("value", v)])) a (exo a CN (some dx)))
theorem scNI : FnScope ["self", "value"] ["self", "value"] (defScope sNI) := ⟨rfl, rfl, rfl, by decide +kernel, rfl, by decide +kernel, by decide +kernel⟩
theorem ok_NI {f : Addr} {fd : FuncData} (F : Fun K "__init__" "InvalidNumber.__init__" sNI f fd) (T : Txt K mg C CN fN pS fS) : FnOk P w K mg base CX0 1 f fd ["self", "value"] (spNI CN) := by
  refine F.ok scNI (fun vs H Q E h => ?_) (fun cdv A outer s H vs Q E hr h => ?_)
  · obtain ⟨a, v, rfl, _⟩ := h
    rfl
  · obtain ⟨a, v, rfl, ha, k⟩ := h
    refine ⟨_, pss_one (ps_ost (pv 0) (pv 1)), ?_⟩
    exact ⟨_, rfl, _, rfl, a, CN, rfl, T.ox, T.nV, .inl ⟨ha, fun dx h1 h2 => k dx h1 h2⟩⟩
/-! ### Limit: its size, and what is asked of it -/
def spSize (C : Addr) : Sp := fun vs H Q _ => ∃ p dx v, vs = [.ref p] ∧ H p = some (.ins C dx (fld v)) ∧ Q v H
theorem scSize : FnScope ["self"] ["self"] (defScope sSize) := ⟨rfl, rfl, rfl, by decide +kernel, rfl, by decide +kernel, by decide +kernel⟩
theorem ok_size {f : Addr} {fd : FuncData} (F : Fun K "size" "Limit.size" sSize f fd) (T : Txt K mg C CN fN pS fS) : FnOk P w K mg base CX0 1 f fd ["self"] (spSize C) := by
  refine F.ok scSize (fun vs H Q E h => ?_) (fun cdv A outer s H vs Q E hr h => ?_)
  · obtain ⟨p, dx, v, rfl, _⟩ := h
    rfl
  · obtain ⟨p, dx, v, rfl, h, k⟩ := h
    exact ⟨_, pss_one (ps_ret (pe_fld (pv 0) rfl)), _, rfl, p, C, dx, _, _, rfl, h, T.cl, T.nS, fld_get _, k⟩
def spIn (C : Addr) : Sp := fun vs H Q _ => ∃ p z x, vs = [.ref p, .int x] ∧ LimAt C H p z ∧ Q (.bl (inO z x)) H
theorem scIn : FnScope ["self", "x"] ["self", "x"] (defScope sIn) := ⟨rfl, rfl, rfl, by decide +kernel, rfl, by decide +kernel, by decide +kernel⟩
theorem ok_in {f : Addr} {fd : FuncData} (F : Fun K "__contains__" "Limit.__contains__" sIn f fd) (T : Txt K mg C CN fN pS fS) : FnOk P w K mg base CX0 1 f fd ["self", "x"] (spIn C) := by
  refine F.ok scIn (fun vs H Q E h => ?_) (fun cdv A outer s H vs Q E hr h => ?_)
  · obtain ⟨p, z, x, rfl, _⟩ := h
    rfl
  · obtain ⟨p, z, x, rfl, ⟨dx, h⟩, k⟩ := h
    refine ⟨_, pss_one (ps_ret (pe_or (pe_cmp (pc_isN (pe_fld (pv 0) rfl)) rfl) (pe_one (pe_cmpR op_ge (pe_fld (pv 0) rfl) (pv 1) (nomark _))))), ?_⟩
    refine ⟨_, rfl, p, C, dx, _, _, rfl, h, T.cl, T.nS, fld_get _, _, rfl, ?_⟩
    cases z with
    | none => exact iteT k
    | some n => exact iteF ⟨_, rfl, p, C, dx, _, _, rfl, h, T.cl, T.nS, fld_get _, _, rfl, _, _, rfl, rfl, k⟩
def spBool (C : Addr) : Sp := fun vs H Q _ => ∃ p z, vs = [.ref p] ∧ LimAt C H p z ∧ Q (.bl (!decide (z = some (-1)))) H
theorem scBool : FnScope ["self"] ["self"] (defScope sBool) := ⟨rfl, rfl, rfl, by decide +kernel, rfl, by decide +kernel, by decide +kernel⟩
theorem ok_bool {f : Addr} {fd : FuncData} (F : Fun K "__bool__" "Limit.__bool__" sBool f fd) (T : Txt K mg C CN fN pS fS) : FnOk P w K mg base CX0 1 f fd ["self"] (spBool C) := by
  refine F.ok scBool (fun vs H Q E h => ?_) (fun cdv A outer s H vs Q E hr h => ?_)
  · obtain ⟨p, z, rfl, _⟩ := h
    rfl
  · obtain ⟨p, z, rfl, ⟨dx, h⟩, k⟩ := h
    refine ⟨_, pss_one (ps_ret (pe_callTy call_bool1 (by rfl) T.bool_ (by decide +kernel) (pa_cons (pe_cmpR op_ne (pe_fld (pv 0) rfl) (pe_un un_neg pe_int) (nomark _)) pa_nil))), ?_⟩
    refine ⟨_, rfl, p, C, dx, _, _, rfl, h, T.cl, T.nS, fld_get _, _, rfl, ?_⟩
    cases z with
    | none => exact ⟨rfl, .inr ⟨_, rfl, k⟩⟩
    | some n =>
      refine ⟨rfl, .inr ⟨_, rfl, ?_⟩⟩
      have e : decide (V.int n = V.int (-1)) = decide (some n = some (-1)) := by simp
      show Q (.bl (!decide (V.int n = V.int (-1)))) H
      rw [e]
      exact k
def eqTo (C : Addr) (H : Hp) (z : Option Int) (y : V) (b : Bool) : Prop := (∃ q z', y = .ref q ∧ LimAt C H q z' ∧ b = decide (z = z')) ∨ ((y = .non ∨ ∃ i, y = .int i) ∧ b = false)
def spEq (C : Addr) : Sp := fun vs H Q _ => ∃ p z y b, vs = [.ref p, y] ∧ LimAt C H p z ∧ eqTo C H z y b ∧ Q (.bl b) H
theorem scEq : FnScope ["self", "other"] ["self", "other"] (defScope sEq) := ⟨rfl, rfl, rfl, by decide +kernel, rfl, by decide +kernel, by decide +kernel⟩
theorem vO_eq (z z' : Option Int) : decide (vO z = vO z') = decide (z = z') := by cases z <;> cases z' <;> simp [vO]
theorem vO_scal (z z' : Option Int) : scal (vO z) (vO z') = true := by cases z <;> cases z' <;> rfl
theorem ok_eq {f : Addr} {fd : FuncData} (F : Fun K "__eq__" "Limit.__eq__" sEq f fd) (T : Txt K mg C CN fN pS fS) : FnOk P w K mg base CX0 1 f fd ["self", "other"] (spEq C) := by
  refine F.ok scEq (fun vs H Q E h => ?_) (fun cdv A outer s H vs Q E hr h => ?_)
  · obtain ⟨p, z, y, b, rfl, _⟩ := h
    rfl
  · obtain ⟨p, z, y, b, rfl, ⟨dx, h⟩, t, k⟩ := h
    refine ⟨_, pss_one (ps_ret (pe_and (pe_callB call_isi (by rfl) T.isi (by decide +kernel) (pa_cons (pv 1) (pa_cons (pe_glob (v := .ref C) rfl T.mgL rfl) pa_nil)))
      (pe_one (pe_cmpR op_eq (pe_fld (pv 0) rfl) (pe_fld (pv 1) rfl) (nomark _))))), ?_⟩
    refine ⟨_, rfl, ?_⟩
    rcases t with ⟨q, z', rfl, ⟨dy, h'⟩, rfl⟩ | ⟨t, rfl⟩
    · refine ⟨_, .ref C, .ref C, .ref C, true, rfl, .own C, T.tyL h', T.kCC, true, rfl, iteT ?_⟩
      refine ⟨_, rfl, p, C, dx, _, _, rfl, h, T.cl, T.nS, fld_get _, _, rfl, q, C, dy, _, _, rfl, h', T.cl, T.nS, fld_get _, vO_scal _ _, ?_⟩
      show Q (.bl (decide (vO z = vO z'))) H
      rw [vO_eq]
      exact k
    · rcases t with rfl | ⟨i, rfl⟩
      · exact ⟨_, .ref C, .type "NoneType", .ref C, false, rfl, .own C, .base .non, T.kNC, false, rfl, iteF k⟩
      · exact ⟨_, .ref C, .type "int", .ref C, false, rfl, .own C, .base (.int i), T.kIC, false, rfl, iteF k⟩
def spWithin (C : Addr) : Sp := fun vs H Q _ => ∃ p q z z', vs = [.ref p, .ref q] ∧ LimAt C H p z ∧ LimAt C H q z' ∧ Q (.bl (leO z z')) H
theorem scWithin : FnScope ["self", "other"] ["self", "other"] (defScope sWithin) := ⟨rfl, rfl, rfl, by decide +kernel, rfl, by decide +kernel, by decide +kernel⟩
theorem ok_within {f : Addr} {fd fdS : FuncData} (F : Fun K "is_within" "Limit.is_within" sWithin f fd) (T : Txt K mg C CN fN pS fS) (GS : FnOk P w K mg base CX0 1 fS fdS ["self"] (spSize C)) (bS : Binds K fdS ["self"] []) :
    FnOk P w K mg base CX0 3 f fd ["self", "other"] (spWithin C) := by
  refine F.ok scWithin (fun vs H Q E h => ?_) (fun cdv A outer s H vs Q E hr h => ?_)
  · obtain ⟨p, q, z, z', rfl, _⟩ := h
    rfl
  · obtain ⟨p, q, z, z', rfl, ⟨dx, h⟩, ⟨dy, h'⟩, k⟩ := h
    refine ⟨_, pss_cons (ps_if (PW.pt (pw_or (pt_cmp (pc_isN (pe_fld (pv 0) rfl))) (pw_or1 (pt_cmp (pc_isN (pe_prop (pv 1) T.cl T.pS GS hr bS .nil pass0 rfl))))))
        (pss_one (ps_ret (pe_cmp (pc_isN (pe_prop (pv 1) T.cl T.pS GS hr bS .nil pass0 rfl)) rfl))) pss_nil)
      (pss_one (ps_ret (pe_cmpR op_le (pe_fld (pv 0) rfl) (pe_prop (pv 1) T.cl T.pS GS hr bS .nil pass0 rfl) (nomark _)))), ?_⟩
    refine ⟨_, rfl, p, C, dx, _, _, rfl, h, T.cl, T.nS, fld_get _, _, rfl, ?_⟩
    cases z with
    | none =>
      refine iteT (iteT ?_)
      refine ⟨_, rfl, q, dy, _, rfl, h', q, dy, _, rfl, h', ?_⟩
      cases z' <;> exact k
    | some a =>
      refine iteF ⟨_, rfl, q, dy, _, rfl, h', q, dy, _, rfl, h', _, rfl, ?_⟩
      cases z' with
      | none =>
        refine iteT ⟨_, rfl, q, dy, _, rfl, h', q, dy, _, rfl, h', ?_⟩
        exact k
      | some b =>
        refine iteF ⟨_, rfl, p, C, dx, _, _, rfl, h, T.cl, T.nS, fld_get _, _, rfl, q, dy, _, rfl, h', q, dy, _, rfl, h', _, _, rfl, rfl, ?_⟩
        exact k
end
end K18

set_option Elab.async false
set_option linter.all false
set_option maxRecDepth 100000
set_option maxHeartbeats 4000000
namespace Lm
open PySem PySem.Spec PyProof.Rows L2
section
variable {X : Cx} {CX : CXT} {k : Nat} {f C : Addr} {fd : FuncData} {ps : List Str} {sp : Sp} {E : L2.St → XK} {x : Str} {p pos : Pos} {e : Expr} {es : List Expr} {t : TA}
/-- C(e, ..), what its __init__ raises wished for at the slots -/
def tMakeS (C : Addr) (sp : Sp) (E : L2.St → XK) (t : TA) : TE := fun σ H Q => t σ H fun vs H1 => ∀ a dx, H1 a = none → H1 dx = none → dx ≠ a →
  sp (.ref a :: vs) (upd (upd H1 dx (.own a)) a (.ins C dx [])) (fun v H2 => v = .non ∧ Q (.ref a) H2) (E σ)
theorem pe_makeS (M : Mk X.K C f) (F : FnOk X.prog X.w X.K X.mg X.base CX k f fd ps sp) (hr : Room (k + 1) X.A) (hg : Gl X x) (hm : X.mg x = some (.ref C)) (hb : Binds X.K fd ps []) (hx : ∀ σ, PassesAt CX X σ (E σ))
    (ha : PA X (e :: es) t) (hdb : (x == ("__debug__" : Str)) = false := by decide) (he : starEach (e :: es) X.env = (false, eval e X.env) :: starEach es X.env := by rfl) (hpl : (backTo pos (starEach es X.env)).any (·.1) = false := by rfl) :
    PE X (.Call (.Name x p) (e :: es) [] pos) (tMakeS C sp E t) := by
  refine ⟨fun pins s σ H Q I h => ?_⟩
  refine wpAny_Call_Name_kw (ld_glob I hg hm (PySem.W.callWith_K (h₀ := X.base) I.ok.mod.kin M.kp (thn (ha.run pos pins s σ H _ I h) fun us s1 ⟨vs, H1, I1, r, q⟩ => ⟨I1.kIn, ?_⟩) he hpl) hdb)
  have hq := q (s1.heap.objs.size + 1) s1.heap.objs.size (I1.hok.fresh (Nat.le_succ _)) (I1.hok.fresh (Nat.le_refl _)) (Nat.ne_of_lt (Nat.lt_succ_self _))
  have J := Inv.made (C := C) I1
  have r2 : Vals (V.ref (s1.heap.objs.size + 1) :: vs) (Value.ref (s1.heap.objs.size + 1) :: us) := .cons rfl r
  have hl : (Value.ref (s1.heap.objs.size + 1) :: us).length = ps.length := (r2.length).symm.trans (F.len _ _ _ _ hq)
  have b := hb _ (Value.ref (s1.heap.objs.size + 1) :: us) J.kIn (by simpa using hl)
  rw [List.append_nil] at b
  show wpAny _ _ (call (.ref C) us) _ _ _
  refine wpAny_call (make_map (f := f) I1.kIn M.makes M.init (beq_iff_eq.mp M.fn) (codeAny_mono (F.run _ X.stack _ _ ⟨Value.ref (s1.heap.objs.size + 1) :: us, []⟩ _ _ _ (E σ) (hr.make C us []) (J.env0.make C us []) b r2 hq) fun z s' y => ?_))
  cases z with
  | error er => exact hx σ pins _ _ er s' J y
  | ok fl => cases fl with
    | ret u =>
      obtain ⟨v, H', I3, rv, ev, q3⟩ := J.after y
      subst ev
      exact ⟨rv, ⟨V.ref (s1.heap.objs.size + 1), H', I3, rfl, q3⟩⟩
    | next => exact y.elim
    | brk => exact y.elim
    | cont => exact y.elim
end
section
variable {P : Program} {w : World} {K : PySem.W.Frag} {mg : Str → Option Value} {base : Heap} {k : Nat} {f : Addr} {N ps : List Str} {sp : Sp} {x qual : Str} {st : Stmt} {fd : FuncData}
/-- .. of a def that no exception leaves -/
theorem FnG.ok (Fz : Fun K x qual st f fd) (S : FnScope N ps (defScope st)) (many : ∀ vs H Q E, sp vs H Q E → vs.length = ps.length)
    (body : ∀ (cdv : Value) (A : Around) (o : List Env) (s : Shared) (H : Hp) (vs : List V) (Q : VK) (E : XK), A.guards = some [] → Room k (A.deeper (envOfC qual (defScope st) s.heap.objs.size f cdv)) → sp vs H Q E →
      ∃ t, PSs (cxOf CX0 P w K mg base N qual (defScope st) f cdv A o s H E).nox (defBody st) t ∧ t { nx := fun _ H' => Q .non H', rt := Q } (start N vs) H) :
    FnG P w K mg base CX0 (k + 1) f fd ps sp :=
  FnG.of Fz S many fun cdv A o s H vs Q E hg hr hsp => let ⟨t, h, q⟩ := body cdv A o s H vs Q E hg hr hsp; ⟨t, h.nox, q⟩
theorem ifT {c : Bool} {Y Z : Prop} (e : c = true) (h : Y) : if c = true then Y else Z := by
  subst e
  exact iteT h
theorem ifF {c : Bool} {Y Z : Prop} (e : c = false) (h : Z) : if c = true then Y else Z := by
  subst e
  exact iteF h
theorem guards_deeper {A : Around} (env : Env) (h : A.guards = some []) : (A.deeper env).guards = some [] := by
  first
    | exact h
    | simpa [Around.deeper, pushGuards, Code.guards] using h
end
end Lm
namespace K18
open PySem PySem.Spec PyProof.Rows L2 Lm
section
variable {P : Program} {w : World} {K : PySem.W.Frag} {mg : Str → Option Value} {base : Heap} {C CN fN pS fS fIs : Addr}
/-! ### Limit.__init__ -/
/-- what is no size: no integer, or less than -1 -/
def Bad (K : PySem.W.Frag) (H : Hp) (v : V) : Prop := (v ≠ .non ∧ ∃ t b1, TyX K H v t ∧ PySem.W.kitOne K t (.type "int") = some b1 ∧ (b1 && !isB v) = false) ∨ ∃ n, v = .int n ∧ n < -1
def spInit (K : PySem.W.Frag) (C CN : Addr) : Sp := fun vs H Q E => ∃ p dx v, vs = [.ref p, v] ∧ H p = some (.ins C dx []) ∧
  ((∃ z, v = vO z ∧ Good z ∧ Q .non (upd H p (.ins C dx (fld v)))) ∨
   (Bad K H v ∧ ∀ d H', H d = none → H' d = some (.xd [("value", v)]) → (∀ b o, H b = some o → H' b = some o) → E (.ref CN) (some d) H'))
theorem kit_ii : PySem.W.kitOne K (.type "int") (.type "int") = some true := kit_ty (by decide +kernel)
theorem kit_ib : PySem.W.kitOne K (.type "int") (.type "bool") = some false := kit_ty (by decide +kernel)
theorem scInit : FnScope ["self", "size"] ["self", "size"] (defScope sInit) := ⟨rfl, rfl, rfl, by decide +kernel, rfl, by decide +kernel, by decide +kernel⟩
theorem ok_init {f : Addr} {fd fdI fdN : FuncData} (F : Fun K "__init__" "Limit.__init__" sInit f fd) (T : Txt K mg C CN fN pS fS) (FI : Fun K "is_integer" "is_integer" sIsI fIs fdI) (bI : Binds K fdI ["value"] []) (mI : mg "is_integer" = some (.ref fIs))
    (FN : Fun K "__init__" "InvalidNumber.__init__" sNI fN fdN) (bN : Binds K fdN ["self", "value"] []) : FnOk P w K mg base (L2.CX P w) 3 f fd ["self", "size"] (spInit K C CN) := by
  have GI : FnOk P w K mg base CX0 1 fIs fdI ["value"] (spIsI K) := ok_isI FI T
  have GN : FnOk P w K mg base CX0 1 fN fdN ["self", "value"] (spNI CN) := ok_NI FN T
  refine F.okX scInit (fun vs H Q E h => ?_) (fun cdv A outer s H vs Q E hr h => ?_)
  · obtain ⟨p, dx, v, rfl, _⟩ := h
    rfl
  · obtain ⟨p, dx, v, rfl, hp, k⟩ := h
    have hr1 : Room 1 _ := hr.mono (by decide)
    refine ⟨_, pss_cons (ps_if (PW.pt (pw_and (pt_cmp (pc_notN (pv 1))) (pw_and1 (PW.pt (pw_or (pt_not (pt_val (pe_call GI hr1 rfl mI FI.kp bI .nil pass0 (pa_cons (pv 1) pa_nil)))) (pw_or1 (pt_cmpR op_lt (pv 1) (pe_un un_neg pe_int) (nomark _))))))))
        (pss_one (ps_raise (W := fun cls d _ H => E cls d H) rfl (takes_of rfl rfl rfl rfl) (pmk_oex T.ox T.iN T.tN GN hr bN .nil pass0 rfl T.mgN (pa_cons (pv 1) pa_nil)))) pss_nil)
      (pss_one (ps_fld (pv 0) (pv 1) rfl)), ?_⟩
    refine ⟨_, rfl, _, rfl, ?_⟩
    -- the error's way
    have bad : (∀ d H', H d = none → H' d = some (.xd [("value", v)]) → (∀ b o, H b = some o → H' b = some o) → E (.ref CN) (some d) H') →
        tMkO CN (spNI CN) [] (tCons (tVar 1) tNil) (start ["self", "size"] [V.ref p, v]) H (fun cls d H' => E cls d H') := by
      intro k
      refine ⟨_, rfl, by show 1 ≤ 1000; decide, fun a ha => ⟨a, v, rfl, upd_same, fun d hd hne => ⟨rfl, d, _, upd_same, by rw [upd_ne hne, upd_same], ?_, ?_⟩⟩⟩
      · rw [upd_ne hne] at hd
        exact hd
      · rw [upd_ne hne] at hd
        refine k d _ hd upd_same fun b o e => ?_
        have nb : b ≠ d := ne_of_none e hd
        have na : b ≠ a := ne_of_none e ha
        rw [upd_ne nb, del_ne na, upd_ne na, upd_ne nb, upd_ne na]
        exact e
    rcases k with ⟨z, rfl, hz, k⟩ | ⟨⟨hn, t, b1, ty, h1, h3⟩ | ⟨n, rfl, hn⟩, k⟩
    · cases z with
      | none => exact iteF (iteF ⟨_, rfl, _, rfl, p, C, dx, [], rfl, hp, T.cl, T.nS, (by show 0 < 1000; decide), k⟩)
      | some n =>
        have hn := hz n rfl
        refine iteT ⟨_, rfl, .int n, _, true, rfl, .base (.int n), kit_ii, _, rfl, iteF ⟨_, rfl, _, rfl, _, _, rfl, rfl, _, rfl, ?_⟩⟩
        refine ifF (decide_eq_false (by omega)) ?_
        exact ⟨_, rfl, _, rfl, p, C, dx, [], rfl, hp, T.cl, T.nS, (by show 0 < 1000; decide), k⟩
    · have e : (!decide (v = V.non)) = true := by simp [hn]
      refine ifT e ⟨_, rfl, v, t, b1, rfl, ty, h1, _, rfl, ?_⟩
      rw [h3]
      exact iteT (iteT (bad k))
    · refine iteT ⟨_, rfl, .int n, _, true, rfl, .base (.int n), kit_ii, _, rfl, iteF ⟨_, rfl, _, rfl, _, _, rfl, rfl, _, rfl, ?_⟩⟩
      refine ifT (decide_eq_true (by omega)) ?_
      exact bad k
end
end K18

set_option Elab.async false
set_option linter.all false
set_option maxRecDepth 100000
set_option maxHeartbeats 4000000
namespace K18
open PySem PySem.Spec PyProof.Rows L2 Lm
/-! ### a pool: two numbers from which the law draws -/
def PoolAt (H : Hp) (p : Addr) : Prop := ∃ x y : Int, H p = some (.lst [.int x, .int y]) ∧ 0 ≤ x ∧ 0 ≤ y ∧ y < 2147483647
/-- all but what lies at p stands -/
def But (p : Addr) (H H' : Hp) : Prop := ∀ b o, H b = some o → b ≠ p → H' b = some o
theorem But.trans {p : Addr} {H H1 H2 : Hp} (a : But p H H1) (b : But p H1 H2) : But p H H2 := fun c o e n => b c o (a c o e n) n
theorem But.upd {p : Addr} {H : Hp} {o : HO} : But p H (upd H p o) := fun b u e n => by rw [upd_ne n]; exact e
theorem But.same {p : Addr} {H H' : Hp} (s : Same H H') : But p H H' := fun b o e _ => s b o e
theorem same_new {H : Hp} {p : Addr} {o : HO} (h : H p = none) : Same H (upd H p o) := fun b u e => by rw [upd_ne (ne_of_none e h)]; exact e
theorem mod_b (a b : Int) (h : 0 < b) : 0 ≤ a % b ∧ a % b < b := ⟨Int.emod_nonneg a (by omega), Int.emod_lt_of_pos a h⟩

section
variable {P : Program} {w : World} {K : PySem.W.Frag} {mg : Str → Option Value} {base : Heap} {C CN fN pS fS fI fT : Addr}
/-- Limit(v) of a size -/
theorem mk_lim {H : Hp} {Q : VK} {E : XK} {v : V} {z : Option Int} (hv : v = vO z) (g : Good z) (k : ∀ r H', H r = none → LimAt C H' r z → Same H H' → Q (.ref r) H') :
    ∀ x dx, H x = none → H dx = none → dx ≠ x → spInit K C CN (.ref x :: ([v] ++ [])) (upd (upd H dx (.own x)) x (.ins C dx [])) (fun v H2 => v = .non ∧ Q (.ref x) H2) E := by
  subst hv
  intro x dx nx ndx ne
  refine ⟨x, dx, vO z, rfl, upd_same, .inl ⟨z, rfl, g, rfl, k x _ nx ⟨dx, upd_same⟩ fun b o e => ?_⟩⟩
  have n1 : b ≠ x := ne_of_none e nx
  rw [upd_ne n1, upd_ne n1, upd_ne (ne_of_none e ndx)]
  exact e
theorem good_min {z z' : Option Int} (g : Good z) (g' : Good z') : Good (minO z z') := by
  intro n e
  cases z with
  | none => exact g' n e
  | some a =>
    cases z' with
    | none => exact g n e
    | some b =>
      have ha := g a rfl
      have hb := g' b rfl
      have e : (if b < a then b else a) = n := Option.some.inj e
      split at e <;> omega
def spAnd (C : Addr) : Sp := fun vs H Q _ => ∃ p q z z', vs = [.ref p, .ref q] ∧ LimAt C H p z ∧ LimAt C H q z' ∧ Good z ∧ Good z' ∧ ∀ r H', H r = none → LimAt C H' r (minO z z') → Same H H' → Q (.ref r) H'
theorem scAnd : FnScope ["self", "other"] ["self", "other"] (defScope sAnd) := ⟨rfl, rfl, rfl, by decide +kernel, rfl, by decide +kernel, by decide +kernel⟩
theorem ok_and {f : Addr} {fd fdS fdI : FuncData} (F : Fun K "__and__" "Limit.__and__" sAnd f fd) (T : Txt K mg C CN fN pS fS) (GS : FnOk P w K mg base CX0 1 fS fdS ["self"] (spSize C)) (bS : Binds K fdS ["self"] [])
    (M : Mk K C fI) (GI : FnOk P w K mg base (L2.CX P w) 3 fI fdI ["self", "size"] (spInit K C CN)) (bI : Binds K fdI ["self", "size"] []) : FnOk P w K mg base CX0 5 f fd ["self", "other"] (spAnd C) := by
  refine F.ok scAnd (fun vs H Q E h => ?_) (fun cdv A outer s H vs Q E hr h => ?_)
  · obtain ⟨p, q, z, z', rfl, _⟩ := h
    rfl
  · obtain ⟨p, q, z, z', rfl, ⟨dx, h⟩, ⟨dy, h'⟩, g, g', k⟩ := h
    have hr2 : Room 2 _ := hr.mono (by decide)
    refine ⟨_, pss_cons (ps_if (pt_cmp (pc_isN (pe_fld (pv 0) rfl)))
        (pss_one (ps_ret (pe_make M GI hr rfl T.mgL bI .nil passF (pa_cons (pe_prop (pv 1) T.cl T.pS GS hr2 bS .nil pass0 rfl) pa_nil)))) pss_nil)
      (pss_one (ps_ret (pe_make M GI hr rfl T.mgL bI .nil passF (pa_cons (pe_ifExp (pt_cmp (pc_isN (pe_prop (pv 1) T.cl T.pS GS hr2 bS .nil pass0 rfl))) (pe_fld (pv 0) rfl)
        (pe_callB (call_min2 rfl) (by rfl) T.min_ (by decide +kernel) (pa_cons (pe_fld (pv 0) rfl) (pa_cons (pe_prop (pv 1) T.cl T.pS GS hr2 bS .nil pass0 rfl) pa_nil)))) pa_nil)))), ?_⟩
    refine ⟨_, rfl, p, C, dx, _, _, rfl, h, T.cl, T.nS, fld_get _, _, rfl, ?_⟩
    cases z with
    | none => exact iteT ⟨_, rfl, q, dy, _, rfl, h', q, dy, _, rfl, h', mk_lim (z := z') rfl g' k⟩
    | some a =>
      refine iteF ⟨_, rfl, q, dy, _, rfl, h', q, dy, _, rfl, h', _, rfl, ?_⟩
      cases z' with
      | none => exact iteT ⟨_, rfl, p, C, dx, _, _, rfl, h, T.cl, T.nS, fld_get _, mk_lim (z := some a) rfl g k⟩
      | some b =>
        exact iteF ⟨_, rfl, p, C, dx, _, _, rfl, h, T.cl, T.nS, fld_get _, _, rfl, q, dy, _, rfl, h', q, dy, _, rfl, h', _, _, rfl, mk_lim (z := minO (some a) (some b)) rfl (good_min g g') k⟩
/-! ### the law's own helpers -/
def spIsIn : Sp := fun vs H Q _ => ∃ c z, vs = [.int c, vO z] ∧ Q (.bl (inO z c)) H
theorem scIsIn : FnScope ["_law_count", "_law_size"] ["_law_count", "_law_size"] (defScope sIsIn) := ⟨rfl, rfl, rfl, by decide +kernel, rfl, by decide +kernel, by decide +kernel⟩
theorem ok_isIn {f : Addr} {fd : FuncData} (F : Fun K "_law_is_in" "_law_is_in" sIsIn f fd) : FnOk P w K mg base CX0 1 f fd ["_law_count", "_law_size"] spIsIn := by
  refine F.ok scIsIn (fun vs H Q E h => ?_) (fun cdv A outer s H vs Q E hr h => ?_)
  · obtain ⟨c, z, rfl, _⟩ := h
    rfl
  · obtain ⟨c, z, rfl, k⟩ := h
    refine ⟨_, pss_one (ps_ret (pe_or (pe_cmp (pc_isN (pv 1)) rfl) (pe_one (pe_cmpR op_le (pv 0) (pv 1) (nomark _))))), ?_⟩
    refine ⟨_, rfl, _, rfl, ?_⟩
    cases z with
    | none => exact iteT k
    | some n => exact iteF ⟨_, rfl, _, rfl, _, _, rfl, rfl, k⟩
def spPool (K : PySem.W.Frag) : Sp := fun vs H Q _ => ∃ (a : Addr) (k : Nat) (ns : List Int), vs = [.ref a, .int k] ∧ SqL K H a (ns.map V.int) ∧ k < 64 ∧ ∀ p H', H p = none → PoolAt H' p → Same H H' → Q (.ref p) H'
theorem scPool : FnScope ["_law_script", "_law_k", "_law_cell", "_law_mixed"] ["_law_script", "_law_k"] (defScope sPool) := ⟨rfl, rfl, rfl, by decide +kernel, rfl, by decide +kernel, by decide +kernel⟩
theorem ok_pool {f : Addr} {fd : FuncData} (F : Fun K "_law_pool" "_law_pool" sPool f fd) (T : Txt K mg C CN fN pS fS) : FnOk P w K mg base CX0 1 f fd ["_law_script", "_law_k"] (spPool K) := by
  refine F.ok scPool (fun vs H Q E h => ?_) (fun cdv A outer s H vs Q E hr h => ?_)
  · obtain ⟨a, k, ns, rfl, _⟩ := h
    rfl
  · obtain ⟨a, k, ns, rfl, hS, k1, q⟩ := h
    refine ⟨_, pss_cons (ps_set (i := 2) scPool.nd rfl (.inl rfl) pe_int)
      (pss_cons (ps_if (pt_cmpR op_lt (pv 1) (pe_callB call_len_seq (by rfl) T.len_ PySem.boot_len (pa_cons (pv 0) pa_nil)) (nomark _))
        (pss_one (ps_set (i := 2) scPool.nd rfl (.inl rfl) (pe_callB call_abs (by rfl) T.abs_ (by decide +kernel) (pa_cons (pe_ix ix_list (pv 0) (pv 1) (fun _ _ => rfl)) pa_nil)))) pss_nil)
      (pss_cons (ps_set (i := 3) scPool.nd rfl (.inl rfl) (pe_op op_mod (pe_callTy call_int1 (by rfl) T.int_ (by decide +kernel) (pa_cons (pe_op op_mul
        (pe_op op_add (pe_op op_add (pe_op op_add (pe_op op_mod (pe_callTy call_int1 (by rfl) T.int_ (by decide +kernel) (pa_cons (pv 2) pa_nil)) pe_int) (pe_op op_mul (pe_op op_mul pe_int (pv 1)) (pv 1))) (pe_op op_mul pe_int (pv 1))) pe_int) pe_int) pa_nil)) pe_int))
      (pss_one (ps_ret (pe_lst (pa_cons (pe_op op_mul (pv 2) (pe_callTy call_int1 (by rfl) T.int_ (by decide +kernel) (pa_cons (pe_cmpR op_ge (pv 2) (pe_op op_pow pe_int pe_int) (nomark _)) pa_nil)))
        (pa_cons (pe_op op_mod (pe_callTy call_int1 (by rfl) T.int_ (by decide +kernel) (pa_cons (pe_op op_mul (pv 3) (pv 3)) pa_nil)) pe_int) pa_nil))))))), ?_⟩
    have hk : (k : Int) < 64 := by omega
    refine ⟨_, rfl, _, rfl, a, _, rfl, .inl hS, _, _, rfl, rfl, _, rfl, ?_⟩
    -- the cell of the script, or nought: it is not negative
    have way : ∀ c : Int, 0 ≤ c → ∃ m x y : Int, m = ((c % 2147483629 + 7919 * k * k + 31 * k + 17) * 48271) % 2147483647 ∧ (0 ≤ m ∧ m < 2147483647) ∧ x = c * (if decide ((10 : Int) ^ (18 : Int).toNat ≤ c) = true then 1 else 0) ∧ 0 ≤ x ∧
        y = (m * m) % 2147483629 ∧ 0 ≤ y ∧ y < 2147483647 := by
      intro c hc
      refine ⟨_, _, _, rfl, mod_b _ _ (by decide), rfl, ?_, rfl, (mod_b _ _ (by decide)).1, ?_⟩
      · split
        · rw [Int.mul_one]
          exact hc
        · rw [Int.mul_zero]
          exact Int.le_refl 0
      · have := (mod_b (((c % 2147483629 + 7919 * k * k + 31 * k + 17) * 48271 % 2147483647) * ((c % 2147483629 + 7919 * k * k + 31 * k + 17) * 48271 % 2147483647)) 2147483629 (by decide)).2
        omega
    refine (fun (fin : ∀ c : Int, 0 ≤ c → (_ : TS) _ [some (.ref a), some (.int k), some (.int c), none] H) => ite2 (fun c0 => ?_) (fun c0 => fin 0 (by decide))) (fun c hc => ?_)
    · have hlt : k < (ns.map V.int).length := by
        have := of_decide_eq_true c0
        omega
      rw [List.length_map] at hlt
      have hix : (ns.map V.int)[k]? = some (V.int ns[k]) := by rw [List.getElem?_map, List.getElem?_eq_getElem hlt]; rfl
      refine ⟨_, rfl, _, rfl, a, _, _, _, rfl, rfl, hS, atI_nat hix, _, rfl, ?_⟩
      obtain ⟨c, hc, ec⟩ : ∃ c : Int, 0 ≤ c ∧ V.int c = V.int (if ns[k] < 0 then -ns[k] else ns[k]) := ⟨if ns[k] < 0 then -ns[k] else ns[k], by split <;> omega, rfl⟩
      rw [← ec]
      exact fin c hc
    · obtain ⟨m, x, y, em, hm, ex, hx, ey, hy⟩ := way c hc
      refine ⟨_, rfl, .inl ⟨_, rfl, _, _, rfl, rfl, (by show (0 : Int) < 2147483629; decide), _, rfl, _, _, rfl, rfl, .inl ⟨by decide, by decide⟩, _, rfl, _, _, rfl, rfl, .inl ⟨by omega, by omega⟩, _, _, rfl, rfl, _, rfl, _, _, rfl, rfl, .inl ⟨by decide, by decide⟩, _, _, rfl, rfl,
        _, _, rfl, rfl, _, _, rfl, rfl, .inr ⟨by decide, by decide⟩, .inl ⟨_, rfl, _, _, rfl, rfl, (by show (0 : Int) < 2147483647; decide), ?_⟩⟩⟩
      subst em
      refine ⟨_, rfl, _, rfl, _, _, rfl, rfl, ⟨by decide, by decide, by decide⟩, _, _, rfl, rfl, .inr ⟨_, rfl, _, _, rfl, rfl, .inr (by split <;> exact ⟨by decide, by decide⟩), _, rfl, _, rfl, _, _, rfl, rfl, .inl ⟨Int.lt_of_lt_of_le (by decide) hm.1, Int.lt_trans hm.2 (by decide)⟩, .inl ⟨_, rfl, _, _, rfl, rfl,
        (by show (0 : Int) < 2147483629; decide), (by show 2 ≤ sizeLine; decide), fun p hp => q p _ hp ⟨x, y, ?_, hx, hy⟩ (same_new hp)⟩⟩⟩
      subst ex
      subst ey
      exact upd_same
end
end K18

set_option Elab.async false
set_option linter.all false
set_option maxRecDepth 100000
set_option maxHeartbeats 4000000
namespace K18
open PySem PySem.Spec PyProof.Rows L2 Lm
section
variable {P : Program} {w : World} {K : PySem.W.Frag} {mg : Str → Option Value} {base : Heap} {C CN fN pS fS fI fT : Addr}
/-! ### a draw -/
def spTake : Sp := fun vs H Q _ => ∃ (p : Addr) (m : Int), vs = [.ref p, .int m] ∧ PoolAt H p ∧ 0 < m ∧ m.natAbs < 2 ^ 200 ∧ ∀ r H', 0 ≤ r → r < m → PoolAt H' p → But p H H' → Q (.int r) H'
theorem scTake : FnScope ["_law_pool_here", "_law_many", "_law_found"] ["_law_pool_here", "_law_many"] (defScope sTake) := ⟨rfl, rfl, rfl, by decide +kernel, rfl, by decide +kernel, by decide +kernel⟩
theorem ok_take {f : Addr} {fd : FuncData} (F : Fun K "_law_take" "_law_take" sTake f fd) (T : Txt K mg C CN fN pS fS) : FnOk P w K mg base CX0 1 f fd ["_law_pool_here", "_law_many"] spTake := by
  refine F.ok scTake (fun vs H Q E h => ?_) (fun cdv A outer s H vs Q E hr h => ?_)
  · obtain ⟨p, m, rfl, _⟩ := h
    rfl
  · obtain ⟨p, m, rfl, ⟨x, y, hp, hx, hy, hy2⟩, m0, mz, k⟩ := h
    refine ⟨_, pss_cons (ps_if (pt_cmpR op_gt (pe_ix ix_list (pv 0) pe_int (fun _ _ => rfl)) pe_int (nomark _))
        (pss_cons (ps_set (i := 2) scTake.nd rfl (.inl rfl) (pe_op op_mod (pe_callTy call_int1 (by rfl) T.int_ (by decide +kernel) (pa_cons (pe_ix ix_list (pv 0) pe_int (fun _ _ => rfl)) pa_nil)) (pv 1)))
        (pss_cons (ps_asg (pe_op op_fdivW (pe_callTy call_int1 (by rfl) T.int_ (by decide +kernel) (pa_cons (pe_ix ix_list (pv 0) pe_int (fun _ _ => rfl)) pa_nil)) (pv 1)) (pg_sub (pv 0) pe_int set_list))
        (pss_one (ps_ret (pv 2))))) pss_nil)
      (pss_cons (ps_asg (pe_op op_mod (pe_callTy call_int1 (by rfl) T.int_ (by decide +kernel) (pa_cons (pe_op op_add (pe_op op_mul (pe_ix ix_list (pv 0) pe_int (fun _ _ => rfl)) pe_int) pe_int) pa_nil)) pe_int) (pg_sub (pv 0) pe_int set_list))
      (pss_one (ps_ret (pe_op op_mod (pe_callTy call_int1 (by rfl) T.int_ (by decide +kernel) (pa_cons (pe_op op_fdiv (pe_op op_mod (pe_callTy call_int1 (by rfl) T.int_ (by decide +kernel)
        (pa_cons (pe_op op_mul (pe_ix ix_list (pv 0) pe_int (fun _ _ => rfl)) (pe_ix ix_list (pv 0) pe_int (fun _ _ => rfl))) pa_nil)) pe_int) pe_int) pa_nil)) (pv 1))))), ?_⟩
    have i0 : ∀ a b : Int, atI [V.int a, V.int b] 0 = some (.int a) := fun a b => atI_nat (j := 0) rfl
    have i1 : ∀ a b : Int, atI [V.int a, V.int b] 1 = some (.int b) := fun a b => atI_nat (j := 1) rfl
    refine ⟨_, rfl, p, _, _, _, rfl, rfl, SqL.of hp, i0 _ _, _, _, rfl, rfl, _, rfl, ?_⟩
    refine ite2 (fun c => ?_) (fun c => ?_)
    · refine ⟨_, rfl, p, _, _, _, rfl, rfl, SqL.of hp, i0 _ _, .inl ⟨_, rfl, _, rfl, _, _, rfl, rfl, m0, ?_⟩⟩
      refine ⟨_, rfl, p, _, _, _, rfl, rfl, SqL.of hp, i0 _ _, .inl ⟨_, rfl, _, rfl, _, _, rfl, rfl, wide_div m0 mz (by decide) (by decide), ?_⟩⟩
      refine ⟨_, rfl, p, _, _, 0, rfl, rfl, hp, rfl, ?_⟩
      obtain ⟨b0, b1⟩ := mod_b x m m0
      exact ⟨_, rfl, k _ _ b0 b1 ⟨_, y, upd_same, Int.ediv_nonneg hx (Int.le_of_lt m0), hy, hy2⟩ But.upd⟩
    · refine ⟨_, rfl, p, _, _, _, rfl, rfl, SqL.of hp, i1 _ _, _, _, rfl, rfl, .inr ⟨by decide, by decide⟩, _, _, rfl, rfl, .inl ⟨_, rfl, _, _, rfl, rfl, (by show (0 : Int) < 2147483647; decide), ?_⟩⟩
      obtain ⟨d0, d1⟩ := mod_b (y * 48271 + 12345) 2147483647 (by decide)
      refine ⟨_, rfl, p, _, _, 1, rfl, rfl, hp, rfl, ?_⟩
      have hq : upd H p (.lst ([V.int x, V.int y].set 1 (.int ((y * 48271 + 12345) % 2147483647)))) p = some (.lst [.int x, .int ((y * 48271 + 12345) % 2147483647)]) := upd_same
      refine ⟨_, rfl, p, _, _, _, rfl, rfl, SqL.of hq, i1 _ _, _, rfl, p, _, _, _, rfl, rfl, SqL.of hq, i1 _ _, _, _, rfl, rfl, .inl ⟨Int.lt_of_lt_of_le (by decide) d0, Int.lt_trans d1 (by decide)⟩,
        .inl ⟨_, rfl, _, _, rfl, rfl, (by show (0 : Int) < 2147483629; decide), _, _, rfl, rfl, ⟨by decide, by decide⟩, .inl ⟨_, rfl, _, rfl, _, _, rfl, rfl, m0, ?_⟩⟩⟩
      exact k _ _ (mod_b _ m m0).1 (mod_b _ m m0).2 ⟨x, _, hq, hx, d0, d1⟩ But.upd
def spDrawn : Sp := fun vs H Q _ => ∃ p, vs = [.ref p] ∧ PoolAt H p ∧ ∀ z H', Good z → PoolAt H' p → But p H H' → Q (vO z) H'
theorem scDrawn : FnScope ["_law_pool_here", "_law_some"] ["_law_pool_here"] (defScope sDrawn) := ⟨rfl, rfl, rfl, by decide +kernel, rfl, by decide +kernel, by decide +kernel⟩
theorem ok_drawn {f : Addr} {fd fdT : FuncData} (F : Fun K "_law_drawn" "_law_drawn" sDrawn f fd) (GT : FnOk P w K mg base CX0 1 fT fdT ["_law_pool_here", "_law_many"] spTake) (bT : Binds K fdT ["_law_pool_here", "_law_many"] [])
    (mT : mg "_law_take" = some (.ref fT)) (kT : PySem.W.keepIn K (.ref fT) = true) : FnOk P w K mg base CX0 2 f fd ["_law_pool_here"] spDrawn := by
  refine F.ok scDrawn (fun vs H Q E h => ?_) (fun cdv A outer s H vs Q E hr h => ?_)
  · obtain ⟨p, rfl, _⟩ := h
    rfl
  · obtain ⟨p, rfl, hp, k⟩ := h
    refine ⟨_, pss_cons (ps_set (i := 1) scDrawn.nd rfl (.inl rfl) (pe_lst (pa_cons pe_non (pa_cons (pe_un un_neg pe_int) (pa_cons pe_int
        (pa_cons (pe_call GT hr rfl mT kT bT .nil pass0 (pa_cons (pv 0) (pa_cons pe_int pa_nil)))
        (pa_cons (pe_op op_sub (pe_op op_sub (pe_op op_pow pe_int pe_int) pe_int) (pe_call GT hr rfl mT kT bT .nil pass0 (pa_cons (pv 0) (pa_cons pe_int pa_nil))))
        (pa_cons (pe_call GT hr rfl mT kT bT .nil pass0 (pa_cons (pv 0) (pa_cons (pe_op op_sub (pe_op op_pow pe_int pe_int) pe_int) pa_nil))) pa_nil))))))))
      (pss_one (ps_ret (pe_ix ix_list (pv 1) (pe_call GT hr rfl mT kT bT .nil pass0 (pa_cons (pv 0) (pa_cons pe_int pa_nil))) (fun _ _ => rfl)))), ?_⟩
    refine ⟨_, rfl, _, rfl, p, 9, rfl, hp, by decide, by decide, fun r1 H1 a0 a1 hp1 t1 => ?_⟩
    refine ⟨_, _, rfl, rfl, ⟨by decide, by decide, by decide⟩, _, _, rfl, rfl, _, rfl, p, 9, rfl, hp1, by decide, by decide, fun r2 H2 b0 b1 hp2 t2 => ?_⟩
    refine ⟨_, _, rfl, rfl, _, rfl, _, _, rfl, rfl, ⟨by decide, by decide, by decide⟩, _, _, rfl, rfl, p, _, rfl, hp2, by decide, by decide, fun r3 H3 c0 c1 hp3 t3 => ?_⟩
    refine ⟨(by show 6 ≤ sizeLine; decide), fun l nl => ?_⟩
    have npl : p ≠ l := fun e => by
      obtain ⟨_, _, e1, _⟩ := hp3
      rw [e, nl] at e1
      cases e1
    obtain ⟨x3, y3, e3, hx3, hy3, hz3⟩ := hp3
    refine ⟨_, rfl, _, rfl, p, 6, rfl, ⟨x3, y3, by rw [upd_ne npl]; exact e3, hx3, hy3, hz3⟩, by decide, by decide, fun r4 H4 d0 d1 hp4 t4 => ?_⟩
    have hl := t4 l _ upd_same (Ne.symm npl)
    have tt : But p H H4 := fun b o e nb => t4 b o (by
      have e' := t3 b o (t2 b o (t1 b o e nb) nb) nb
      rw [upd_ne (ne_of_none e' nl)]
      exact e') nb
    have six : r4 = 0 ∨ r4 = 1 ∨ r4 = 2 ∨ r4 = 3 ∨ r4 = 4 ∨ r4 = 5 := by omega
    rcases six with rfl | rfl | rfl | rfl | rfl | rfl
    · exact ⟨l, _, _, _, rfl, rfl, SqL.of hl, atI_nat (j := 0) rfl, k none _ (fun _ e => nomatch e) hp4 tt⟩
    · exact ⟨l, _, _, _, rfl, rfl, SqL.of hl, atI_nat (j := 1) rfl, k (some (-1)) _ (fun n e => by cases e; decide) hp4 tt⟩
    · exact ⟨l, _, _, _, rfl, rfl, SqL.of hl, atI_nat (j := 2) rfl, k (some 0) _ (fun n e => by cases e; decide) hp4 tt⟩
    · exact ⟨l, _, _, _, rfl, rfl, SqL.of hl, atI_nat (j := 3) rfl, k (some r1) _ (fun n e => by cases e; omega) hp4 tt⟩
    · have g4 : Good (some ((10 : Int) ^ (30 : Int).toNat - 1 - r2)) := by
        intro n e
        cases e
        have : (10 : Int) ^ (30 : Int).toNat = 1000000000000000000000000000000 := by decide
        omega
      exact ⟨l, _, _, _, rfl, rfl, SqL.of hl, atI_nat (j := 4) rfl, k _ _ g4 hp4 tt⟩
    · exact ⟨l, _, _, _, rfl, rfl, SqL.of hl, atI_nat (j := 5) rfl, k (some r3) _ (fun n e => by cases e; omega) hp4 tt⟩
/-! ### what is refused -/
def spRef (K : PySem.W.Frag) : Sp := fun vs H Q _ => ∃ v, vs = [v] ∧ (∀ H', Same H H' → Bad K H' v ∧ ∃ t, Shown K H' v t) ∧ ∀ H', Same H H' → Q (.bl true) H'
theorem scRef : FnScope ["_law_odd", "e"] ["_law_odd"] (defScope sRef) := ⟨rfl, rfl, rfl, by decide +kernel, rfl, by decide +kernel, by decide +kernel⟩
def t_suite (K : PySem.W.Frag) (CN : Addr) : Addr → Value → Option Addr → TS := fun a cls d => tRet (tOp rEq (tCB (rRepr K) (tCons (tXf a cls d CN "value" (tVar 1)) tNil)) (tCB (rRepr K) (tCons (tVar 0) tNil)))
theorem ok_ref {f : Addr} {fd fdI : FuncData} (F : Fun K "_law_refused" "_law_refused" sRef f fd) (T : Txt K mg C CN fN pS fS) (M : Mk K C fI) (GI : FnOk P w K mg base (L2.CX P w) 3 fI fdI ["self", "size"] (spInit K C CN)) (bI : Binds K fdI ["self", "size"] []) :
    FnG P w K mg base CX0 5 f fd ["_law_odd"] (spRef K) := by
  refine FnG.ok F scRef (fun vs H Q E h => ?_) (fun cdv A outer s H vs Q E hgA hr h => ?_)
  · obtain ⟨v, rfl, _⟩ := h
    rfl
  · obtain ⟨v, rfl, hv, k⟩ := h
    have hg := guards_deeper (envOfC "_law_refused" (defScope sRef) s.heap.objs.size f cdv) hgA
    have hu : (A.deeper (envOfC "_law_refused" (defScope sRef) s.heap.objs.size f cdv)).units + 64 < cLine := by have := hr.un; omega
    refine ⟨_, pss_cons (ps_try_as (i := 1) (tb := fun W => tDrop (tMakeS C (spInit K C CN) (WE W) (tCons (tVar 0) tNil))) (ts := t_suite K CN) (Wout := fun _ _ _ _ => False) rfl rfl scRef.nd rfl rfl ⟨rfl, by decide, .inl T.mgN⟩ takes0
        (fun W pn xe tk _ => pss_one (ps_expr (pe_makeS M GI hr rfl T.mgL bI (fun σ => passAt tk σ) (pa_cons (pv 0) pa_nil))))
        (fun a oe cls d pn hz hf => pss_one (ps_ret (pe_cmpR op_eq (pe_callB (call_reprS hg hu) (by rfl) T.rep (by decide +kernel) (pa_cons (pe_xf T.xf T.nV hz hf (pv 1)) pa_nil)) (pe_callB (call_reprS hg hu) (by rfl) T.rep (by decide +kernel) (pa_cons (pv 0) pa_nil)) (nomark _)))))
      (pss_one (ps_ret pe_bl)), ?_⟩
    refine ⟨_, rfl, fun a dx na ndx ne => ⟨a, dx, v, rfl, upd_same, .inr ⟨(hv _ ?_).1, fun d H' nd hd s' => ⟨true, T.te, fun _ a0 _ => ?_, fun q => Bool.noConfusion q⟩⟩⟩⟩
    · intro b o e
      rw [upd_ne (ne_of_none e na), upd_ne (ne_of_none e ndx)]
      exact e
    · have sm : Same H H' := fun b o e => s' b o (by
        rw [upd_ne (ne_of_none e na), upd_ne (ne_of_none e ndx)]
        exact e)
      obtain ⟨t, ht⟩ := (hv H' sm).2
      have lk : List.lookup ("value" : Str) [(("value" : Str), v)] = some v := by simp [List.lookup]
      refine ⟨_, rfl, rfl, rfl, d, _, v, rfl, hd, lk, v, t, rfl, ht, _, rfl, v, t, rfl, ht, rfl, ?_⟩
      have e : decide (V.str t = V.str t) = true := by simp
      show Q (.bl (decide (V.str t = V.str t))) H'
      rw [e]
      exact k H' sm
end
end K18

set_option Elab.async false
set_option linter.all false
set_option maxRecDepth 100000
set_option maxHeartbeats 16000000
namespace K18
open PySem PySem.Spec PyProof.Rows L2 Lm
/-! ### small readings -/
def rGe0 : R2 := rI0 fun i j => .bl (decide (j ≤ i))
def ge0 : Option Int → Bool
  | none => true
  | some n => decide (0 ≤ n)
theorem rd_ge {K : PySem.W.Frag} {σ : L2.St} {H : Hp} {Q : VK} {i : Nat} {z : Option Int} (h : σ[i]? = some (some (vO z))) (q : Q (.bl (ge0 z)) H) : tOrV (tIsN (tVar i)) (tOp rGe0 (tVar i) (tC (.int 0))) σ H Q := by
  cases z with
  | none => exact ⟨_, h, _, rfl, iteT q⟩
  | some n => exact ⟨_, h, _, rfl, iteF ⟨_, h, _, _, rfl, rfl, q⟩⟩
def orZ (z : Option Int) : Int := z.getD 0
theorem rd_or {K : PySem.W.Frag} {σ : L2.St} {H : Hp} {Q : VK} {i : Nat} {z : Option Int} (h : σ[i]? = some (some (vO z))) (q : Q (.int (orZ z)) H) : tOrT K (tVar i) (tC (.int 0)) σ H Q := by
  cases z with
  | none => exact ⟨_, h, false, rfl, iteF q⟩
  | some n =>
    refine ⟨_, h, n != 0, rfl, ?_⟩
    by_cases e : n = 0
    · subst e
      exact iteF q
    · exact ifT (by simpa using e) q
theorem ge_bool {z : Option Int} (g : Good z) : decide (z = some (-1)) = !ge0 z := by
  cases z with
  | none => rfl
  | some n =>
    have := g n rfl
    by_cases e : n = -1
    · subst e
      decide
    · have h1 : decide (some n = some (-1)) = false := by simp [e]
      have h2 : ge0 (some n) = true := decide_eq_true (by omega)
      rw [h1, h2]
      rfl
theorem minO_comm (a b : Option Int) : minO a b = minO b a := by
  cases a <;> cases b <;> simp only [minO]
  rename_i x y
  by_cases h : y < x
  · rw [if_pos h, if_neg (by omega)]
  · by_cases h2 : x < y
    · rw [if_neg h, if_pos h2]
    · have : x = y := by omega
      subst this
      rfl
theorem le_min1 (a b : Option Int) : leO (minO a b) a = true := by
  cases a <;> cases b <;> simp only [minO, leO]
  · rename_i x
    exact decide_eq_true (Int.le_refl x)
  · rename_i x y
    refine decide_eq_true ?_
    split <;> omega
theorem le_min2 (a b : Option Int) : leO (minO a b) b = true := by rw [minO_comm]; exact le_min1 b a
def allN (a b : Option Int) : List Int := a.toList ++ b.toList
theorem bl_ne (b : Bool) : (!decide (V.bl b = V.bl b)) = false := by simp
theorem str_ne (b : Str) : (!decide (V.str b = V.str b)) = false := by simp
theorem vO_ne (z : Option Int) : (!decide (vO z = vO z)) = false := by simp

structure Text (P : Program) (w : World) (K : PySem.W.Frag) (mg : Str → Option Value) (base : Heap) (C CN fN pS fS fI : Addr) : Prop where
  T : Txt K mg C CN fN pS fS
  M : Mk K C fI
  GI : ∃ fd, FnOk P w K mg base (L2.CX P w) 3 fI fd ["self", "size"] (spInit K C CN) ∧ Binds K fd ["self", "size"] []
  GS : ∃ fd, FnOk P w K mg base CX0 1 fS fd ["self"] (spSize C) ∧ Binds K fd ["self"] []
  GB : ∃ f fd, FnOk P w K mg base CX0 1 f fd ["self"] (spBool C) ∧ Binds K fd ["self"] [] ∧ PySem.W.findIn K (.ref C) "__bool__" = some (some (.ref f)) ∧ PySem.W.isFn K (.ref f) = true
  GC : ∃ f fd, FnOk P w K mg base CX0 1 f fd ["self", "x"] (spIn C) ∧ Binds K fd ["self", "x"] [] ∧ PySem.W.findIn K (.ref C) "__contains__" = some (some (.ref f)) ∧ PySem.W.isFn K (.ref f) = true
  GA : ∃ f fd, FnOk P w K mg base CX0 5 f fd ["self", "other"] (spAnd C) ∧ Binds K fd ["self", "other"] [] ∧ PySem.W.findIn K (.ref C) (PySem.dunder Operator.BitAnd.info.2) = some (some (.ref f)) ∧ PySem.W.isFn K (.ref f) = true
  sf : PySem.W.selfFirst K C = true
  GE : ∃ f fd, FnOk P w K mg base CX0 1 f fd ["self", "other"] (spEq C) ∧ Binds K fd ["self", "other"] [] ∧ PySem.W.findIn K (.ref C) "__eq__" = some (some (.ref f)) ∧ PySem.W.isFn K (.ref f) = true
  ne : PySem.W.findIn K (.ref C) "__ne__" = some (some (.builtin "object.__ne__"))
  nI : PySem.W.notFirst K C (.type "int") = true
  nN : PySem.W.notFirst K C (.type "NoneType") = true
  GW : ∃ f fd, FnOk P w K mg base CX0 3 f fd ["self", "other"] (spWithin C) ∧ Binds K fd ["self", "other"] [] ∧ Meth K C "is_within" f
  GP : ∃ f fd, FnOk P w K mg base CX0 1 f fd ["_law_script", "_law_k"] (spPool K) ∧ Binds K fd ["_law_script", "_law_k"] [] ∧ mg "_law_pool" = some (.ref f) ∧ PySem.W.keepIn K (.ref f) = true
  GT : ∃ f fd, FnOk P w K mg base CX0 1 f fd ["_law_pool_here", "_law_many"] spTake ∧ Binds K fd ["_law_pool_here", "_law_many"] [] ∧ mg "_law_take" = some (.ref f) ∧ PySem.W.keepIn K (.ref f) = true
  GD : ∃ f fd, FnOk P w K mg base CX0 2 f fd ["_law_pool_here"] spDrawn ∧ Binds K fd ["_law_pool_here"] [] ∧ mg "_law_drawn" = some (.ref f) ∧ PySem.W.keepIn K (.ref f) = true
  GIs : ∃ f fd, FnOk P w K mg base CX0 1 f fd ["_law_count", "_law_size"] spIsIn ∧ Binds K fd ["_law_count", "_law_size"] [] ∧ mg "_law_is_in" = some (.ref f) ∧ PySem.W.keepIn K (.ref f) = true
  GR : ∃ f fd, FnG P w K mg base CX0 5 f fd ["_law_odd"] (spRef K) ∧ Binds K fd ["_law_odd"] [] ∧ mg "_law_refused" = some (.ref f) ∧ PySem.W.keepIn K (.ref f) = true
section
variable {P : Program} {w : World} {K : PySem.W.Frag} {mg : Str → Option Value} {base : Heap} {C CN fN pS fS fI : Addr}
def spLaw (K : PySem.W.Frag) : Sp := fun vs H Q _ => ∃ (a : Addr) (ns : List Int), vs = [.ref a] ∧ SqL K H a (ns.map V.int) ∧ ns.length ≤ 63 ∧ ∀ H', Q (.bl true) H'
def NL : List Str := ["_law_script", "_law_odd", "_law_k", "_law_pool_here", "_law_turn", "_law_one", "_law_two", "_law_first", "_law_second", "_law_count", "_law_least", "_law_both", "_law_size"]
theorem scLaw : FnScope NL ["_law_script"] (defScope sLaw) := ⟨rfl, rfl, rfl, by decide +kernel, rfl, by decide +kernel, by decide +kernel⟩
/-- the odd values -/
def odds (l t d : Addr) : List V := [.bl true, .bl false, .int (-2), .str "1", .ref l, .ref t, .ref d, .int (0 - 10 ^ 20)]
theorem odd_ok {H : Hp} {l t d : Addr} (hl : H l = some (.lst [.int 1])) (ht : H t = some (.tup [.int 1])) (hd : H d = some (.dK [])) {y : V} (hy : y ∈ odds l t d) : ∀ H', Same H H' → Bad K H' y ∧ ∃ t, Shown K H' y t := by
  intro H' s
  have e1 := s _ _ hl
  have e2 := s _ _ ht
  have e3 := s _ _ hd
  have d1 : PyData.shown (.list [.int 1]) = PyData.shown (.list [.int 1]) := rfl
  simp only [odds, List.mem_cons, List.mem_nil_iff, or_false] at hy
  rcases hy with rfl | rfl | rfl | rfl | rfl | rfl | rfl | rfl
  · exact ⟨.inl ⟨by simp, _, true, .base (.bl true), kit_ty (by decide +kernel), rfl⟩, _, .bl true⟩
  · exact ⟨.inl ⟨by simp, _, true, .base (.bl false), kit_ty (by decide +kernel), rfl⟩, _, .bl false⟩
  · exact ⟨.inr ⟨-2, rfl, by decide⟩, _, .int _ (by decide +kernel)⟩
  · exact ⟨.inl ⟨by simp, _, false, .base (.str "1"), kit_ty (by decide +kernel), rfl⟩, _, .str _ (by decide +kernel)⟩
  · exact ⟨.inl ⟨by simp, _, false, .base (.lst e1), kit_ty (by decide +kernel), rfl⟩, _, .dat (.lst (SqL.of e1) (.cons (.int 1) .nil)) (by decide) (by decide +kernel) (by decide) (by decide +kernel)⟩
  · exact ⟨.inl ⟨by simp, _, false, .base (.tup e2), kit_ty (by decide +kernel), rfl⟩, _, .dat (.tup (SqT.of e2) (.cons (.int 1) .nil)) (by decide) (by decide +kernel) (by decide) (by decide +kernel)⟩
  · exact ⟨.inl ⟨by simp, _, false, .base (.dK e3), kit_ty (by decide +kernel), rfl⟩, _, .emp e3⟩
  · exact ⟨.inr ⟨0 - 10 ^ 20, rfl, by decide⟩, _, .int _ (by decide +kernel)⟩
theorem allN_min (z1 z2 : Option Int) (m : Int) (hm : m ∈ allN z1 z2) (hle : ∀ y, y ∈ allN z1 z2 → m ≤ y) : minO z1 z2 = some m := by
  cases z1 with
  | none => cases z2 with
    | none => simp [allN] at hm
    | some b =>
      simp [allN] at hm
      rw [hm]
      rfl
  | some a => cases z2 with
    | none =>
      simp [allN] at hm
      rw [hm]
      rfl
    | some b =>
      have h1 := hle a (by simp [allN])
      have h2 := hle b (by simp [allN])
      simp [allN] at hm
      show some (if b < a then b else a) = some m
      congr 1
      rcases hm with rfl | rfl
      · rw [if_neg (by omega)]
      · by_cases e : m < a
        · rw [if_pos e]
        · rw [if_neg e]
          omega
theorem dp_ints {H : Hp} : ∀ ns : List Int, DpAll K H (ns.map V.int) (ns.map PyData.int)
  | [] => .nil
  | n :: r => .cons (.int n) (dp_ints r)
theorem rd_least {σ : L2.St} {H : Hp} {Q : VK} {D : Addr} {z1 z2 : Option Int} (h : σ[10]? = some (some (.ref D))) (e : H D = some (.lst ((allN z1 z2).map V.int))) (q : ∀ H', Same H H' → Q (vO (minO z1 z2)) H') :
    tIf (tTest (tOp (rNeD K) (tVar 10) (tLst tNil))) (tCB (rMin K) (tCons (tVar 10) tNil)) (tC .non) σ H Q := by
  refine ⟨_, h, (by show 0 ≤ sizeLine; decide), fun le nle => ?_⟩
  have s := same_new (o := .lst []) nle
  have e' := s _ _ e
  refine ⟨.list ((allN z1 z2).map PyData.int), .list [], .lst (SqL.of e') (dp_ints _), .lst (SqL.of upd_same) .nil, ?_, (by decide), _, rfl, ?_⟩
  · cases z1 <;> cases z2 <;> rfl
  · cases hn : allN z1 z2 with
    | nil =>
      have m0 : minO z1 z2 = none := by
        cases z1 with
        | none => cases z2 with
          | none => rfl
          | some b => simp [allN] at hn
        | some a => simp [allN] at hn
      refine ifF (by rfl) ?_
      have := q _ s
      rw [m0] at this
      exact this
    | cons n r =>
      refine ifT (by rfl) ⟨_, h, D, allN z1 z2, rfl, SqL.of e', (by rw [hn]; simp), fun m hm hle => ?_⟩
      have := q _ s
      rw [allN_min z1 z2 m hm hle] at this
      exact this
theorem rd_w {σ : L2.St} {H : Hp} {Q : VK} {z1 z2 : Option Int} (h5 : σ[5]? = some (some (vO z1))) (h6 : σ[6]? = some (some (vO z2))) (q : Q (.bl (leO z1 z2)) H) :
    tIf (tB (tNotN (tVar 5))) (tCall spIsIn [] E0 (tCons (tVar 5) (tCons (tVar 6) tNil))) (tIsN (tVar 6)) σ H Q := by
  refine ⟨_, h5, _, rfl, ?_⟩
  cases z1 with
  | none =>
    refine iteF ⟨_, h6, ?_⟩
    cases z2 <;> exact q
  | some a =>
    refine iteT ⟨_, h5, _, h6, a, z2, rfl, ?_⟩
    cases z2 <;> exact q
theorem right_vO {H : Hp} (nI : PySem.W.notFirst K C (.type "int") = true) (nN : PySem.W.notFirst K C (.type "NoneType") = true) (z : Option Int) : Right K C H (vO z) := by
  cases z with
  | none => exact .non nN
  | some n => exact .int n nI
theorem eqTo_vO {H : Hp} (z z' : Option Int) : eqTo C H z (vO z') false := by
  cases z' with
  | none => exact .inr ⟨.inl rfl, rfl⟩
  | some n => exact .inr ⟨.inr ⟨n, rfl⟩, rfl⟩
/-- Limit(v) of a size, what follows as it stands -/
theorem mk_limR {H : Hp} {R : Addr → Hp → Prop} {E : XK} {v : V} {z : Option Int} (hv : v = vO z) (g : Good z) (k : ∀ r H', H r = none → LimAt C H' r z → Same H H' → R r H') :
    ∀ x dx, H x = none → H dx = none → dx ≠ x → spInit K C CN (.ref x :: ([v] ++ [])) (upd (upd H dx (.own x)) x (.ins C dx [])) (fun v H2 => v = .non ∧ R x H2) E := by
  subst hv
  intro x dx nx ndx ne
  refine ⟨x, dx, vO z, rfl, upd_same, .inl ⟨z, rfl, g, rfl, k x _ nx ⟨dx, upd_same⟩ fun b o e => ?_⟩⟩
  have n1 : b ≠ x := ne_of_none e nx
  rw [upd_ne n1, upd_ne n1, upd_ne (ne_of_none e ndx)]
  exact e
end
end K18

set_option Elab.async false
set_option linter.all false
set_option maxRecDepth 100000
set_option maxHeartbeats 32000000
namespace K18
open PySem PySem.Spec PyProof.Rows L2 Lm
section
variable {P : Program} {w : World} {K : PySem.W.Frag} {mg : Str → Option Value} {base : Heap} {C CN fN pS fS fI : Addr}
theorem LimAt.but {H H' : Hp} {p r : Addr} {z : Option Int} (h : LimAt C H r z) (s : But p H H') (n : r ≠ p) : LimAt C H' r z := let ⟨dx, e⟩ := h; ⟨dx, s _ _ e n⟩
theorem ok_law {f : Addr} {fd : FuncData} (F : Fun K "law" "law" sLaw f fd) (X : Text P w K mg base C CN fN pS fS fI) : FnG P w K mg base CX0 6 f fd ["_law_script"] (spLaw K) := by
  obtain ⟨T, M, ⟨fdI, GI, bI⟩, ⟨fdS, GS, bS⟩, ⟨fB, fdB, GB, bB, sB, iB⟩, ⟨fC, fdC, GC, bC, sC, iC⟩, ⟨fA, fdA, GA, bA, sA, iA⟩, sf, ⟨fE, fdE, GE, bE, sE, iE⟩, ne, nI, nN, ⟨fW, fdW, GW, bW, mW⟩,
    ⟨fP, fdP, GP, bP, mP, kP⟩, ⟨fT, fdT, GT, bT, mT, kT⟩, ⟨fD, fdD, GD, bD, mD, kD⟩, ⟨fX, fdX, GX, bX, mX, kX⟩, ⟨fR, fdR, GR, bR, mR, kR⟩⟩ := X
  refine FnG.ok F scLaw (fun vs H Q E h => ?_) (fun cdv A outer s H vs Q E hgA hr h => ?_)
  · obtain ⟨a, ns, rfl, _⟩ := h
    rfl
  · obtain ⟨a, ns, rfl, hS, hlen, k⟩ := h
    have hg := guards_deeper (envOfC "law" (defScope sLaw) s.heap.objs.size f cdv) hgA
    have hu : (A.deeper (envOfC "law" (defScope sLaw) s.heap.objs.size f cdv)).units + 64 < cLine := by have := hr.un; omega
    have hr4 : Room 4 _ := hr.mono (by decide)
    have hr3 : Room 3 _ := hr.mono (by decide)
    have hr2 : Room 2 _ := hr.mono (by decide)
    have hr1 : Room 1 _ := hr.mono (by decide)
    refine ⟨_, pss_cons (ps_for PassesOwn.never rfl (pi_list (pe_lst (pa_cons pe_bl (pa_cons pe_bl (pa_cons (pe_un un_neg pe_int) (pa_cons pe_str (pa_cons (pe_lst (pa_cons pe_int pa_nil)) (pa_cons (pe_tup (pa_cons pe_int pa_nil)) (pa_cons pe_dnewK
        (pa_cons (pe_op op_sub pe_int (pe_op op_pow pe_int pe_int)) pa_nil)))))))))) (pg_name (i := 1) scLaw.nd rfl (.inl rfl))
        (pss_one (ps_if (pt_not (pt_val (pe_callG GR hg hr rfl mR kR bR pass0 (pa_cons (pv 1) pa_nil)))) (pss_one (ps_ret pe_bl)) pss_nil)))
      (pss_cons (ps_for PassesOwn.never rfl (pi_range1 (by rfl) T.rng (pa_cons (pe_callB (call_max2 rfl) (by rfl) T.max_ (by decide +kernel) (pa_cons pe_int (pa_cons (pe_callB (call_min2 rfl) (by rfl) T.min_ (by decide +kernel)
          (pa_cons pe_int (pa_cons (pe_callB call_len_seq (by rfl) T.len_ PySem.boot_len (pa_cons (pv 0) pa_nil)) pa_nil))) pa_nil))) pa_nil)) (pg_name (i := 2) scLaw.nd rfl (.inl rfl))
        (pss_cons (ps_set (i := 3) scLaw.nd rfl (.inl rfl) (pe_call GP hr1 rfl mP kP bP .nil pass0 (pa_cons (pv 0) (pa_cons (pv 2) pa_nil))))
        (pss_one (ps_for PassesOwn.never rfl (pi_range1 (by rfl) T.rng (pa_cons pe_int pa_nil)) (pg_name (i := 4) scLaw.nd rfl (.inl rfl))
          -- one, two; first, second
          (pss_cons (ps_par (i := 5) (j := 6) (by rfl) scLaw.nd rfl rfl (by decide) rfl rfl (pa_cons (pe_call GD hr2 rfl mD kD bD .nil pass0 (pa_cons (pv 3) pa_nil)) (pa_cons (pe_call GD hr2 rfl mD kD bD .nil pass0 (pa_cons (pv 3) pa_nil)) pa_nil)) (by rfl))
          (pss_cons (ps_par (i := 7) (j := 8) (by rfl) scLaw.nd rfl rfl (by decide) rfl rfl (pa_cons (pe_make M GI hr4 rfl T.mgL bI .nil passF (pa_cons (pv 5) pa_nil)) (pa_cons (pe_make M GI hr4 rfl T.mgL bI .nil passF (pa_cons (pv 6) pa_nil)) pa_nil)) (by rfl))
          (pss_cons (ps_if (PW.pt (pw_or (pt_cmpR op_ne (pe_prop (pv 7) T.cl T.pS GS hr2 bS .nil pass0 rfl) (pv 5) (nomark _))
              (pw_or1 (pt_cmpR op_ne (pe_callTy (call_boolO GB sB iB bB hr2 pass0) (by rfl) T.bool_ (by decide +kernel) (pa_cons (pv 7) pa_nil)) (pe_or (pe_cmp (pc_isN (pv 5)) rfl) (pe_one (pe_cmpR op_ge (pv 5) pe_int (nomark _)))) (nomark _)))))
              (pss_one (ps_ret pe_bl)) pss_nil)
          -- for count in ..
          (pss_cons (ps_for PassesOwn.never rfl (pi_list (pe_lst (pa_cons (pe_un un_neg pe_int) (pa_cons (pe_un un_neg pe_int) (pa_cons pe_int (pa_cons pe_int (pa_cons (pe_call GT hr1 rfl mT kT bT .nil pass0 (pa_cons (pv 3) (pa_cons pe_int pa_nil)))
              (pa_cons (pe_op op_pow pe_int pe_int) (pa_cons (pe_orT (pv 5) (pe_one pe_int)) (pa_cons (pe_op op_add (pe_orT (pv 5) (pe_one pe_int)) pe_int) pa_nil)))))))))) (pg_name (i := 9) scLaw.nd rfl (.inl rfl))
              (pss_one (ps_if (pt_cmpR op_ne (pe_callB (call_reprS hg hu) (by rfl) T.rep (by decide +kernel) (pa_cons (pe_cmpR (op_inO GC sC iC bC hr1 pass0) (pv 9) (pv 7) (by rfl)) pa_nil))
                  (pe_callB (call_reprS hg hu) (by rfl) T.rep (by decide +kernel) (pa_cons (pe_call GX hr1 rfl mX kX bX .nil pass0 (pa_cons (pv 9) (pa_cons (pv 5) pa_nil))) pa_nil)) (nomark _)) (pss_one (ps_ret pe_bl)) pss_nil)))
          (pss_cons (ps_setLc (i := 10) (own := [("_law_size", 12)]) (g := gName 12) rfl scLaw.nd rfl rfl (sw_true rfl rfl rfl (by decide +kernel)) (pi_list (pe_lst (pa_cons (pv 5) (pa_cons (pv 6) pa_nil)))) (blkOk_by (N := NL) (sc := defScope sLaw) (by decide +kernel))
              (fun _ _ _ _ _ => pg_name (i := 12) scLaw.nd rfl (Or.inl rfl)) (fun _ _ _ _ _ => pts_one (pt_cmp (pc_notN (pv 12)))) (fun _ _ _ _ _ => pv 12))
          (pss_cons (ps_set (i := 11) scLaw.nd rfl (.inl rfl) (pe_op (op_binO GA sA iA sf bA hr pass0) (pv 7) (pv 8)))
          (pss_cons (ps_if (PW.pt (pw_or (pt_cmpR op_ne (pe_prop (pv 11) T.cl T.pS GS hr2 bS .nil pass0 rfl) (pe_ifExp (pt_cmpR (op_neD hu) (pv 10) (pe_lst pa_nil) (nomark _)) (pe_callB (cr_min rfl) (by rfl) T.min_ (by decide +kernel) (pa_cons (pv 10) pa_nil)) pe_non) (nomark _))
              (pw_or (pt_cmpR (op_neO GE ne T.hm sE iE bE hr2 pass0) (pv 11) (pe_op (op_binO GA sA iA sf bA hr pass0) (pv 8) (pv 7)) (nomark _))
              (pw_or1 (pt_cmpR (op_neO GE ne T.hm sE iE bE hr2 pass0) (pv 11) (pe_make M GI hr4 rfl T.mgL bI .nil passF (pa_cons (pe_prop (pv 11) T.cl T.pS GS hr2 bS .nil pass0 rfl) pa_nil)) (nomark _))))))
              (pss_one (ps_ret pe_bl)) pss_nil)
          (pss_cons (ps_if (PW.pt (pw_or (pt_cmpR op_ne (pe_cmpR (op_eqO GE sE iE bE hr1 pass0) (pv 7) (pv 8) (nomark _)) (pe_cmpR op_eq (pv 5) (pv 6) (nomark _)) (nomark _))
              (pw_or (pt_cmpR (op_eqO GE sE iE bE hr1 pass0) (pv 7) (pv 5) (nomark _))
              (pw_or1 (pt_cmpR op_eq (pe_cmpR (op_neO GE ne T.hm sE iE bE hr2 pass0) (pv 7) (pv 8) (nomark _)) (pe_cmpR op_eq (pv 5) (pv 6) (nomark _)) (nomark _))))))
              (pss_one (ps_ret pe_bl)) pss_nil)
          (pss_cons (ps_if (pt_cmpR op_ne (pe_callB (call_reprS hg hu) (by rfl) T.rep (by decide +kernel) (pa_cons (pe_meth (pv 7) T.cl mW GW hr3 bW .nil pass0 (pa_cons (pv 8) pa_nil)) pa_nil))
              (pe_callB (call_reprS hg hu) (by rfl) T.rep (by decide +kernel) (pa_cons (pe_ifExp (pt_cmp (pc_notN (pv 5))) (pe_call GX hr1 rfl mX kX bX .nil pass0 (pa_cons (pv 5) (pa_cons (pv 6) pa_nil))) (pe_cmp (pc_isN (pv 6)) rfl)) pa_nil)) (nomark _))
              (pss_one (ps_ret pe_bl)) pss_nil)
          (pss_one (ps_if (PW.pt (pw_or (pt_not (pt_val (pe_meth (pv 11) T.cl mW GW hr3 bW .nil pass0 (pa_cons (pv 7) pa_nil)))) (pw_or (pt_not (pt_val (pe_meth (pv 11) T.cl mW GW hr3 bW .nil pass0 (pa_cons (pv 8) pa_nil))))
              (pw_or1 (pt_cmpR op_ne (pe_prop (pv 7) T.cl T.pS GS hr2 bS .nil pass0 rfl) (pv 5) (nomark _))))))
              (pss_one (ps_ret pe_bl)) pss_nil)))))))))))))))
      (pss_one (ps_ret pe_bl))), ?_⟩
    -- for odd in ..
    refine ⟨_, rfl, (by show 1 ≤ sizeLine; decide), fun l nl => ⟨(by show 1 ≤ sizeLine; decide), fun t nt d nd => ⟨_, _, rfl, rfl, ⟨by decide, by decide, by decide⟩, _, _, rfl, rfl, (by show 8 ≤ sizeLine; decide), fun L nL => ?_⟩⟩⟩
    have s1 : Same H (upd H l (.lst [.int 1])) := same_new nl
    have s2 := s1.trans (same_new (o := .tup [.int 1]) nt)
    have s3 := s2.trans (same_new (o := .dK []) nd)
    have s4 := s3.trans (same_new (o := .lst (odds l t d)) nL)
    have e1 : upd (upd (upd (upd H l (.lst [.int 1])) t (.tup [.int 1])) d (.dK [])) L (.lst (odds l t d)) l = some (.lst [.int 1]) :=
      same_new nL _ _ (same_new nd _ _ (same_new nt _ _ upd_same))
    have e2 : upd (upd (upd (upd H l (.lst [.int 1])) t (.tup [.int 1])) d (.dK [])) L (.lst (odds l t d)) t = some (.tup [.int 1]) := same_new nL _ _ (same_new nd _ _ upd_same)
    have e3 : upd (upd (upd (upd H l (.lst [.int 1])) t (.tup [.int 1])) d (.dK [])) L (.lst (odds l t d)) d = some (.dK []) := same_new nL _ _ upd_same
    have e4 : upd (upd (upd (upd H l (.lst [.int 1])) t (.tup [.int 1])) d (.dK [])) L (.lst (odds l t d)) L = some (.lst (odds l t d)) := upd_same
    refine ⟨L, rfl, ⟨_, SqL.of e4⟩, for_list (K := K) (a := L) (xs := odds l t d) (fun i σ H' => ∃ v, σ = [some (.ref a), v, none, none, none, none, none, none, none, none, none, none, none] ∧ Same (upd (upd (upd (upd H l (.lst [.int 1])) t (.tup [.int 1])) d (.dK [])) L (.lst (odds l t d))) H')
      ⟨none, rfl, Same.refl _⟩ (fun i σ H' _ ⟨_, _, z⟩ => SqL.of (z _ _ e4)) ?_ ?_⟩
    · rintro i y σ H' hi ⟨v, rfl, z⟩
      have hy := odd_ok (K := K) e1 e2 e3 (List.mem_of_getElem? hi)
      exact ⟨_, rfl, y, rfl, fun H2 z2 => hy H2 (z.trans z2), fun H2 z2 => ⟨_, rfl, iteF ⟨_, rfl, z.trans z2⟩⟩⟩
    rintro σ H0 ⟨v1, rfl, z0⟩
    have z0 := s4.trans z0
    clear e1 e2 e3 e4 s1 s2 s3 s4
    -- for k in range(..)
    refine ⟨_, rfl, a, _, rfl, .inl (z0.seq hS), _, _, rfl, _, _, rfl, _, rfl, (by split <;> (try split) <;> omega), (by split <;> (try split) <;> omega), for_range (lo := 0)
      (fun i σ H' => ∃ v1 v2 v3 v4 v5 v6 v7 v8 v9 v10 v11 v12, σ = [some (.ref a), v1, v2, v3, v4, v5, v6, v7, v8, v9, v10, v11, v12] ∧ Same H H') ⟨_, _, _, _, _, _, _, _, _, _, _, _, rfl, z0⟩ ?_ ?_⟩
    rotate_left
    · rintro σ H' ⟨v1, v2, v3, v4, v5, v6, v7, v8, v9, v10, v11, v12, rfl, _⟩
      exact k H'
    rintro ki σ Ho hki ⟨v1, v2, v3, v4, v5, v6, v7, v8, v9, v10, v11, v12, rfl, zo⟩
    have hki : ki < 64 := by
      revert hki
      split <;> (try split) <;> omega
    refine ⟨_, rfl, _, rfl, a, ki, ns, (by show [V.ref a, V.int (0 + (ki : Int))] = _; rw [Int.zero_add]), zo.seq hS, hki, fun pl Hp npl pp sp => ?_⟩
    -- for turn in range(20)
    refine ⟨20, rfl, by decide, by decide, for_range (lo := 0) (n := 20)
      (fun i σ H' => ∃ v1 v2 v4 v5 v6 v7 v8 v9 v10 v11 v12, σ = [some (.ref a), v1, v2, some (.ref pl), v4, v5, v6, v7, v8, v9, v10, v11, v12] ∧ But pl Ho H' ∧ PoolAt H' pl) ⟨_, _, _, _, _, _, _, _, _, _, _, rfl, But.same sp, pp⟩ ?_ ?_⟩
    rotate_left
    · rintro σ H' ⟨v1, v2, v4, v5, v6, v7, v8, v9, v10, v11, v12, rfl, bo, _⟩
      exact ⟨_, _, _, _, _, _, _, _, _, _, _, _, rfl, fun b o e => bo b o (zo b o e) (ne_of_none (zo b o e) npl)⟩
    rintro ti σ Ht _ ⟨v1, v2, v4, v5, v6, v7, v8, v9, v10, v11, v12, rfl, bo, pt⟩
    -- one, two
    refine ⟨_, rfl, pl, rfl, pt, fun z1 H1 g1 p1 b1 => ⟨_, rfl, pl, rfl, p1, fun z2 H2 g2 p2 b2 => ⟨_, _, rfl, ?_⟩⟩⟩
    -- first, second
    refine ⟨_, rfl, mk_limR (z := z1) rfl g1 fun r1 H3 n1 L1 s3 => ⟨_, rfl, mk_limR (z := z2) rfl g2 fun r2 H4 n2 L2' s4 => ⟨_, _, rfl, ?_⟩⟩⟩
    have L1 := L1.same s4
    have ne1 : r1 ≠ pl := fun e => by
      obtain ⟨_, _, e1, _⟩ := p2
      rw [← e, n1] at e1
      cases e1
    have p4 : PoolAt H4 pl := by
      obtain ⟨x, y, e, q⟩ := p2
      exact ⟨x, y, s4 _ _ (s3 _ _ e), q⟩
    have ne2 : r2 ≠ pl := fun e => by
      obtain ⟨_, _, e1, _⟩ := p2
      have := s3 _ _ e1
      rw [← e, n2] at this
      cases this
    have bo : But pl Ho H4 := ((bo.trans b1).trans b2).trans ((But.same s3).trans (But.same s4))
    obtain ⟨dx1, x1⟩ := L1
    have eg : (!decide (V.bl (!decide (z1 = some (-1))) = V.bl (ge0 z1))) = false := by
      rw [ge_bool g1]
      simp
    refine ⟨_, rfl, r1, dx1, _, rfl, x1, r1, dx1, _, rfl, x1, _, rfl, vO_scal z1 z1, _, rfl, ifF (vO_ne z1) ⟨_, rfl, r1, dx1, _, rfl, x1, r1, z1, rfl, ⟨dx1, x1⟩, _, rfl, rd_ge (K := K) (z := z1) rfl ⟨rfl, _, rfl, ifF eg ?_⟩⟩⟩
    -- for count in ..
    refine ⟨_, rfl, _, rfl, _, rfl, pl, 20, rfl, p4, by decide, by decide, fun rc H5 c0 c1 p5 b5 => ⟨_, _, rfl, rfl, ⟨by decide, by decide, by decide⟩, rd_or (z := z1) rfl (rd_or (z := z1) rfl ⟨_, _, rfl, rfl, (by show 8 ≤ sizeLine; decide), fun Lc nLc => ?_⟩)⟩⟩
    have x1 := b5 _ _ x1 ne1
    have L2' := L2'.but b5 ne2
    have bo := bo.trans b5
    have s6 := same_new (o := .lst ([-2, -1, 0, 5, rc, (10 : Int) ^ (30 : Int).toNat, orZ z1, orZ z1 + 1].map V.int)) nLc
    refine ⟨Lc, rfl, ⟨_, SqL.of upd_same⟩, for_list (K := K) (a := Lc) (xs := [-2, -1, 0, 5, rc, (10 : Int) ^ (30 : Int).toNat, orZ z1, orZ z1 + 1].map V.int)
      (fun i σ H' => ∃ v9, σ = [some (.ref a), v1, v2, some (.ref pl), some (.int (0 + ti)), some (vO z1), some (vO z2), some (.ref r1), some (.ref r2), v9, v10, v11, v12] ∧ Same (upd H5 Lc (.lst ([-2, -1, 0, 5, rc, (10 : Int) ^ (30 : Int).toNat, orZ z1, orZ z1 + 1].map V.int))) H')
      ⟨_, rfl, Same.refl _⟩ (fun i σ H' _ ⟨_, _, z⟩ => SqL.of (z _ _ upd_same)) ?_ ?_⟩
    · rintro i y σ H' hi ⟨v9, rfl, z⟩
      obtain ⟨c, rfl⟩ : ∃ c : Int, y = .int c := by
        have := List.mem_of_getElem? hi
        obtain ⟨c, _, e⟩ := List.mem_map.mp this
        exact ⟨c, e.symm⟩
      have hx := z _ _ (s6 _ _ x1)
      exact ⟨_, rfl, _, rfl, r1, dx1, _, rfl, hx, r1, z1, c, rfl, ⟨dx1, hx⟩, _, rfl, _, _, rfl, .bl _, _, rfl, _, rfl, c, z1, rfl, _, _, rfl, .bl _, rfl, _, rfl, ifF (str_ne _) ⟨_, rfl, z⟩⟩
    rintro σ H7 ⟨v9, rfl, s7⟩
    have s7 := s6.trans s7
    have x1 := s7 _ _ x1
    have L2' := L2'.same s7
    have bo := bo.trans (But.same s7)
    have p7 : PoolAt H7 pl := by
      obtain ⟨x, y, e, q⟩ := p5
      exact ⟨x, y, s7 _ _ e, q⟩
    have L1 : LimAt C H7 r1 z1 := ⟨dx1, x1⟩
    -- least = [size for size in [one, two] if size is not None]
    refine ⟨_, rfl, _, rfl, (by show 2 ≤ sizeLine; decide), fun l2 nl2 => ⟨l2, rfl, ⟨_, SqL.of upd_same⟩, fun D nD => lc_list (K := K) (a := l2) (xs := [vO z1, vO z2])
      (fun i H' => H' D = some (.lst ((if i = 0 then [] else if i = 1 then z1.toList else allN z1 z2).map V.int)) ∧ Same (upd H7 l2 (.lst [vO z1, vO z2])) H') ⟨upd_same, same_new nD⟩ (fun i H' _ z => SqL.of (z.2 _ _ upd_same)) ?_ ?_⟩⟩
    · rintro i x H' hi ⟨hD, z⟩
      have keep : ∀ {o : HO}, Same (upd H7 l2 (.lst [vO z1, vO z2])) (upd H' D o) := fun {o} b u e => by
        rw [upd_ne (ne_of_none e nD)]
        exact z b u e
      match i, hi, hD with
      | 0, hi, hD =>
        obtain rfl : vO z1 = x := Option.some.inj hi
        cases z1 with
        | none => exact ⟨rfl, _, rfl, _, rfl, iteF ⟨hD, z⟩⟩
        | some n => exact ⟨rfl, _, rfl, _, rfl, iteT ⟨_, rfl, _, hD, (by show 0 < sizeLine; decide), upd_same, keep⟩⟩
      | 1, hi, hD =>
        obtain rfl : vO z2 = x := Option.some.inj hi
        cases z2 with
        | none =>
          refine ⟨rfl, _, rfl, _, rfl, iteF ⟨?_, z⟩⟩
          rw [hD]
          simp [allN]
        | some n =>
          refine ⟨rfl, _, rfl, _, rfl, iteT ⟨_, rfl, _, hD, ?_, ?_, keep⟩⟩
          · rw [sizeLine_eq]
            cases z1 <;> simp
          · rw [upd_same]
            cases z1 <;> rfl
      | i + 2, hi, hD => simp at hi
    rintro H9 ⟨hD, s9⟩
    have s9 := (same_new nl2).trans s9
    have hD : H9 D = some (.lst ((allN z1 z2).map V.int)) := hD
    have L1 := L1.same s9
    have L2' := L2'.same s9
    have bo := bo.trans (But.same s9)
    obtain ⟨px, py, pe, pq⟩ := p7
    have pe := s9 _ _ pe
    obtain ⟨dx1, x1⟩ := id L1
    obtain ⟨dx2, x2⟩ := id L2'
    -- both = first & second
    refine ⟨_, rfl, _, rfl, r1, dx1, _, r2, dx2, _, rfl, rfl, x1, x2, r1, r2, z1, z2, rfl, L1, L2', g1, g2, fun r3 H10 n3 L3 s10 => ⟨r3, rfl, ?_⟩⟩
    have g3 := good_min g1 g2
    have L1 := L1.same s10
    have L2' := L2'.same s10
    have hD := s10 _ _ hD
    have pe := s10 _ _ pe
    have bo := bo.trans (But.same s10)
    obtain ⟨dx3, x3⟩ := id L3
    -- both.size, the other way about, made anew
    refine ⟨_, rfl, r3, dx3, _, rfl, x3, r3, dx3, _, rfl, x3, rd_least (z1 := z1) (z2 := z2) rfl hD fun H11 s11 => ⟨vO_scal _ _, _, rfl, ifF (vO_ne _) ?_⟩⟩
    have L1 := L1.same s11
    have L2' := L2'.same s11
    have L3 := L3.same s11
    have pe := s11 _ _ pe
    have bo := bo.trans (But.same s11)
    obtain ⟨dx1, x1⟩ := id L1
    obtain ⟨dx2, x2⟩ := id L2'
    refine ⟨_, rfl, _, rfl, _, rfl, r2, dx2, _, r1, dx1, _, rfl, rfl, x2, x1, r2, r1, z2, z1, rfl, L2', L1, g2, g1, fun r4 H12 n4 L4 s12 => ⟨r4, rfl, ?_⟩⟩
    have L1 := L1.same s12
    have L2' := L2'.same s12
    have L3 := L3.same s12
    have pe := s12 _ _ pe
    have bo := bo.trans (But.same s12)
    obtain ⟨dx3, x3⟩ := id L3
    obtain ⟨dx4, x4⟩ := id L4
    have m1 : (!decide (minO z1 z2 = minO z2 z1)) = false := by simp [minO_comm z1 z2]
    refine ⟨r3, dx3, _, rfl, x3, .own x4, r3, minO z1 z2, _, _, rfl, L3, .inl ⟨r4, _, rfl, L4, rfl⟩, _, rfl, _, rfl, ifF m1 ?_⟩
    refine ⟨_, rfl, _, rfl, r3, dx3, _, rfl, x3, r3, dx3, _, rfl, x3, mk_limR (z := minO z1 z2) rfl g3 fun r5 H13 n5 L5 s13 => ?_⟩
    have L1 := L1.same s13
    have L2' := L2'.same s13
    have L3 := L3.same s13
    have pe := s13 _ _ pe
    have bo := bo.trans (But.same s13)
    obtain ⟨dx3, x3⟩ := id L3
    obtain ⟨dx5, x5⟩ := id L5
    have m2 : (!decide (minO z1 z2 = minO z1 z2)) = false := by simp
    refine ⟨r3, dx3, _, rfl, x3, .own x5, r3, minO z1 z2, _, _, rfl, L3, .inl ⟨r5, _, rfl, L5, rfl⟩, _, rfl, _, rfl, ifF m2 ?_⟩
    obtain ⟨dx1, x1⟩ := id L1
    obtain ⟨dx2, x2⟩ := id L2'
    -- == and !=
    have q1 : (!decide (V.bl (decide (z1 = z2)) = V.bl (decide (vO z1 = vO z2)))) = false := by rw [vO_eq]; simp
    have q2 : decide (V.bl (!decide (z1 = z2)) = V.bl (decide (vO z1 = vO z2))) = false := by
      rw [vO_eq]
      cases decide (z1 = z2) <;> rfl
    refine ⟨_, rfl, _, rfl, r1, dx1, _, rfl, x1, .own x2, r1, z1, _, _, rfl, L1, .inl ⟨r2, _, rfl, L2', rfl⟩, _, rfl, _, rfl, _, rfl, vO_scal _ _, rfl, _, rfl, ifF q1 ?_⟩
    refine ⟨_, rfl, _, rfl, r1, dx1, _, rfl, x1, right_vO nI nN z1, r1, z1, _, _, rfl, L1, eqTo_vO z1 z1, _, rfl, _, rfl, ifF rfl ?_⟩
    refine ⟨_, rfl, _, rfl, r1, dx1, _, rfl, x1, .own x2, r1, z1, _, _, rfl, L1, .inl ⟨r2, _, rfl, L2', rfl⟩, _, rfl, _, rfl, _, rfl, vO_scal _ _, rfl, _, rfl, ifF q2 ?_⟩
    -- is_within
    have nw : ∀ v : V, (fld v).lookup ("is_within" : Str) = none := fun v => by
      have e : (("is_within" : Str) == "_size") = false := by decide +kernel
      simp [List.lookup, e]
    refine ⟨_, rfl, r1, dx1, _, rfl, x1, nw _, _, rfl, r1, r2, z1, z2, rfl, L1, L2', _, _, rfl, .bl _, rd_w (z1 := z1) (z2 := z2) rfl rfl ⟨_, _, rfl, .bl _, rfl, _, rfl, ifF (str_ne _) ?_⟩⟩
    refine ⟨_, rfl, r3, dx3, _, rfl, x3, nw _, _, rfl, r3, r1, _, z1, rfl, L3, L1, _, rfl, ifF (by rw [le_min1]; rfl) ?_⟩
    refine ⟨_, rfl, r3, dx3, _, rfl, x3, nw _, _, rfl, r3, r2, _, z2, rfl, L3, L2', _, rfl, ifF (by rw [le_min2]; rfl) ?_⟩
    refine ⟨_, rfl, r1, dx1, _, rfl, x1, r1, dx1, _, rfl, x1, _, rfl, vO_scal z1 z1, _, rfl, ifF (vO_ne z1) ?_⟩
    exact ⟨_, _, _, _, _, _, _, _, _, _, _, rfl, bo, px, py, pe, pq⟩
end
end K18

set_option Elab.async false
set_option linter.all false
set_option maxRecDepth 100000
set_option maxHeartbeats 32000000
namespace K18
open PySem PySem.Spec PyProof.Rows L2 Lm
/-- an error of a class is what the clause of this class names -/
theorem own_clause {K : PySem.W.Frag} {S : Addr} (h1 : PySem.W.subIn K (.ref S) (.type "BaseException") = some true) (h2 : PySem.W.isClsIn K S = true) (h3 : PySem.W.typeIn K (.ref S) = some (.type "type"))
    (h4 : PySem.W.subIn K (.ref S) (.ref S) = some true) : PySem.W.exmOne K (.ref S) (.ref S) = some true := by
  have e1 : (PySem.W.subIn K (.ref S) (.type "BaseException") == some true) = true := by rw [h1] <;> rfl
  have e3 : (PySem.W.clsIn K S).isSome = true := h2
  have e2 : ((PySem.W.clsIn K S).isSome && PySem.W.typeIn K (.ref S) == some (.type "type")) = true := by rw [e3, h3] <;> rfl
  show (if (PySem.W.subIn K (.ref S) (.type "BaseException") == some true) = true then _ else none) = some true
  rw [if_pos e1]
  show (if ((PySem.W.clsIn K S).isSome && PySem.W.typeIn K (.ref S) == some (.type "type")) = true then _ else none) = some true
  rw [if_pos e2]
  exact h4

theorem all_mk {l : PySem.W.OpenLaw} {w : World} {K : PySem.W.Frag} {h : Heap} {mg : Str → Option Value} {fa C CN CS pS fIs fIn fN fS fC fA fB fE fW fP fT fD fX fR fL : Addr} (Y : K.In h) (G : h.Ns mainGlobals mg) (hfa : mg "law" = some (.ref fa))
    {rest : List Value} {nm q : Str} {N : Addr} {bs : List Value} {sn : List Str} {sub : List Value} {ab : Bool} {col : Option Bool} {dd : Option Addr} {m0 m1 m2 m3 m5 : Option Value}
    {odIs anIs : Option Addr} {slIs : Array (Option Value)} {ocIs kVIs dcIs pmIs cdIs ctIs : Value}
    {odIn anIn : Option Addr} {slIn : Array (Option Value)} {ocIn kVIn dcIn pmIn cdIn ctIn : Value}
    {odN anN : Option Addr} {slN : Array (Option Value)} {ocN kVN dcN pmN cdN ctN : Value}
    {odS anS : Option Addr} {slS : Array (Option Value)} {ocS kVS dcS pmS cdS ctS : Value}
    {odC anC : Option Addr} {slC : Array (Option Value)} {ocC kVC dcC pmC cdC ctC : Value}
    {odA anA : Option Addr} {slA : Array (Option Value)} {ocA kVA dcA pmA cdA ctA : Value}
    {odB anB : Option Addr} {slB : Array (Option Value)} {ocB kVB dcB pmB cdB ctB : Value}
    {odE anE : Option Addr} {slE : Array (Option Value)} {ocE kVE dcE pmE cdE ctE : Value}
    {odW anW : Option Addr} {slW : Array (Option Value)} {ocW kVW dcW pmW cdW ctW : Value}
    {odP anP : Option Addr} {slP : Array (Option Value)} {ocP kVP dcP pmP cdP ctP : Value}
    {odT anT : Option Addr} {slT : Array (Option Value)} {ocT kVT dcT pmT cdT ctT : Value}
    {odD anD : Option Addr} {slD : Array (Option Value)} {ocD kVD dcD pmD cdD ctD : Value}
    {odX anX : Option Addr} {slX : Array (Option Value)} {ocX kVX dcX pmX cdX ctX : Value}
    {odR anR : Option Addr} {slR : Array (Option Value)} {ocR kVR dcR pmR cdR ctR : Value}
    {odL anL : Option Addr} {slL : Array (Option Value)} {ocL kVL dcL pmL cdL ctL : Value}
    (oL : PySem.W.nsIn K mainGlobals "Limit" = some (some (.ref C)))
    (oN : PySem.W.nsIn K mainGlobals "InvalidNumber" = some (some (.ref CN)))
    (pA : PySem.W.findIn K (.ref C) "size" = some (some (.ref pS)))
    (pG : PySem.W.specialIn K (.ref pS) "__get__" = some (some (.builtin "property.__get__")))
    (pT : PySem.W.takesIn K (.ref pS) = some true)
    (pR : PySem.W.recIn K pS "property" = some (.ref fS :: rest))
    (aIs : PySem.W.nsIn K mainGlobals "is_integer" = some (some (.ref fIs)))
    (lIs : K.lookup fIs = some ⟨ocIs, odIs, .func (PySem.W.fnOf "is_integer" "is_integer" (defArgs sIsI) (defBody sIsI) (defScope sIsI) .none kVIs dcIs pmIs anIs cdIs ctIs), slIs⟩)
    (cIs : PySem.W.codeIn K cdIs "is_integer" = true)
    (kIs : PySem.W.keepIn K (.ref fIs) = true)
    (aIn : PySem.W.findIn K (.ref C) "__init__" = some (some (.ref fIn)))
    (iIn : PySem.W.isFn K (.ref fIn) = true)
    (lIn : K.lookup fIn = some ⟨ocIn, odIn, .func (PySem.W.fnOf "__init__" "Limit.__init__" (defArgs sInit) (defBody sInit) (defScope sInit) .none kVIn dcIn pmIn anIn cdIn ctIn), slIn⟩)
    (cIn : PySem.W.codeIn K cdIn "Limit.__init__" = true)
    (kIn : PySem.W.keepIn K (.ref fIn) = true)
    (aN : PySem.W.findIn K (.ref CN) "__init__" = some (some (.ref fN)))
    (iN : PySem.W.typeIn K (.ref fN) = some (.type "function"))
    (lN : K.lookup fN = some ⟨ocN, odN, .func (PySem.W.fnOf "__init__" "InvalidNumber.__init__" (defArgs sNI) (defBody sNI) (defScope sNI) .none kVN dcN pmN anN cdN ctN), slN⟩)
    (cN : PySem.W.codeIn K cdN "InvalidNumber.__init__" = true)
    (kN : PySem.W.keepIn K (.ref fN) = true)
    (lS : K.lookup fS = some ⟨ocS, odS, .func (PySem.W.fnOf "size" "Limit.size" (defArgs sSize) (defBody sSize) (defScope sSize) .none kVS dcS pmS anS cdS ctS), slS⟩)
    (cS : PySem.W.codeIn K cdS "Limit.size" = true)
    (kS : PySem.W.keepIn K (.ref fS) = true)
    (aC : PySem.W.findIn K (.ref C) "__contains__" = some (some (.ref fC)))
    (iC : PySem.W.isFn K (.ref fC) = true)
    (lC : K.lookup fC = some ⟨ocC, odC, .func (PySem.W.fnOf "__contains__" "Limit.__contains__" (defArgs sIn) (defBody sIn) (defScope sIn) .none kVC dcC pmC anC cdC ctC), slC⟩)
    (cC : PySem.W.codeIn K cdC "Limit.__contains__" = true)
    (kC : PySem.W.keepIn K (.ref fC) = true)
    (aA : PySem.W.findIn K (.ref C) "__and__" = some (some (.ref fA)))
    (iA : PySem.W.isFn K (.ref fA) = true)
    (lA : K.lookup fA = some ⟨ocA, odA, .func (PySem.W.fnOf "__and__" "Limit.__and__" (defArgs sAnd) (defBody sAnd) (defScope sAnd) .none kVA dcA pmA anA cdA ctA), slA⟩)
    (cA : PySem.W.codeIn K cdA "Limit.__and__" = true)
    (kA : PySem.W.keepIn K (.ref fA) = true)
    (aB : PySem.W.findIn K (.ref C) "__bool__" = some (some (.ref fB)))
    (iB : PySem.W.isFn K (.ref fB) = true)
    (lB : K.lookup fB = some ⟨ocB, odB, .func (PySem.W.fnOf "__bool__" "Limit.__bool__" (defArgs sBool) (defBody sBool) (defScope sBool) .none kVB dcB pmB anB cdB ctB), slB⟩)
    (cB : PySem.W.codeIn K cdB "Limit.__bool__" = true)
    (kB : PySem.W.keepIn K (.ref fB) = true)
    (aE : PySem.W.findIn K (.ref C) "__eq__" = some (some (.ref fE)))
    (iE : PySem.W.isFn K (.ref fE) = true)
    (lE : K.lookup fE = some ⟨ocE, odE, .func (PySem.W.fnOf "__eq__" "Limit.__eq__" (defArgs sEq) (defBody sEq) (defScope sEq) .none kVE dcE pmE anE cdE ctE), slE⟩)
    (cE : PySem.W.codeIn K cdE "Limit.__eq__" = true)
    (kE : PySem.W.keepIn K (.ref fE) = true)
    (aW : PySem.W.findIn K (.ref C) "is_within" = some (some (.ref fW)))
    (iW : PySem.W.isFn K (.ref fW) = true)
    (lW : K.lookup fW = some ⟨ocW, odW, .func (PySem.W.fnOf "is_within" "Limit.is_within" (defArgs sWithin) (defBody sWithin) (defScope sWithin) .none kVW dcW pmW anW cdW ctW), slW⟩)
    (cW : PySem.W.codeIn K cdW "Limit.is_within" = true)
    (kW : PySem.W.keepIn K (.ref fW) = true)
    (aP : PySem.W.nsIn K mainGlobals "_law_pool" = some (some (.ref fP)))
    (lP : K.lookup fP = some ⟨ocP, odP, .func (PySem.W.fnOf "_law_pool" "_law_pool" (defArgs sPool) (defBody sPool) (defScope sPool) .none kVP dcP pmP anP cdP ctP), slP⟩)
    (cP : PySem.W.codeIn K cdP "_law_pool" = true)
    (kP : PySem.W.keepIn K (.ref fP) = true)
    (aT : PySem.W.nsIn K mainGlobals "_law_take" = some (some (.ref fT)))
    (lT : K.lookup fT = some ⟨ocT, odT, .func (PySem.W.fnOf "_law_take" "_law_take" (defArgs sTake) (defBody sTake) (defScope sTake) .none kVT dcT pmT anT cdT ctT), slT⟩)
    (cT : PySem.W.codeIn K cdT "_law_take" = true)
    (kT : PySem.W.keepIn K (.ref fT) = true)
    (aD : PySem.W.nsIn K mainGlobals "_law_drawn" = some (some (.ref fD)))
    (lD : K.lookup fD = some ⟨ocD, odD, .func (PySem.W.fnOf "_law_drawn" "_law_drawn" (defArgs sDrawn) (defBody sDrawn) (defScope sDrawn) .none kVD dcD pmD anD cdD ctD), slD⟩)
    (cD : PySem.W.codeIn K cdD "_law_drawn" = true)
    (kD : PySem.W.keepIn K (.ref fD) = true)
    (aX : PySem.W.nsIn K mainGlobals "_law_is_in" = some (some (.ref fX)))
    (lX : K.lookup fX = some ⟨ocX, odX, .func (PySem.W.fnOf "_law_is_in" "_law_is_in" (defArgs sIsIn) (defBody sIsIn) (defScope sIsIn) .none kVX dcX pmX anX cdX ctX), slX⟩)
    (cX : PySem.W.codeIn K cdX "_law_is_in" = true)
    (kX : PySem.W.keepIn K (.ref fX) = true)
    (aR : PySem.W.nsIn K mainGlobals "_law_refused" = some (some (.ref fR)))
    (lR : K.lookup fR = some ⟨ocR, odR, .func (PySem.W.fnOf "_law_refused" "_law_refused" (defArgs sRef) (defBody sRef) (defScope sRef) .none kVR dcR pmR anR cdR ctR), slR⟩)
    (cR : PySem.W.codeIn K cdR "_law_refused" = true)
    (kR : PySem.W.keepIn K (.ref fR) = true)
    (aL : PySem.W.nsIn K mainGlobals "law" = some (some (.ref fL)))
    (lL : K.lookup fL = some ⟨ocL, odL, .func (PySem.W.fnOf "law" "law" (defArgs sLaw) (defBody sLaw) (defScope sLaw) .none kVL dcL pmL anL cdL ctL), slL⟩)
    (cL : PySem.W.codeIn K cdL "law" = true)
    (kL : PySem.W.keepIn K (.ref fL) = true)
    (xL : K.lookup CN = some (excClassObj nm q CN N bs [.ref CS, .type "ValueError", .type "Exception", .type "BaseException", .type "object"] true sn sub ab col dd m0 m1 m2 m3 m5 "ValueError.__new__"))
    (xa : PySem.W.findIn K (.ref CN) "__setattr__" = some (some (.builtin "object.__setattr__")))
    (xg : PySem.W.findIn K (.ref CN) "__getattribute__" = some (some (.builtin "BaseException.__getattribute__")))
    (xh : PySem.W.findIn K (.ref CN) "__getattr__" = some none)
    (xv : PySem.W.findIn K (.ref CN) "value" = some none)
    (xk : PySem.W.keepIn K (.ref CN) = true)
    (xe : PySem.W.subIn K (.ref CN) (.type "BaseException") = some true)
    (xt : PySem.W.typeIn K (.ref CN) = some (.type "type"))
    (xd : PySem.W.hasDictIn K CN = true)
    (xi : PySem.W.isClsIn K CN = true)
    (xs : PySem.W.subIn K (.ref CN) (.ref CN) = some true)
    (pg : PySem.W.plainGet K C Str.empty = true)
    (hd : PySem.W.hasDictIn K C = true)
    (po : PySem.W.plainOver K C = true)
    (sa : PySem.W.findIn K (.ref C) "__setattr__" = some (some (.builtin "object.__setattr__")))
    (mk : PySem.W.makesIn K C = true)
    (kc : PySem.W.keepIn K (.ref C) = true)
    (nS : PySem.W.findIn K (.ref C) "_size" = some none)
    (ha : PySem.W.findIn K (.ref C) "__class__" = some (some (.builtin "object.__class__")))
    (hn : PySem.W.specialIn K (.builtin "object.__class__") "__get__" = some (some (.builtin "getset_descriptor.__get__")))
    (ht : PySem.W.takesIn K (.builtin "object.__class__") = some true)
    (hm : PySem.W.mroIn K C (.type "object") = some true)
    (q1 : PySem.W.kitOne K (.ref C) (.ref C) = some true)
    (q2 : PySem.W.kitOne K (.type "int") (.ref C) = some false)
    (q3 : PySem.W.kitOne K (.type "NoneType") (.ref C) = some false)
    (sf : PySem.W.selfFirst K C = true)
    (ne : PySem.W.findIn K (.ref C) "__ne__" = some (some (.builtin "object.__ne__")))
    (nI : PySem.W.notFirst K C (.type "int") = true)
    (nN : PySem.W.notFirst K C (.type "NoneType") = true)
    (z0 : PySem.W.nsIn K mainGlobals "isinstance" = some none)
    (z1 : PySem.W.nsIn K mainGlobals "int" = some none)
    (z2 : PySem.W.nsIn K mainGlobals "bool" = some none)
    (z3 : PySem.W.nsIn K mainGlobals "min" = some none)
    (z4 : PySem.W.nsIn K mainGlobals "max" = some none)
    (z5 : PySem.W.nsIn K mainGlobals "abs" = some none)
    (z6 : PySem.W.nsIn K mainGlobals "len" = some none)
    (z7 : PySem.W.nsIn K mainGlobals "repr" = some none)
    (z8 : PySem.W.nsIn K mainGlobals "range" = some none)
    : ∃ fd : FuncData, (∀ (s : Shared) (u : Value), BindsTo s fd ⟨[u], []⟩ [("_law_script", u)]) ∧ ∀ base : Heap, K.In base → base.Ns mainGlobals mg → FnG l.prog w K mg base CX0 6 fa fd ["_law_script"] (spLaw K) := by
  have e := hfa.symm.trans (PySem.W.mg_of Y G aL)
  cases e
  have T : Txt K mg C CN fN pS fS :=
    { cl := ⟨pg, hd, po, sa⟩, nS := nS, pS := ⟨pA, pG, pT, _, pR⟩, mgL := PySem.W.mg_of Y G oL, mgN := PySem.W.mg_of Y G oN,
      ox := ⟨⟨nm, q, N, bs, _, sn, sub, ab, col, dd, m0, m1, m2, m3, m5, xL, rfl⟩, xa, xe, xt, xk⟩, nV := xv, iN := aN, tN := iN, xf := ⟨xg, xh, xe, xd⟩, te := own_clause xe xi xt xs,
      ha := ha, hn := hn, ht := ht, hm := hm, kCC := q1, kIC := q2, kNC := q3,
      isi := PySem.W.mg_none_of Y G z0, int_ := PySem.W.mg_none_of Y G z1, bool_ := PySem.W.mg_none_of Y G z2, min_ := PySem.W.mg_none_of Y G z3, max_ := PySem.W.mg_none_of Y G z4, abs_ := PySem.W.mg_none_of Y G z5,
      len_ := PySem.W.mg_none_of Y G z6, rep := PySem.W.mg_none_of Y G z7, rng := PySem.W.mg_none_of Y G z8 }
  have M : Mk K C fIn := ⟨mk, aIn, iIn, kc⟩
  have FIs := fun_mk (st := sIsI) lIs cIs kIs
  have bIs := FIs.binds (ps := ["value"]) fun _ _ _ _ _ _ us hl => match us, hl with | [_], _ => rfl
  have FIn := fun_mk (st := sInit) lIn cIn kIn
  have bIn := FIn.binds (ps := ["self", "size"]) fun _ _ _ _ _ _ us hl => match us, hl with | [_, _], _ => rfl
  have FN := fun_mk (st := sNI) lN cN kN
  have bN := FN.binds (ps := ["self", "value"]) fun _ _ _ _ _ _ us hl => match us, hl with | [_, _], _ => rfl
  have FS := fun_mk (st := sSize) lS cS kS
  have bS := FS.binds (ps := ["self"]) fun _ _ _ _ _ _ us hl => match us, hl with | [_], _ => rfl
  have FC := fun_mk (st := sIn) lC cC kC
  have bC := FC.binds (ps := ["self", "x"]) fun _ _ _ _ _ _ us hl => match us, hl with | [_, _], _ => rfl
  have FA := fun_mk (st := sAnd) lA cA kA
  have bA := FA.binds (ps := ["self", "other"]) fun _ _ _ _ _ _ us hl => match us, hl with | [_, _], _ => rfl
  have FB := fun_mk (st := sBool) lB cB kB
  have bB := FB.binds (ps := ["self"]) fun _ _ _ _ _ _ us hl => match us, hl with | [_], _ => rfl
  have FE := fun_mk (st := sEq) lE cE kE
  have bE := FE.binds (ps := ["self", "other"]) fun _ _ _ _ _ _ us hl => match us, hl with | [_, _], _ => rfl
  have FW := fun_mk (st := sWithin) lW cW kW
  have bW := FW.binds (ps := ["self", "other"]) fun _ _ _ _ _ _ us hl => match us, hl with | [_, _], _ => rfl
  have FP := fun_mk (st := sPool) lP cP kP
  have bP := FP.binds (ps := ["_law_script", "_law_k"]) fun _ _ _ _ _ _ us hl => match us, hl with | [_, _], _ => rfl
  have FT := fun_mk (st := sTake) lT cT kT
  have bT := FT.binds (ps := ["_law_pool_here", "_law_many"]) fun _ _ _ _ _ _ us hl => match us, hl with | [_, _], _ => rfl
  have FD := fun_mk (st := sDrawn) lD cD kD
  have bD := FD.binds (ps := ["_law_pool_here"]) fun _ _ _ _ _ _ us hl => match us, hl with | [_], _ => rfl
  have FX := fun_mk (st := sIsIn) lX cX kX
  have bX := FX.binds (ps := ["_law_count", "_law_size"]) fun _ _ _ _ _ _ us hl => match us, hl with | [_, _], _ => rfl
  have FR := fun_mk (st := sRef) lR cR kR
  have bR := FR.binds (ps := ["_law_odd"]) fun _ _ _ _ _ _ us hl => match us, hl with | [_], _ => rfl
  have FL := fun_mk (st := sLaw) lL cL kL
  have bL := FL.binds (ps := ["_law_script"]) fun _ _ _ _ _ _ us hl => match us, hl with | [_], _ => rfl
  refine ⟨PySem.W.fnOf "law" "law" (defArgs sLaw) (defBody sLaw) (defScope sLaw) .none kVL dcL pmL anL cdL ctL, fun s u => .of_eq rfl, fun base _ _ => ?_⟩
  have GI : FnOk l.prog w K mg base (L2.CX l.prog w) 3 fIn _ ["self", "size"] (spInit K C CN) := ok_init FIn T FIs bIs (PySem.W.mg_of Y G aIs) FN bN
  have GS : FnOk l.prog w K mg base CX0 1 fS _ ["self"] (spSize C) := ok_size FS T
  have GT : FnOk l.prog w K mg base CX0 1 fT _ ["_law_pool_here", "_law_many"] spTake := ok_take FT T
  exact ok_law FL ⟨T, M, ⟨_, GI, bIn⟩, ⟨_, GS, bS⟩, ⟨_, _, ok_bool FB T, bB, aB, iB⟩, ⟨_, _, ok_in FC T, bC, aC, iC⟩, ⟨_, _, ok_and FA T GS bS M GI bIn, bA, aA, iA⟩, sf,
    ⟨_, _, ok_eq FE T, bE, aE, iE⟩, ne, nI, nN, ⟨_, _, ok_within FW T GS bS, bW, aW, iW, kW⟩, ⟨_, _, ok_pool FP T, bP, PySem.W.mg_of Y G aP, kP⟩, ⟨_, _, GT, bT, PySem.W.mg_of Y G aT, kT⟩,
    ⟨_, _, ok_drawn FD GT bT (PySem.W.mg_of Y G aT) kT, bD, PySem.W.mg_of Y G aD, kD⟩, ⟨_, _, ok_isIn FX, bX, PySem.W.mg_of Y G aX, kX⟩, ⟨_, _, ok_ref FR T M GI bIn, bR, PySem.W.mg_of Y G aR, kR⟩⟩
theorem walk {l : PySem.W.OpenLaw} {q : Program} {loose : List Str} {XP : (Str → Option Value) → Heap → Prop} {YP : World → Heap → Prop} {d : DefRec} {K : Params → PySem.W.Frag} (hn : l.most = some 63) (hdf : d.params.defaults = [])
    (hY : ∀ (w : World) (h : Heap), YP w h → (K w.params).In h)
    (F : ∀ (w : World) (mg : Str → Option Value) (fa : Addr) (h : Heap), (K w.params).In h → h.Ns mainGlobals mg → mg d.name = some (.ref fa) →
      ∃ fd : FuncData, (∀ (s : Shared) (u : Value), BindsTo s fd ⟨[u], []⟩ [("_law_script", u)]) ∧ ∀ base : Heap, (K w.params).In base → base.Ns mainGlobals mg → FnG l.prog w (K w.params) mg base CX0 6 fa fd ["_law_script"] (spLaw (K w.params))) :
    PySem.W.WalkO q loose XP YP l.row.toRowW d [] (fun f vs => PySem.call f vs) :=
  walk_ofG (n := 63) (k := 6) (x := "_law_script") (CX := fun _ => CX0) (sp := fun w => spLaw (K w.params)) hn (by decide) hdf ⟨rfl, by decide, by decide⟩ rfl hY F (fun _ _ a ns hl _ hS => ⟨a, ns, rfl, hS, hl, fun _ => rfl⟩) fun _ _ _ _ _ z => z
end K18
open PySem PySem.W PyProof.Rows
set_option maxRecDepth 100000 in
set_option maxHeartbeats 0 in
theorem PySem.Challenge.cw_safeupto_k18_limits_holds : PySem.Challenge.rw_safeupto_k18_limits.Holds := by
  w_on; o_law; k_head; (case hw => w_witness2)
  k_fill
  refine K18.walk (l := PySem.Challenge.rw_safeupto_k18_limits) rfl rfl (fun w h Y => PySem.W.kIn_of Y) ?F
  case F =>
    intro w mg fa h KX G hmg
    refine' K18.all_mk KX G hmg ?oL ?oN ?pA ?pG ?pT ?pR ?aIs ?lIs ?cIs ?kIs ?aIn ?iIn ?lIn ?cIn ?kIn ?aN ?iN ?lN ?cN ?kN ?lS ?cS ?kS ?aC ?iC ?lC ?cC ?kC ?aA ?iA ?lA ?cA ?kA ?aB ?iB ?lB ?cB ?kB ?aE ?iE ?lE ?cE ?kE ?aW ?iW ?lW ?cW ?kW ?aP ?lP ?cP ?kP ?aT ?lT ?cT ?kT ?aD ?lD ?cD ?kD ?aX ?lX ?cX ?kX ?aR ?lR ?cR ?kR ?aL ?lL ?cL ?kL ?xL ?xa ?xg ?xh ?xv ?xk ?xe ?xt ?xd ?xi ?xs ?pg ?hd ?po ?sa ?mk ?kc ?nS ?ha ?hn ?ht ?hm ?q1 ?q2 ?q3 ?sf ?ne ?nI ?nN ?z0 ?z1 ?z2 ?z3 ?z4 ?z5 ?z6 ?z7 ?z8
    (case oL => first | k_is | rfl)
    (case oN => first | k_is | rfl)
    (case pA => first | k_is | rfl)
    (case pG => first | k_is | rfl)
    (case pT => first | k_is | rfl)
    (case pR => first | k_is | rfl)
    (case aIs => first | k_is | rfl)
    (case lIs => first | k_is | rfl)
    (case cIs => first | k_is | rfl)
    (case kIs => first | k_is | rfl)
    (case aIn => first | k_is | rfl)
    (case iIn => first | k_is | rfl)
    (case lIn => first | k_is | rfl)
    (case cIn => first | k_is | rfl)
    (case kIn => first | k_is | rfl)
    (case aN => first | k_is | rfl)
    (case iN => first | k_is | rfl)
    (case lN => first | k_is | rfl)
    (case cN => first | k_is | rfl)
    (case kN => first | k_is | rfl)
    (case lS => first | k_is | rfl)
    (case cS => first | k_is | rfl)
    (case kS => first | k_is | rfl)
    (case aC => first | k_is | rfl)
    (case iC => first | k_is | rfl)
    (case lC => first | k_is | rfl)
    (case cC => first | k_is | rfl)
    (case kC => first | k_is | rfl)
    (case aA => first | k_is | rfl)
    (case iA => first | k_is | rfl)
    (case lA => first | k_is | rfl)
    (case cA => first | k_is | rfl)
    (case kA => first | k_is | rfl)
    (case aB => first | k_is | rfl)
    (case iB => first | k_is | rfl)
    (case lB => first | k_is | rfl)
    (case cB => first | k_is | rfl)
    (case kB => first | k_is | rfl)
    (case aE => first | k_is | rfl)
    (case iE => first | k_is | rfl)
    (case lE => first | k_is | rfl)
    (case cE => first | k_is | rfl)
    (case kE => first | k_is | rfl)
    (case aW => first | k_is | rfl)
    (case iW => first | k_is | rfl)
    (case lW => first | k_is | rfl)
    (case cW => first | k_is | rfl)
    (case kW => first | k_is | rfl)
    (case aP => first | k_is | rfl)
    (case lP => first | k_is | rfl)
    (case cP => first | k_is | rfl)
    (case kP => first | k_is | rfl)
    (case aT => first | k_is | rfl)
    (case lT => first | k_is | rfl)
    (case cT => first | k_is | rfl)
    (case kT => first | k_is | rfl)
    (case aD => first | k_is | rfl)
    (case lD => first | k_is | rfl)
    (case cD => first | k_is | rfl)
    (case kD => first | k_is | rfl)
    (case aX => first | k_is | rfl)
    (case lX => first | k_is | rfl)
    (case cX => first | k_is | rfl)
    (case kX => first | k_is | rfl)
    (case aR => first | k_is | rfl)
    (case lR => first | k_is | rfl)
    (case cR => first | k_is | rfl)
    (case kR => first | k_is | rfl)
    (case aL => first | k_is | rfl)
    (case lL => first | k_is | rfl)
    (case cL => first | k_is | rfl)
    (case kL => first | k_is | rfl)
    (case xL => first | k_is | rfl)
    (case xa => first | k_is | rfl)
    (case xg => first | k_is | rfl)
    (case xh => first | k_is | rfl)
    (case xv => first | k_is | rfl)
    (case xk => first | k_is | rfl)
    (case xe => first | k_is | rfl)
    (case xt => first | k_is | rfl)
    (case xd => first | k_is | rfl)
    (case xi => first | k_is | rfl)
    (case xs => first | k_is | rfl)
    (case pg => first | k_is | rfl)
    (case hd => first | k_is | rfl)
    (case po => first | k_is | rfl)
    (case sa => first | k_is | rfl)
    (case mk => first | k_is | rfl)
    (case kc => first | k_is | rfl)
    (case nS => first | k_is | rfl)
    (case ha => first | k_is | rfl)
    (case hn => first | k_is | rfl)
    (case ht => first | k_is | rfl)
    (case hm => first | k_is | rfl)
    (case q1 => first | k_is | rfl)
    (case q2 => first | k_is | rfl)
    (case q3 => first | k_is | rfl)
    (case sf => first | k_is | rfl)
    (case ne => first | k_is | rfl)
    (case nI => first | k_is | rfl)
    (case nN => first | k_is | rfl)
    (case z0 => first | k_is | rfl)
    (case z1 => first | k_is | rfl)
    (case z2 => first | k_is | rfl)
    (case z3 => first | k_is | rfl)
    (case z4 => first | k_is | rfl)
    (case z5 => first | k_is | rfl)
    (case z6 => first | k_is | rfl)
    (case z7 => first | k_is | rfl)
    (case z8 => first | k_is | rfl)
