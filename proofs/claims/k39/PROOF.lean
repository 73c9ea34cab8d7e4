import PyProof.Rows.All
import Wide.All
import OpenK.AllK
import Wide.FinOn
import HandS.ForMost
import PyProof.InstNe
import PyProof.MeetsIn
import PyProof.CallType
import PyProof.Conv_bool
import HandS.Exc
import HandS.TryOnly
import HandS.ExcOwn
import HandS.ExcInit
import HandS.ExcField
import HandS.WordsExc
import HandS.IsInst
import HandS.Property
import HandS.Wide
import PyProof.ReprRoads
import PyProof.CallFns
import HandS.Comp
import PyProof.MinMaxWalk
import PyProof.WalkInts
import PyProof.Rows.MinMaxN
import HandS.SortKw
import HandS.SortRule
import HandS.Star
import HandS.Flow
import HandS.Walk
import PySem.Challenge.RW_safeupto_k39_formulas_told
set_option Elab.async false
set_option linter.all false
set_option maxRecDepth 100000
namespace Lm
open PySem PySem.Spec PyProof.Rows L2
/-! ### is True, is not False: the right side a truth value, the left one anything -/
theorem beq_bl {x : V} {v : Value} (r : RelV x v) (b : Bool) : PySem.plainIs v (.bool b) = true ∧ (v == Value.bool b) = decide (x = V.bl b) := by
  cases x with
  | bl c => cases (show v = Value.bool c from r); refine ⟨rfl, ?_⟩; by_cases e : c = b
            · subst e; simp
            · rw [decide_eq_false (fun z => e (V.bl.inj z)), beq_eq_false_iff_ne]; exact fun z => e (Value.bool.inj z)
  | non => cases (show v = Value.none from r); exact ⟨rfl, by simp⟩
  | int i => obtain ⟨t, rfl⟩ := r; exact ⟨rfl, by simp⟩
  | str i => obtain ⟨t, rfl⟩ := r; exact ⟨rfl, by simp⟩
  | byt i => obtain ⟨t, rfl⟩ := r; exact ⟨rfl, by simp⟩
  | flt i => obtain ⟨t, rfl⟩ := r; exact ⟨rfl, by simp⟩
  | ref a => cases (show v = Value.ref a from r); exact ⟨rfl, by simp⟩
  | ty a => cases (show v = Value.type a from r); exact ⟨rfl, by simp⟩
theorem op_isB {X : Cx} : OpR X (compareOp .Is) (fun x y H Q => ∃ b, y = .bl b ∧ Q (.bl (decide (x = V.bl b))) H) := by
  intro pins s σ H x y v u Q I rx ry h
  obtain ⟨b, rfl, q⟩ := h
  cases (show u = Value.bool b from ry)
  obtain ⟨p, e⟩ := beq_bl rx b
  exact wpAny_is_plain p (fin_bl I q e.symm)
theorem op_notB {X : Cx} : OpR X (compareOp .IsNot) (fun x y H Q => ∃ b, y = .bl b ∧ Q (.bl (!decide (x = V.bl b))) H) := by
  intro pins s σ H x y v u Q I rx ry h
  obtain ⟨b, rfl, q⟩ := h
  cases (show u = Value.bool b from ry)
  obtain ⟨p, e⟩ := beq_bl rx b
  exact wpAny_isNot_plain p (fin_bl I q (by rw [e]))
end Lm

set_option Elab.async false
set_option linter.all false
set_option maxRecDepth 100000
set_option maxHeartbeats 4000000
/-! Rules of our own: operators that an own class defines, repr of data, defs that are run where no repr is under way. -/
namespace Lm
open PySem PySem.Spec PyProof.Rows L2

section
variable {X : Cx} {CX : CXT} {k : Nat} {C f : Addr} {fd : FuncData} {ps : List Str} {sp : Sp} {E : XK}

/-- what a call that hands back a bool leaves -/
def BoolTo (Q : VK) : VK := fun v H' => ∃ b, v = .bl b ∧ Q (.bl b) H'

theorem ins_of {pins : List (Addr × Obj)} {σ : L2.St} {H : Hp} {s : Shared} {a dx : Addr} {fs : List (Str × V)} (I : Inv X pins σ H s) (ea : H a = some (.ins C dx fs)) :
    ∃ ox od, PySem.W.InstAt s.heap a ox C od := by
  obtain ⟨mA, O, _⟩ := ins_get I.hok ea
  obtain ⟨od, J, _⟩ := O.look
  exact ⟨_, _, J⟩

/-- v in o -/
def rInO (C : Addr) (sp : Sp) (E : XK) : R2 := fun x y H Q => ∃ a dx fs, y = .ref a ∧ H a = some (.ins C dx fs) ∧ sp [.ref a, x] H (BoolTo Q) E
theorem op_inO (F : FnOk X.prog X.w X.K X.mg X.base CX k f fd ps sp) (hs : PySem.W.findIn X.K (.ref C) "__contains__" = some (some (.ref f))) (hf : PySem.W.isFn X.K (.ref f) = true)
    (hb : Binds X.K fd ps []) (hr : Room k X.A) (hx : Passes CX X E) : OpR X (compareOp .In) (rInO C sp E) := by
  intro pins s σ H x y v u Q I rx ry h
  obtain ⟨a, dx, fs, rfl, ea, q⟩ := h
  obtain rfl : u = Value.ref a := ry
  obtain ⟨ox, od, J⟩ := ins_of I ea
  obtain ⟨m, hF⟩ := I.fr
  refine PySem.W.in_K hF I.ok.mod.kin J hs hf ?_
  refine wpAny_mono (run_fn (us := [.ref a, v]) (vs := [.ref a, x]) F hr hb .nil hx I (.cons rfl (.cons rx .nil)) q) (fun r s' z => ?_) fun _ _ z => z
  obtain ⟨v1, H1, I1, r1, b, e, q1⟩ := z
  subst e
  obtain rfl : r = Value.bool b := r1
  exact wpAny_truthy_bool ⟨.bl b, H1, I1, rfl, q1⟩

/-- o & o', both of one class -/
def rBinO (C : Addr) (sp : Sp) (E : XK) : R2 := fun x y H Q => ∃ a dx fs b dy gs, x = .ref a ∧ y = .ref b ∧ H a = some (.ins C dx fs) ∧ H b = some (.ins C dy gs) ∧
  sp [.ref a, .ref b] H (fun v H' => ∃ p, v = .ref p ∧ Q (.ref p) H') E
theorem op_binO {op : Operator} (F : FnOk X.prog X.w X.K X.mg X.base CX k f fd ps sp) (hs : PySem.W.findIn X.K (.ref C) (PySem.dunder op.info.2) = some (some (.ref f))) (hf : PySem.W.isFn X.K (.ref f) = true)
    (hc : PySem.W.selfFirst X.K C = true) (hb : Binds X.K fd ps []) (hr : Room k X.A) (hx : Passes CX X E) : OpR X (binaryOp op) (rBinO C sp E) := by
  intro pins s σ H x y v u Q I rx ry h
  obtain ⟨a, dx, fs, b, dy, gs, rfl, rfl, ea, eb, q⟩ := h
  obtain rfl : v = Value.ref a := rx
  obtain rfl : u = Value.ref b := ry
  obtain ⟨ox, od, J⟩ := ins_of I ea
  obtain ⟨oy, oe, J2⟩ := ins_of I eb
  obtain ⟨m, hF⟩ := I.fr
  refine PySem.W.binop_K hF I.ok.mod.kin J J2.type hc hs hf ?_
  refine wpAny_mono (run_fn (us := [.ref a, .ref b]) (vs := [.ref a, .ref b]) F hr hb .nil hx I (.cons rfl (.cons rfl .nil)) q) (fun r s' z => ?_) fun _ _ z => z
  obtain ⟨v1, H1, I1, r1, p, e, q1⟩ := z
  subst e
  obtain rfl : r = Value.ref p := r1
  exact ⟨.ref p, H1, I1, rfl, q1⟩

/-- what may stand to the right of an own == -/
inductive Right (K : PySem.W.Frag) (C : Addr) (H : Hp) : V → Prop where
  | own {b dy : Addr} {gs : List (Str × V)} (e : H b = some (.ins C dy gs)) : Right K C H (.ref b)
  | int (i : Int) (n : PySem.W.notFirst K C (.type "int") = true) : Right K C H (.int i)
  | non (n : PySem.W.notFirst K C (.type "NoneType") = true) : Right K C H .non
theorem right_looks {pins : List (Addr × Obj)} {σ : L2.St} {H : Hp} {s : Shared} {y : V} {u : Value} (I : Inv X pins σ H s) (r : Right X.K C H y) (ry : RelV y u) :
    ∃ tb, PySem.W.Looks (model X.prog X.w) s.heap (typeOf u) tb ∧ PySem.W.notFirst X.K C tb = true := by
  cases r with
  | own e =>
    rename_i b dy gs
    obtain rfl : u = Value.ref b := ry
    obtain ⟨oy, oe, J⟩ := ins_of I e
    exact ⟨_, J.type, by simp [PySem.W.notFirst]⟩
  | int i n =>
    obtain ⟨t, rfl⟩ := (show ∃ t, u = Value.int i t from ry)
    exact ⟨_, PySem.W.Looks.of_pure rfl, n⟩
  | non n =>
    obtain rfl : u = Value.none := ry
    exact ⟨_, PySem.W.Looks.of_pure rfl, n⟩
/-- o == y -/
def rEqO (K : PySem.W.Frag) (C : Addr) (sp : Sp) (E : XK) : R2 := fun x y H Q => ∃ a dx fs, x = .ref a ∧ H a = some (.ins C dx fs) ∧ Right K C H y ∧ sp [.ref a, y] H (BoolTo Q) E
theorem op_eqO (F : FnOk X.prog X.w X.K X.mg X.base CX k f fd ps sp) (hs : PySem.W.findIn X.K (.ref C) "__eq__" = some (some (.ref f))) (hf : PySem.W.isFn X.K (.ref f) = true)
    (hb : Binds X.K fd ps []) (hr : Room k X.A) (hx : Passes CX X E) : OpR X (compareOp .Eq) (rEqO X.K C sp E) := by
  intro pins s σ H x y v u Q I rx ry h
  obtain ⟨a, dx, fs, rfl, ea, ri, q⟩ := h
  obtain rfl : v = Value.ref a := rx
  obtain ⟨ox, od, J⟩ := ins_of I ea
  obtain ⟨m, hF⟩ := I.fr
  obtain ⟨tb, hL, hn⟩ := right_looks I ri ry
  show wpAny (model X.prog X.w) X.A (richCompare .Eq (.ref a) u) _ _ _
  refine PySem.W.cmp_K (op := .Eq) (tb := tb) hr.units0 hF I.ok.mod.kin J hL hn hs hf ?_
  refine wpAny_mono (run_fn (us := [.ref a, u]) (vs := [.ref a, y]) F hr hb .nil hx I (.cons rfl (.cons ry .nil)) q) (fun r s' z => ?_) fun _ _ z => z
  obtain ⟨v1, H1, I1, r1, b, e, q1⟩ := z
  subst e
  obtain rfl : r = Value.bool b := r1
  exact ⟨.bl b, H1, I1, rfl, q1⟩
end
end Lm

set_option Elab.async false
set_option linter.all false
set_option maxRecDepth 100000
set_option maxHeartbeats 4000000
namespace Lm
open PySem PySem.Spec PyProof.Rows L2

section
open Builtin
variable {prog : Program} {w : World} {A : Around} {E : Value → Shared → Prop} {s : Shared} {K : PySem.W.Frag} {x C L f : Addr} {h₀ : Heap} {m : Str → Option Value} {ox : Obj} {od : Option Obj} {u tb : Value}

/-- the default != of object, found by the class -/
theorem bound_ne {M : Model} {r : List Value} {Q : Option Value → Shared → Prop} (Y : K.In s.heap) (J : PySem.W.InstAt s.heap x ox C od)
    (hs : PySem.W.findIn K (.ref C) "__ne__" = some (some (.builtin "object.__ne__")))
    (h : wpAny M A (call (.builtin "object.__ne__") (.ref x :: r)) (fun v => Q (some v)) E s) : wpAny M A (callSpecialIfBound? (.ref x) "__ne__" r) Q E s := by
  have last : wpAny M A (call (.builtin "object.__ne__") ([.ref x] ++ r) >>= fun v => pure (some v)) Q E s :=
    wpAny_bind (wpAny_mono h (fun _ _ y => wpAny_pure y) fun _ _ y => y)
  simp only [bindSpecialIfBound?, callSpecialIfBound?]
  refine wpAny_holding (wpAny_bind (wpAny_bind (wpAny_bind (J.type.here ((PySem.W.looks_findIn Y hs).here (wpAny_bind (wpAny_askSetting (wpAny_ite ?_))))))))
  split
  · exact wpAny_bind (wpAny_of_eq (F.cmp_object.ne.bind _) (wpAny_pure (by exact last)))
  · exact wpAny_tryCatch (wpAny_bind (wpAny_of_eq (F.cmp_object.ne.bind _) (wpAny_pure (by exact last))))

/-- o != y where the class has an == of its own and no != -/
theorem neq_K {Q : Value → Shared → Prop} (hu : A.units + 1 < cLine) (Fz : Fr h₀ L s.heap m) (X₀ : K.In h₀) (J : PySem.W.InstAt s.heap x ox C od) (hL : PySem.W.Looks (model prog w) s.heap (typeOf u) tb)
    (hn : PySem.W.notFirst K C tb = true) (hne : PySem.W.findIn K (.ref C) "__ne__" = some (some (.builtin "object.__ne__"))) (hm : PySem.W.mroIn K C (.type "object") = some true)
    (hs : PySem.W.findIn K (.ref C) "__eq__" = some (some (.ref f))) (hf : PySem.W.isFn K (.ref f) = true)
    (h : wpAny (model prog w) A.in1 (call (.ref f) [.ref x, u]) (fun v s' => ∃ b, v = .bool b ∧ Q (.bool (!b)) s') E s) : wpAny (model prog w) A (richCompare .NotEq (.ref x) u) Q E s := by
  have Y := X₀.keeps Fz.keep
  have inner : wpAny (model prog w) A.in1 (Builtin.«object.__ne__» ⟨[.ref x, u], []⟩) (fun fin s' => ∃ b, fin = .done (.ret (.bool b)) ∧ Q (.bool b) s') E s := by
    unfold Builtin.«object.__ne__»
    refine wpAny_bind (wpAny_pure ?_)
    refine wpAny_bind (wpAny_cRoomFor hu ?_)
    refine wpAny_bind (PySem.W.ifBound_K Y J hs hf (wpAny_mono h (fun r s' hr => ?_) fun _ _ e => e))
    obtain ⟨b, rfl, hq⟩ := hr
    refine wpAny_bind (wpAny_truthy_bool ?_)
    exact wpAny_pure ⟨_, rfl, hq⟩
  have one : wpAny (model prog w) A (tryCompare (.ref x) "__ne__" u) (fun r s' => ∃ b, r = some (.bool b) ∧ Q (.bool b) s') E s := by
    unfold tryCompare
    refine wpAny_bind (bound_ne Y J hne (wpAny_call (codeAny_call_builtin F.cmp_object.ne.plain F.cmpEntry_ne (PySem.W.check_slot F.cmpKind_ne F.cmpSplit_ne (J.type.andThen (PySem.W.looks_mroIn Y hm)) (F.cmpArgs_ne _ _)
      (wpAny_mono inner (fun fin s' z => ?_) fun _ _ z => z)))))
    obtain ⟨b, rfl, hq⟩ := z
    exact wpAny_pure ⟨b, rfl, hq⟩
  unfold richCompare
  simp only [oneThing_ref]
  refine wpAny_holding (wpAny_bind (wpAny_cRoomFor (Nat.lt_of_succ_lt hu) (wpAny_bind (J.type.here (wpAny_bind (hL.here ?_))))))
  have fin : ∀ {k : Bool}, k = false → True := fun _ => trivial
  split
  · rename_i q
    have e : PySem.W.subIn K tb (.ref C) = some false := by
      rcases Bool.or_eq_true_iff.mp hn with e | e
      · rw [beq_iff_eq.mp e] at q
        simp at q
      · exact beq_iff_eq.mp e
    refine wpAny_bind ((PySem.W.looks_subIn Y e).here ?_)
    simp only [Bool.false_eq_true, if_false]
    refine wpAny_bind (wpAny_mono one (fun r s' z => ?_) fun _ _ e => e)
    obtain ⟨b, rfl, hq⟩ := z
    exact wpAny_pure hq
  · refine wpAny_bind (wpAny_pure ?_)
    simp only [Bool.false_eq_true, if_false]
    refine wpAny_bind (wpAny_mono one (fun r s' z => ?_) fun _ _ e => e)
    obtain ⟨b, rfl, hq⟩ := z
    exact wpAny_pure hq
end

section
variable {X : Cx} {CX : CXT} {k : Nat} {C f : Addr} {fd : FuncData} {ps : List Str} {sp : Sp} {E : XK}

/-- the callee runs one step deeper -/
theorem run_fn1 {pins : List (Addr × Obj)} {σ : L2.St} {H : Hp} {s : Shared} {Q : VK} {us : List Value} {vs : List V} (F : FnOk X.prog X.w X.K X.mg X.base CX k f fd ps sp) (hr : Room k X.A.in1) (hb : Binds X.K fd ps [])
    (hx : Passes CX X E) (I : Inv X pins σ H s) (r : Vals vs us) (h : sp vs H Q E) : wpAny (model X.prog X.w) X.A.in1 (call (.ref f) us) (EP X pins σ Q) X.xe s := by
  have hl : us.length = ps.length := (r.length).symm.trans (F.len _ _ _ _ h)
  have b := hb s us I.kIn (by simpa using hl)
  rw [List.append_nil] at b
  refine wpAny_call (codeAny_mono (F.run X.A.in1 X.stack s H ⟨us, []⟩ us vs Q E hr I.env0.in1 b r h) fun z s' hq => ?_)
  cases z with
  | error e => exact hx pins σ H s e s' I hq
  | ok fl => cases fl with
    | ret y => exact I.after hq
    | next => exact hq.elim
    | brk => exact hq.elim
    | cont => exact hq.elim

/-- o != y -/
def rNeO (K : PySem.W.Frag) (C : Addr) (sp : Sp) (E : XK) : R2 := fun x y H Q => ∃ a dx fs, x = .ref a ∧ H a = some (.ins C dx fs) ∧ Right K C H y ∧ sp [.ref a, y] H (fun v H' => ∃ b, v = .bl b ∧ Q (.bl (!b)) H') E
theorem op_neO (F : FnOk X.prog X.w X.K X.mg X.base CX k f fd ps sp) (hne : PySem.W.findIn X.K (.ref C) "__ne__" = some (some (.builtin "object.__ne__"))) (hm : PySem.W.mroIn X.K C (.type "object") = some true)
    (hs : PySem.W.findIn X.K (.ref C) "__eq__" = some (some (.ref f))) (hf : PySem.W.isFn X.K (.ref f) = true)
    (hb : Binds X.K fd ps []) (hr : Room (k + 1) X.A) (hx : Passes CX X E) : OpR X (compareOp .NotEq) (rNeO X.K C sp E) := by
  intro pins s σ H x y v u Q I rx ry h
  obtain ⟨a, dx, fs, rfl, ea, ri, q⟩ := h
  obtain rfl : v = Value.ref a := rx
  obtain ⟨ox, od, J⟩ := ins_of I ea
  obtain ⟨m, hF⟩ := I.fr
  obtain ⟨tb, hL, hn⟩ := right_looks I ri ry
  show wpAny (model X.prog X.w) X.A (richCompare .NotEq (.ref a) u) _ _ _
  refine neq_K (tb := tb) (by have := hr.un; omega) hF I.ok.mod.kin J hL hn hne hm hs hf ?_
  refine wpAny_mono (run_fn1 (us := [.ref a, u]) (vs := [.ref a, y]) F hr.in1 hb hx I (.cons rfl (.cons ry .nil)) q) (fun r s' z => ?_) fun _ _ z => z
  obtain ⟨v1, H1, I1, r1, b, e, q1⟩ := z
  subst e
  obtain rfl : r = Value.bool b := r1
  exact ⟨b, rfl, .bl (!b), H1, I1, rfl, q1⟩
end
end Lm

set_option Elab.async false
set_option linter.all false
set_option maxRecDepth 100000
set_option maxHeartbeats 4000000
namespace Lm
open PySem PySem.Spec PyProof.Rows L2

section
variable {prog : Program} {w : World} {A : Around} {E : Value → Shared → Prop} {s : Shared}
/-- bool.__new__ of a thing whose truth is known here -/
theorem bool_body {v : Value} {R : Result → Shared → Prop} (h : wpAny (model prog w) A.in1 (truthy v) (fun b s' => R (.ok (.ret (.bool b))) s') (fun e s' => R (.error e) s') s) :
    wpAny (model prog w) A.in1 (Builtin.«bool.__new__» ⟨[.type "bool", v], []⟩)
      (fun fin s' => match fin with | .done f => R (.ok f) s' | .again c' => c'.quiet = true ∧ codeAny (model prog w) A c' R s') (fun e s' => R (.error e) s') s := by
  have f1 := F.conv_sub_bool
  unfold Builtin.«bool.__new__»
  repeat (any_goals (first | assumption | (with_reducible refine wpAny_bind (m := truthy v) (wpAny_mono h (fun b s' hb => ?_) fun _ _ z => z)) | wp_step))
  all_goals exact hb
/-- a bool is handed back, or what is raised is passed on -/
def BoolWish (Q E : Value → Shared → Prop) : Result → Shared → Prop
  | .ok (.ret o), s' => (∃ b, o = .bool b) ∧ Q o s'
  | .ok _, _ => False
  | .error e, s' => E e s'
/-- bool(v) -/
theorem bool_call {v : Value} {Q : Value → Shared → Prop} (h : wpAny (model prog w) A.in1.in1 (truthy v) (fun b s' => Q (.bool b) s') E s) :
    wpAny (model prog w) A (call (.type "bool") [v]) Q E s := by
  have ft := F.called_bool
  obtain ⟨c, tl, hmro⟩ := ft.mro
  have hmade := ft.made
  have hsub := ft.sub
  have h1 := ft.notType
  have h2 := ft.canCreate
  refine wpAny_call (codeAny_of_tree (show wpAny _ _ (callAny (.type "bool") _) _ _ _ from wpAny_pure ⟨Code.quiet_builtin _ (by decide +kernel), codeAny_builtin F.entry_type_call ?_⟩))
  rw [Around.under_plain (weight_type_call_type "bool" [v] []) (units_type_call_type "bool" [v] [])]
  repeat (any_goals (first | assumption | wp_step))
  refine codeAny_mono (R := BoolWish Q E) (codeAny_call_builtin ft.plain F.entry_bool_new (wpAny_of_eq (F.newCall_bool_1 v) (bool_body (A := A.in1) (v := v) (R := BoolWish Q E) ?_))) fun r s₁ hr => ?_
  · exact wpAny_mono h (fun b s' hb => ⟨⟨b, rfl⟩, hb⟩) fun _ _ z => z
  · cases r with
    | error e => exact hr
    | ok fl => cases fl with
      | ret o =>
        obtain ⟨⟨b, rfl⟩, hq⟩ := hr
        have hli := ft.init.lookup
        have hbi := ft.init.bind (.bool b)
        have hT : s₁.TypeIs (.bool b) "bool" := by first | exact typeIs_bool _ _ | exact rfl
        repeat (any_goals (first | assumption | wp_step))
        have g := object_init_meets (self := .bool b) (rest := [v]) ft.init.lookup ft.made F.newNe_bool
        refine codeAny_mono (R := fun r s₂ => r = .ok (.ret .none) ∧ s₂ = s₁) (codeAny_call_builtin ft.init.plain F.entry_object_init (ft.init.check _ _ _ _ _ _ _ _ hT (F.args_object_init_2 (.bool b) v)
          (g prog w A.in1 (fun r s₂ => r = .ok (.ret .none) ∧ s₂ = s₁) s₁ ⟨hT, rfl, rfl⟩))) fun r₂ s₂ hr₂ => ?_
        obtain ⟨rfl, rfl⟩ := hr₂
        repeat (any_goals (first | assumption | wp_step))
      | next => exact hr.elim
      | brk => exact hr.elim
      | cont => exact hr.elim
end
end Lm

namespace Lm
open PySem PySem.Spec PyProof.Rows L2
section
variable {X : Cx} {CX : CXT} {k : Nat} {C f : Addr} {fd : FuncData} {ps : List Str} {sp : Sp} {E : XK}
theorem Room.two {k : Nat} {A : Around} (r : Room (k + 1) A) : Room k A.in1.in1 :=
  ⟨r.hd, by have := r.dp; show A.depth + 3 * k + 5 < _; omega, by have := r.un; show A.units + 1 + 1 + 16 * k + 200 < _; omega⟩
theorem Env0.two {P : Program} {w : World} {K : PySem.W.Frag} {mg : Str → Option Value} {base : Heap} {A : Around} {outer : List Env} {s : Shared} {H : Hp} (e : Env0 P w K mg base A outer s H) :
    Env0 P w K mg base A.in1.in1 outer s H := e.in1.in1
/-- the callee runs two steps deeper -/
theorem run_fn2 {pins : List (Addr × Obj)} {σ : L2.St} {H : Hp} {s : Shared} {Q : VK} {us : List Value} {vs : List V} (F : FnOk X.prog X.w X.K X.mg X.base CX k f fd ps sp) (hr : Room k X.A.in1.in1) (hb : Binds X.K fd ps [])
    (hx : Passes CX X E) (I : Inv X pins σ H s) (r : Vals vs us) (h : sp vs H Q E) : wpAny (model X.prog X.w) X.A.in1.in1 (call (.ref f) us) (EP X pins σ Q) X.xe s := by
  have hl : us.length = ps.length := (r.length).symm.trans (F.len _ _ _ _ h)
  have b := hb s us I.kIn (by simpa using hl)
  rw [List.append_nil] at b
  refine wpAny_call (codeAny_mono (F.run X.A.in1.in1 X.stack s H ⟨us, []⟩ us vs Q E hr I.env0.in1.in1 b r h) fun z s' hq => ?_)
  cases z with
  | error e => exact hx pins σ H s e s' I hq
  | ok fl => cases fl with
    | ret y => exact I.after hq
    | next => exact hq.elim
    | brk => exact hq.elim
    | cont => exact hq.elim
/-- bool(o) by its own __bool__ -/
def rBoolO (C : Addr) (sp : Sp) (E : XK) : List V → Hp → VK → Prop := fun xs H Q => ∃ a dx fs, xs = [.ref a] ∧ H a = some (.ins C dx fs) ∧ sp [.ref a] H (BoolTo Q) E
theorem call_boolO (F : FnOk X.prog X.w X.K X.mg X.base CX k f fd ps sp) (hs : PySem.W.findIn X.K (.ref C) "__bool__" = some (some (.ref f))) (hf : PySem.W.isFn X.K (.ref f) = true)
    (hb : Binds X.K fd ps []) (hr : Room (k + 1) X.A) (hx : Passes CX X E) : CallR X (.type "bool") (rBoolO C sp E) := by
  intro pins s σ H xs us Q I r h
  obtain ⟨a, dx, fs, rfl, ea, q⟩ := h
  obtain ⟨u, rfl, r1⟩ := vals1 r
  obtain rfl : u = Value.ref a := r1
  obtain ⟨ox, od, J⟩ := ins_of I ea
  obtain ⟨m, hF⟩ := I.fr
  refine bool_call (PySem.W.truthy_K hF I.ok.mod.kin J hs hf ?_)
  refine wpAny_mono (run_fn2 (us := [.ref a]) (vs := [.ref a]) F (Room.two hr) hb hx I (.cons rfl .nil) q) (fun z s' y => ?_) fun _ _ z => z
  obtain ⟨v1, H1, I1, r2, b, e, q1⟩ := y
  subst e
  obtain rfl : z = Value.bool b := r2
  exact ⟨.bl b, H1, I1, rfl, q1⟩
end
end Lm

set_option Elab.async false
set_option linter.all false
set_option maxRecDepth 100000
set_option maxHeartbeats 4000000
namespace Lm
open PySem PySem.Spec PyProof.Rows L2

/-! ### repr of data, where no repr is under way -/
/-- the text that repr hands back of a value -/
inductive Shown (K : PySem.W.Frag) (H : Hp) : V → Str → Prop where
  | non : Shown K H .non "None"
  | bl (b : Bool) : Shown K H (.bl b) (if b then "True" else "False")
  | int (i : Int) (h : i.natAbs.log2 < 1920) : Shown K H (.int i) (toString i)
  | str (x : Str) (h : (reprText x).length ≤ sizeLine) : Shown K H (.str x) (reprText x)
  | dat {a : Addr} {d : PyData} (h : Dp K H (.ref a) d) (hn : d.hasDict = false) (hs : d.showable = true) (hd : d.depth ≤ 60) (hz : d.shown.length ≤ sizeLine) : Shown K H (.ref a) d.shown
  | emp {a : Addr} (h : H a = some (.dK [])) : Shown K H (.ref a) (PyData.dict []).shown
def rRepr (K : PySem.W.Frag) : List V → Hp → VK → Prop := fun xs H Q => ∃ x t, xs = [x] ∧ Shown K H x t ∧ Q (.str t) H
section
variable {X : Cx}
theorem call_reprS (hg : X.A.guards = some []) (hu : X.A.units + 64 < cLine) : CallR X (.builtin "repr") (rRepr X.K) := by
  intro pins s σ H xs us Q I r h
  obtain ⟨x, t, rfl, hS, q⟩ := h
  obtain ⟨u, rfl, ru⟩ := vals1 r
  cases hS with
  | non =>
    obtain rfl : u = Value.none := ru
    exact PySem.P.repr_of_none ⟨.str _, H, I.tok _, ⟨_, rfl⟩, q⟩
  | bl b =>
    obtain rfl : u = Value.bool b := ru
    exact PySem.P.repr_of_bool ⟨.str _, H, I.tok _, ⟨_, rfl⟩, q⟩
  | int i hi =>
    obtain ⟨tk, rfl⟩ := (show ∃ t, u = Value.int i t from ru)
    exact PySem.P.repr_of_int hi ⟨.str _, H, I.tok _, ⟨_, rfl⟩, q⟩
  | str z hz =>
    obtain ⟨tk, rfl⟩ := (show ∃ t, u = Value.str z t from ru)
    exact PySem.P.repr_of_str (h := ⟨.str _, H, I.tok _, ⟨_, rfl⟩, q⟩) hz
  | @dat a d hD hn hs hd hz =>
    obtain rfl : u = Value.ref a := ru
    obtain ⟨as, rd⟩ := Dp.reads I d _ _ hD rfl
    exact repr_of_reads' rd hs (PyData.noDict_hsm hn) hg (by omega) (fun _ _ e => e) (fun h' u tk hk => ⟨.str _, H, I.kept hk, ⟨_, rfl⟩, q⟩) hz
  | @emp a hE =>
    obtain rfl : u = Value.ref a := ru
    obtain ⟨_, hsys, vs, rel, o, es, ep, ho, hx, hd, _, hp, _⟩ := dk_of I.hok hE
    have e0 : es.toList = [] := by
      have l := hp.length
      cases rel
      exact List.eq_nil_of_length_eq_zero (by simpa using l)
    have rd : Reads s.heap (.ref a) (.dict []) (a :: [] ++ []) := .dict ho hx.1 hd (by rw [e0]; exact .nil) (by rw [e0]; exact .nil)
    have hdp : (PyData.dict []).depth ≤ 60 := by decide
    refine repr_of_reads' rd (by decide +kernel) (fun _ hm => ?_) hg (by omega) (fun _ _ e => e) (fun h' u tk hk => ⟨.str _, H, I.kept hk, ⟨_, rfl⟩, q⟩) (by decide +kernel)
    have e1 : sysModules = a := by simpa using hm
    rw [e1] at hsys
    simp at hsys
end

/-! ### a def that keeps its promise where no repr is under way -/
structure FnG (P : Program) (w : World) (K : PySem.W.Frag) (mg : Str → Option Value) (base : Heap) (CX : CXT) (k : Nat) (f : Addr) (fd : FuncData) (ps : List Str) (sp : Sp) : Prop where
  many : ∀ vs H Q E, sp vs H Q E → vs.length = ps.length
  goes : ∀ (A : Around) (o : List Env) (s : Shared) (H : Hp) (us : List Value) (vs : List V) (Q : VK) (E : XK), A.guards = some [] → Room k A → Env0 P w K mg base A o s H →
    BindsTo s fd ⟨us, []⟩ (ps.zip us) → Vals vs us → sp vs H Q E → codeAny (model P w) A (.call (.ref f) ⟨us, []⟩) (CR CX o P w H s Q E) s

section
variable {CX : CXT} {P : Program} {w : World} {K : PySem.W.Frag} {mg : Str → Option Value} {base : Heap} {k : Nat} {f : Addr} {N ps : List Str} {sp : Sp} {x qual : Str} {st : Stmt} {fd : FuncData}
theorem FnG.of (Fz : Fun K x qual st f fd) (S : FnScope N ps (defScope st)) (many : ∀ vs H Q E, sp vs H Q E → vs.length = ps.length)
    (body : ∀ (cdv : Value) (A : Around) (o : List Env) (s : Shared) (H : Hp) (vs : List V) (Q : VK) (E : XK), A.guards = some [] → Room k (A.deeper (envOfC qual (defScope st) s.heap.objs.size f cdv)) → sp vs H Q E →
      ∃ t, PSs (cxOf CX P w K mg base N qual (defScope st) f cdv A o s H E) (defBody st) t ∧ t { nx := fun _ H' => Q .non H', rt := Q } (start N vs) H) :
    FnG P w K mg base CX (k + 1) f fd ps sp := by
  obtain ⟨oc, od, kV, doc, pm, an, cdv, ct, osl, rfl, lk, hcd⟩ := Fz.ex
  refine ⟨many, fun A o s H us vs Q E hg hr e0 hb r hsp => ?_⟩
  have inK : K.In s.heap := e0.mod.kin.keeps fun b u e => (e0.bs b u e).1
  have noL : s.heap.NoLimit := e0.mod.nolimit.keeps fun b u e => (e0.bs b u e).1
  refine codeAny_call_function hr.depth (inK _ _ lk) rfl S.co S.gen rfl (PySem.W.codeRec_of inK hcd) (hb _ _ _ _ (wpAny_newFunctionEnv_cells S.kind (fun y hy => ?_) fun env he s1 z => ?_))
  · rcases S.par y.1 (List.of_mem_zip hy).1 with q | q
    · exact .inl q
    · exact .inr ⟨q, PySem.W.cellsFrom_some _ _ _ (.inl q)⟩
  · subst he
    refine ⟨noL.keeps z.toInCall.keep, codeAny_func ?_⟩
    obtain ⟨t, ht, hq⟩ := body cdv A o s H vs Q E hg (hr.deeper _) hsp
    have J : Inv (cxOf CX P w K mg base N qual (defScope st) f cdv A o s H E) [] (start N vs) H s1 := inv_start S hr.hd e0 (many _ _ _ _ hsp) r z
    refine wpAny_mono (ht.run [] s1 (start N vs) H _ J hq) (fun fl s' y => ?_) fun _ _ y => y
    cases fl with
    | ret u =>
      obtain ⟨v, _, H', J', rv, q⟩ := y
      exact ⟨v, H', J'.os, J'.bare, J'.base, J'.hok, rv, q⟩
    | next =>
      obtain ⟨_, H', J', q⟩ := y
      exact ⟨V.non, H', J'.os, J'.bare, J'.base, J'.hok, rfl, q⟩
    | brk => exact y.elim fun _ y => y.elim fun _ y => y.2.elim
    | cont => exact y.elim fun _ y => y.elim fun _ y => y.2.elim
end

section
variable {X : Cx} {CX : CXT} {k : Nat} {f : Addr} {fd : FuncData} {ps : List Str} {sp : Sp} {E : XK} {x : Str} {p pos : Pos} {e : Expr} {es : List Expr} {t : TA}
/-- f(e, ..) -/
theorem pe_callG (G : FnG X.prog X.w X.K X.mg X.base CX k f fd ps sp) (hgd : X.A.guards = some []) (hr : Room k X.A) (hg : Gl X x) (hm : X.mg x = some (.ref f)) (hk : PySem.W.keepIn X.K (.ref f) = true) (hb : Binds X.K fd ps [])
    (hx : Passes CX X E) (ha : PA X (e :: es) t) (hdb : (x == ("__debug__" : Str)) = false := by decide) (he : starEach (e :: es) X.env = (false, eval e X.env) :: starEach es X.env := by rfl)
    (hpl : (backTo pos (starEach es X.env)).any (·.1) = false := by rfl) : PE X (.Call (.Name x p) (e :: es) [] pos) (tCall sp [] E t) := by
  refine ⟨fun pins s σ H Q I h => ?_⟩
  refine wpAny_Call_Name_kw (ld_glob I hg hm (PySem.W.callWith_K (h₀ := X.base) I.ok.mod.kin hk (thn (ha.run pos pins s σ H _ I h) fun us s1 ⟨vs, H1, I1, r, q⟩ => ⟨I1.kIn, ?_⟩) he hpl) hdb)
  have q : sp vs H1 Q E := by simpa using q
  have hl : us.length = ps.length := (r.length).symm.trans (G.many _ _ _ _ q)
  have b := hb s1 us I1.kIn (by simpa using hl)
  rw [List.append_nil] at b
  refine wpAny_call (codeAny_mono (G.goes X.A X.stack s1 H1 us vs Q E hgd hr I1.env0 b r q) fun z s' y => ?_)
  cases z with
  | error er => exact hx pins σ H1 s1 er s' I1 y
  | ok fl => cases fl with
    | ret v => exact I1.after y
    | next => exact y.elim
    | brk => exact y.elim
    | cont => exact y.elim
end
end Lm

set_option Elab.async false
set_option linter.all false
set_option maxRecDepth 100000
set_option maxHeartbeats 4000000
namespace Lm
open PySem PySem.Spec PyProof.Rows L2

/-! ### the law's own call, by a promise kept where no repr is under way -/
section
variable {P : Program} {w : World} {K : PySem.W.Frag} {mg mb : Str → Option Value} {CX : CXT} {k : Nat} {fa a : Addr} {fd : FuncData} {x : Str} {sp : Sp} {s₁ : Shared} {vs : List Value} {ns : List Int}
/-- how the law's call ends -/
def Ended (s₁ : Shared) (r : Result) (s' : Shared) : Prop := r = .ok (.ret (.bool true)) ∧ OldK s₁.heap s'.heap ∧ s'.os = s₁.os ∧ AllBare s'.gens
theorem ended_of {H : Hp} (hO : Only H) (hok : HOk P w H s₁.heap) (hCX : ∀ e s', CX [] H s₁ (fun _ _ _ => False) e s' → False) {r : Result} {s' : Shared}
    (h : CR CX [] P w H s₁ (fun v _ => v = .bl true) (fun _ _ _ => False) r s') : Ended s₁ r s' := by
  cases r with
  | error e => exact (hCX e s' h).elim
  | ok fl => cases fl with
    | next => exact h.elim
    | brk => exact h.elim
    | cont => exact h.elim
    | ret u =>
      obtain ⟨v, H', os, bare, un, hok', rv, ev⟩ := h
      obtain rfl : v = .bl true := ev
      obtain rfl : u = Value.bool true := rv
      refine ⟨rfl, OldK.of_keep fun b o e => ?_, os, bare⟩
      rcases hO b with z | ⟨ob, xs, z⟩
      · exact un.keep b o e z (fun y => absurd (show b ∈ ([] : List Addr) from y) (by simp)) (by simp)
      · obtain ⟨e1, _⟩ := hok b _ z
        obtain ⟨e2, _⟩ := hok' b _ (un.frzs b ob _ z)
        rw [e] at e1
        cases e1
        exact e2
theorem law_callG (KX : K.In s₁.heap) (hns : s₁.heap.Ns mainGlobals mg) (hb : s₁.heap.Ns builtinsNs mb) (hbb : ∀ x : Str, x ≠ "__name__" → mb x = bootBuiltins x) (hlim : s₁.heap.NoLimit) (hg : s₁.gens = #[])
    (ha : s₁.heap.get? a = some { cls := .type "list", data := .seq vs.toArray }) (hi : IntsAre vs ns) (hl : ns.length ≤ sizeLine) (hr : Room k callerA) (hgd : callerA.guards = some [])
    (G : ∀ base : Heap, K.In base → base.Ns mainGlobals mg → FnG P w K mg base CX k fa fd [x] sp) (hbind : ∀ (s : Shared) (u : Value), BindsTo s fd ⟨[u], []⟩ [(x, u)])
    (hsp : ∀ H : Hp, Only H → SqL K H a (ns.map V.int) → sp [.ref a] H (fun v _ => v = .bl true) fun _ _ _ => False)
    (hCX : ∀ H e s', CX [] H s₁ (fun _ _ _ => False) e s' → False) : codeAny (model P w) callerA (.call (.ref fa) ⟨[.ref a], []⟩) (Ended s₁) s₁ := by
  have rv := vals_ints hi
  have main : ∀ H : Hp, Only H → SqL K H a (ns.map V.int) → HOk P w H s₁.heap → (∀ b, H b ≠ none → b = a) → (H a ≠ none → K.lookup a = none) →
      codeAny (model P w) callerA (.call (.ref fa) ⟨[.ref a], []⟩) (Ended s₁) s₁ := by
    intro H hO hS hok one hK
    -- what isn't the script lies in the base
    have off : ∀ {b : Addr}, b ≠ a → H b = none := fun {b} hb => Classical.byContradiction fun z => hb (one b z)
    have low : ∀ {b : Addr} {o : Obj}, s₁.heap.get? b = some o → H b = none → (hidT s₁.heap H).get? b = some o := fun e n => hidT_get e n
    have dic : ∀ {b : Addr} {o : Obj} {es : Array DictEntry} {ep : Nat}, s₁.heap.get? b = some o → o.data = .dict es ep → H b = none := fun {b o es ep} e d => off fun z => by
      subst z
      rw [ha] at e
      cases e
      cases (show Data.seq vs.toArray _ = Data.dict es ep from d)
    have nsB : ∀ {b : Addr} {m : Str → Option Value}, s₁.heap.Ns b m → (hidT s₁.heap H).Ns b m := fun {b m} ⟨o, es, ep, e, d, r⟩ => ⟨o, es, ep, low e (dic e d), d, r⟩
    have inB : K.In (hidT s₁.heap H) := fun b o e => low (KX b o e) (Classical.byContradiction fun z => by
      have eb := one b z
      subst eb
      rw [hK z] at e
      cases e)
    have md : Mod K mg (hidT s₁.heap H) := ⟨inB, nsB hns, ⟨mb, nsB hb, hbb⟩, let ⟨mc, h1, h2⟩ := hlim; ⟨mc, nsB h1, h2⟩⟩
    have e0 : Env0 P w K mg (hidT s₁.heap H) callerA [] s₁ H :=
      ⟨rfl, md, fun b o e => of_hidT e, Nat.le_of_eq (hidT_size _ _), trivial, fun b hb => absurd (show b ∈ ([] : List Addr) from hb) (by simp), hok, .of_eq hg⟩
    exact codeAny_mono ((G _ inB (nsB hns)).goes callerA [] s₁ H [.ref a] [.ref a] _ _ hgd hr e0 (hbind s₁ (.ref a)) (.cons rfl .nil) (hsp H hO hS)) fun r s' h => ended_of hO hok (hCX H) h
  cases hk : K.lookup a with
  | some o =>
    have e := KX a o hk
    rw [ha] at e
    cases e
    exact main (fun _ => none) (fun _ => .inl rfl) (.inr ⟨_, vs.toArray, _, hk, rfl, rfl, rfl, by rw [List.size_toArray, hi.length]; exact hl, by simpa using rv⟩) (fun b u z => nomatch (show (none : Option HO) = some u from z))
      (fun b z => absurd rfl z) fun z => absurd rfl z
  | none =>
    refine main (fun b => if b = a then some (.frz { cls := .type "list", data := .seq vs.toArray } (.lst (ns.map V.int))) else none) (fun b => ?_) (.inl (.inr ⟨{ cls := .type "list", data := .seq vs.toArray }, if_pos rfl⟩)) (fun b u z => ?_)
      (fun b z => Classical.byContradiction fun nb => z (if_neg nb)) fun _ => hk
    · by_cases nb : b = a
      · exact .inr ⟨_, _, if_pos nb⟩
      · exact .inl (if_neg nb)
    · by_cases nb : b = a
      · cases (if_pos nb).symm.trans z
        subst nb
        exact ⟨ha, by rw [List.length_map]; exact hl, vs, _, rv, ha⟩
      · cases (if_neg nb).symm.trans z
end
theorem walk_ofG {l : PySem.W.OpenLaw} {n k : Nat} {q : Program} {loose : List Str} {XP : (Str → Option Value) → Heap → Prop} {YP : World → Heap → Prop} {d : DefRec} {K : Params → PySem.W.Frag} {CX : World → CXT} {sp : World → Sp} {x : Str}
    (hn : l.most = some n) (hn2 : n ≤ sizeLine) (hdf : d.params.defaults = []) (hr : Room k callerA) (hgd : callerA.guards = some []) (hY : ∀ (w : World) (h : Heap), YP w h → (K w.params).In h)
    (F : ∀ (w : World) (mg : Str → Option Value) (fa : Addr) (h : Heap), (K w.params).In h → h.Ns mainGlobals mg → mg d.name = some (.ref fa) →
      ∃ fd : FuncData, (∀ (s : Shared) (u : Value), BindsTo s fd ⟨[u], []⟩ [(x, u)]) ∧ ∀ base : Heap, (K w.params).In base → base.Ns mainGlobals mg → FnG l.prog w (K w.params) mg base (CX w) k fa fd [x] (sp w))
    (hsp : ∀ (w : World) (H : Hp) (a : Addr) (ns : List Int), ns.length ≤ n → Only H → SqL (K w.params) H a (ns.map V.int) → sp w [.ref a] H (fun v _ => v = .bl true) fun _ _ _ => False)
    (hCX : ∀ (w : World) (H : Hp) (s : Shared) (e : Value) (s' : Shared), CX w [] H s (fun _ _ _ => False) e s' → False) : PySem.W.WalkO q loose XP YP l.row.toRowW d [] (fun f vs => PySem.call f vs) := by
  refine Att.attach_call hn hdf fun w s₀ s₁ mg mb fa o pm cd doc a vs ns G Y ho hd hcd hmg hobj hints hlen hg => ?_
  obtain ⟨fd, hb, hF⟩ := F w mg fa _ (hY w _ Y) G.T.g hmg
  exact law_callG (hY w _ Y) G.T.g G.T.b G.T.builtins G.T.nolimit hg hobj hints (Nat.le_trans hlen hn2) hr hgd hF hb (fun H hO hS => hsp w H a ns hlen hO hS) fun H e s' => hCX w H s₁ e s'
end Lm

set_option Elab.async false
set_option linter.all false
set_option maxRecDepth 100000
set_option maxHeartbeats 4000000
namespace Lm
open PySem PySem.Spec PyProof.Rows L2
section
variable {X : Cx} {CX : CXT} {k : Nat} {f C : Addr} {fd : FuncData} {ps : List Str} {sp : Sp} {E : L2.St → XK} {x : Str} {p pos : Pos} {e : Expr} {es : List Expr} {t : TA}
/-- C(e, ..), what its __init__ raises wished for at the slots -/
def tMakeS (C : Addr) (sp : Sp) (E : L2.St → XK) (t : TA) : TE := fun σ H Q => t σ H fun vs H1 => ∀ a dx, H1 a = none → H1 dx = none → dx ≠ a →
  sp (.ref a :: vs) (upd (upd H1 dx (.own a)) a (.ins C dx [])) (fun v H2 => v = .non ∧ Q (.ref a) H2) (E σ)
theorem pe_makeS (M : Mk X.K C f) (F : FnOk X.prog X.w X.K X.mg X.base CX k f fd ps sp) (hr : Room (k + 1) X.A) (hg : Gl X x) (hm : X.mg x = some (.ref C)) (hb : Binds X.K fd ps []) (hx : ∀ σ, PassesAt CX X σ (E σ))
    (ha : PA X (e :: es) t) (hdb : (x == ("__debug__" : Str)) = false := by decide) (he : starEach (e :: es) X.env = (false, eval e X.env) :: starEach es X.env := by rfl) (hpl : (backTo pos (starEach es X.env)).any (·.1) = false := by rfl) :
    PE X (.Call (.Name x p) (e :: es) [] pos) (tMakeS C sp E t) := by
  refine ⟨fun pins s σ H Q I h => ?_⟩
  refine wpAny_Call_Name_kw (ld_glob I hg hm (PySem.W.callWith_K (h₀ := X.base) I.ok.mod.kin M.kp (thn (ha.run pos pins s σ H _ I h) fun us s1 ⟨vs, H1, I1, r, q⟩ => ⟨I1.kIn, ?_⟩) he hpl) hdb)
  have hq := q (s1.heap.objs.size + 1) s1.heap.objs.size (I1.hok.fresh (Nat.le_succ _)) (I1.hok.fresh (Nat.le_refl _)) (Nat.ne_of_lt (Nat.lt_succ_self _))
  have J := Inv.made (C := C) I1
  have r2 : Vals (V.ref (s1.heap.objs.size + 1) :: vs) (Value.ref (s1.heap.objs.size + 1) :: us) := .cons rfl r
  have hl : (Value.ref (s1.heap.objs.size + 1) :: us).length = ps.length := (r2.length).symm.trans (F.len _ _ _ _ hq)
  have b := hb _ (Value.ref (s1.heap.objs.size + 1) :: us) J.kIn (by simpa using hl)
  rw [List.append_nil] at b
  show wpAny _ _ (call (.ref C) us) _ _ _
  refine wpAny_call (make_map (f := f) I1.kIn M.makes M.init (beq_iff_eq.mp M.fn) (codeAny_mono (F.run _ X.stack _ _ ⟨Value.ref (s1.heap.objs.size + 1) :: us, []⟩ _ _ _ (E σ) (hr.make C us []) (J.env0.make C us []) b r2 hq) fun z s' y => ?_))
  cases z with
  | error er => exact hx σ pins _ _ er s' J y
  | ok fl => cases fl with
    | ret u =>
      obtain ⟨v, H', I3, rv, ev, q3⟩ := J.after y
      subst ev
      exact ⟨rv, ⟨V.ref (s1.heap.objs.size + 1), H', I3, rfl, q3⟩⟩
    | next => exact y.elim
    | brk => exact y.elim
    | cont => exact y.elim
end
section
variable {P : Program} {w : World} {K : PySem.W.Frag} {mg : Str → Option Value} {base : Heap} {k : Nat} {f : Addr} {N ps : List Str} {sp : Sp} {x qual : Str} {st : Stmt} {fd : FuncData}
/-- .. of a def that no exception leaves -/
theorem FnG.ok (Fz : Fun K x qual st f fd) (S : FnScope N ps (defScope st)) (many : ∀ vs H Q E, sp vs H Q E → vs.length = ps.length)
    (body : ∀ (cdv : Value) (A : Around) (o : List Env) (s : Shared) (H : Hp) (vs : List V) (Q : VK) (E : XK), A.guards = some [] → Room k (A.deeper (envOfC qual (defScope st) s.heap.objs.size f cdv)) → sp vs H Q E →
      ∃ t, PSs (cxOf CX0 P w K mg base N qual (defScope st) f cdv A o s H E).nox (defBody st) t ∧ t { nx := fun _ H' => Q .non H', rt := Q } (start N vs) H) :
    FnG P w K mg base CX0 (k + 1) f fd ps sp :=
  FnG.of Fz S many fun cdv A o s H vs Q E hg hr hsp => let ⟨t, h, q⟩ := body cdv A o s H vs Q E hg hr hsp; ⟨t, h.nox, q⟩
theorem ifT {c : Bool} {Y Z : Prop} (e : c = true) (h : Y) : if c = true then Y else Z := by
  subst e
  exact iteT h
theorem ifF {c : Bool} {Y Z : Prop} (e : c = false) (h : Z) : if c = true then Y else Z := by
  subst e
  exact iteF h
theorem guards_deeper {A : Around} (env : Env) (h : A.guards = some []) : (A.deeper env).guards = some [] := by
  first
    | exact h
    | simpa [Around.deeper, pushGuards, Code.guards] using h
end
/-- what stood stands -/
theorem same_new {H : Hp} {p : Addr} {o : HO} (h : H p = none) : Same H (upd H p o) := fun b u e => by rw [upd_ne (ne_of_none e h)]; exact e
end Lm

set_option Elab.async false
set_option linter.all false
set_option maxRecDepth 100000
set_option maxHeartbeats 4000000
namespace Lm
open PySem PySem.Spec PyProof.Rows L2
theorem fm_take {α : Type} {os : List (Option α)} {i : Nat} {o : Option α} (h : os[i]? = some o) : (os.take (i + 1)).filterMap id = (os.take i).filterMap id ++ o.toList := by
  have hi : i < os.length := by
    have := List.getElem?_eq_some_iff.mp h
    exact this.1
  have e : os.take (i + 1) = os.take i ++ [o] := by
    rw [List.take_add_one, h]
    rfl
  rw [e, List.filterMap_append]
  cases o <;> rfl
theorem fm_len {α : Type} (os : List (Option α)) : (os.filterMap id).length ≤ os.length := List.length_filterMap_le _ _
/-- a comprehension over a list that stands: what each turn keeps -/
theorem lc_fm {K : PySem.W.Frag} {a : Addr} {xs : List V} {g : TG} {tt : TT} {te : TE} {vs : List Nat} {σ : L2.St} {H1 : Hp} {D : Addr} {Qd : Hp → Prop} (os : List (Option V)) (hS : SqL K H1 a xs) (hD : H1 D = none) (hl : xs.length = os.length) (hz : os.length ≤ sizeLine)
    (hs : ∀ (i : Nat) (x : V) (o : Option V) (H : Hp) (Qy : VK) (Qn : Hp → Prop), xs[i]? = some x → os[i]? = some o → Same H1 H → (∀ y, o = some y → ∀ H4, Same H H4 → Qy y H4) → (o = none → ∀ H4, Same H H4 → Qn H4) →
      g x (wipe σ vs) H fun σ2 H2 => wipe σ2 vs = wipe σ vs ∧ tt σ2 H2 fun b H3 => if b = true then te σ2 H3 Qy else Qn H3) (hd : ∀ H, Same H1 H → H D = some (.lst (os.filterMap id)) → Qd H) :
    ∃ W : Nat → Nat → Hp → Prop, (∃ m, W 0 m (upd H1 D (.lst []))) ∧ ∀ i m H, W i m H →
      ((Itl K a).stop i H ∧ Qd H) ∨ ((Itl K a).go i H ∧ ∃ Nx : Hp → Prop, (∀ H', Nx H' → ∃ m', m' < m ∧ W (i + 1) m' H') ∧ ∀ x H', (Itl K a).yld i H x H' → g x (wipe σ vs) H' fun σ2 H2 => wipe σ2 vs = wipe σ vs ∧ tt σ2 H2 fun b H3 =>
        if b = true then te σ2 H3 fun y H4 => ∃ acc, H4 D = some (.lst acc) ∧ acc.length < sizeLine ∧ Nx (upd H4 D (.lst (acc ++ [y]))) else Nx H3) := by
  refine lc_list (K := K) (a := a) (xs := xs) (fun i H => Same H1 H ∧ H D = some (.lst ((os.take i).filterMap id))) ⟨same_new hD, by rw [upd_same]; rfl⟩ (fun i H _ z => z.1.seq hS) (fun i x H hx z => ?_) (fun H z => hd H z.1 (by rw [z.2, hl, List.take_length]))
  obtain ⟨z1, z2⟩ := z
  have hi : i < os.length := by
    have := (List.getElem?_eq_some_iff.mp hx).1
    omega
  have ho : os[i]? = some os[i] := List.getElem?_eq_getElem hi
  refine hs i x os[i] H _ _ hx ho z1 (fun y e H4 s4 => ⟨_, s4 _ _ z2, ?_, ?_, ?_⟩) (fun e H4 s4 => ⟨z1.trans s4, ?_⟩)
  · have := fm_len (os.take i)
    rw [List.length_take] at this
    omega
  · intro b u eb
    rw [upd_ne (ne_of_none eb hD)]
    exact s4 _ _ (z1 _ _ eb)
  · rw [upd_same, fm_take ho, e]
    rfl
  · rw [s4 _ _ z2, fm_take ho, e]
    simp
theorem seqT {K : PySem.W.Frag} {H H' : Hp} {a : Addr} {xs : List V} (e : Same H H') (h : SqT K H a xs) : SqT K H' a xs := by
  rcases h with (h | ⟨o, h⟩) | h
  · exact .inl (.inl (e _ _ h))
  · exact .inl (.inr ⟨o, e _ _ h⟩)
  · exact .inr h
/-- a comprehension over a tuple that stands: what each turn keeps -/
theorem lc_fmT {K : PySem.W.Frag} {a : Addr} {xs : List V} {g : TG} {tt : TT} {te : TE} {vs : List Nat} {σ : L2.St} {H1 : Hp} {D : Addr} {Qd : Hp → Prop} (os : List (Option V)) (hS : SqT K H1 a xs) (hD : H1 D = none) (hl : xs.length = os.length) (hz : os.length ≤ sizeLine)
    (hs : ∀ (i : Nat) (x : V) (o : Option V) (H : Hp) (Qy : VK) (Qn : Hp → Prop), xs[i]? = some x → os[i]? = some o → Same H1 H → (∀ y, o = some y → ∀ H4, Same H H4 → Qy y H4) → (o = none → ∀ H4, Same H H4 → Qn H4) →
      g x (wipe σ vs) H fun σ2 H2 => wipe σ2 vs = wipe σ vs ∧ tt σ2 H2 fun b H3 => if b = true then te σ2 H3 Qy else Qn H3) (hd : ∀ H, Same H1 H → H D = some (.lst (os.filterMap id)) → Qd H) :
    ∃ W : Nat → Nat → Hp → Prop, (∃ m, W 0 m (upd H1 D (.lst []))) ∧ ∀ i m H, W i m H →
      ((Itt K a).stop i H ∧ Qd H) ∨ ((Itt K a).go i H ∧ ∃ Nx : Hp → Prop, (∀ H', Nx H' → ∃ m', m' < m ∧ W (i + 1) m' H') ∧ ∀ x H', (Itt K a).yld i H x H' → g x (wipe σ vs) H' fun σ2 H2 => wipe σ2 vs = wipe σ vs ∧ tt σ2 H2 fun b H3 =>
        if b = true then te σ2 H3 fun y H4 => ∃ acc, H4 D = some (.lst acc) ∧ acc.length < sizeLine ∧ Nx (upd H4 D (.lst (acc ++ [y]))) else Nx H3) := by
  refine lc_tup (K := K) (a := a) (xs := xs) (fun i H => Same H1 H ∧ H D = some (.lst ((os.take i).filterMap id))) ⟨same_new hD, by rw [upd_same]; rfl⟩ (fun i H _ z => seqT z.1 hS) (fun i x H hx z => ?_) (fun H z => hd H z.1 (by rw [z.2, hl, List.take_length]))
  obtain ⟨z1, z2⟩ := z
  have hi : i < os.length := by
    have := (List.getElem?_eq_some_iff.mp hx).1
    omega
  have ho : os[i]? = some os[i] := List.getElem?_eq_getElem hi
  refine hs i x os[i] H _ _ hx ho z1 (fun y e H4 s4 => ⟨_, s4 _ _ z2, ?_, ?_, ?_⟩) (fun e H4 s4 => ⟨z1.trans s4, ?_⟩)
  · have := fm_len (os.take i)
    rw [List.length_take] at this
    omega
  · intro b u eb
    rw [upd_ne (ne_of_none eb hD)]
    exact s4 _ _ (z1 _ _ eb)
  · rw [upd_same, fm_take ho, e]
    rfl
  · rw [s4 _ _ z2, fm_take ho, e]
    simp
end Lm

set_option Elab.async false
set_option linter.all false
set_option maxRecDepth 100000
set_option maxHeartbeats 4000000
namespace Lm
open PySem PySem.Spec PyProof.Rows L2
/-- a built-in function called with keywords -/
theorem tree_kw {prog : Program} {w : World} {A : Around} {E : Value → Shared → Prop} {s : Shared} {id : String} {b : Builtin} {a : Args} {Q : Value → Shared → Prop} (hk : builtinKind id = none) (hp : plainId id = true)
    (hb : entryFor table id = some b) (ha : argsOk id a)
    (hc : wpAny (model prog w) A.in1 (b a) (fun fin s' => match fin with
      | .done f => (match (Except.ok f : Result) with | .ok (.ret v) => Q v s' | .ok _ => False | .error e => E e s')
      | .again c' => c'.quiet = true ∧ codeAny (model prog w) A c' (fun r s' => match r with | .ok (.ret v) => Q v s' | .ok _ => False | .error e => E e s') s') E s) :
    wpAny (model prog w) A (call (.builtin id) a.pos a.kw) Q E s := by
  refine wpAny_call (codeAny_call_builtin hp hb ?_)
  simp only [checkBuiltinCall, hk]
  cases hs : Manifest.signature? id with
  | none => exact wpAny_pure hc
  | some g =>
    have q : Bind.checkArgs id g a = pure () := by
      simp only [argsOk, hs] at ha
      exact ha
    show wpAny _ _ (Bind.checkArgs id g a) _ _ _
    rw [q]
    exact wpAny_pure hc

section
variable {prog : Program} {w : World} {A : Around} {E : Value → Shared → Prop} {R : Result → Shared → Prop} {I : Addr} {fp wr : List Addr} {n : Nat} {P : Nat → Value → Prop} {St : Nat → Heap → Prop} {dv : Value}
/-- max's turns, with default= -/
theorem max_turns (W : Walks prog w A.in1 I fp wr n P St) (bt : Nat → Nat → Bool) (hcmp : CmpOf prog w A.in1 .Gt P bt) (S : Addr) (off : S ∉ fp) :
    ∀ (k j : Nat) (s : Shared) (vb : Value) (c : Nat), n - (j + 1) = k → j + 1 ≤ n → St (j + 1) s.heap → P (argBest bt j) vb →
    s.heap.get? S = some { cls := .type "list", dict := none, data := .seq #[vb, vb] c, slots := #[] } →
    (∀ v h' tk, P (argBest bt (n - 1)) v → (∀ b o, b ∉ wr → b ≠ S → s.heap.get? b = some o → h'.get? b = some o) → R (.ok (.ret v)) { s with heap := h', toks := tk }) →
    codeAny (model prog w) A (.builtin "max.loop" ⟨[.ref I, .none, .ref S], [(Str.ofString "default", dv)]⟩) R s := by
  have offw : S ∉ wr := fun h => off (W.sub _ h)
  have nm : (toString "max" ++ toString ".loop" : String) = "max.loop" := by decide
  intro k
  induction k with
  | zero =>
    intro j s vb c hk hj st hb hS fin
    have last : j + 1 = n := by omega
    refine codeAny_builtin F.entry_max_loop ?_
    rw [Around.under_plainId F.plain_max_loop _]
    refine wpAny_bind (m := seqItems? (.ref S)) (wpAny_seqItems hS rfl (wpAny_bind (m := tryCatch (pyNext (.ref I)) _) (wpAny_tryCatch (W.done s _ _ (last ▸ st) fun h' tk hk' => ?_))))
    have hS' := hk' S _ offw hS
    refine wpAny_bind (m := updateSeq S (fun _ => #[])) (wpAny_updateSeq hS' rfl (wpAny_bind (wpAny_letGo (wpAny_pure ?_))))
    exact fin vb _ tk (last ▸ hb) fun b o n1 n2 e => (Heap.get?_update_other _ _ (Ne.symm n2)).trans (hk' b o n1 e)
  | succ k ih =>
    intro j s vb c hk hj st hb hS fin
    have more : j + 1 < n := by omega
    refine codeAny_builtin F.entry_max_loop ?_
    rw [Around.under_plainId F.plain_max_loop _]
    refine wpAny_bind (m := seqItems? (.ref S)) (wpAny_seqItems hS rfl (wpAny_bind (m := tryCatch (pyNext (.ref I)) _) (wpAny_tryCatch (W.item (j + 1) s _ _ more st fun v h' tk hP st' hk' => ?_))))
    have hS' := hk' S _ offw hS
    refine wpAny_bind (m := tryCatch (holding [v, v] (richCompare .Gt v vb >>= _)) _) (wpAny_tryCatch (wpAny_holding (wpAny_bind (hcmp (j + 1) (argBest bt j) v vb _ _ _ hP hb ?_))))
    refine wpAny_bind (wpAny_holding (wpAny_truthy_bool ?_))
    refine wpAny_bind (wpAny_letGo (wpAny_pure ?_))
    cases q : bt (j + 1) (argBest bt j) with
    | true =>
      simp only [if_true]
      refine wpAny_bind (wpAny_updateSeq hS' rfl (wpAny_bind (wpAny_letGo ?_)))
      rw [nm]
      refine wpAny_pure ⟨plainId_quiet F.plain_max_loop _, ih (j + 1) _ v _ (by omega) more (W.frame _ _ _ st' fun b hbf o e => ?_) (by simp only [argBest, q, if_true]; exact hP) (Heap.get?_update_self _ hS' rfl) fun v' h'' tk'' hP' hk'' => ?_⟩
      · exact (Heap.get?_update_other _ _ (fun h : S = b => off (h ▸ hbf))).trans e
      · exact fin v' h'' tk'' hP' fun b o n1 n2 e => hk'' b o n1 n2 ((Heap.get?_update_other _ _ (Ne.symm n2)).trans (hk' b o n1 e))
    | false =>
      simp only [Bool.false_eq_true, if_false]
      refine wpAny_bind (wpAny_letGo ?_)
      rw [nm]
      refine wpAny_pure ⟨plainId_quiet F.plain_max_loop _, ih (j + 1) _ vb c (by omega) more st' (by simp only [argBest, q, Bool.false_eq_true, if_false]; exact hb) hS' fun v' h'' tk'' hP' hk'' => ?_⟩
      exact fin v' h'' tk'' hP' fun b o n1 n2 e => hk'' b o n1 n2 (hk' b o n1 e)
/-- max's first turn: an item, or the default -/
theorem max_first (W : Walks prog w A.in1 I fp wr n P St) (bt : Nat → Nat → Bool) (hcmp : CmpOf prog w A.in1 .Gt P bt) (S : Addr) (off : S ∉ fp) {s : Shared} {c : Nat} (st : St 0 s.heap)
    (hS : s.heap.get? S = some { cls := .type "list", dict := none, data := .seq #[] c, slots := #[] })
    (some_ : 0 < n → ∀ v h' tk, P (argBest bt (n - 1)) v → (∀ b o, b ∉ wr → b ≠ S → s.heap.get? b = some o → h'.get? b = some o) → R (.ok (.ret v)) { s with heap := h', toks := tk })
    (none_ : n = 0 → ∀ h' tk, (∀ b o, b ∉ wr → b ≠ S → s.heap.get? b = some o → h'.get? b = some o) → R (.ok (.ret dv)) { s with heap := h', toks := tk }) :
    codeAny (model prog w) A (.builtin "max.loop" ⟨[.ref I, .none, .ref S], [(Str.ofString "default", dv)]⟩) R s := by
  have offw : S ∉ wr := fun h => off (W.sub _ h)
  have nm : (toString "max" ++ toString ".loop" : String) = "max.loop" := by decide
  refine codeAny_builtin F.entry_max_loop ?_
  rw [Around.under_plainId F.plain_max_loop _]
  rcases Nat.eq_zero_or_pos n with z | hn
  · refine wpAny_bind (m := seqItems? (.ref S)) (wpAny_seqItems hS rfl (wpAny_bind (m := tryCatch (pyNext (.ref I)) _) (wpAny_tryCatch (W.done s _ _ (z ▸ st) fun h' tk hk' => ?_))))
    exact wpAny_bind (wpAny_rule (wpAny_pure (none_ z h' tk fun b o n1 _ e => hk' b o n1 e)))
  · refine wpAny_bind (m := seqItems? (.ref S)) (wpAny_seqItems hS rfl (wpAny_bind (m := tryCatch (pyNext (.ref I)) _) (wpAny_tryCatch (W.item 0 s _ _ hn st fun v h' tk hP st' hk' => ?_))))
    have hS' := hk' S _ offw hS
    refine wpAny_bind (m := updateSeq S (fun _ => #[v, v])) (wpAny_updateSeq hS' rfl ?_)
    rw [nm]
    refine wpAny_pure ⟨plainId_quiet F.plain_max_loop _, max_turns W bt hcmp S off _ 0 _ v _ rfl hn (W.frame _ _ _ st' fun b hbf o e => ?_) hP (Heap.get?_update_self _ hS' rfl) fun v' h'' tk'' hP' hk'' => ?_⟩
    · exact (Heap.get?_update_other _ _ (fun h : S = b => off (h ▸ hbf))).trans e
    · exact some_ hn v' h'' tk'' hP' fun b o n1 n2 e => hk'' b o n1 n2 ((Heap.get?_update_other _ _ (Ne.symm n2)).trans (hk' b o n1 e))
theorem args_maxd (a d : Value) : argsOk "max" ⟨[a], [(Str.ofString "default", d)]⟩ := by unfold argsOk; kernel_rfl
/-- max(l, default=d), l a list of ints -/
theorem max_call {s : Shared} {l : Addr} {xs : Array (Int × Tok)} {Q : Value → Shared → Prop} (hh : A.handled = none) (hl : s.heap.IsList l (intItems xs))
    (some_ : 0 < xs.size → ∀ v h' tk, (intItems xs)[argBest (fun i j => decide (numAt xs i > numAt xs j)) (xs.size - 1)]? = some v → (∀ b o, s.heap.get? b = some o → h'.get? b = some o) → Q v { s with heap := h', toks := tk })
    (none_ : xs.size = 0 → ∀ h' tk, (∀ b o, s.heap.get? b = some o → h'.get? b = some o) → Q dv { s with heap := h', toks := tk }) :
    wpAny (model prog w) A (call (.builtin "max") [.ref l] [(Str.ofString "default", dv)]) Q E s := by
  have nm : (toString "max" ++ toString ".loop" : String) = "max.loop" := by decide
  refine tree_kw (a := ⟨[.ref l], [(Str.ofString "default", dv)]⟩) F.kind_max F.plain_max F.entry_max (args_maxd _ _) ?_
  show wpAny _ A.in1 (Builtin.Builtins.bindParams "max" ["key", "default"] 0 ⟨[], [(Str.ofString "default", dv)]⟩ >>= _) _ _ s
  refine wpAny_bind (wpAny_of_eq (show Builtin.Builtins.bindParams "max" ["key", "default"] 0 ⟨[], [(Str.ofString "default", dv)]⟩ = pure [none, some dv] from rfl) (wpAny_bind (wpAny_pure (wpAny_bind ?_))))
  refine iter_intList hl fun s₂ e st hfp hne => ?_
  subst e
  refine wpAny_bind (wpAny_newObj_type ?_)
  rw [nm]
  have off : (s.heap.push { cls := .type "list_iterator", data := .fields #[.ref l, .int 0 0] }).objs.size ∉ [s.heap.objs.size, l] := fun hm => Nat.lt_irrefl _ (hfp _ hm)
  have W := Walks.list (prog := prog) (w := w) (A := A.in1) hh s.heap.objs.size l hne (intItems xs)
  have old : ∀ {b : Addr} {o : Obj}, s.heap.get? b = some o → b ∉ [s.heap.objs.size] ∧ b ≠ (s.heap.push { cls := .type "list_iterator", data := .fields #[.ref l, .int 0 0] }).objs.size := fun {b o} e => by
    have hb := Heap.lt_size e
    refine ⟨fun hm => Nat.ne_of_lt hb (List.mem_singleton.mp hm), ?_⟩
    rw [Heap.size_push]
    exact Nat.ne_of_lt (Nat.lt_succ_of_lt hb)
  refine wpAny_pure ⟨plainId_quiet F.plain_max_loop _, max_first W _ (CmpOf.ints_gt (numAt xs) (fun _ _ => intItems_at)) _ off (W.frame _ _ _ st fun b _ o e => Heap.get?_push_of_some _ e) (Heap.get?_push_size _ rfl) (fun hn v h' tk hP hk => ?_) (fun hn h' tk hk => ?_)⟩
  · exact some_ (by simpa [intItems] using hn) v h' tk (by simpa [intItems] using hP) fun b o e => hk b o (old e).1 (old e).2 (Heap.get?_push_of_some _ (Heap.get?_push_of_some _ e))
  · exact none_ (by simpa [intItems] using hn) h' tk fun b o e => hk b o (old e).1 (old e).2 (Heap.get?_push_of_some _ (Heap.get?_push_of_some _ e))
end
/-- max of a list of ints, or what is told for none -/
def rmaxd (K : PySem.W.Frag) : List V → List V → Hp → VK → Prop := fun vs zs H Q => ∃ (a : Addr) (ns : List Int) (d : V), vs = [.ref a] ∧ zs = [d] ∧ SqL K H a (ns.map V.int) ∧ (ns = [] → Q d H) ∧ ∀ m, m ∈ ns → (∀ y, y ∈ ns → y ≤ m) → Q (.int m) H
theorem cr_maxd {X : Cx} (hc : X.calm = true) : CallRK X (.builtin "max") [Str.ofString "default"] (rmaxd X.K) := by
  intro pins s σ H vs zs us ws Q I r rz h
  obtain ⟨a, ns, d, rfl, rfl, hs, q0, q1⟩ := h
  obtain ⟨its, rv, hl, _⟩ := I.list hs
  obtain rfl := Vals.ref1 r
  obtain ⟨dv, rfl, rd⟩ := vals1 rz
  have hi := rv.ints
  obtain ⟨xs, e⟩ := hi.allInts.items
  have hn : numsOf (intItems xs).toList = ns := by rw [← e]; exact hi.numsOf
  rw [nums_intItems] at hn
  have hl2 := hl.isList
  rw [e] at hl2
  show wpAny _ _ (call (.builtin "max") [.ref a] [(Str.ofString "default", dv)]) _ _ _
  refine max_call (I.ok.hd hc) hl2 (fun hz v h' tk hv hk => ?_) (fun hz h' tk hk => ?_)
  · obtain ⟨t, rfl⟩ := intItems_at hv
    obtain ⟨h1, h2⟩ := argBest_gt (numAt xs) (xs.size - 1)
    refine ⟨.int _, H, I.kept hk, ⟨_, rfl⟩, q1 _ ?_ fun y hy => ?_⟩
    · subst hn
      rw [numAt_eq]
      exact PySem.getD_mem (by rw [List.length_map, Array.length_toList]; omega)
    · subst hn
      obtain ⟨j, hj, rfl⟩ := mem_getD hy
      rw [List.length_map, Array.length_toList] at hj
      rw [← numAt_eq]
      exact h2 j (by omega)
  · refine ⟨d, H, I.kept hk, rd, q0 ?_⟩
    subst hn
    have : xs.toList = [] := List.eq_nil_of_length_eq_zero (by simpa using hz)
    rw [this]
    rfl

section
variable {prog : Program} {w : World} {A : Around} {E : Value → Shared → Prop} {R : Result → Shared → Prop} {I : Addr} {fp wr : List Addr} {n : Nat} {P : Nat → Value → Prop} {St : Nat → Heap → Prop} {dv : Value}
/-- min's turns, with default= -/
theorem min_turns (W : Walks prog w A.in1 I fp wr n P St) (bt : Nat → Nat → Bool) (hcmp : CmpOf prog w A.in1 .Lt P bt) (S : Addr) (off : S ∉ fp) :
    ∀ (k j : Nat) (s : Shared) (vb : Value) (c : Nat), n - (j + 1) = k → j + 1 ≤ n → St (j + 1) s.heap → P (argBest bt j) vb →
    s.heap.get? S = some { cls := .type "list", dict := none, data := .seq #[vb, vb] c, slots := #[] } →
    (∀ v h' tk, P (argBest bt (n - 1)) v → (∀ b o, b ∉ wr → b ≠ S → s.heap.get? b = some o → h'.get? b = some o) → R (.ok (.ret v)) { s with heap := h', toks := tk }) →
    codeAny (model prog w) A (.builtin "min.loop" ⟨[.ref I, .none, .ref S], [(Str.ofString "default", dv)]⟩) R s := by
  have offw : S ∉ wr := fun h => off (W.sub _ h)
  have nm : (toString "min" ++ toString ".loop" : String) = "min.loop" := by decide
  intro k
  induction k with
  | zero =>
    intro j s vb c hk hj st hb hS fin
    have last : j + 1 = n := by omega
    refine codeAny_builtin F.entry_min_loop ?_
    rw [Around.under_plainId F.plain_min_loop _]
    refine wpAny_bind (m := seqItems? (.ref S)) (wpAny_seqItems hS rfl (wpAny_bind (m := tryCatch (pyNext (.ref I)) _) (wpAny_tryCatch (W.done s _ _ (last ▸ st) fun h' tk hk' => ?_))))
    have hS' := hk' S _ offw hS
    refine wpAny_bind (m := updateSeq S (fun _ => #[])) (wpAny_updateSeq hS' rfl (wpAny_bind (wpAny_letGo (wpAny_pure ?_))))
    exact fin vb _ tk (last ▸ hb) fun b o n1 n2 e => (Heap.get?_update_other _ _ (Ne.symm n2)).trans (hk' b o n1 e)
  | succ k ih =>
    intro j s vb c hk hj st hb hS fin
    have more : j + 1 < n := by omega
    refine codeAny_builtin F.entry_min_loop ?_
    rw [Around.under_plainId F.plain_min_loop _]
    refine wpAny_bind (m := seqItems? (.ref S)) (wpAny_seqItems hS rfl (wpAny_bind (m := tryCatch (pyNext (.ref I)) _) (wpAny_tryCatch (W.item (j + 1) s _ _ more st fun v h' tk hP st' hk' => ?_))))
    have hS' := hk' S _ offw hS
    refine wpAny_bind (m := tryCatch (holding [v, v] (richCompare .Lt v vb >>= _)) _) (wpAny_tryCatch (wpAny_holding (wpAny_bind (hcmp (j + 1) (argBest bt j) v vb _ _ _ hP hb ?_))))
    refine wpAny_bind (wpAny_holding (wpAny_truthy_bool ?_))
    refine wpAny_bind (wpAny_letGo (wpAny_pure ?_))
    cases q : bt (j + 1) (argBest bt j) with
    | true =>
      simp only [if_true]
      refine wpAny_bind (wpAny_updateSeq hS' rfl (wpAny_bind (wpAny_letGo ?_)))
      rw [nm]
      refine wpAny_pure ⟨plainId_quiet F.plain_min_loop _, ih (j + 1) _ v _ (by omega) more (W.frame _ _ _ st' fun b hbf o e => ?_) (by simp only [argBest, q, if_true]; exact hP) (Heap.get?_update_self _ hS' rfl) fun v' h'' tk'' hP' hk'' => ?_⟩
      · exact (Heap.get?_update_other _ _ (fun h : S = b => off (h ▸ hbf))).trans e
      · exact fin v' h'' tk'' hP' fun b o n1 n2 e => hk'' b o n1 n2 ((Heap.get?_update_other _ _ (Ne.symm n2)).trans (hk' b o n1 e))
    | false =>
      simp only [Bool.false_eq_true, if_false]
      refine wpAny_bind (wpAny_letGo ?_)
      rw [nm]
      refine wpAny_pure ⟨plainId_quiet F.plain_min_loop _, ih (j + 1) _ vb c (by omega) more st' (by simp only [argBest, q, Bool.false_eq_true, if_false]; exact hb) hS' fun v' h'' tk'' hP' hk'' => ?_⟩
      exact fin v' h'' tk'' hP' fun b o n1 n2 e => hk'' b o n1 n2 (hk' b o n1 e)
/-- min's first turn: an item, or the default -/
theorem min_first (W : Walks prog w A.in1 I fp wr n P St) (bt : Nat → Nat → Bool) (hcmp : CmpOf prog w A.in1 .Lt P bt) (S : Addr) (off : S ∉ fp) {s : Shared} {c : Nat} (st : St 0 s.heap)
    (hS : s.heap.get? S = some { cls := .type "list", dict := none, data := .seq #[] c, slots := #[] })
    (some_ : 0 < n → ∀ v h' tk, P (argBest bt (n - 1)) v → (∀ b o, b ∉ wr → b ≠ S → s.heap.get? b = some o → h'.get? b = some o) → R (.ok (.ret v)) { s with heap := h', toks := tk })
    (none_ : n = 0 → ∀ h' tk, (∀ b o, b ∉ wr → b ≠ S → s.heap.get? b = some o → h'.get? b = some o) → R (.ok (.ret dv)) { s with heap := h', toks := tk }) :
    codeAny (model prog w) A (.builtin "min.loop" ⟨[.ref I, .none, .ref S], [(Str.ofString "default", dv)]⟩) R s := by
  have offw : S ∉ wr := fun h => off (W.sub _ h)
  have nm : (toString "min" ++ toString ".loop" : String) = "min.loop" := by decide
  refine codeAny_builtin F.entry_min_loop ?_
  rw [Around.under_plainId F.plain_min_loop _]
  rcases Nat.eq_zero_or_pos n with z | hn
  · refine wpAny_bind (m := seqItems? (.ref S)) (wpAny_seqItems hS rfl (wpAny_bind (m := tryCatch (pyNext (.ref I)) _) (wpAny_tryCatch (W.done s _ _ (z ▸ st) fun h' tk hk' => ?_))))
    exact wpAny_bind (wpAny_rule (wpAny_pure (none_ z h' tk fun b o n1 _ e => hk' b o n1 e)))
  · refine wpAny_bind (m := seqItems? (.ref S)) (wpAny_seqItems hS rfl (wpAny_bind (m := tryCatch (pyNext (.ref I)) _) (wpAny_tryCatch (W.item 0 s _ _ hn st fun v h' tk hP st' hk' => ?_))))
    have hS' := hk' S _ offw hS
    refine wpAny_bind (m := updateSeq S (fun _ => #[v, v])) (wpAny_updateSeq hS' rfl ?_)
    rw [nm]
    refine wpAny_pure ⟨plainId_quiet F.plain_min_loop _, min_turns W bt hcmp S off _ 0 _ v _ rfl hn (W.frame _ _ _ st' fun b hbf o e => ?_) hP (Heap.get?_update_self _ hS' rfl) fun v' h'' tk'' hP' hk'' => ?_⟩
    · exact (Heap.get?_update_other _ _ (fun h : S = b => off (h ▸ hbf))).trans e
    · exact some_ hn v' h'' tk'' hP' fun b o n1 n2 e => hk'' b o n1 n2 ((Heap.get?_update_other _ _ (Ne.symm n2)).trans (hk' b o n1 e))
theorem args_mind (a d : Value) : argsOk "min" ⟨[a], [(Str.ofString "default", d)]⟩ := by unfold argsOk; kernel_rfl
/-- min(l, default=d), l a list of ints -/
theorem min_call {s : Shared} {l : Addr} {xs : Array (Int × Tok)} {Q : Value → Shared → Prop} (hh : A.handled = none) (hl : s.heap.IsList l (intItems xs))
    (some_ : 0 < xs.size → ∀ v h' tk, (intItems xs)[argBest (fun i j => decide (numAt xs i < numAt xs j)) (xs.size - 1)]? = some v → (∀ b o, s.heap.get? b = some o → h'.get? b = some o) → Q v { s with heap := h', toks := tk })
    (none_ : xs.size = 0 → ∀ h' tk, (∀ b o, s.heap.get? b = some o → h'.get? b = some o) → Q dv { s with heap := h', toks := tk }) :
    wpAny (model prog w) A (call (.builtin "min") [.ref l] [(Str.ofString "default", dv)]) Q E s := by
  have nm : (toString "min" ++ toString ".loop" : String) = "min.loop" := by decide
  refine tree_kw (a := ⟨[.ref l], [(Str.ofString "default", dv)]⟩) F.kind_min F.plain_min F.entry_min (args_mind _ _) ?_
  show wpAny _ A.in1 (Builtin.Builtins.bindParams "min" ["key", "default"] 0 ⟨[], [(Str.ofString "default", dv)]⟩ >>= _) _ _ s
  refine wpAny_bind (wpAny_of_eq (show Builtin.Builtins.bindParams "min" ["key", "default"] 0 ⟨[], [(Str.ofString "default", dv)]⟩ = pure [none, some dv] from rfl) (wpAny_bind (wpAny_pure (wpAny_bind ?_))))
  refine iter_intList hl fun s₂ e st hfp hne => ?_
  subst e
  refine wpAny_bind (wpAny_newObj_type ?_)
  rw [nm]
  have off : (s.heap.push { cls := .type "list_iterator", data := .fields #[.ref l, .int 0 0] }).objs.size ∉ [s.heap.objs.size, l] := fun hm => Nat.lt_irrefl _ (hfp _ hm)
  have W := Walks.list (prog := prog) (w := w) (A := A.in1) hh s.heap.objs.size l hne (intItems xs)
  have old : ∀ {b : Addr} {o : Obj}, s.heap.get? b = some o → b ∉ [s.heap.objs.size] ∧ b ≠ (s.heap.push { cls := .type "list_iterator", data := .fields #[.ref l, .int 0 0] }).objs.size := fun {b o} e => by
    have hb := Heap.lt_size e
    refine ⟨fun hm => Nat.ne_of_lt hb (List.mem_singleton.mp hm), ?_⟩
    rw [Heap.size_push]
    exact Nat.ne_of_lt (Nat.lt_succ_of_lt hb)
  refine wpAny_pure ⟨plainId_quiet F.plain_min_loop _, min_first W _ (CmpOf.ints_lt (numAt xs) (fun _ _ => intItems_at)) _ off (W.frame _ _ _ st fun b _ o e => Heap.get?_push_of_some _ e) (Heap.get?_push_size _ rfl) (fun hn v h' tk hP hk => ?_) (fun hn h' tk hk => ?_)⟩
  · exact some_ (by simpa [intItems] using hn) v h' tk (by simpa [intItems] using hP) fun b o e => hk b o (old e).1 (old e).2 (Heap.get?_push_of_some _ (Heap.get?_push_of_some _ e))
  · exact none_ (by simpa [intItems] using hn) h' tk fun b o e => hk b o (old e).1 (old e).2 (Heap.get?_push_of_some _ (Heap.get?_push_of_some _ e))
end
/-- min of a list of ints, or what is told for none -/
def rmind (K : PySem.W.Frag) : List V → List V → Hp → VK → Prop := fun vs zs H Q => ∃ (a : Addr) (ns : List Int) (d : V), vs = [.ref a] ∧ zs = [d] ∧ SqL K H a (ns.map V.int) ∧ (ns = [] → Q d H) ∧ ∀ m, m ∈ ns → (∀ y, y ∈ ns → m ≤ y) → Q (.int m) H
theorem cr_mind {X : Cx} (hc : X.calm = true) : CallRK X (.builtin "min") [Str.ofString "default"] (rmind X.K) := by
  intro pins s σ H vs zs us ws Q I r rz h
  obtain ⟨a, ns, d, rfl, rfl, hs, q0, q1⟩ := h
  obtain ⟨its, rv, hl, _⟩ := I.list hs
  obtain rfl := Vals.ref1 r
  obtain ⟨dv, rfl, rd⟩ := vals1 rz
  have hi := rv.ints
  obtain ⟨xs, e⟩ := hi.allInts.items
  have hn : numsOf (intItems xs).toList = ns := by rw [← e]; exact hi.numsOf
  rw [nums_intItems] at hn
  have hl2 := hl.isList
  rw [e] at hl2
  show wpAny _ _ (call (.builtin "min") [.ref a] [(Str.ofString "default", dv)]) _ _ _
  refine min_call (I.ok.hd hc) hl2 (fun hz v h' tk hv hk => ?_) (fun hz h' tk hk => ?_)
  · obtain ⟨t, rfl⟩ := intItems_at hv
    obtain ⟨h1, h2⟩ := argBest_lt (numAt xs) (xs.size - 1)
    refine ⟨.int _, H, I.kept hk, ⟨_, rfl⟩, q1 _ ?_ fun y hy => ?_⟩
    · subst hn
      rw [numAt_eq]
      exact PySem.getD_mem (by rw [List.length_map, Array.length_toList]; omega)
    · subst hn
      obtain ⟨j, hj, rfl⟩ := mem_getD hy
      rw [List.length_map, Array.length_toList] at hj
      rw [← numAt_eq]
      exact h2 j (by omega)
  · refine ⟨d, H, I.kept hk, rd, q0 ?_⟩
    subst hn
    have : xs.toList = [] := List.eq_nil_of_length_eq_zero (by simpa using hz)
    rw [this]
    rfl
end Lm

set_option Elab.async false
set_option linter.all false
set_option maxRecDepth 100000
set_option maxHeartbeats 4000000
/-! sorted of tuples of four ints -/
namespace SrtO
open PySem PyProof.Rows Srt
abbrev I4 : Type := Int × Int × Int × Int
def lex4 (p q : I4) : Bool :=
  if p.1 = q.1 then (if p.2.1 = q.2.1 then (if p.2.2.1 = q.2.2.1 then decide (p.2.2.2 < q.2.2.2) else decide (p.2.2.1 < q.2.2.1)) else decide (p.2.1 < q.2.1)) else decide (p.1 < q.1)
theorem lex4_iff {p q : I4} : lex4 p q = true ↔ p.1 < q.1 ∨ (p.1 = q.1 ∧ (p.2.1 < q.2.1 ∨ (p.2.1 = q.2.1 ∧ (p.2.2.1 < q.2.2.1 ∨ (p.2.2.1 = q.2.2.1 ∧ p.2.2.2 < q.2.2.2))))) := by
  unfold lex4
  split
  · split
    · split
      · rw [decide_eq_true_eq]; omega
      · rw [decide_eq_true_eq]; omega
    · rw [decide_eq_true_eq]; omega
  · rw [decide_eq_true_eq]; omega
theorem lex4_no {p q : I4} : lex4 p q = false ↔ ¬ (p.1 < q.1 ∨ (p.1 = q.1 ∧ (p.2.1 < q.2.1 ∨ (p.2.1 = q.2.1 ∧ (p.2.2.1 < q.2.2.1 ∨ (p.2.2.1 = q.2.2.1 ∧ p.2.2.2 < q.2.2.2)))))) := by
  rw [← lex4_iff]
  cases lex4 p q <;> simp
theorem swo_lex4 {α : Type} (k : α → I4) : Swo fun v u => lex4 (k v) (k u) := by
  refine ⟨fun x y h => ?_, fun x y z h1 h2 => ?_⟩
  · have a := lex4_iff.mp h
    refine lex4_no.mpr ?_
    omega
  · have a := lex4_no.mp h1
    have b := lex4_no.mp h2
    refine lex4_no.mpr ?_
    omega
section
variable {prog : Program} {w : World} {A : Around} {E : Value → Shared → Prop} {s : Shared}
def IsQuad (h : Heap) (v : Value) (q : I4) : Prop := ∃ a o t1 t2 t3 t4 n, v = .ref a ∧ h.get? a = some o ∧ o.cls = .type "tuple" ∧ o.data = .seq #[.int q.1 t1, .int q.2.1 t2, .int q.2.2.1 t3, .int q.2.2.2 t4] n
theorem IsQuad.keeps {h h' : Heap} {v : Value} {q : I4} (p : IsQuad h v q) (k : ∀ b o, h.get? b = some o → o.cls = .type "tuple" → h'.get? b = some o) : IsQuad h' v q := by
  obtain ⟨a, o, t1, t2, t3, t4, n, e, ho, hc, hd⟩ := p
  exact ⟨a, o, t1, t2, t3, t4, n, e, k _ _ ho hc, hc, hd⟩
theorem firsts4 {h : Heap} {k : Value → I4} : ∀ {vs : List Value}, (∀ v ∈ vs, IsQuad h v (k v)) → ∃ fs : List Value, PySem.W.KatTups h vs fs ∧ fs.length = vs.length ∧ ∀ f ∈ fs, ∃ x t, f = Value.int x t
  | [], _ => ⟨[], PySem.W.KatTups.nil, rfl, fun _ hm => by simp at hm⟩
  | v :: vs, hp => by
    obtain ⟨fs, h1, h2, h3⟩ := firsts4 (vs := vs) fun v' hm => hp v' (List.mem_cons_of_mem _ hm)
    obtain ⟨a, o, t, t2, t3, t4, n, e, ho, hc, hd⟩ := hp v (List.mem_cons_self ..)
    subst e
    refine ⟨.int _ t :: fs, PySem.W.KatTups.cons ho hc hd rfl h1, by rw [List.length_cons, List.length_cons, h2], fun f hm => ?_⟩
    rcases List.mem_cons.mp hm with rfl | hm
    · exact ⟨_, t, rfl⟩
    · exact h3 f hm
theorem quad_cmp {vs : List Value} {k : Value → I4} (hp : ∀ v ∈ vs, IsQuad s.heap v (k v)) : Cmp prog w A s (tuples' true) (fun p => p.1 ∈ vs) (lt2 fun v u => lex4 (k v) (k u)) := by
  intro p q hm hm'
  have h1 := hp _ hm
  have h2 := hp _ hm'
  show wpAny (model prog w) A (keyLt' (tuples' true) p.1 q.1) (fun r s' => s' = s ∧ r = lex4 (k p.1) (k q.1)) (fun _ _ => False) s
  unfold lex4
  generalize (k p.1) = x at h1 ⊢
  generalize (k q.1) = y at h2 ⊢
  obtain ⟨x1, x2, x3, x4⟩ := x
  obtain ⟨y1, y2, y3, y4⟩ := y
  obtain ⟨a, o, t1, t2, t3, t4, n, e, ho, hc, hd⟩ := h1
  obtain ⟨a', o', u1, u2, u3, u4, n', e', ho', hc', hd'⟩ := h2
  rw [e, e']
  refine PySem.W.kat_lt ho hd ho' hd' ?_
  show PySem.W.KatLex prog w A true (decide (4 < 4)) _ [(.int x1 t1, .int y1 u1), (.int x2 t2, .int y2 u2), (.int x3 t3, .int y3 u3), (.int x4 t4, .int y4 u4)] 0 s
  refine PySem.W.kat_cons (SeqAt.EqAt.int_int x1 t1 y1 u1 prog w _ _ ?_)
  refine PySem.W.kat_go (fun e1 => ?_) (fun e1 => ?_)
  · have ex : x1 = y1 := by simpa using e1
    refine PySem.W.kat_yes (PySem.W.kat_cons (SeqAt.EqAt.int_int x2 t2 y2 u2 prog w _ _ ?_))
    refine PySem.W.kat_go (fun e2 => ?_) (fun e2 => ?_)
    · have ey : x2 = y2 := by simpa using e2
      refine PySem.W.kat_yes (PySem.W.kat_cons (SeqAt.EqAt.int_int x3 t3 y3 u3 prog w _ _ ?_))
      refine PySem.W.kat_go (fun e3 => ?_) (fun e3 => ?_)
      · have ez : x3 = y3 := by simpa using e3
        refine PySem.W.kat_yes (PySem.W.kat_cons (SeqAt.EqAt.int_int x4 t4 y4 u4 prog w _ _ ?_))
        refine PySem.W.kat_go (fun e4 => ?_) (fun e4 => ?_)
        · have ew : x4 = y4 := by simpa using e4
          refine PySem.W.kat_yes (PySem.W.kat_nil ⟨rfl, ?_⟩)
          simp [ex, ey, ez, ew]
        · refine PySem.W.kat_no (PySem.W.kat_one _ _ (PyProof.Rows.lt_int ?_))
          refine (show s = s ∧ decide (x4 < y4) = _ from ⟨rfl, ?_⟩)
          simp [ex, ey, ez]
      · have ez : ¬ x3 = y3 := by simpa using e3
        refine PySem.W.kat_no (PySem.W.kat_one _ _ (PyProof.Rows.lt_int ?_))
        refine (show s = s ∧ decide (x3 < y3) = _ from ⟨rfl, ?_⟩)
        simp [ex, ey, ez]
    · have ey : ¬ x2 = y2 := by simpa using e2
      refine PySem.W.kat_no (PySem.W.kat_one _ _ (PyProof.Rows.lt_int ?_))
      refine (show s = s ∧ decide (x2 < y2) = _ from ⟨rfl, ?_⟩)
      simp [ex, ey]
  · have ex : ¬ x1 = y1 := by simpa using e1
    refine PySem.W.kat_no (oneLt_int ⟨rfl, ?_⟩)
    simp [ex]
theorem quads_sortable {a : Addr} {vs : List Value} {k : Value → I4} (h0 : 0 < vs.length) (hp : ∀ v ∈ vs, IsQuad s.heap v (k v)) (ha : ∀ o, s.heap.get? a = some o → o.cls ≠ .type "tuple") : SortableO prog w A s a vs fun v u => lex4 (k v) (k u) := by
  intro h' keep
  have hp' : ∀ v ∈ vs, IsQuad h' v (k v) := fun v hm => (hp v hm).keeps fun b o e c => keep b o (fun z => by subst z; exact ha o e c) e
  obtain ⟨fs, h1, h2, h3⟩ := firsts4 hp'
  refine ⟨tuples' true, fun Q E hq => ?_, quad_cmp hp'⟩
  refine PySem.W.kat_kind (T := .type "int") h1 (by omega) (fun f hm => ?_) (by rfl) ?_
  · obtain ⟨x, t, rfl⟩ := h3 f hm
    exact PySem.W.Looks.now
  · have e : (Value.type "int" != Value.type "tuple") = true := by first | decide +kernel | rfl | decide
    rw [e]
    exact hq
theorem sorted_quads {l : Addr} {vs : List Value} {k : Value → I4} {Q : Value → Shared → Prop} (hl : s.heap.IsList l vs.toArray) (hz : vs.length ≤ sizeLine) (hp : ∀ v ∈ vs, IsQuad s.heap v (k v))
    (h : ∀ (h' : Heap) (d : Addr) (out : List Value), Srtd (fun v u => lex4 (k v) (k u)) out → Stb (fun v u => lex4 (k v) (k u)) out vs → (∀ b o, s.heap.get? b = some o → h'.get? b = some o) → s.heap.objs.size ≤ d → (∃ n, h'.get? d = some (seqObj "list" out.toArray n)) → Q (.ref d) { s with heap := h' }) :
    wpAny (model prog w) A (call (.builtin "sorted") [.ref l]) Q E s := by
  refine sorted_ord (swo_lex4 k) hl hz (fun h2 h₁ a ha kk => ?_) fun out hs hb => ?_
  · refine quads_sortable (s := { s with heap := h₁ }) (by omega) (fun v hm => (hp v hm).keeps fun b o e _ => (kk b o e).2) fun o e => ?_
    have e' : some o = some (seqObj "list" vs.toArray 0) := e.symm.trans ha
    cases e'
    intro c
    exact absurd (Value.type.inj c) (by decide)
  · exact h _ _ out hs hb (fun b o e => sortedAll_old e) (Nat.le_succ _) (sortedAll_at s.heap vs out.toArray)
end
end SrtO
namespace Lm
open PySem PySem.Spec PyProof.Rows L2
abbrev I4 : Type := Int × Int × Int × Int
/-- a tuple of four ints -/
abbrev t4 (q : I4) : HO := .tup [.int q.1, .int q.2.1, .int q.2.2.1, .int q.2.2.2]
abbrev ltQ (k : V → I4) (x y : V) : Bool := SrtO.lex4 (k x) (k y)
theorem ltQ_swo (k : V → I4) : SrtO.Swo (ltQ k) := SrtO.swo_lex4 k
/-- sorted(xs), xs a list of tuples of four ints (k says which): a new list, sorted, equal ones in their order -/
def rSort4 (K : PySem.W.Frag) : List V → Hp → VK → Prop := fun vs H Q => ∃ (a : Addr) (xs : List V) (k : V → I4), vs = [V.ref a] ∧ SqL K H a xs ∧ (∀ x ∈ xs, ∃ t, x = V.ref t ∧ H t = some (t4 (k x))) ∧
  ∀ ys p, SrtO.Srtd (ltQ k) ys → SrtO.Stb (ltQ k) ys xs → H p = none → Q (.ref p) (upd H p (.lst ys))
section
variable {X : Cx}
theorem cr_sort4 : CallR X (.builtin "sorted") (rSort4 X.K) := by
  intro pins s σ H vs us Q I r h
  obtain ⟨a, xs, k, rfl, hs, hx, q⟩ := h
  obtain ⟨its, rv, hl, hz⟩ := I.list hs
  obtain ⟨u, rfl, ru⟩ := vals1 r
  obtain rfl : u = Value.ref a := ru
  obtain ⟨e1, e2⟩ := refs_back rv fun x m => by
    obtain ⟨t, e, _⟩ := hx x m
    exact ⟨t, e⟩
  refine SrtO.sorted_quads (k := fun u => k (backV u)) hl.isList (by rw [← rv.length]; exact hz) (fun v hv => ?_) fun h' d out h1 h2 kp hd hn => ?_
  · obtain ⟨t, rfl⟩ := e2 v hv
    have hm : V.ref t ∈ xs := by rw [e1]; exact List.mem_map.mpr ⟨_, hv, rfl⟩
    obtain ⟨t', e, ht⟩ := hx _ hm
    cases e
    obtain ⟨_, its2, r2, o, ho, hc, n, hd⟩ := I.hok _ _ ht
    cases r2 with
    | cons r1 r2 => cases r2 with
      | cons r3 r2 => cases r2 with
        | cons r5 r2 => cases r2 with
          | cons r7 r2 =>
            cases r2
            obtain ⟨t1, rfl⟩ := r1
            obtain ⟨t2, rfl⟩ := r3
            obtain ⟨t3, rfl⟩ := r5
            obtain ⟨t4, rfl⟩ := r7
            exact ⟨t, o, t1, t2, t3, t4, n, rfl, ho, hc, hd⟩
  · have h3 : ∀ u ∈ out, ∃ a, u = Value.ref a := fun u hu => e2 u (h2.perm.mem_iff.mp hu)
    obtain ⟨n, hn⟩ := hn
    have hb : SrtO.Stb (ltQ k) (out.map backV) xs := by
      rw [e1]
      exact SrtO.Stb.map (ltQ_swo k) backV h2
    refine ⟨.ref d, upd H d (.lst (out.map backV)), I.laid (t' := s.toks) kp hd ⟨?_, out, n, vals_back h3, hn⟩, rfl, q _ d (SrtO.srtd_map h1) hb (I.hok.fresh hd)⟩
    rw [hb.len]
    exact hz
end
end Lm

set_option Elab.async false
set_option linter.all false
set_option maxRecDepth 100000
set_option maxHeartbeats 4000000
namespace Lm
open PySem PySem.Spec PyProof.Rows L2
/-- o.m(e, ..), what m raises wished for at the slots -/
def tMethE (C : Addr) (m : Str) (sp : Sp) (E : L2.St → XK) (ta : TE) (t : TA) : TE := fun σ H Q => ta σ H fun x H1 => ∃ a dx fs, x = .ref a ∧ H1 a = some (.ins C dx fs) ∧ fs.lookup m = none ∧ t σ H1 fun vs H2 => sp (x :: vs) H2 Q (E σ)
/-- o(e, ..), o an instance of C -/
def tCallE (C : Addr) (sp : Sp) (E : L2.St → XK) (tf : TE) (t : TA) : TE := fun σ H Q => tf σ H fun y H1 => ∃ a, y = V.ref a ∧ t σ H1 fun vs H2 => (∃ dx fs, H2 a = some (.ins C dx fs)) ∧ sp (V.ref a :: vs) H2 Q (E σ)
section
variable {X : Cx} {CX : CXT} {k : Nat} {f C g : Addr} {fd : FuncData} {ps : List Str} {sp : Sp} {E : L2.St → XK} {m : Str} {apos pos : Pos} {o e fe : Expr} {es : List Expr} {ta tf : TE} {t : TA}
theorem pe_methE {pl : Sem Bool} (he : PE X o ta) (c : Cls X.K C) (hm : Meth X.K C m f) (F : FnOk X.prog X.w X.K X.mg X.base CX k f fd ps sp) (hr : Room k X.A) (hb : Binds X.K fd ps []) (hx : ∀ σ, PassesAt CX X σ (E σ)) (ha : PA X (e :: es) t)
    (hst : starEach (e :: es) X.env = (false, eval e X.env) :: starEach es X.env := by rfl) (hpl : (backTo pos (starEach es X.env)).any (·.1) = false := by rfl)
    (ht : eval (.Call (.Attribute o m apos) (e :: es) [] pos) X.env = (do
      let ov ← eval o X.env
      standAt apos.atName
      let (f, first) ← holding [ov] (getMethod ov m pl)
      callWith pos f first (backTo pos (starEach (e :: es) X.env)) (backToKw pos (keywordEach [] X.env))) := by rfl) :
    PE X (.Call (.Attribute o m apos) (e :: es) [] pos) (tMethE C m sp E ta t) := by
  refine ⟨fun pins s σ H Q I h => ?_⟩
  refine PySem.W.methodCall_KW (pl := pl) (thn (he.run pins s σ H _ I h) fun u s1 ⟨x, H1, I1, rx, a, dx, fs, ex, ea, l, q⟩ => ?_) ht
  subst ex
  obtain rfl : u = Value.ref a := rx
  refine getmeth_ok I1 ea c hm l ?_
  refine PySem.W.callWith_K (first := [.ref a]) (h₀ := X.base) I.ok.mod.kin hm.kp (thn (ha.run pos pins s1 σ H1 _ I1 q) fun us s2 ⟨vs, H2, I2, r, q2⟩ => ⟨I2.kIn, ?_⟩) hst hpl
  exact run_fnS (us := .ref a :: us) (vs := .ref a :: vs) F hr hb (hx σ) I2 (.cons rfl r) q2
theorem pe_callE (hf : PE X fe tf) (c : StX.CallO X.K C g) (F : FnOk X.prog X.w X.K X.mg X.base CX k g fd ps sp) (hr : Room k X.A) (hb : Binds X.K fd ps []) (hx : ∀ σ, PassesAt CX X σ (E σ)) (ha : PA X (e :: es) t)
    (ht : eval (.Call fe (e :: es) [] pos) X.env = (do callWith pos (← eval fe X.env) [] (backTo pos (starEach (e :: es) X.env)) (backToKw pos (keywordEach [] X.env))) := by rfl)
    (he : starEach (e :: es) X.env = (false, eval e X.env) :: starEach es X.env := by rfl) (hpl : (backTo pos (starEach es X.env)).any (·.1) = false := by rfl) : PE X (.Call fe (e :: es) [] pos) (tCallE C sp E tf t) := by
  refine ⟨fun pins s σ H Q I h => ?_⟩
  refine Call_ (thn (hf.run pins s σ H _ I h) fun u s1 ⟨y, H1, I1, ry, a, ey, q⟩ => ?_) ht
  subst ey
  obtain rfl : u = Value.ref a := ry
  refine StX.callO_with (thn (ha.run pos pins s1 σ H1 _ I1 q) fun us s2 ⟨vs, H2, I2, r, hi, q2⟩ => ?_) he hpl
  obtain ⟨ox, od, J, hd⟩ := StX.insC_at I2 (.inr hi)
  refine ⟨⟨C, ox, od, J, hd⟩, ?_⟩
  have r2 : Vals (V.ref a :: vs) (Value.ref a :: us) := .cons rfl r
  have hl : (Value.ref a :: us).length = ps.length := (r2.length).symm.trans (F.len _ _ _ _ q2)
  have b := hb _ (Value.ref a :: us) I2.kIn (by simpa using hl)
  rw [List.append_nil] at b
  refine wpAny_call (PySem.W.kco_code I2.kIn J hd c.at_ c.fn c.fi (codeAny_mono (F.run X.A X.stack s2 H2 ⟨Value.ref a :: us, []⟩ _ _ _ (E σ) hr I2.env0 b r2 q2) fun z s' y => ?_))
  cases z with
  | error er => exact hx σ pins _ _ er s' I2 y
  | ok fl => cases fl with
    | ret u => exact I2.after y
    | next => exact y.elim
    | brk => exact y.elim
    | cont => exact y.elim
end
/-! ### displays at places that are not the modules' dict -/
section
variable {X : Cx} {es : List Expr} {t : TA} {pos : Pos}
def tTupN (t : TA) : TE := fun σ H Q => t σ H fun xs H1 => xs.length ≤ sizeLine ∧ ∀ p, H1 p = none → p ≠ sysModules → Q (.ref p) (upd H1 p (.tup xs))
def tLstN (t : TA) : TE := fun σ H Q => t σ H fun xs H1 => xs.length ≤ sizeLine ∧ ∀ p, H1 p = none → p ≠ sysModules → Q (.ref p) (upd H1 p (.lst xs))
theorem pe_tupN {x1} (h : PA X es t) : PE X (.Tuple es x1 pos) (tTupN t) := by
  refine ⟨fun pins s σ H Q I hq => ?_⟩
  refine wpAny_Tuple_spliced (thn (h.run pos pins s σ H _ I hq) fun us s1 ⟨xs, H1, I1, r, z, q⟩ => ⟨by rw [← r.length]; exact z, ?_⟩)
  have hf : H1 s1.heap.objs.size = none := I1.hok.fresh (Nat.le_refl _)
  refine ⟨.ref s1.heap.objs.size, upd H1 s1.heap.objs.size (.tup xs), I1.laid (t' := s1.toks) (fun b u e => Heap.get?_push_of_some _ e) (Nat.le_refl _) ?_, rfl, q _ hf (Nat.ne_of_gt I1.big)⟩
  exact ⟨z, us, r, ⟨_, Heap.get?_push_size _ rfl, rfl, _, rfl⟩⟩
theorem pe_lstN (h : PA X es t) : PE X (.List es pos) (tLstN t) := by
  refine ⟨fun pins s σ H Q I hq => ?_⟩
  refine wpAny_List_spliced (thn (h.run pos pins s σ H _ I hq) fun us s1 ⟨xs, H1, I1, r, z, q⟩ => ⟨by rw [← r.length]; exact z, ?_⟩)
  have hf : H1 s1.heap.objs.size = none := I1.hok.fresh (Nat.le_refl _)
  refine ⟨.ref s1.heap.objs.size, upd H1 s1.heap.objs.size (.lst xs), I1.laid (t' := s1.toks) (fun b u e => Heap.get?_push_of_some _ e) (Nat.le_refl _) ?_, rfl, q _ hf (Nat.ne_of_gt I1.big)⟩
  exact ⟨z, us, 0, r, Heap.get?_push_size _ rfl⟩
end
/-! ### data with an empty dict in it -/
mutual
inductive DE (N : Addr → Prop) (H : Hp) : V → PyData → Prop
  | non : DE N H .non .none
  | bl (b : Bool) : DE N H (.bl b) (.bool b)
  | int (i : Int) : DE N H (.int i) (.int i)
  | str (x : Str) : DE N H (.str x) (.str x)
  | lst {a : Addr} {xs : List V} {ds : List PyData} : N a → H a = some (.lst xs) → DEs N H xs ds → DE N H (.ref a) (.list ds)
  | tup {a : Addr} {xs : List V} {ds : List PyData} : H a = some (.tup xs) → DEs N H xs ds → DE N H (.ref a) (.tuple ds)
  | emp {a : Addr} : H a = some (.dK []) → DE N H (.ref a) (.dict [])
inductive DEs (N : Addr → Prop) (H : Hp) : List V → List PyData → Prop
  | nil : DEs N H [] []
  | cons {v : V} {vs : List V} {d : PyData} {ds : List PyData} : DE N H v d → DEs N H vs ds → DEs N H (v :: vs) (d :: ds)
end
/-- off the modules' dict -/
abbrev Off : Addr → Prop := fun a => a ≠ sysModules
mutual
theorem DE.same {N : Addr → Prop} {H H' : Hp} (s : ∀ b o, H b = some o → H' b = some o) : ∀ {d : PyData} {v : V}, DE N H v d → DE N H' v d
  | .none, _, h => by cases h; exact .non
  | .bool b, _, h => by cases h; exact .bl b
  | .int i, _, h => by cases h; exact .int i
  | .str x, _, h => by cases h; exact .str x
  | .list ds, _, h => by cases h with | lst n e q => exact .lst n (s _ _ e) (DEs.same s q)
  | .tuple ds, _, h => by cases h with | tup e q => exact .tup (s _ _ e) (DEs.same s q)
  | .dict [], _, h => by cases h with | emp e => exact .emp (s _ _ e)
  | .dict (_ :: _), _, h => by cases h
theorem DEs.same {N : Addr → Prop} {H H' : Hp} (s : ∀ b o, H b = some o → H' b = some o) : ∀ {ds : List PyData} {vs : List V}, DEs N H vs ds → DEs N H' vs ds
  | [], _, h => by cases h; exact .nil
  | d :: ds, _, h => by cases h with | cons h1 h2 => exact .cons (DE.same s h1) (DEs.same s h2)
end
section
variable {X : Cx} {pins : List (Addr × Obj)} {σ : L2.St} {H : Hp} {s : Shared}
mutual
theorem DE.reads (I : Inv X pins σ H s) : ∀ (d : PyData) (v : V) (u : Value), DE Off H v d → RelV v u → ∃ as, Reads s.heap u d as ∧ sysModules ∉ as
  | .none, _, _, h, r => by
    cases h
    cases r
    exact ⟨_, Reads.none, by simp⟩
  | .bool b, _, _, h, r => by
    cases h
    cases r
    exact ⟨_, Reads.bool b, by simp⟩
  | .int i, _, _, h, r => by
    cases h
    obtain ⟨t, rfl⟩ := r
    exact ⟨_, Reads.int i t, by simp⟩
  | .str x, _, _, h, r => by
    cases h
    obtain ⟨t, rfl⟩ := r
    exact ⟨_, Reads.str x t, by simp⟩
  | .list ds, _, _, h, r => by
    cases h with
    | lst n hs ha =>
      cases r
      obtain ⟨its, rv, ⟨o, m, ho, hc, _, hd⟩, _⟩ := I.list (SqL.of hs)
      obtain ⟨as, hr, no⟩ := DE.readsAll I ds _ its ha rv
      exact ⟨_, Reads.list ho hc hd hr, by simpa using ⟨Ne.symm n, no⟩⟩
  | .tuple ds, _, _, h, r => by
    cases h with
    | tup hs ha =>
      cases r
      obtain ⟨its, rv, ⟨o, ho, hc, m, hd⟩, _⟩ := I.tuple (SqT.of hs)
      obtain ⟨as, hr, no⟩ := DE.readsAll I ds _ its ha rv
      exact ⟨_, Reads.tuple ho hc hd hr, by simpa using no⟩
  | .dict [], _, _, h, r => by
    cases h with
    | @emp a hE =>
      cases r
      obtain ⟨_, hsys, vs, rel, o, es, ep, ho, hx, hd, _, hp, _⟩ := dk_of I.hok hE
      have e0 : es.toList = [] := by
        have l := hp.length
        cases rel
        exact List.eq_nil_of_length_eq_zero (by simpa using l)
      refine ⟨a :: [] ++ [], .dict ho hx.1 hd (by rw [e0]; exact .nil) (by rw [e0]; exact .nil), fun hm => ?_⟩
      have e1 : sysModules = a := by simpa using hm
      rw [e1] at hsys
      simp at hsys
  | .dict (_ :: _), _, _, h, _ => by cases h
theorem DE.readsAll (I : Inv X pins σ H s) : ∀ (ds : List PyData) (vs : List V) (us : List Value), DEs Off H vs ds → Vals vs us → ∃ as, ReadsAll s.heap us ds as ∧ sysModules ∉ as
  | [], _, _, h, r => by
    cases h
    cases r
    exact ⟨_, ReadsAll.nil, by simp⟩
  | d :: ds, _, _, h, r => by
    cases h with
    | cons h1 h2 =>
      cases r with
      | cons r1 r2 =>
        obtain ⟨as, q1, n1⟩ := DE.reads I d _ _ h1 r1
        obtain ⟨bs, q2, n2⟩ := DE.readsAll I ds _ _ h2 r2
        exact ⟨_, ReadsAll.cons q1 q2, by simpa using ⟨n1, n2⟩⟩
end
end
/-- repr of such data -/
def rReprD : List V → Hp → VK → Prop := fun xs H Q => ∃ x d, xs = [x] ∧ DE Off H x d ∧ d.showable = true ∧ d.depth ≤ 60 ∧ d.shown.length ≤ sizeLine ∧ Q (.str d.shown) H
section
variable {X : Cx}
theorem call_reprD (hg : X.A.guards = some []) (hu : X.A.units + 64 < cLine) : CallR X (.builtin "repr") rReprD := by
  intro pins s σ H xs us Q I r h
  obtain ⟨x, d, rfl, hS, hs, hd, hz, q⟩ := h
  obtain ⟨u, rfl, ru⟩ := vals1 r
  cases hS with
  | non =>
    obtain rfl : u = Value.none := ru
    exact PySem.P.repr_of_none ⟨.str _, H, I.tok _, ⟨_, rfl⟩, q⟩
  | bl b =>
    obtain rfl : u = Value.bool b := ru
    exact PySem.P.repr_of_bool ⟨.str _, H, I.tok _, ⟨_, rfl⟩, q⟩
  | int i =>
    obtain ⟨tk, rfl⟩ := (show ∃ t, u = Value.int i t from ru)
    exact PySem.P.repr_of_int (by simpa [PyData.showable] using hs) ⟨.str _, H, I.tok _, ⟨_, rfl⟩, q⟩
  | str z =>
    obtain ⟨tk, rfl⟩ := (show ∃ t, u = Value.str z t from ru)
    exact PySem.P.repr_of_str (h := ⟨.str _, H, I.tok _, ⟨_, rfl⟩, q⟩) hz
  | @lst a xs ds n e l =>
    obtain rfl : u = Value.ref a := ru
    obtain ⟨as, rd, no⟩ := DE.reads I _ _ _ (.lst n e l) rfl
    exact repr_of_reads' rd hs (fun _ => no) hg (by omega) (fun _ _ e => e) (fun h' u tk hk => ⟨.str _, H, I.kept hk, ⟨_, rfl⟩, q⟩) hz
  | @tup a xs ds e l =>
    obtain rfl : u = Value.ref a := ru
    obtain ⟨as, rd, no⟩ := DE.reads I _ _ _ (.tup e l) rfl
    exact repr_of_reads' rd hs (fun _ => no) hg (by omega) (fun _ _ e => e) (fun h' u tk hk => ⟨.str _, H, I.kept hk, ⟨_, rfl⟩, q⟩) hz
  | @emp a e =>
    obtain rfl : u = Value.ref a := ru
    obtain ⟨as, rd, no⟩ := DE.reads I _ _ _ (.emp e) rfl
    exact repr_of_reads' rd hs (fun _ => no) hg (by omega) (fun _ _ e => e) (fun h' u tk hk => ⟨.str _, H, I.kept hk, ⟨_, rfl⟩, q⟩) hz
end
/-! ### isinstance of data -/
def tyD : PyData → String
  | .none => "NoneType"
  | .bool _ => "bool"
  | .int _ => "int"
  | .str _ => "str"
  | .list _ => "list"
  | .tuple _ => "tuple"
  | .dict _ => "dict"
theorem DE.ty {N : Addr → Prop} {K : PySem.W.Frag} {H : Hp} {v : V} {d : PyData} (h : DE N H v d) : TyX K H v (.type (tyD d)) := by
  cases h with
  | non => exact .base .non
  | bl b => exact .base (.bl b)
  | int i => exact .base (.int i)
  | str x => exact .base (.str x)
  | lst n e q => exact .base (.lst e)
  | tup e q => exact .base (.tup e)
  | emp e => exact .base (.dK e)
theorem ty_int {K : PySem.W.Frag} (d : PyData) : PySem.W.kitOne K (.type (tyD d)) (.type "int") = some (match d with | .int _ => true | .bool _ => true | _ => false) := by
  cases d with
  | none => exact kit_ty (show kitB "NoneType" "int" = some false by decide +kernel)
  | bool _ => exact kit_ty (show kitB "bool" "int" = some true by decide +kernel)
  | int _ => exact kit_ty (show kitB "int" "int" = some true by decide +kernel)
  | str _ => exact kit_ty (show kitB "str" "int" = some false by decide +kernel)
  | list _ => exact kit_ty (show kitB "list" "int" = some false by decide +kernel)
  | tuple _ => exact kit_ty (show kitB "tuple" "int" = some false by decide +kernel)
  | dict _ => exact kit_ty (show kitB "dict" "int" = some false by decide +kernel)
theorem ty_bool {K : PySem.W.Frag} (d : PyData) : PySem.W.kitOne K (.type (tyD d)) (.type "bool") = some (match d with | .bool _ => true | _ => false) := by
  cases d with
  | none => exact kit_ty (show kitB "NoneType" "bool" = some false by decide +kernel)
  | bool _ => exact kit_ty (show kitB "bool" "bool" = some true by decide +kernel)
  | int _ => exact kit_ty (show kitB "int" "bool" = some false by decide +kernel)
  | str _ => exact kit_ty (show kitB "str" "bool" = some false by decide +kernel)
  | list _ => exact kit_ty (show kitB "list" "bool" = some false by decide +kernel)
  | tuple _ => exact kit_ty (show kitB "tuple" "bool" = some false by decide +kernel)
  | dict _ => exact kit_ty (show kitB "dict" "bool" = some false by decide +kernel)
theorem ty_list {K : PySem.W.Frag} (d : PyData) : PySem.W.kitOne K (.type (tyD d)) (.type "list") = some (match d with | .list _ => true | _ => false) := by
  cases d with
  | none => exact kit_ty (show kitB "NoneType" "list" = some false by decide +kernel)
  | bool _ => exact kit_ty (show kitB "bool" "list" = some false by decide +kernel)
  | int _ => exact kit_ty (show kitB "int" "list" = some false by decide +kernel)
  | str _ => exact kit_ty (show kitB "str" "list" = some false by decide +kernel)
  | list _ => exact kit_ty (show kitB "list" "list" = some true by decide +kernel)
  | tuple _ => exact kit_ty (show kitB "tuple" "list" = some false by decide +kernel)
  | dict _ => exact kit_ty (show kitB "dict" "list" = some false by decide +kernel)
theorem ty_tuple {K : PySem.W.Frag} (d : PyData) : PySem.W.kitOne K (.type (tyD d)) (.type "tuple") = some (match d with | .tuple _ => true | _ => false) := by
  cases d with
  | none => exact kit_ty (show kitB "NoneType" "tuple" = some false by decide +kernel)
  | bool _ => exact kit_ty (show kitB "bool" "tuple" = some false by decide +kernel)
  | int _ => exact kit_ty (show kitB "int" "tuple" = some false by decide +kernel)
  | str _ => exact kit_ty (show kitB "str" "tuple" = some false by decide +kernel)
  | list _ => exact kit_ty (show kitB "list" "tuple" = some false by decide +kernel)
  | tuple _ => exact kit_ty (show kitB "tuple" "tuple" = some true by decide +kernel)
  | dict _ => exact kit_ty (show kitB "dict" "tuple" = some false by decide +kernel)
end Lm

set_option Elab.async false
set_option linter.all false
set_option maxRecDepth 100000
set_option maxHeartbeats 4000000
namespace K39
open PySem PySem.Spec PyProof.Rows L2 Lm
/-! ### the text -/
def top (i : Nat) : Stmt := PySem.Challenge.pw_safeupto_k39_formulas_told.main.body.getD i (.Pass ⟨0, 0, 0, 0⟩)
abbrev sNI : Stmt := inClass (top 3) 0
abbrev sPI : Stmt := inClass (top 4) 0
abbrev sValueAt : Stmt := top 6
abbrev sFirstAbove : Stmt := top 7
abbrev sFirstOn : Stmt := top 8
abbrev sIsI : Stmt := top 15
abbrev sInit : Stmt := inClass (top 17) 0
abbrev sSize : Stmt := inClass (top 17) 1
abbrev sAreF : Stmt := top 19
abbrev sAreS : Stmt := top 20
abbrev sIsS : Stmt := top 21
abbrev sIsC : Stmt := top 22
abbrev sFI : Stmt := inClass (top 23) 0
abbrev sFirsts : Stmt := inClass (top 23) 1
abbrev sStairs : Stmt := inClass (top 23) 2
abbrev sEndless : Stmt := inClass (top 23) 3
abbrev sGreatest : Stmt := inClass (top 23) 4
abbrev sCall : Stmt := inClass (top 23) 5
abbrev sGrowth : Stmt := inClass (top 23) 8
abbrev sPool : Stmt := top 26
abbrev sTake : Stmt := top 27
abbrev sDrawn : Stmt := top 28
abbrev sAt : Stmt := top 29
abbrev sDue : Stmt := top 30
abbrev sRef : Stmt := top 31
abbrev sNRef : Stmt := top 32
abbrev sRefs : Stmt := top 33
abbrev sLaw : Stmt := top 34
/-- where things are -/
structure Ad where
  CL : Addr
  CF : Addr
  CN : Addr
  CP : Addr
  fN : Addr
  fP : Addr
  pZ : Addr
  fZ : Addr
  pF : Addr
  fF : Addr
  pS : Addr
  fS : Addr
  pE : Addr
  fE : Addr
/-- an own exception class with a value -/
structure ExT (K : PySem.W.Frag) (CN fN : Addr) : Prop where
  ox : OexC K CN
  nV : PySem.W.findIn K (.ref CN) "value" = some none
  iN : PySem.W.findIn K (.ref CN) "__init__" = some (some (.ref fN))
  tN : PySem.W.typeIn K (.ref fN) = some (.type "function")
  xf : XfC K CN
  te : PySem.W.exmOne K (.ref CN) (.ref CN) = some true
structure Txt (K : PySem.W.Frag) (mg : Str → Option Value) (a : Ad) : Prop where
  cL : Cls K a.CL
  cF : Cls K a.CF
  nZ : NoAttr K a.CL "_size"
  nF : NoAttr K a.CF "_firsts"
  nS : NoAttr K a.CF "_stairs"
  nE : NoAttr K a.CF "_endless"
  pZ : PropOf K a.CL "size" a.pZ a.fZ
  pF : PropOf K a.CF "firsts" a.pF a.fF
  pS : PropOf K a.CF "stairs" a.pS a.fS
  pE : PropOf K a.CF "endless" a.pE a.fE
  xN : ExT K a.CN a.fN
  xP : ExT K a.CP a.fP
  mgL : mg "Limit" = some (.ref a.CL)
  mgF : mg "Formula" = some (.ref a.CF)
  mgN : mg "InvalidNumber" = some (.ref a.CN)
  mgP : mg "InvalidPaper" = some (.ref a.CP)
  isi : mg "isinstance" = none
  int_ : mg "int" = none
  bool_ : mg "bool" = none
  list_ : mg "list" = none
  tuple_ : mg "tuple" = none
  min_ : mg "min" = none
  max_ : mg "max" = none
  abs_ : mg "abs" = none
  len_ : mg "len" = none
  all_ : mg "all" = none
  rep : mg "repr" = none
  rng : mg "range" = none
  enum : mg "enumerate" = none
  sorted_ : mg "sorted" = none
/-- an exception that comes of a call which can raise none -/
theorem passF {X : Cx} : Passes (L2.CX X.prog X.w) X (fun _ _ _ => False) := fun pins σ H s e s' I c => passAt (takes0 (X := X)) σ pins H s e s' I c
theorem passFA {X : Cx} (σ : L2.St) : PassesAt (L2.CX X.prog X.w) X σ (fun _ _ _ => False) := fun pins H s e s' I c => passAt (takes0 (X := X)) σ pins H s e s' I c

/-! ### what is asked of data -/
def isI : PyData → Bool
  | .int _ => true
  | _ => false
def isN : PyData → Bool
  | .none => true
  | _ => false
def isC : PyData → Bool
  | .int n => decide (0 ≤ n)
  | _ => false
def isSt : PyData → Bool
  | .tuple [.int o, .int p, .int _, .int g] => (decide (0 ≤ o) && decide (o < p)) && decide (0 ≤ g)
  | _ => false
def areF : PyData → Bool
  | .list ds => ds.all fun d => isN d || isI d
  | _ => false
def areS : PyData → Bool
  | .list ds => ds.all isSt
  | _ => false
def okE (d : PyData) : Bool := isN d || isC d

section
variable {P : Program} {w : World} {K : PySem.W.Frag} {mg : Str → Option Value} {base : Heap} {a : Ad}
/-! ### is_integer -/
def spIsI : Sp := fun vs H Q _ => ∃ v d N, vs = [v] ∧ DE N H v d ∧ Q (.bl (isI d)) H
theorem scIsI : FnScope ["value"] ["value"] (defScope sIsI) := ⟨rfl, rfl, rfl, by decide +kernel, rfl, by decide +kernel, by decide +kernel⟩
theorem ok_isI {f : Addr} {fd : FuncData} (F : Fun K "is_integer" "is_integer" sIsI f fd) (T : Txt K mg a) : FnOk P w K mg base CX0 1 f fd ["value"] spIsI := by
  refine F.ok scIsI (fun vs H Q E h => ?_) (fun cdv A outer s H vs Q E hr h => ?_)
  · obtain ⟨v, d, N, rfl, _⟩ := h
    rfl
  · obtain ⟨v, d, N, rfl, hd, k⟩ := h
    refine ⟨_, pss_one (ps_ret (pe_and (pe_callB call_isi (by rfl) T.isi (by decide +kernel) (pa_cons (pv 0) (pa_cons (pe_bltn (v := .ty "int") (by rfl) T.int_ (by decide +kernel) rfl) pa_nil)))
      (pe_and (pe_cmpR op_notB (pv 0) pe_bl (nomark _)) (pe_one (pe_cmpR op_notB (pv 0) pe_bl (nomark _)))))), ?_⟩
    refine ⟨_, rfl, v, .ty "int", _, .type "int", _, rfl, .ty "int", hd.ty, ty_int d, _, rfl, ?_⟩
    cases d with
    | int i => cases hd; exact iteT ⟨_, rfl, true, rfl, _, rfl, iteT ⟨_, rfl, false, rfl, k⟩⟩
    | bool i =>
      cases hd
      cases i with
      | true => exact iteT ⟨_, rfl, true, rfl, _, rfl, iteF k⟩
      | false => exact iteT ⟨_, rfl, true, rfl, _, rfl, iteT ⟨_, rfl, false, rfl, k⟩⟩
    | none => exact iteF k
    | str _ => exact iteF k
    | list _ => exact iteF k
    | tuple _ => exact iteF k
    | dict _ => exact iteF k
/-! ### is_count -/
def spIsC : Sp := fun vs H Q _ => ∃ v d N, vs = [v] ∧ DE N H v d ∧ Q (.bl (isC d)) H
theorem scIsC : FnScope ["value"] ["value"] (defScope sIsC) := ⟨rfl, rfl, rfl, by decide +kernel, rfl, by decide +kernel, by decide +kernel⟩
theorem ok_isC {f fi : Addr} {fd fdi : FuncData} (F : Fun K "is_count" "is_count" sIsC f fd) (GI : FnOk P w K mg base CX0 1 fi fdi ["value"] spIsI) (bI : Binds K fdi ["value"] []) (mI : mg "is_integer" = some (.ref fi)) (kI : PySem.W.keepIn K (.ref fi) = true) :
    FnOk P w K mg base CX0 2 f fd ["value"] spIsC := by
  refine F.ok scIsC (fun vs H Q E h => ?_) (fun cdv A outer s H vs Q E hr h => ?_)
  · obtain ⟨v, d, N, rfl, _⟩ := h
    rfl
  · obtain ⟨v, d, N, rfl, hd, k⟩ := h
    refine ⟨_, pss_one (ps_ret (pe_and (pe_call GI hr rfl mI kI bI .nil pass0 (pa_cons (pv 0) pa_nil)) (pe_one (pe_cmpR op_ge (pv 0) pe_int (nomark _))))), ?_⟩
    refine ⟨_, rfl, v, d, N, rfl, hd, _, rfl, ?_⟩
    cases d with
    | int i =>
      cases hd
      exact iteT ⟨_, rfl, _, _, rfl, rfl, k⟩
    | bool i => exact iteF k
    | none => exact iteF k
    | str _ => exact iteF k
    | list _ => exact iteF k
    | tuple _ => exact iteF k
    | dict _ => exact iteF k
/-! ### the exceptions' __init__ -/
def spNI (CN : Addr) : Sp := fun vs H Q _ => ∃ a v, vs = [.ref a, v] ∧ H a = some (exo a CN none) ∧ ∀ dx, H dx = none → dx ≠ a → Q .non (upd (upd H dx (exd dx [("value", v)])) a (exo a CN (some dx)))
theorem scNI : FnScope ["self", "value"] ["self", "value"] (defScope sNI) := ⟨rfl, rfl, rfl, by decide +kernel, rfl, by decide +kernel, by decide +kernel⟩
theorem scPI : FnScope ["self", "value"] ["self", "value"] (defScope sPI) := ⟨rfl, rfl, rfl, by decide +kernel, rfl, by decide +kernel, by decide +kernel⟩
theorem ok_NI {f : Addr} {fd : FuncData} (F : Fun K "__init__" "InvalidNumber.__init__" sNI f fd) (T : ExT K a.CN a.fN) : FnOk P w K mg base CX0 1 f fd ["self", "value"] (spNI a.CN) := by
  refine F.ok scNI (fun vs H Q E h => ?_) (fun cdv A outer s H vs Q E hr h => ?_)
  · obtain ⟨a, v, rfl, _⟩ := h
    rfl
  · obtain ⟨x, v, rfl, ha, k⟩ := h
    refine ⟨_, pss_one (ps_ost (pv 0) (pv 1)), ?_⟩
    exact ⟨_, rfl, _, rfl, x, a.CN, rfl, T.ox, T.nV, .inl ⟨ha, fun dx h1 h2 => k dx h1 h2⟩⟩
theorem ok_PI {f : Addr} {fd : FuncData} (F : Fun K "__init__" "InvalidPaper.__init__" sPI f fd) (T : ExT K a.CP a.fP) : FnOk P w K mg base CX0 1 f fd ["self", "value"] (spNI a.CP) := by
  refine F.ok scPI (fun vs H Q E h => ?_) (fun cdv A outer s H vs Q E hr h => ?_)
  · obtain ⟨a, v, rfl, _⟩ := h
    rfl
  · obtain ⟨x, v, rfl, ha, k⟩ := h
    refine ⟨_, pss_one (ps_ost (pv 0) (pv 1)), ?_⟩
    exact ⟨_, rfl, _, rfl, x, a.CP, rfl, T.ox, T.nV, .inl ⟨ha, fun dx h1 h2 => k dx h1 h2⟩⟩
/-! ### Limit: made of a size that is one; its size -/
def vO : Option Int → V
  | none => .non
  | some n => .int n
abbrev fld (v : V) : List (Str × V) := [("_size", v)]
theorem fld_get (v : V) : (fld v).lookup ("_size" : Str) = some v := by simp [List.lookup]
def spLI (a : Ad) : Sp := fun vs H Q _ => ∃ p dx z, vs = [.ref p, vO z] ∧ H p = some (.ins a.CL dx []) ∧ (∀ n, z = some n → -1 ≤ n) ∧ Q .non (upd H p (.ins a.CL dx (fld (vO z))))
theorem scInit : FnScope ["self", "size"] ["self", "size"] (defScope sInit) := ⟨rfl, rfl, rfl, by decide +kernel, rfl, by decide +kernel, by decide +kernel⟩
theorem ok_LI {f fi : Addr} {fd fdi : FuncData} (F : Fun K "__init__" "Limit.__init__" sInit f fd) (T : Txt K mg a) (GI : FnOk P w K mg base CX0 1 fi fdi ["value"] spIsI) (bI : Binds K fdi ["value"] []) (mI : mg "is_integer" = some (.ref fi))
    (kI : PySem.W.keepIn K (.ref fi) = true) : FnOk P w K mg base CX0 2 f fd ["self", "size"] (spLI a) := by
  refine F.ok scInit (fun vs H Q E h => ?_) (fun cdv A outer s H vs Q E hr h => ?_)
  · obtain ⟨p, dx, z, rfl, _⟩ := h
    rfl
  · obtain ⟨p, dx, z, rfl, hp, g, k⟩ := h
    refine ⟨_, pss_cons (ps_if (PW.pt (pw_and (pt_cmp (pc_notN (pv 1))) (pw_and1 (PW.pt (pw_or (pt_not (pt_val (pe_call GI hr rfl mI kI bI .nil pass0 (pa_cons (pv 1) pa_nil)))) (pw_or1 (pt_cmpR op_lt (pv 1) (pe_un un_neg pe_int) (nomark _))))))))
        (pss_one (ps_never)) pss_nil)
      (pss_one (ps_fld (pv 0) (pv 1) rfl)), ?_⟩
    refine ⟨_, rfl, _, rfl, ?_⟩
    cases z with
    | none => exact iteF (iteF ⟨_, rfl, _, rfl, p, a.CL, dx, [], rfl, hp, T.cL, T.nZ, (by show 0 < 1000; decide), k⟩)
    | some n =>
      have hn := g n rfl
      refine iteT ⟨_, rfl, .int n, .int n, (fun _ => True), rfl, .int n, _, rfl, iteF ⟨_, rfl, _, rfl, _, _, rfl, rfl, _, rfl, ?_⟩⟩
      refine ifF (decide_eq_false (by omega)) ?_
      exact ⟨_, rfl, _, rfl, p, a.CL, dx, [], rfl, hp, T.cL, T.nZ, (by show 0 < 1000; decide), k⟩
def spSize (a : Ad) : Sp := fun vs H Q _ => ∃ p dx v, vs = [.ref p] ∧ H p = some (.ins a.CL dx (fld v)) ∧ Q v H
theorem scSize : FnScope ["self"] ["self"] (defScope sSize) := ⟨rfl, rfl, rfl, by decide +kernel, rfl, by decide +kernel, by decide +kernel⟩
theorem ok_size {f : Addr} {fd : FuncData} (F : Fun K "size" "Limit.size" sSize f fd) (T : Txt K mg a) : FnOk P w K mg base CX0 1 f fd ["self"] (spSize a) := by
  refine F.ok scSize (fun vs H Q E h => ?_) (fun cdv A outer s H vs Q E hr h => ?_)
  · obtain ⟨p, dx, v, rfl, _⟩ := h
    rfl
  · obtain ⟨p, dx, v, rfl, h, k⟩ := h
    exact ⟨_, pss_one (ps_ret (pe_fld (pv 0) rfl)), _, rfl, p, a.CL, dx, _, _, rfl, h, T.cL, T.nZ, fld_get _, k⟩
end
end K39

set_option Elab.async false
set_option linter.all false
set_option maxRecDepth 100000
set_option maxHeartbeats 4000000
namespace K39
open PySem PySem.Spec PyProof.Rows L2 Lm
theorem DEs.at {N : Addr → Prop} {H : Hp} : ∀ {ds : List PyData} {vs : List V}, DEs N H vs ds → vs.length = ds.length ∧ ∀ (i : Nat) (v : V) (d : PyData), vs[i]? = some v → ds[i]? = some d → DE N H v d
  | [], _, h => by
    cases h
    exact ⟨rfl, fun i v d e => by simp at e⟩
  | d :: ds, _, h => by
    cases h with
    | cons h1 h2 =>
      obtain ⟨l, q⟩ := DEs.at h2
      refine ⟨by simp [l], fun i v d e1 e2 => ?_⟩
      cases i with
      | zero =>
        obtain rfl := Option.some.inj e1
        obtain rfl := Option.some.inj e2
        exact h1
      | succ i => exact q i v d e1 e2
def short : PyData → Prop
  | .list ds => ds.length ≤ 1000
  | .tuple ds => ds.length ≤ 1000
  | _ => True
theorem fm_some {α β : Type} (f : α → β) (l : List α) : (l.map fun x => some (f x)).filterMap id = l.map f := by
  induction l with
  | nil => rfl
  | cons x l ih => simp [ih]
theorem isSt_all {ds : List PyData} (hl : ds.length = 4) (ha : ds.all isI = true) : ∃ o p v g, ds = [.int o, .int p, .int v, .int g] := by
  match ds, hl with
  | [d1, d2, d3, d4], _ =>
    simp only [List.all_cons, List.all_nil, Bool.and_true, Bool.and_eq_true] at ha
    obtain ⟨h1, h2, h3, h4⟩ := ha
    cases d1 <;> simp only [isI, Bool.false_eq_true] at h1
    cases d2 <;> simp only [isI, Bool.false_eq_true] at h2
    cases d3 <;> simp only [isI, Bool.false_eq_true] at h3
    cases d4 <;> simp only [isI, Bool.false_eq_true] at h4
    exact ⟨_, _, _, _, rfl⟩
theorem isSt_not {ds : List PyData} (ha : ¬ (ds.length = 4 ∧ ds.all isI = true)) : isSt (.tuple ds) = false := by
  unfold isSt
  split
  · rename_i h
    obtain rfl := PyData.tuple.inj h
    exact absurd ⟨rfl, rfl⟩ ha
  · rfl
section
variable {P : Program} {w : World} {K : PySem.W.Frag} {mg : Str → Option Value} {base : Heap} {a : Ad}
/-! ### are_firsts -/
def spAre (f : PyData → Bool) : Sp := fun vs H Q _ => ∃ v d N, vs = [v] ∧ DE N H v d ∧ short d ∧ ∀ H', Same H H' → Q (.bl (f d)) H'
theorem scAreF : FnScope ["value", "one"] ["value"] (defScope sAreF) := ⟨rfl, rfl, rfl, by decide +kernel, rfl, by decide +kernel, by decide +kernel⟩
theorem isN_de {N : Addr → Prop} {H : Hp} {v : V} {d : PyData} (h : DE N H v d) : decide (v = V.non) = isN d := by cases h <;> simp [isN]
theorem ok_areF {f fi : Addr} {fd fdi : FuncData} (F : Fun K "are_firsts" "are_firsts" sAreF f fd) (T : Txt K mg a) (GI : FnOk P w K mg base CX0 1 fi fdi ["value"] spIsI) (bI : Binds K fdi ["value"] []) (mI : mg "is_integer" = some (.ref fi))
    (kI : PySem.W.keepIn K (.ref fi) = true) : FnOk P w K mg base CX0 2 f fd ["value"] (spAre areF) := by
  refine F.ok scAreF (fun vs H Q E h => ?_) (fun cdv A outer s H vs Q E hr h => ?_)
  · obtain ⟨v, d, N, rfl, _⟩ := h
    rfl
  · obtain ⟨v, d, N, rfl, hd, hz, k⟩ := h
    refine ⟨_, pss_one (ps_ret (pe_and (pe_callB call_isi (by rfl) T.isi (by decide +kernel) (pa_cons (pv 0) (pa_cons (pe_bltn (v := .ty "list") (by rfl) T.list_ (by decide +kernel) rfl) pa_nil)))
      (pe_one (pe_callB (cr_all rfl) (by rfl) T.all_ (by decide +kernel) (pa_cons (pe_lc (own := [("one", 1)]) (g := gName 1) (tt := tYes) (by rfl) scAreF.nd (pi_list (pv 0)) (blkOk_by (N := ["value", "one"]) (sc := defScope sAreF) (by decide +kernel))
        (fun _ _ _ _ _ => pg_name (i := 1) scAreF.nd rfl (Or.inl rfl)) (fun _ _ _ _ _ => pts_nil)
        (fun _ _ _ _ _ => pe_or (pe_cmp (pc_isN (pv 1)) rfl) (pe_one (pe_call GI hr rfl mI kI bI .nil pass0 (pa_cons (pv 1) pa_nil))))) pa_nil))))), ?_⟩
    refine ⟨_, rfl, v, .ty "list", _, .type "list", _, rfl, .ty "list", hd.ty, ty_list d, _, rfl, ?_⟩
    cases hd with
    | @lst b xs ds n e q =>
      obtain ⟨hl, hat⟩ := DEs.at q
      refine iteT ⟨_, rfl, b, rfl, ⟨_, SqL.of e⟩, fun D nD => lc_fm (K := K) (ds.map fun d => some (V.bl (isN d || isI d))) (SqL.of e) nD (by simp [hl]) (by rw [List.length_map, sizeLine_eq]; exact Nat.le_trans hz (by decide)) ?_ (fun H' s' hD => ?_)⟩
      · intro i x o H' Qy Qn hx ho s' yes _
        rw [List.getElem?_map] at ho
        obtain ⟨d, hd, rfl⟩ := Option.map_eq_some_iff.mp ho
        have hdx := (hat i x d hx hd).same s'
        refine ⟨rfl, _, rfl, _, rfl, ?_⟩
        have en := isN_de hdx
        have yes := yes _ rfl H' (Same.refl _)
        cases hn : isN d with
        | true =>
          rw [hn] at yes en
          exact ifT en yes
        | false =>
          rw [hn] at yes en
          exact ifF en ⟨_, rfl, x, d, N, rfl, hdx, yes⟩
      · rw [fm_some] at hD
        refine ⟨D, ds.map (fun d => isN d || isI d), rfl, SqL.of (by rw [hD, List.map_map]; rfl), ?_⟩
        have := k H' s'
        rw [List.all_map]
        exact this
    | non => exact iteF (k H (Same.refl _))
    | bl _ => exact iteF (k H (Same.refl _))
    | int _ => exact iteF (k H (Same.refl _))
    | str _ => exact iteF (k H (Same.refl _))
    | tup _ _ => exact iteF (k H (Same.refl _))
    | emp _ => exact iteF (k H (Same.refl _))
/-! ### is_stair -/
theorem scIsS : FnScope ["value", "offset", "period", "_", "gain", "one"] ["value"] (defScope sIsS) := ⟨rfl, rfl, rfl, by decide +kernel, rfl, by decide +kernel, by decide +kernel⟩
theorem ok_isS {f fi : Addr} {fd fdi : FuncData} (F : Fun K "is_stair" "is_stair" sIsS f fd) (T : Txt K mg a) (GI : FnOk P w K mg base CX0 1 fi fdi ["value"] spIsI) (bI : Binds K fdi ["value"] []) (mI : mg "is_integer" = some (.ref fi))
    (kI : PySem.W.keepIn K (.ref fi) = true) : FnOk P w K mg base CX0 2 f fd ["value"] (spAre isSt) := by
  refine F.ok scIsS (fun vs H Q E h => ?_) (fun cdv A outer s H vs Q E hr h => ?_)
  · obtain ⟨v, d, N, rfl, _⟩ := h
    rfl
  · obtain ⟨v, d, N, rfl, hd, hz, k⟩ := h
    refine ⟨_, pss_cons (ps_if (PW.pt (pw_or (pt_not (pt_val (pe_callB call_isi (by rfl) T.isi (by decide +kernel) (pa_cons (pv 0) (pa_cons (pe_bltn (v := .ty "tuple") (by rfl) T.tuple_ (by decide +kernel) rfl) pa_nil)))))
        (pw_or (pt_cmpR op_ne (pe_callB call_len_seq (by rfl) T.len_ PySem.boot_len (pa_cons (pv 0) pa_nil)) pe_int (nomark _))
        (pw_or1 (pt_not (pt_val (pe_callB (cr_all rfl) (by rfl) T.all_ (by decide +kernel) (pa_cons (pe_lc (own := [("one", 5)]) (g := gName 5) (tt := tYes) (by rfl) scIsS.nd (pi_tup (pv 0)) (blkOk_by (N := ["value", "offset", "period", "_", "gain", "one"]) (sc := defScope sIsS) (by decide +kernel))
          (fun _ _ _ _ _ => pg_name (i := 5) scIsS.nd rfl (Or.inl rfl)) (fun _ _ _ _ _ => pts_nil)
          (fun _ _ _ _ _ => pe_call GI hr rfl mI kI bI .nil pass0 (pa_cons (pv 5) pa_nil))) pa_nil))))))))
        (pss_one (ps_ret pe_bl)) pss_nil)
      (pss_cons (ps_asg (pv 0) (pg_tup (by rfl) (pgs_cons (pg_name (i := 1) scIsS.nd rfl (.inl rfl)) (pgs_cons (pg_name (i := 2) scIsS.nd rfl (.inl rfl)) (pgs_cons (pg_name (i := 3) scIsS.nd rfl (.inl rfl)) (pgs_cons (pg_name (i := 4) scIsS.nd rfl (.inl rfl)) pgs_nil))))))
      (pss_one (ps_ret (pe_and (pe_chain op_le op_lt pe_int (pv 1) (pv 2)) (pe_one (pe_cmpR op_ge (pv 4) pe_int (nomark _))))))), ?_⟩
    refine ⟨_, rfl, v, .ty "tuple", _, .type "tuple", _, rfl, .ty "tuple", hd.ty, ty_tuple d, _, rfl, ?_⟩
    cases hd with
    | @tup b xs ds e q =>
      obtain ⟨hl, hat⟩ := DEs.at q
      refine iteF ⟨_, rfl, b, _, rfl, .inr (SqT.of e), rfl, _, rfl, ?_⟩
      by_cases h4 : ds.length = 4
      · have e4 : (!decide (V.int (xs.length : Int) = V.int 4)) = false := by
          rw [hl, h4]
          simp
        refine ifF e4 ⟨_, rfl, b, rfl, ⟨_, SqT.of e⟩, fun D nD => lc_fmT (K := K) (ds.map fun d => some (V.bl (isI d))) (SqT.of e) nD (by simp [hl]) (by rw [List.length_map, sizeLine_eq]; exact Nat.le_trans hz (by decide)) ?_ (fun H' s' hD => ?_)⟩
        · intro i x o H' Qy Qn hx ho s' yes _
          rw [List.getElem?_map] at ho
          obtain ⟨d, hd, rfl⟩ := Option.map_eq_some_iff.mp ho
          have hdx := (hat i x d hx hd).same s'
          exact ⟨rfl, _, rfl, x, d, N, rfl, hdx, yes _ rfl H' (Same.refl _)⟩
        · rw [fm_some] at hD
          refine ⟨D, ds.map isI, rfl, SqL.of (by rw [hD, List.map_map]; rfl), _, rfl, ?_⟩
          have k := k H' s'
          cases ha : ds.all isI with
          | false =>
            rw [isSt_not (fun z => by rw [ha] at z; cases z.2)] at k
            have e5 : (!(ds.map isI).all id) = true := by
              rw [List.all_map]
              show (!ds.all isI) = true
              rw [ha]
              rfl
            exact ifT e5 k
          | true =>
            have e5 : (!(ds.map isI).all id) = false := by
              rw [List.all_map]
              show (!ds.all isI) = false
              rw [ha]
              rfl
            obtain ⟨o, p, v, g, rfl⟩ := isSt_all h4 ha
            cases q with | cons q1 q => cases q with | cons q2 q => cases q with | cons q3 q => cases q with | cons q4 q =>
            cases q
            cases q1
            cases q2
            cases q3
            cases q4
            refine ifF e5 ⟨_, rfl, b, _, rfl, SqT.of (s' _ _ e), rfl, _, _, rfl, _, _, rfl, _, _, rfl, _, _, rfl, rfl, ?_⟩
            refine ⟨_, rfl, _, _, rfl, rfl, _, rfl, ?_⟩
            have k : Q (.bl ((decide (0 ≤ o) && decide (o < p)) && decide (0 ≤ g))) H' := k
            by_cases h0 : 0 ≤ o
            · refine ifT (decide_eq_true h0) ⟨_, rfl, _, _, rfl, rfl, _, rfl, ?_⟩
              rw [decide_eq_true h0] at k
              by_cases h1 : o < p
              · rw [decide_eq_true h1] at k
                exact ifT (decide_eq_true h1) ⟨_, rfl, _, _, rfl, rfl, k⟩
              · rw [decide_eq_false h1] at k
                exact ifF (decide_eq_false h1) k
            · rw [decide_eq_false h0] at k
              exact ifF (decide_eq_false h0) ⟨_, rfl, iteF k⟩
      · have k := k H (Same.refl _)
        rw [isSt_not (fun z => h4 z.1)] at k
        have e4 : (!decide (V.int (xs.length : Int) = V.int 4)) = true := by
          rw [hl]
          simp
          omega
        exact ifT e4 k
    | non => exact iteT (k H (Same.refl _))
    | bl _ => exact iteT (k H (Same.refl _))
    | int _ => exact iteT (k H (Same.refl _))
    | str _ => exact iteT (k H (Same.refl _))
    | lst _ _ _ => exact iteT (k H (Same.refl _))
    | emp _ => exact iteT (k H (Same.refl _))
end
end K39

set_option Elab.async false
set_option linter.all false
set_option maxRecDepth 100000
set_option maxHeartbeats 8000000
namespace K39
open PySem PySem.Spec PyProof.Rows L2 Lm
def Quads (H : Hp) (xs : List V) (k : V → I4) : Prop := ∀ x ∈ xs, ∃ t, x = V.ref t ∧ H t = some (t4 (k x))
theorem Quads.same {H H' : Hp} {xs : List V} {k : V → I4} (q : Quads H xs k) (s : Same H H') : Quads H' xs k := fun x hx => let ⟨t, e, h⟩ := q x hx; ⟨t, e, s _ _ h⟩
def okQ (q : I4) : Prop := 0 ≤ q.1 ∧ q.1 < q.2.1 ∧ 0 ≤ q.2.2.2
def dO : Option Int → PyData
  | none => .none
  | some n => .int n
def dq (q : I4) : PyData := .tuple [.int q.1, .int q.2.1, .int q.2.2.1, .int q.2.2.2]
abbrev Any : Addr → Prop := fun _ => True
theorem desO {H : Hp} : ∀ fs : List (Option Int), DEs Any H (fs.map vO) (fs.map dO)
  | [] => .nil
  | none :: r => .cons .non (desO r)
  | some n :: r => .cons (.int n) (desO r)
theorem desQ {H : Hp} {k : V → I4} : ∀ xs : List V, Quads H xs k → DEs Any H xs (xs.map fun x => dq (k x))
  | [], _ => .nil
  | x :: r, h => by
    obtain ⟨t, e, ht⟩ := h x (List.mem_cons_self ..)
    refine .cons ?_ (desQ r fun y hy => h y (List.mem_cons_of_mem _ hy))
    rw [e] at ht ⊢
    exact .tup ht (.cons (.int _) (.cons (.int _) (.cons (.int _) (.cons (.int _) .nil))))
theorem areF_O (fs : List (Option Int)) : areF (.list (fs.map dO)) = true := by
  show (fs.map dO).all (fun d => isN d || isI d) = true
  rw [List.all_map, List.all_eq_true]
  intro z _
  cases z <;> rfl
theorem areS_Q {k : V → I4} {xs : List V} (h : ∀ x ∈ xs, okQ (k x)) : areS (.list (xs.map fun x => dq (k x))) = true := by
  show (xs.map fun x => dq (k x)).all isSt = true
  rw [List.all_map, List.all_eq_true]
  intro x hx
  obtain ⟨h1, h2, h3⟩ := h x hx
  show ((decide (0 ≤ (k x).1) && decide ((k x).1 < (k x).2.1)) && decide (0 ≤ (k x).2.2.2)) = true
  rw [decide_eq_true h1, decide_eq_true h2, decide_eq_true h3]
  rfl
theorem de_vO {H : Hp} (e : Option Int) : DE Any H (vO e) (dO e) := by
  cases e
  · exact .non
  · exact .int _
/-- all but what lies at p stands -/
def But (p : Addr) (H H' : Hp) : Prop := ∀ b o, H b = some o → b ≠ p → H' b = some o
theorem But.trans {p : Addr} {H H1 H2 : Hp} (a : But p H H1) (b : But p H1 H2) : But p H H2 := fun c o e n => b c o (a c o e n) n
theorem But.upd {p : Addr} {H : Hp} {o : HO} : But p H (upd H p o) := fun b u e n => by rw [upd_ne n]; exact e
theorem But.same {p : Addr} {H H' : Hp} (s : Same H H') : But p H H' := fun b o e _ => s b o e
abbrev fld3 (x y z : V) : List (Str × V) := [("_firsts", x), ("_stairs", y), ("_endless", z)]
theorem fld3_1 (x y z : V) : (fld3 x y z).lookup ("_firsts" : Str) = some x := by simp [List.lookup]
theorem fld3_2 (x y z : V) : (fld3 x y z).lookup ("_stairs" : Str) = some y := by
  have e : (("_stairs" : Str) == ("_firsts" : Str)) = false := by decide
  simp [List.lookup, e]
theorem fld3_3 (x y z : V) : (fld3 x y z).lookup ("_endless" : Str) = some z := by
  have e1 : (("_endless" : Str) == ("_firsts" : Str)) = false := by decide
  have e2 : (("_endless" : Str) == ("_stairs" : Str)) = false := by decide
  simp [List.lookup, e1, e2]
def FormAt (a : Ad) (H : Hp) (p lf ls : Addr) (e : Option Int) : Prop := ∃ dx, H p = some (.ins a.CF dx (fld3 (.ref lf) (.ref ls) (vO e)))
theorem FormAt.same {a : Ad} {H H' : Hp} {p lf ls : Addr} {e : Option Int} (h : FormAt a H p lf ls e) (s : Same H H') : FormAt a H' p lf ls e := let ⟨dx, q⟩ := h; ⟨dx, s _ _ q⟩
section
variable {P : Program} {w : World} {K : PySem.W.Frag} {mg : Str → Option Value} {base : Heap} {a : Ad}
/-! ### are_stairs -/
def spAreS : Sp := fun vs H Q _ => ∃ v d N, vs = [v] ∧ DE N H v d ∧ short d ∧ (∀ ds, d = .list ds → ∀ x ∈ ds, short x) ∧ ∀ H', Same H H' → Q (.bl (areS d)) H'
theorem scAreS : FnScope ["value", "one"] ["value"] (defScope sAreS) := ⟨rfl, rfl, rfl, by decide +kernel, rfl, by decide +kernel, by decide +kernel⟩
theorem ok_areS {f fi : Addr} {fd fdi : FuncData} (F : Fun K "are_stairs" "are_stairs" sAreS f fd) (T : Txt K mg a) (GI : FnOk P w K mg base CX0 2 fi fdi ["value"] (spAre isSt)) (bI : Binds K fdi ["value"] []) (mI : mg "is_stair" = some (.ref fi))
    (kI : PySem.W.keepIn K (.ref fi) = true) : FnOk P w K mg base CX0 3 f fd ["value"] spAreS := by
  refine F.ok scAreS (fun vs H Q E h => ?_) (fun cdv A outer s H vs Q E hr h => ?_)
  · obtain ⟨v, d, N, rfl, _⟩ := h
    rfl
  · obtain ⟨v, d, N, rfl, hd, hz, hz2, k⟩ := h
    refine ⟨_, pss_one (ps_ret (pe_and (pe_callB call_isi (by rfl) T.isi (by decide +kernel) (pa_cons (pv 0) (pa_cons (pe_bltn (v := .ty "list") (by rfl) T.list_ (by decide +kernel) rfl) pa_nil)))
      (pe_one (pe_callB (cr_all rfl) (by rfl) T.all_ (by decide +kernel) (pa_cons (pe_lc (own := [("one", 1)]) (g := gName 1) (tt := tYes) (by rfl) scAreS.nd (pi_list (pv 0)) (blkOk_by (N := ["value", "one"]) (sc := defScope sAreS) (by decide +kernel))
        (fun _ _ _ _ _ => pg_name (i := 1) scAreS.nd rfl (Or.inl rfl)) (fun _ _ _ _ _ => pts_nil)
        (fun _ _ _ _ _ => pe_call GI hr rfl mI kI bI .nil pass0 (pa_cons (pv 1) pa_nil))) pa_nil))))), ?_⟩
    refine ⟨_, rfl, v, .ty "list", _, .type "list", _, rfl, .ty "list", hd.ty, ty_list d, _, rfl, ?_⟩
    cases hd with
    | @lst b xs ds n e q =>
      obtain ⟨hl, hat⟩ := DEs.at q
      refine iteT ⟨_, rfl, b, rfl, ⟨_, SqL.of e⟩, fun D nD => lc_fm (K := K) (ds.map fun d => some (V.bl (isSt d))) (SqL.of e) nD (by simp [hl]) (by rw [List.length_map, sizeLine_eq]; exact Nat.le_trans hz (by decide)) ?_ (fun H' s' hD => ?_)⟩
      · intro i x o H' Qy Qn hx ho s' yes _
        rw [List.getElem?_map] at ho
        obtain ⟨d, hd, rfl⟩ := Option.map_eq_some_iff.mp ho
        have hdx := (hat i x d hx hd).same s'
        exact ⟨rfl, _, rfl, x, d, N, rfl, hdx, hz2 ds rfl d (List.mem_of_getElem? hd), fun H4 s4 => yes _ rfl H4 s4⟩
      · rw [fm_some] at hD
        refine ⟨D, ds.map isSt, rfl, SqL.of (by rw [hD, List.map_map]; rfl), ?_⟩
        have := k H' s'
        rw [List.all_map]
        exact this
    | non => exact iteF (k H (Same.refl _))
    | bl _ => exact iteF (k H (Same.refl _))
    | int _ => exact iteF (k H (Same.refl _))
    | str _ => exact iteF (k H (Same.refl _))
    | tup _ _ => exact iteF (k H (Same.refl _))
    | emp _ => exact iteF (k H (Same.refl _))
/-! ### Formula.__init__ -/
def shorts (d : PyData) : Prop := short d ∧ ∀ ds, d = .list ds → ∀ x ∈ ds, short x
def spFI (a : Ad) : Sp := fun vs H Q E => ∃ (p dx : Addr) (v1 v2 v3 : V), vs = [.ref p, v1, v2, v3] ∧ H p = some (.ins a.CF dx []) ∧
  ((∃ (b1 b2 : Addr) (fs : List (Option Int)) (xs : List V) (k : V → I4) (e : Option Int), v1 = .ref b1 ∧ H b1 = some (.lst (fs.map vO)) ∧ v2 = .ref b2 ∧ H b2 = some (.lst xs) ∧ Quads H xs k ∧ v3 = vO e ∧ fs.length ≤ 1000 ∧ xs.length ≤ 60 ∧ (∀ x ∈ xs, okQ (k x)) ∧ (∀ n, e = some n → 0 ≤ n) ∧
      ∀ (lf ls : Addr) (ys : List V) (H' : Hp), SrtO.Srtd (ltQ k) ys → SrtO.Stb (ltQ k) ys xs → H lf = none → H ls = none → lf ≠ ls → FormAt a H' p lf ls e → H' lf = some (.lst (fs.map vO)) → H' ls = some (.lst ys) → But p H H' → Q .non H') ∨
   (∃ (N : Addr → Prop) (d1 d2 d3 : PyData), DE N H v1 d1 ∧ DE N H v2 d2 ∧ DE N H v3 d3 ∧ short d1 ∧ shorts d2 ∧ (areF d1 && (areS d2 && okE d3)) = false ∧
      ∀ (t d : Addr) (H' : Hp), H' d = some (.xd [("value", .ref t)]) → H' t = some (.tup [v1, v2, v3]) → Same H H' → E (.ref a.CP) (some d) H'))
def NFI : List Str := ["self", "firsts", "stairs", "endless"]
theorem scFI : FnScope NFI NFI (defScope sFI) := ⟨rfl, rfl, rfl, by decide +kernel, rfl, by decide +kernel, by decide +kernel⟩
theorem okE_read {N : Addr → Prop} {H : Hp} {v : V} {d : PyData} {σ : L2.St} {Q : Bool → Hp → Prop} (hσ : σ[3]? = some (some v)) (h : DE N H v d) (q : Q (okE d) H) :
    tOr (tB (tIsN (tVar 3))) (tTest (tCall spIsC [] E0 (tCons (tVar 3) tNil))) σ H Q := by
  have en := isN_de h
  refine ⟨_, hσ, _, rfl, ?_⟩
  cases hn : isN d with
  | true =>
    rw [hn] at en
    unfold okE at q
    rw [hn] at q
    exact ifT en q
  | false =>
    rw [hn] at en
    unfold okE at q
    rw [hn] at q
    exact ifF en ⟨_, hσ, v, d, N, rfl, h, _, rfl, q⟩
theorem putF_2 (x y : V) : putF ("_stairs" : Str) y [("_firsts", x)] = ([("_firsts", x), ("_stairs", y)] : List (Str × V)) := by
  have e : ¬ (("_firsts" : Str) = ("_stairs" : Str)) := by decide
  simp [putF, e]
theorem putF_3 (x y z : V) : putF ("_endless" : Str) z [("_firsts", x), ("_stairs", y)] = fld3 x y z := by
  have e1 : ¬ (("_firsts" : Str) = ("_endless" : Str)) := by decide
  have e2 : ¬ (("_stairs" : Str) = ("_endless" : Str)) := by decide
  simp [putF, e1, e2]
theorem ok_FI {f f1 f2 f3 : Addr} {fd d1 d2 d3 fdP : FuncData} (F : Fun K "__init__" "Formula.__init__" sFI f fd) (T : Txt K mg a)
    (G1 : FnOk P w K mg base CX0 2 f1 d1 ["value"] (spAre areF)) (b1 : Binds K d1 ["value"] []) (m1 : mg "are_firsts" = some (.ref f1)) (k1 : PySem.W.keepIn K (.ref f1) = true)
    (G2 : FnOk P w K mg base CX0 3 f2 d2 ["value"] spAreS) (b2 : Binds K d2 ["value"] []) (m2 : mg "are_stairs" = some (.ref f2)) (k2 : PySem.W.keepIn K (.ref f2) = true)
    (G3 : FnOk P w K mg base CX0 2 f3 d3 ["value"] spIsC) (b3 : Binds K d3 ["value"] []) (m3 : mg "is_count" = some (.ref f3)) (k3 : PySem.W.keepIn K (.ref f3) = true)
    (GP : FnOk P w K mg base CX0 1 a.fP fdP ["self", "value"] (spNI a.CP)) (bP : Binds K fdP ["self", "value"] []) : FnOk P w K mg base (L2.CX P w) 4 f fd NFI (spFI a) := by
  refine F.okX scFI (fun vs H Q E h => ?_) (fun cdv A outer s H vs Q E hr h => ?_)
  · obtain ⟨p, dx, v1, v2, v3, rfl, _⟩ := h
    rfl
  · obtain ⟨p, dx, v1, v2, v3, rfl, hp, k⟩ := h
    have hr2 : Room 2 _ := hr.mono (by decide)
    refine ⟨_, pss_cons (ps_if (PW.pt (pw_or (pt_not (pt_val (pe_call G1 hr2 rfl m1 k1 b1 .nil pass0 (pa_cons (pv 1) pa_nil)))) (pw_or (pt_not (pt_val (pe_call G2 hr rfl m2 k2 b2 .nil pass0 (pa_cons (pv 2) pa_nil))))
        (pw_or1 (pt_not (PW.pt (pw_or (pt_cmp (pc_isN (pv 3))) (pw_or1 (pt_val (pe_call G3 hr2 rfl m3 k3 b3 .nil pass0 (pa_cons (pv 3) pa_nil)))))))))))
        (pss_one (ps_raise (W := fun cls d _ H => E cls d H) rfl (takes_of rfl rfl rfl rfl) (pmk_oex T.xP.ox T.xP.iN T.xP.tN GP hr2 bP .nil pass0 rfl T.mgP (pa_cons (pe_tup (pa_cons (pv 1) (pa_cons (pv 2) (pa_cons (pv 3) pa_nil)))) pa_nil)))) pss_nil)
      (pss_cons (ps_fld (pv 0) (pe_callTy call_list_of (by rfl) T.list_ (by decide +kernel) (pa_cons (pv 1) pa_nil)) rfl)
      (pss_cons (ps_fld (pv 0) (pe_callB cr_sort4 (by rfl) T.sorted_ (by decide +kernel) (pa_cons (pv 2) pa_nil)) rfl)
      (pss_one (ps_fld (pv 0) (pv 3) rfl)))), ?_⟩
    rcases k with ⟨c1, c2, fs, xs, k, e, rfl, hc1, rfl, hc2, hq, rfl, hfs, hxs, hok, he, q⟩ | ⟨N, e1, e2, e3, h1, h2, h3, z1, z2, hbad, q⟩
    · -- as it should be
      refine ⟨_, rfl, _, _, Any, rfl, .lst trivial hc1 (desO fs), (by show (fs.map dO).length ≤ 1000; simpa using hfs), fun H1 s1 => ⟨_, rfl, ?_⟩⟩
      rw [areF_O]
      have hq1 := hq.same s1
      have z2 : ∀ ds, PyData.list (xs.map fun x => dq (k x)) = .list ds → ∀ x ∈ ds, short x := by
        intro ds e x hx
        obtain rfl := PyData.list.inj e
        obtain ⟨y, _, rfl⟩ := List.mem_map.mp hx
        show 4 ≤ 1000
        decide
      refine iteF ⟨_, rfl, _, _, Any, rfl, .lst trivial (s1 _ _ hc2) (desQ xs hq1), (by show (xs.map fun x => dq (k x)).length ≤ 1000; rw [List.length_map]; omega), z2, fun H2 s2 => ⟨_, rfl, ?_⟩⟩
      rw [areS_Q hok]
      refine iteF (okE_read (N := Any) (d := dO e) rfl (de_vO e) ?_)
      have ek : okE (dO e) = true := by
        cases e with
        | none => rfl
        | some n => exact decide_eq_true (he n rfl)
      rw [ek]
      have s12 := s1.trans s2
      have hq2 := hq.same s12
      refine iteF ⟨_, rfl, c1, _, rfl, .inl (SqL.of (s12 _ _ hc1)), fun lf nlf => ⟨_, rfl, p, a.CF, dx, [], rfl, ?_, T.cF, T.nF, (by show 0 < 1000; decide), ?_⟩⟩
      · rw [upd_ne (ne_of_none (s12 _ _ hp) nlf)]
        exact s12 _ _ hp
      have npl : p ≠ lf := ne_of_none (s12 _ _ hp) nlf
      have s3 : Same H2 (upd H2 lf (.lst (fs.map vO))) := same_new nlf
      refine ⟨_, rfl, c2, xs, k, rfl, SqL.of ?_, ?_, fun ys ls srt stb nls => ⟨_, rfl, p, a.CF, dx, [("_firsts", .ref lf)], rfl, ?_, T.cF, T.nS, (by show 1 < 1000; decide), ?_⟩⟩
      · have n2 : c2 ≠ p := fun e => by
          rw [e, hp] at hc2
          cases hc2
        rw [upd_ne n2]
        exact s3 _ _ (s12 _ _ hc2)
      · intro x hx
        obtain ⟨t, ex, ht⟩ := hq2 x hx
        refine ⟨t, ex, ?_⟩
        have n2 : t ≠ p := fun e => by
          have := s12 _ _ hp
          rw [← e, ht] at this
          cases this
        rw [upd_ne n2]
        exact s3 _ _ ht
      · have npl2 : p ≠ ls := fun e => by
          rw [← e, upd_same] at nls
          cases nls
        rw [upd_ne npl2, upd_same]
        rfl
      have npl2 : p ≠ ls := fun e => by
        rw [← e, upd_same] at nls
        cases nls
      have nll : lf ≠ ls := fun e => by
        rw [← e, upd_ne npl.symm, upd_same] at nls
        cases nls
      have nls2 : H2 ls = none := by
        rw [upd_ne npl2.symm, upd_ne nll.symm] at nls
        exact nls
      refine ⟨_, rfl, _, rfl, p, a.CF, dx, _, rfl, upd_same, T.cF, T.nE, (by rw [putF_2]; show 2 < 1000; decide), ?_⟩
      have fresh : ∀ b, H2 b = none → H b = none := fun b hb => by
        cases hh : H b with
        | none => rfl
        | some o => rw [s12 _ _ hh] at hb; cases hb
      refine q lf ls ys _ srt stb (fresh _ nlf) (fresh _ nls2) nll ⟨dx, ?_⟩ ?_ ?_ ?_
      · rw [upd_same, putF_2, putF_3]
      · rw [upd_ne npl.symm, upd_ne npl.symm, upd_ne nll, upd_ne npl.symm, upd_same]
      · rw [upd_ne npl2.symm, upd_ne npl2.symm, upd_same]
      · intro b o eb nb
        have e2 := s12 _ _ eb
        rw [upd_ne nb, upd_ne nb, upd_ne (ne_of_none e2 nls2), upd_ne nb, upd_ne (ne_of_none e2 nlf)]
        exact e2
    · -- refused
      have bad : ∀ H2, Same H H2 → tMkO a.CP (spNI a.CP) [] (tCons (tTup (tCons (tVar 1) (tCons (tVar 2) (tCons (tVar 3) tNil)))) tNil) (start NFI [V.ref p, v1, v2, v3]) H2 (fun cls d H' => E cls d H') := by
        intro H2 s2
        refine ⟨_, rfl, _, rfl, _, rfl, (by show 3 ≤ sizeLine; decide), fun t nt => ⟨by show 1 ≤ 1000; decide, fun b hb => ⟨b, _, rfl, upd_same, fun d hd hne => ⟨rfl, d, _, upd_same, by rw [upd_ne hne, upd_same], ?_, ?_⟩⟩⟩⟩
        · rw [upd_ne hne] at hd
          exact hd
        · rw [upd_ne hne] at hd
          have ntb : t ≠ b := fun e => by rw [e, upd_same] at hb; cases hb
          have ntd : t ≠ d := fun e => by rw [e, upd_same] at hd; cases hd
          refine q t d _ upd_same ?_ fun x o e => ?_
          · rw [upd_ne ntd, del_ne ntb, upd_ne ntb, upd_ne ntd, upd_ne ntb, upd_same]
          · have e2 := s2 _ _ e
            have nxt : x ≠ t := ne_of_none e2 nt
            have e3 : upd H2 t (.tup [v1, v2, v3]) x = some o := by rw [upd_ne nxt]; exact e2
            have nxb : x ≠ b := ne_of_none e3 hb
            have nxd : x ≠ d := ne_of_none e3 hd
            rw [upd_ne nxd, del_ne nxb, upd_ne nxb, upd_ne nxd, upd_ne nxb]
            exact e3
      refine ⟨_, rfl, _, _, N, rfl, h1, z1, fun H1 s1 => ⟨_, rfl, ?_⟩⟩
      cases ha : areF e1 with
      | false => exact iteT (bad H1 s1)
      | true =>
        refine iteF ⟨_, rfl, _, _, N, rfl, h2.same s1, z2.1, z2.2, fun H2 s2 => ⟨_, rfl, ?_⟩⟩
        cases hb : areS e2 with
        | false => exact iteT (bad H2 (s1.trans s2))
        | true =>
          rw [ha, hb] at hbad
          have hbad : okE e3 = false := hbad
          refine iteF (okE_read (N := N) (d := e3) rfl ((h3.same s1).same s2) ?_)
          rw [hbad]
          exact iteT (bad H2 (s1.trans s2))
end
end K39

set_option Elab.async false
set_option linter.all false
set_option maxRecDepth 100000
set_option maxHeartbeats 8000000
namespace K39
open PySem PySem.Spec PyProof.Rows L2 Lm
/-! ### the mathematics of growths -/
def maxO : List Int → Option Int
  | [] => none
  | n :: r => some (match maxO r with
    | none => n
    | some m => if n ≤ m then m else n)
theorem maxO_spec : ∀ (ns : List Int), (ns = [] ∧ maxO ns = none) ∨ ∃ m, maxO ns = some m ∧ m ∈ ns ∧ ∀ y ∈ ns, y ≤ m
  | [] => .inl ⟨rfl, rfl⟩
  | n :: r => by
    right
    rcases maxO_spec r with ⟨e1, e2⟩ | ⟨m, e, hm, hle⟩
    · subst e1
      exact ⟨n, rfl, by simp, fun y hy => by simp at hy; omega⟩
    · by_cases h : n ≤ m
      · refine ⟨m, by simp only [maxO, e, if_pos h], by simp [hm], fun y hy => ?_⟩
        rcases List.mem_cons.mp hy with rfl | hy
        · exact h
        · exact hle y hy
      · refine ⟨n, by simp only [maxO, e, if_neg h], by simp, fun y hy => ?_⟩
        rcases List.mem_cons.mp hy with rfl | hy
        · exact Int.le_refl _
        · have := hle y hy
          omega
theorem maxO_eq {ns : List Int} {m : Int} (h : m ∈ ns) (hle : ∀ y ∈ ns, y ≤ m) : maxO ns = some m := by
  rcases maxO_spec ns with ⟨e, _⟩ | ⟨m', e, hm, hle'⟩
  · subst e
    cases h
  · have h1 := hle _ hm
    have h2 := hle' _ h
    have : m' = m := by omega
    rw [e, this]
theorem maxO_perm {a b : List Int} (p : a.Perm b) : maxO a = maxO b := by
  rcases maxO_spec b with ⟨e1, e2⟩ | ⟨m, e, hm, hle⟩
  · subst e1
    rw [p.eq_nil]
  · rw [e]
    exact maxO_eq (p.mem_iff.mpr hm) fun y hy => hle y (p.mem_iff.mp hy)
/-- what a stair gives at a count -/
def cand (q : I4) (c : Int) : Option Int := if c % q.2.1 = q.1 then some (q.2.2.1 + q.2.2.2 * (c / q.2.1)) else none
def isEnd (e : Option Int) (c : Int) : Bool := match e with
  | none => false
  | some n => decide (n ≤ c)
/-- the value at a count: none is endless -/
def valAt (fs : List (Option Int)) (qs : List I4) (e : Option Int) (c : Int) : Option (Option Int) :=
  if isEnd e c = true then none else if c < fs.length then some (fs.getD c.toNat none) else some (maxO (qs.filterMap fun q => cand q c))
theorem valAt_perm {fs : List (Option Int)} {qs qs' : List I4} (p : qs.Perm qs') (e : Option Int) (c : Int) : valAt fs qs e c = valAt fs qs' e c := by
  unfold valAt
  rw [maxO_perm (p.filterMap _)]
def over (g : Option (Option Int)) (most : Int) : Bool := match g with
  | none => true
  | some none => false
  | some (some v) => decide (most < v)
/-- a stair as the law draws it -/
def gQ (q : I4) : Prop := 0 ≤ q.1 ∧ q.1 < q.2.1 ∧ q.2.1 ≤ 4 ∧ -10 ≤ q.2.2.1 ∧ q.2.2.1 ≤ 9 ∧ 0 ≤ q.2.2.2 ∧ q.2.2.2 ≤ 4
theorem gQ.ok {q : I4} (h : gQ q) : okQ q := ⟨h.1, h.2.1, h.2.2.2.2.2.1⟩
def LeastOn (q : I4) (least most : Int) : Option Int → Prop
  | some c => least ≤ c ∧ c < 400 ∧ c % q.2.1 = q.1 ∧ most < q.2.2.1 + q.2.2.2 * (c / q.2.1) ∧ ∀ c', least ≤ c' → c' < c → c' % q.2.1 = q.1 → q.2.2.1 + q.2.2.2 * (c' / q.2.1) ≤ most
  | none => ∀ c', least ≤ c' → c' % q.2.1 = q.1 → q.2.2.1 + q.2.2.2 * (c' / q.2.1) ≤ most
theorem fo_math (q : I4) (least most : Int) (h : gQ q) (l0 : 0 ≤ least) (l1 : least ≤ 5) (m1 : most ≤ 60) (r : Int) (hr : r = if (least - q.1 + q.2.1 - 1) / q.2.1 > 0 then (least - q.1 + q.2.1 - 1) / q.2.1 else 0) :
    (q.2.2.1 + q.2.2.2 * r ≤ most → q.2.2.2 = 0 → LeastOn q least most none) ∧ (q.2.2.1 + q.2.2.2 * r ≤ most → q.2.2.2 ≠ 0 → LeastOn q least most (some (((most - q.2.2.1) / q.2.2.2 + 1) * q.2.1 + q.1))) ∧
    (¬ q.2.2.1 + q.2.2.2 * r ≤ most → LeastOn q least most (some (r * q.2.1 + q.1))) := by
  obtain ⟨o, p, v, g⟩ := q
  obtain ⟨h1, h2, h3, h4, h5, h6, h7⟩ := h
  simp only at h1 h2 h3 h4 h5 h6 h7 hr
  have hp : p = 1 ∨ p = 2 ∨ p = 3 ∨ p = 4 := by omega
  have hg : g = 0 ∨ g = 1 ∨ g = 2 ∨ g = 3 ∨ g = 4 := by omega
  simp only [LeastOn]
  refine ⟨fun a b => ?_, fun a b => ?_, fun a => ?_⟩
  · subst b
    intro c' _ _
    simp only [Int.zero_mul] at a ⊢
    exact a
  · rcases hp with rfl | rfl | rfl | rfl <;> rcases hg with rfl | rfl | rfl | rfl | rfl <;> first
      | exact absurd rfl b
      | (split at hr <;> refine ⟨by omega, by omega, by omega, by omega, fun c' _ _ _ => by omega⟩)
  · rcases hp with rfl | rfl | rfl | rfl <;> rcases hg with rfl | rfl | rfl | rfl | rfl <;>
      (split at hr <;> refine ⟨by omega, by omega, by omega, by omega, fun c' _ _ _ => by omega⟩)
end K39

set_option Elab.async false
set_option linter.all false
set_option maxRecDepth 100000
set_option maxHeartbeats 8000000
namespace K39
open PySem PySem.Spec PyProof.Rows L2 Lm
section
variable {P : Program} {w : World} {K : PySem.W.Frag} {mg : Str → Option Value} {base : Heap} {a : Ad}
/-! ### what a formula is read by -/
def spList (a : Ad) (sec : Bool) : Sp := fun vs H Q _ => ∃ (p lf ls : Addr) (e : Option Int) (xs : List V), vs = [.ref p] ∧ FormAt a H p lf ls e ∧ H (if sec then ls else lf) = some (.lst xs) ∧ ∀ l H', H l = none → H' l = some (.lst xs) → Same H H' → Q (.ref l) H'
theorem scFirsts : FnScope ["self"] ["self"] (defScope sFirsts) := ⟨rfl, rfl, rfl, by decide +kernel, rfl, by decide +kernel, by decide +kernel⟩
theorem scStairs : FnScope ["self"] ["self"] (defScope sStairs) := ⟨rfl, rfl, rfl, by decide +kernel, rfl, by decide +kernel, by decide +kernel⟩
theorem scEndless : FnScope ["self"] ["self"] (defScope sEndless) := ⟨rfl, rfl, rfl, by decide +kernel, rfl, by decide +kernel, by decide +kernel⟩
theorem scGrowth : FnScope ["self"] ["self"] (defScope sGrowth) := ⟨rfl, rfl, rfl, by decide +kernel, rfl, by decide +kernel, by decide +kernel⟩
theorem ok_firsts {f : Addr} {fd : FuncData} (F : Fun K "firsts" "Formula.firsts" sFirsts f fd) (T : Txt K mg a) : FnOk P w K mg base CX0 1 f fd ["self"] (spList a false) := by
  refine F.ok scFirsts (fun vs H Q E h => ?_) (fun cdv A outer s H vs Q E hr h => ?_)
  · obtain ⟨p, lf, ls, e, xs, rfl, _⟩ := h
    rfl
  · obtain ⟨p, lf, ls, e, xs, rfl, ⟨dx, hp⟩, hl, k⟩ := h
    refine ⟨_, pss_one (ps_ret (pe_callTy call_list_of (by rfl) T.list_ (by decide +kernel) (pa_cons (pe_fld (pv 0) rfl) pa_nil))), ?_⟩
    exact ⟨_, rfl, p, a.CF, dx, _, _, rfl, hp, T.cF, T.nF, fld3_1 _ _ _, lf, _, rfl, .inl (SqL.of hl), fun l nl => k l _ nl upd_same (same_new nl)⟩
theorem ok_stairs {f : Addr} {fd : FuncData} (F : Fun K "stairs" "Formula.stairs" sStairs f fd) (T : Txt K mg a) : FnOk P w K mg base CX0 1 f fd ["self"] (spList a true) := by
  refine F.ok scStairs (fun vs H Q E h => ?_) (fun cdv A outer s H vs Q E hr h => ?_)
  · obtain ⟨p, lf, ls, e, xs, rfl, _⟩ := h
    rfl
  · obtain ⟨p, lf, ls, e, xs, rfl, ⟨dx, hp⟩, hl, k⟩ := h
    refine ⟨_, pss_one (ps_ret (pe_callTy call_list_of (by rfl) T.list_ (by decide +kernel) (pa_cons (pe_fld (pv 0) rfl) pa_nil))), ?_⟩
    exact ⟨_, rfl, p, a.CF, dx, _, _, rfl, hp, T.cF, T.nS, fld3_2 _ _ _, ls, _, rfl, .inl (SqL.of hl), fun l nl => k l _ nl upd_same (same_new nl)⟩
def spEndless (a : Ad) : Sp := fun vs H Q _ => ∃ (p lf ls : Addr) (e : Option Int), vs = [.ref p] ∧ FormAt a H p lf ls e ∧ Q (vO e) H
theorem ok_endless {f : Addr} {fd : FuncData} (F : Fun K "endless" "Formula.endless" sEndless f fd) (T : Txt K mg a) : FnOk P w K mg base CX0 1 f fd ["self"] (spEndless a) := by
  refine F.ok scEndless (fun vs H Q E h => ?_) (fun cdv A outer s H vs Q E hr h => ?_)
  · obtain ⟨p, lf, ls, e, rfl, _⟩ := h
    rfl
  · obtain ⟨p, lf, ls, e, rfl, ⟨dx, hp⟩, k⟩ := h
    exact ⟨_, pss_one (ps_ret (pe_fld (pv 0) rfl)), _, rfl, p, a.CF, dx, _, _, rfl, hp, T.cF, T.nE, fld3_3 _ _ _, k⟩
def spGrowth (a : Ad) : Sp := fun vs H Q _ => ∃ (p lf ls : Addr) (e : Option Int), vs = [.ref p] ∧ FormAt a H p lf ls e ∧ ∀ t, H t = none → Q (.ref t) (upd H t (.tup [.ref lf, .ref ls, vO e]))
theorem ok_growth {f : Addr} {fd : FuncData} (F : Fun K "_growth" "Formula._growth" sGrowth f fd) (T : Txt K mg a) : FnOk P w K mg base CX0 1 f fd ["self"] (spGrowth a) := by
  refine F.ok scGrowth (fun vs H Q E h => ?_) (fun cdv A outer s H vs Q E hr h => ?_)
  · obtain ⟨p, lf, ls, e, rfl, _⟩ := h
    rfl
  · obtain ⟨p, lf, ls, e, rfl, ⟨dx, hp⟩, k⟩ := h
    refine ⟨_, pss_one (ps_ret (pe_tup (pa_cons (pe_fld (pv 0) rfl) (pa_cons (pe_fld (pv 0) rfl) (pa_cons (pe_fld (pv 0) rfl) pa_nil))))), ?_⟩
    exact ⟨_, rfl, p, a.CF, dx, _, _, rfl, hp, T.cF, T.nF, fld3_1 _ _ _, _, rfl, p, a.CF, dx, _, _, rfl, hp, T.cF, T.nS, fld3_2 _ _ _, _, rfl, p, a.CF, dx, _, _, rfl, hp, T.cF, T.nE, fld3_3 _ _ _,
      (by show 3 ≤ sizeLine; decide), fun t nt => k t nt⟩
/-! ### value_at -/
def gV : Option (Option Int) → V
  | none => .str "endless"
  | some z => vO z
def spVal (K : PySem.W.Frag) : Sp := fun vs H Q _ => ∃ (g lf ls : Addr) (e : Option Int) (fs : List (Option Int)) (ys : List V) (k : V → I4) (c : Int), vs = [.ref g, .int c] ∧ H g = some (.tup [.ref lf, .ref ls, vO e]) ∧ H lf = some (.lst (fs.map vO)) ∧ H ls = some (.lst ys) ∧
  Quads H ys k ∧ (∀ y ∈ ys, gQ (k y)) ∧ ys.length ≤ 60 ∧ 0 ≤ c ∧ ∀ H', Same H H' → Q (gV (valAt fs (ys.map k) e c)) H'
def NV : List Str := ["growth", "count", "firsts", "stairs", "endless", "offset", "period", "value", "gain"]
theorem scVal : FnScope NV ["growth", "count"] (defScope sValueAt) := ⟨rfl, rfl, rfl, by decide +kernel, rfl, by decide +kernel, by decide +kernel⟩
theorem fm_cand (k : V → I4) (c : Int) (ys : List V) : (ys.map fun y => (cand (k y) c).map V.int).filterMap id = ((ys.map k).filterMap fun q => cand q c).map V.int := by
  induction ys with
  | nil => rfl
  | cons y ys ih =>
    simp only [List.map_cons, List.filterMap_cons]
    cases h : cand (k y) c with
    | none => simpa [h] using ih
    | some v => simpa [h] using ih
/-- «e is not None and c >= e» of slots i (e) and j (c) -/
theorem rd_end {σ : L2.St} {H : Hp} {Q : Bool → Hp → Prop} {i j : Nat} {e : Option Int} {c : Int} (hi : σ[i]? = some (some (vO e))) (hj : σ[j]? = some (some (.int c))) (q : Q (isEnd e c) H) :
    tAnd (tB (tNotN (tVar i))) (tTest (tOp (rI0 fun i j => .bl (decide (j ≤ i))) (tVar j) (tVar i))) σ H Q := by
  cases e with
  | none => exact ⟨_, hi, _, rfl, iteF q⟩
  | some n => exact ⟨_, hi, _, rfl, iteT ⟨_, hj, _, hi, _, _, rfl, rfl, _, rfl, q⟩⟩
theorem ok_val {f : Addr} {fd : FuncData} (F : Fun K "value_at" "value_at" sValueAt f fd) (T : Txt K mg a) : FnOk P w K mg base CX0 1 f fd ["growth", "count"] (spVal K) := by
  refine F.ok scVal (fun vs H Q E h => ?_) (fun cdv A outer s H vs Q E hr h => ?_)
  · obtain ⟨g, lf, ls, e, fs, ys, k, c, rfl, _⟩ := h
    rfl
  · obtain ⟨g, lf, ls, e, fs, ys, k, c, rfl, hg, hf, hs, hq, hgq, hz, c0, q⟩ := h
    refine ⟨_, pss_cons (ps_asg (pv 0) (pg_tup (by rfl) (pgs_cons (pg_name (i := 2) scVal.nd rfl (.inl rfl)) (pgs_cons (pg_name (i := 3) scVal.nd rfl (.inl rfl)) (pgs_cons (pg_name (i := 4) scVal.nd rfl (.inl rfl)) pgs_nil)))))
      (pss_cons (ps_if (PW.pt (pw_and (pt_cmp (pc_notN (pv 4))) (pw_and1 (pt_cmpR op_ge (pv 1) (pv 4) (nomark _))))) (pss_one (ps_ret pe_str)) pss_nil)
      (pss_cons (ps_if (pt_cmpR op_lt (pv 1) (pe_callB call_len_seq (by rfl) T.len_ PySem.boot_len (pa_cons (pv 2) pa_nil)) (nomark _)) (pss_one (ps_ret (pe_ix ix_list (pv 2) (pv 1) (fun _ _ => rfl)))) pss_nil)
      (pss_one (ps_ret (pe_callBK (cr_maxd rfl) (by rfl) T.max_ (by decide +kernel)
        (pa_cons (pe_lc (own := [("offset", 5), ("period", 6), ("value", 7), ("gain", 8)]) (g := gTup K 4 (gCons (gName 5) (gCons (gName 6) (gCons (gName 7) (gCons (gName 8) gNil))))) (by rfl) scVal.nd (pi_list (pv 3)) (blkOk_by (N := NV) (sc := defScope sValueAt) (by decide +kernel))
          (fun _ _ _ _ _ => pg_tup (by rfl) (pgs_cons (pg_name (i := 5) scVal.nd rfl (Or.inl rfl)) (pgs_cons (pg_name (i := 6) scVal.nd rfl (Or.inl rfl)) (pgs_cons (pg_name (i := 7) scVal.nd rfl (Or.inl rfl)) (pgs_cons (pg_name (i := 8) scVal.nd rfl (Or.inl rfl)) pgs_nil)))))
          (fun _ _ _ _ _ => pts_one (pt_cmpR op_eq (pe_op op_mod (pv 1) (pv 6)) (pv 5) (nomark _)))
          (fun _ _ _ _ _ => pe_op op_add (pv 7) (pe_op op_mul (pv 8) (pe_op op_fdiv (pv 1) (pv 6))))) pa_nil)
        (pk_cons pe_non pk_nil)))))), ?_⟩
    refine ⟨_, rfl, g, _, rfl, SqT.of hg, rfl, _, _, rfl, _, _, rfl, _, _, rfl, rfl, rd_end (e := e) rfl rfl ?_⟩
    unfold valAt at q
    cases he : isEnd e c with
    | true =>
      rw [he] at q
      exact iteT (q H (Same.refl _))
    | false =>
      rw [he] at q
      refine iteF ⟨_, rfl, _, rfl, lf, _, rfl, .inl (SqL.of hf), _, _, rfl, rfl, _, rfl, ?_⟩
      by_cases hc : c < fs.length
      · have e1 : decide (c < ((fs.map vO).length : Int)) = true := decide_eq_true (by rw [List.length_map]; exact hc)
        have hn : c.toNat < fs.length := by omega
        refine ifT e1 ⟨_, rfl, _, rfl, lf, _, c, vO (fs.getD c.toNat none), rfl, rfl, SqL.of hf, ?_, ?_⟩
        · obtain ⟨n, rfl⟩ : ∃ n : Nat, c = n := ⟨c.toNat, by omega⟩
          refine atI_nat ?_
          have hn : n < fs.length := by omega
          simp [hn]
        · have := q H (Same.refl _)
          simp only [Bool.false_eq_true, if_false, if_pos hc] at this
          exact this
      · have e1 : decide (c < ((fs.map vO).length : Int)) = false := decide_eq_false (by rw [List.length_map]; exact hc)
        refine ifF e1 ⟨_, rfl, ls, rfl, ⟨_, SqL.of hs⟩, fun D nD => lc_fm (K := K) (ys.map fun y => (cand (k y) c).map V.int) (SqL.of hs) nD (by simp) (by rw [List.length_map, sizeLine_eq]; exact Nat.le_trans hz (by decide)) ?_ (fun H' s' hD => ?_)⟩
        · intro i x o H' Qy Qn hx ho s' yes no
          rw [List.getElem?_map, hx] at ho
          obtain rfl := Option.some.inj ho
          have mx := List.mem_of_getElem? hx
          obtain ⟨t, ex, ht⟩ := hq x mx
          obtain ⟨g1, g2, g3, g4, g5, g6, g7⟩ := hgq x mx
          refine ⟨t, _, ex, SqT.of (s' _ _ ht), rfl, _, _, rfl, _, _, rfl, _, _, rfl, _, _, rfl, rfl, rfl, _, rfl, _, rfl, _, _, rfl, rfl, (by omega), _, rfl, rfl, _, rfl, ?_⟩
          dsimp only at yes no
          by_cases hm : c % (k x).2.1 = (k x).1
          · have e2 : decide (V.int (c % (k x).2.1) = V.int (k x).1) = true := by simp [hm]
            have e3 : cand (k x) c = some ((k x).2.2.1 + (k x).2.2.2 * (c / (k x).2.1)) := if_pos hm
            rw [e3] at yes
            exact ifT e2 ⟨_, rfl, _, rfl, _, rfl, _, rfl, _, _, rfl, rfl, ⟨by omega, by omega⟩, _, _, rfl, rfl, .inl ⟨by omega, by omega⟩, _, _, rfl, rfl, yes _ rfl H' (Same.refl _)⟩
          · have e2 : decide (V.int (c % (k x).2.1) = V.int (k x).1) = false := by simp [hm]
            have e3 : cand (k x) c = none := if_neg hm
            rw [e3] at no
            exact ifF e2 (no rfl H' (Same.refl _))
        · rw [fm_cand] at hD
          have q := q H' s'
          simp only [Bool.false_eq_true, if_false, if_neg hc] at q
          refine ⟨D, _, .non, rfl, rfl, SqL.of hD, fun e0 => ?_, fun m hm hle => ?_⟩
          · rw [e0] at q
            exact q
          · rw [maxO_eq hm hle] at q
            exact q
end
end K39

set_option Elab.async false
set_option linter.all false
set_option maxRecDepth 100000
set_option maxHeartbeats 8000000
namespace K39
open PySem PySem.Spec PyProof.Rows L2 Lm
/-- what first_on works out -/
def foR (q : I4) (least most : Int) : Option Int :=
  if q.2.2.1 + q.2.2.2 * (if (least - q.1 + q.2.1 - 1) / q.2.1 > 0 then (least - q.1 + q.2.1 - 1) / q.2.1 else 0) ≤ most then
    (if q.2.2.2 = 0 then none else some (((most - q.2.2.1) / q.2.2.2 + 1) * q.2.1 + q.1))
  else some ((if (least - q.1 + q.2.1 - 1) / q.2.1 > 0 then (least - q.1 + q.2.1 - 1) / q.2.1 else 0) * q.2.1 + q.1)
theorem foR_least (q : I4) (least most : Int) (h : gQ q) (l0 : 0 ≤ least) (l1 : least ≤ 5) (m1 : most ≤ 60) : LeastOn q least most (foR q least most) := by
  obtain ⟨m, m2, m3⟩ := fo_math q least most h l0 l1 m1 _ rfl
  unfold foR
  generalize (if (least - q.1 + q.2.1 - 1) / q.2.1 > 0 then (least - q.1 + q.2.1 - 1) / q.2.1 else 0) = r0 at m m2 m3 ⊢
  by_cases c1 : q.2.2.1 + q.2.2.2 * r0 ≤ most
  · rw [if_pos c1]
    by_cases c2 : q.2.2.2 = 0
    · rw [if_pos c2]
      exact m c1 c2
    · rw [if_neg c2]
      exact m2 c1 c2
  · rw [if_neg c1]
    exact m3 c1
def Ov (fs : List (Option Int)) (qs : List I4) (e : Option Int) (most c : Int) : Bool := over (valAt fs qs e c) most
theorem ov_end {fs : List (Option Int)} {qs : List I4} {e : Option Int} {most c : Int} (h : isEnd e c = true) : Ov fs qs e most c = true := by
  unfold Ov valAt
  rw [if_pos h]
  rfl
def ovF (most : Int) : Option Int → Bool
  | none => false
  | some v => decide (most < v)
theorem ov_first {fs : List (Option Int)} {qs : List I4} {e : Option Int} {most : Int} {i : Nat} {z : Option Int} (h : isEnd e i = false) (hi : fs[i]? = some z) : Ov fs qs e most i = ovF most z := by
  have hn : i < fs.length := (List.getElem?_eq_some_iff.mp hi).1
  unfold Ov valAt
  rw [if_neg (by rw [h]; exact Bool.false_ne_true), if_pos (by omega)]
  have : fs.getD (i : Int).toNat none = z := by
    show fs.getD i none = z
    rw [List.getD_eq_getElem?_getD, hi]
    rfl
  rw [this]
  cases z <;> rfl
theorem ov_ge {fs : List (Option Int)} {qs : List I4} {e : Option Int} {most c : Int} (h : isEnd e c = false) (hc : (fs.length : Int) ≤ c) :
    Ov fs qs e most c = true ↔ ∃ q ∈ qs, c % q.2.1 = q.1 ∧ most < q.2.2.1 + q.2.2.2 * (c / q.2.1) := by
  unfold Ov valAt
  rw [if_neg (by rw [h]; exact Bool.false_ne_true), if_neg (by omega)]
  have mem : ∀ y, y ∈ (qs.filterMap fun q => cand q c) ↔ ∃ q ∈ qs, c % q.2.1 = q.1 ∧ q.2.2.1 + q.2.2.2 * (c / q.2.1) = y := by
    intro y
    rw [List.mem_filterMap]
    refine ⟨fun ⟨q, hq, hy⟩ => ⟨q, hq, ?_⟩, fun ⟨q, hq, h1, h2⟩ => ⟨q, hq, ?_⟩⟩
    · unfold cand at hy
      split at hy
      · rename_i h1
        exact ⟨h1, Option.some.inj hy⟩
      · cases hy
    · unfold cand
      rw [if_pos h1, h2]
  rcases maxO_spec (qs.filterMap fun q => cand q c) with ⟨e1, e2⟩ | ⟨m, e1, hm, hle⟩
  · rw [e2]
    refine ⟨fun h => Bool.noConfusion h, fun ⟨q, hq, h1, h2⟩ => ?_⟩
    have := (mem _).mpr ⟨q, hq, h1, rfl⟩
    rw [e1] at this
    cases this
  · rw [e1]
    show decide (most < m) = true ↔ _
    rw [decide_eq_true_eq]
    refine ⟨fun h => ?_, fun ⟨q, hq, h1, h2⟩ => ?_⟩
    · obtain ⟨q, hq, h1, h2⟩ := (mem m).mp hm
      exact ⟨q, hq, h1, by omega⟩
    · have := hle _ ((mem _).mpr ⟨q, hq, h1, rfl⟩)
      omega
def LeastF (fs : List (Option Int)) (qs : List I4) (e : Option Int) (most : Int) : Option Int → Prop
  | some c => 0 ≤ c ∧ c < 400 ∧ Ov fs qs e most c = true ∧ ∀ c', 0 ≤ c' → c' < c → Ov fs qs e most c' = false
  | none => ∀ c', 0 ≤ c' → Ov fs qs e most c' = false
def goodE (e : Option Int) : Prop := ∀ n, e = some n → 0 ≤ n ∧ n < 40
/-- the two ends of first_above behind its loop -/
theorem fa_math {fs : List (Option Int)} {qs : List I4} {e : Option Int} {most : Int} (hq : ∀ q ∈ qs, gQ q) (hf : fs.length ≤ 5) (m1 : most ≤ 60) (he : goodE e) (lo : ∀ c' : Int, 0 ≤ c' → c' < fs.length → Ov fs qs e most c' = false) :
    (((e :: qs.map fun q => foR q fs.length most).filterMap id) = [] → LeastF fs qs e most none) ∧
    ∀ m, m ∈ ((e :: qs.map fun q => foR q fs.length most).filterMap id) → (∀ y, y ∈ ((e :: qs.map fun q => foR q fs.length most).filterMap id) → m ≤ y) → LeastF fs qs e most (some m) := by
  have ge : ∀ n, e = some n → (fs.length : Int) ≤ n := fun n en => by
    by_cases h : (fs.length : Int) ≤ n
    · exact h
    · have h0 := (he n en).1
      have h1 := lo n h0 (by omega)
      rw [ov_end (by rw [en]; exact decide_eq_true (Int.le_refl _))] at h1
      cases h1
  have mem : ∀ y, y ∈ ((e :: qs.map fun q => foR q fs.length most).filterMap id) ↔ e = some y ∨ ∃ q ∈ qs, foR q fs.length most = some y := by
    intro y
    rw [List.mem_filterMap]
    constructor
    · rintro ⟨z, hz, rfl⟩
      rcases List.mem_cons.mp hz with h | h
      · exact .inl h.symm
      · obtain ⟨q, h1, h2⟩ := List.mem_map.mp h
        exact .inr ⟨q, h1, h2⟩
    · rintro (h | ⟨q, h1, h2⟩)
      · exact ⟨some y, by rw [h]; exact List.mem_cons_self .., rfl⟩
      · exact ⟨some y, List.mem_cons_of_mem _ (List.mem_map.mpr ⟨q, h1, h2⟩), rfl⟩
  have fo : ∀ q ∈ qs, LeastOn q fs.length most (foR q fs.length most) := fun q h => foR_least q _ _ (hq q h) (by omega) (by omega) m1
  -- none is over below a bound that is below all of them
  have low : ∀ B : Int, (∀ y, (e = some y ∨ ∃ q ∈ qs, foR q fs.length most = some y) → B ≤ y) → ∀ c', 0 ≤ c' → c' < B → Ov fs qs e most c' = false := by
    intro B hB c' h0 h1
    by_cases hc : c' < fs.length
    · exact lo c' h0 hc
    · have ne : isEnd e c' = false := by
        cases he' : e with
        | none => rfl
        | some n =>
          have := hB n (.inl he')
          exact decide_eq_false (by omega)
      cases hv : Ov fs qs e most c' with
      | false => rfl
      | true =>
        obtain ⟨q, h2, h3, h4⟩ := (ov_ge ne (by omega)).mp hv
        have l := fo q h2
        cases hr : foR q fs.length most with
        | none =>
          rw [hr] at l
          have := l c' (by omega) h3
          omega
        | some c =>
          rw [hr] at l
          have b := hB c (.inr ⟨q, h2, hr⟩)
          have := l.2.2.2.2 c' (by omega) (by omega) h3
          omega
  constructor
  · intro nil c' h0
    refine low (c' + 1) (fun y hy => ?_) c' h0 (by omega)
    have := (mem y).mpr hy
    rw [nil] at this
    cases this
  · intro m hm hle
    have low := low m fun y hy => hle y ((mem y).mpr hy)
    rcases (mem m).mp hm with h | ⟨q, h1, h2⟩
    · obtain ⟨a, b⟩ := he m h
      exact ⟨a, by omega, ov_end (by rw [h]; exact decide_eq_true (Int.le_refl _)), low⟩
    · have l := fo q h1
      rw [h2] at l
      obtain ⟨l1, l2, l3, l4, l5⟩ := l
      refine ⟨by omega, l2, ?_, low⟩
      cases hE : isEnd e m with
      | true => exact ov_end hE
      | false => exact (ov_ge hE l1).mpr ⟨q, h1, l3, l4⟩
/-- there is but one -/
theorem leastF_uniq {fs : List (Option Int)} {qs : List I4} {e : Option Int} {most : Int} {r : Option Int} (h : LeastF fs qs e most r) :
    (∀ c, 0 ≤ c → c < 400 → (∀ c', 0 ≤ c' → c' < c → Ov fs qs e most c' = false) → Ov fs qs e most c = true → r = some c) ∧ ((∀ c', 0 ≤ c' → c' < 400 → Ov fs qs e most c' = false) → r = none) := by
  cases r with
  | none =>
    refine ⟨fun c h0 _ _ h1 => ?_, fun _ => rfl⟩
    have := h c h0
    rw [this] at h1
    cases h1
  | some m =>
    obtain ⟨h1, h2, h3, h4⟩ := h
    refine ⟨fun c h0 _ h5 h6 => ?_, fun h5 => ?_⟩
    · by_cases a : m < c
      · rw [h5 m h1 a] at h3
        cases h3
      · by_cases b : c < m
        · rw [h4 c h0 b] at h6
          cases h6
        · have : m = c := by omega
          rw [this]
    · rw [h5 m h1 h2] at h3
      cases h3
end K39

set_option Elab.async false
set_option linter.all false
set_option maxRecDepth 100000
set_option maxHeartbeats 8000000
namespace K39
open PySem PySem.Spec PyProof.Rows L2 Lm
section
variable {P : Program} {w : World} {K : PySem.W.Frag} {mg : Str → Option Value} {base : Heap} {a : Ad}
/-! ### first_on -/
def spFO : Sp := fun vs H Q _ => ∃ (t : Addr) (qd : I4) (least most : Int), vs = [.ref t, .int least, .int most] ∧ H t = some (t4 qd) ∧ gQ qd ∧ 0 ≤ least ∧ least ≤ 5 ∧ most ≤ 60 ∧ Q (vO (foR qd least most)) H
def NFO : List Str := ["stair", "least", "most", "offset", "period", "value", "gain", "rounds"]
theorem scFO : FnScope NFO ["stair", "least", "most"] (defScope sFirstOn) := ⟨rfl, rfl, rfl, by decide +kernel, rfl, by decide +kernel, by decide +kernel⟩
theorem ok_FO {f : Addr} {fd : FuncData} (F : Fun K "first_on" "first_on" sFirstOn f fd) (T : Txt K mg a) : FnOk P w K mg base CX0 1 f fd ["stair", "least", "most"] spFO := by
  refine F.ok scFO (fun vs H Q E h => ?_) (fun cdv A outer s H vs Q E hr h => ?_)
  · obtain ⟨t, qd, least, most, rfl, _⟩ := h
    rfl
  · obtain ⟨t, qd, least, most, rfl, ht, hg, l0, l1, m1, k⟩ := h
    refine ⟨_, pss_cons (ps_asg (pv 0) (pg_tup (by rfl) (pgs_cons (pg_name (i := 3) scFO.nd rfl (.inl rfl)) (pgs_cons (pg_name (i := 4) scFO.nd rfl (.inl rfl)) (pgs_cons (pg_name (i := 5) scFO.nd rfl (.inl rfl)) (pgs_cons (pg_name (i := 6) scFO.nd rfl (.inl rfl)) pgs_nil))))))
      (pss_cons (ps_set (i := 7) scFO.nd rfl (.inl rfl) (pe_callB (call_max2 rfl) (by rfl) T.max_ (by decide +kernel) (pa_cons pe_int (pa_cons (pe_op op_fdiv (pe_op op_sub (pe_op op_add (pe_op op_sub (pv 1) (pv 3)) (pv 4)) pe_int) (pv 4)) pa_nil))))
      (pss_cons (ps_if (pt_cmpR op_le (pe_op op_add (pv 5) (pe_op op_mul (pv 6) (pv 7))) (pv 2) (nomark _))
        (pss_cons (ps_if (pt_cmpR op_eq (pv 6) pe_int (nomark _)) (pss_one (ps_ret pe_non)) pss_nil)
        (pss_one (ps_set (i := 7) scFO.nd rfl (.inl rfl) (pe_op op_add (pe_op op_fdiv (pe_op op_sub (pv 2) (pv 5)) (pv 6)) pe_int)))) pss_nil)
      (pss_one (ps_ret (pe_op op_add (pe_op op_mul (pv 7) (pv 4)) (pv 3)))))), ?_⟩
    obtain ⟨g1, g2, g3, g4, g5, g6, g7⟩ := hg
    refine ⟨_, rfl, t, _, rfl, SqT.of ht, rfl, _, _, rfl, _, _, rfl, _, _, rfl, _, _, rfl, rfl, ?_⟩
    refine ⟨_, rfl, _, rfl, _, _, rfl, rfl, _, rfl, _, _, rfl, rfl, _, _, rfl, rfl, _, rfl, _, _, rfl, rfl, ⟨by omega, by omega⟩, _, _, rfl, ?_⟩
    unfold foR at k
    generalize (if (least - qd.1 + qd.2.1 - 1) / qd.2.1 > 0 then (least - qd.1 + qd.2.1 - 1) / qd.2.1 else 0) = r0 at k ⊢
    refine ⟨_, rfl, _, rfl, _, rfl, _, _, rfl, rfl, .inl ⟨by omega, by omega⟩, _, _, rfl, rfl, _, rfl, _, _, rfl, rfl, _, rfl, ?_⟩
    by_cases c1 : qd.2.2.1 + qd.2.2.2 * r0 ≤ most
    · rw [if_pos c1] at k
      refine ifT (decide_eq_true c1) ⟨_, rfl, rfl, _, rfl, ?_⟩
      by_cases c2 : qd.2.2.2 = 0
      · have e2 : decide (V.int qd.2.2.2 = V.int 0) = true := by simp [c2]
        rw [if_pos c2] at k
        exact ifT e2 k
      · have e2 : decide (V.int qd.2.2.2 = V.int 0) = false := by simp [c2]
        rw [if_neg c2] at k
        exact ifF e2 ⟨_, rfl, _, rfl, _, _, rfl, rfl, _, rfl, _, _, rfl, rfl, ⟨by omega, by omega⟩, _, _, rfl, rfl, _, rfl, _, rfl, _, _, rfl, rfl, .inr ⟨by omega, by omega⟩, _, rfl, _, _, rfl, rfl, k⟩
    · rw [if_neg c1] at k
      exact ifF (decide_eq_false c1) ⟨_, rfl, _, rfl, _, _, rfl, rfl, .inr ⟨by omega, by omega⟩, _, rfl, _, _, rfl, rfl, k⟩
end
end K39

set_option Elab.async false
set_option linter.all false
set_option maxRecDepth 100000
set_option maxHeartbeats 8000000
namespace K39
open PySem PySem.Spec PyProof.Rows L2 Lm
section
variable {P : Program} {w : World} {K : PySem.W.Frag} {mg : Str → Option Value} {base : Heap} {a : Ad}
/-! ### first_above -/
def spFA : Sp := fun vs H Q _ => ∃ (g lf ls : Addr) (e : Option Int) (fs : List (Option Int)) (ys : List V) (k : V → I4) (most : Int), vs = [.ref g, .int most] ∧ H g = some (.tup [.ref lf, .ref ls, vO e]) ∧ H lf = some (.lst (fs.map vO)) ∧ H ls = some (.lst ys) ∧
  Quads H ys k ∧ (∀ y ∈ ys, gQ (k y)) ∧ ys.length ≤ 60 ∧ fs.length ≤ 5 ∧ most ≤ 60 ∧ goodE e ∧ ∀ r H', LeastF fs (ys.map k) e most r → Same H H' → Q (vO r) H'
def rLen (K : PySem.W.Frag) : List V → Hp → VK → Prop := fun xs H Q => ∃ p ys, xs = [V.ref p] ∧ (SqL K H p ys ∨ SqT K H p ys) ∧ Q (V.int ys.length) H
def NA : List Str := ["growth", "most", "firsts", "stairs", "endless", "count", "value", "found", "stair"]
theorem scFA : FnScope NA ["growth", "most"] (defScope sFirstAbove) := ⟨rfl, rfl, rfl, by decide +kernel, rfl, by decide +kernel, by decide +kernel⟩
theorem rd_end2 {σ : L2.St} {H : Hp} {Q : Bool → Hp → Prop} {i j : Nat} {e : Option Int} {c : Int} (hi : σ[i]? = some (some (vO e))) (hj : σ[j]? = some (some (.int c))) (q : Q (isEnd e c) H) :
    tAnd (tB (tNotN (tVar i))) (tTest (tOp (rI0 fun i j => .bl (decide (j ≤ i))) (tVar j) (tVar i))) σ H Q := by
  cases e with
  | none => exact ⟨_, hi, _, rfl, iteF q⟩
  | some n => exact ⟨_, hi, _, rfl, iteT ⟨_, hj, _, hi, _, _, rfl, rfl, _, rfl, q⟩⟩
theorem rd_gt {σ : L2.St} {H : Hp} {Q : Bool → Hp → Prop} {i j : Nat} {z : Option Int} {c : Int} (hi : σ[i]? = some (some (vO z))) (hj : σ[j]? = some (some (.int c))) (q : Q (ovF c z) H) :
    tAnd (tB (tNotN (tVar i))) (tTest (tOp (rI0 fun i j => .bl (decide (j < i))) (tVar i) (tVar j))) σ H Q := by
  cases z with
  | none => exact ⟨_, hi, _, rfl, iteF q⟩
  | some n => exact ⟨_, hi, _, rfl, iteT ⟨_, hi, _, hj, _, _, rfl, rfl, _, rfl, q⟩⟩
theorem fm_int (zs : List (Option Int)) : (zs.map fun z => z.map V.int).filterMap id = (zs.filterMap id).map V.int := by
  induction zs with
  | nil => rfl
  | cons z zs ih =>
    cases z with
    | none => simpa using ih
    | some n => simpa using ih
theorem ok_FA {f fo : Addr} {fd fdo : FuncData} (F : Fun K "first_above" "first_above" sFirstAbove f fd) (T : Txt K mg a) (GO : FnOk P w K mg base CX0 1 fo fdo ["stair", "least", "most"] spFO) (bO : Binds K fdo ["stair", "least", "most"] []) (mO : mg "first_on" = some (.ref fo))
    (kO : PySem.W.keepIn K (.ref fo) = true) : FnOk P w K mg base CX0 2 f fd ["growth", "most"] spFA := by
  refine F.ok scFA (fun vs H Q E h => ?_) (fun cdv A outer s H vs Q E hr h => ?_)
  · obtain ⟨g, lf, ls, e, fs, ys, k, c, rfl, _⟩ := h
    rfl
  · obtain ⟨g, lf, ls, e, fs, ys, k, most, rfl, hg, hf, hs, hq, hgq, hz, hfl, m1, he, q⟩ := h
    refine ⟨_, pss_cons (ps_asg (pv 0) (pg_tup (by rfl) (pgs_cons (pg_name (i := 2) scFA.nd rfl (.inr rfl)) (pgs_cons (pg_name (i := 3) scFA.nd rfl (.inl rfl)) (pgs_cons (pg_name (i := 4) scFA.nd rfl (.inl rfl)) pgs_nil)))))
      (pss_cons (ps_for PassesOwn.never rfl (pi_enum (by rfl) T.enum (pa_cons (pv 2) pa_nil)) (pg_tup (by rfl) (pgs_cons (pg_name (i := 5) scFA.nd rfl (.inl rfl)) (pgs_cons (pg_name (i := 6) scFA.nd rfl (.inl rfl)) pgs_nil)))
        (pss_cons (ps_if (PW.pt (pw_and (pt_cmp (pc_notN (pv 4))) (pw_and1 (pt_cmpR op_ge (pv 5) (pv 4) (nomark _))))) (pss_one (ps_ret (pv 4))) pss_nil)
        (pss_one (ps_if (PW.pt (pw_and (pt_cmp (pc_notN (pv 6))) (pw_and1 (pt_cmpR op_gt (pv 6) (pv 1) (nomark _))))) (pss_one (ps_ret (pv 5))) pss_nil))))
      (pss_cons (ps_setLc (i := 7) (own := [("stair", 8)]) (g := gName 8) (tt := tYes) (by rfl) scFA.nd rfl rfl (sw_true rfl rfl rfl (by decide +kernel)) (pi_list (pv 3)) (blkOk_by (N := NA) (sc := defScope sFirstAbove) (by decide +kernel))
          (fun _ _ _ _ _ => pg_name (i := 8) scFA.nd rfl (Or.inl rfl)) (fun _ _ _ _ _ => pts_nil)
          (fun _ _ _ _ _ => pe_call GO hr rfl mO kO bO .nil pass0 (pa_cons (pv 8) (pa_cons (pe_callB (show CallR _ _ (rLen K) from call_len_seq) (by rfl) T.len_ PySem.boot_len (pa_cons (pv 2) pa_nil)) (pa_cons (pv 1) pa_nil)))))
      (pss_one (ps_ret (pe_callBK (cr_mind rfl) (by rfl) T.min_ (by decide +kernel)
        (pa_cons (pe_lc (own := [("count", 5)]) (g := gName 5) (by rfl) scFA.nd (pi_list (pe_lst (pa_cons (pv 4) (StX.pa_star (pv 7) pa_nil)))) (blkOk_by (N := NA) (sc := defScope sFirstAbove) (by decide +kernel))
          (fun _ _ _ _ _ => pg_name (i := 5) scFA.nd rfl (Or.inl rfl)) (fun _ _ _ _ _ => pts_one (pt_cmp (pc_notN (pv 5)))) (fun _ _ _ _ _ => pv 5)) pa_nil)
        (pk_cons pe_non pk_nil)))))), ?_⟩
    refine ⟨_, rfl, g, _, rfl, SqT.of hg, rfl, _, _, rfl, _, _, rfl, _, _, rfl, rfl, ?_⟩
    refine ⟨_, rfl, lf, _, rfl, SqL.of hf, for_it (walk_enum (K := K) (a := lf) (xs := fs.map vO)) (fun i σ H' => ∃ v5 v6, σ = [some (.ref g), some (.int most), some (.ref lf), some (.ref ls), some (vO e), v5, v6, none, none] ∧ Same H H' ∧ ∀ c' : Int, 0 ≤ c' → c' < i → Ov fs (ys.map k) e most c' = false)
      ⟨_, _, rfl, Same.refl _, fun c' h0 h1 => by omega⟩ (fun i σ H' _ ⟨_, _, _, z, _⟩ => SqL.of (z _ _ hf)) ?_ ?_⟩
    · rintro i v σ H1 H2 hi ⟨v5, v6, rfl, s1, lo⟩ ⟨t, x, y, rfl, nt, rfl, hx, hy⟩
      obtain rfl := Option.some.inj hx
      rw [List.length_map] at hi
      obtain ⟨z, hfi⟩ : ∃ z, fs[i]? = some z := ⟨_, List.getElem?_eq_getElem hi⟩
      have hy' : some (vO z) = some y := by
        rw [← hy]
        show _ = (fs.map vO)[i]?
        rw [List.getElem?_map, hfi]
        rfl
      obtain rfl := Option.some.inj hy'
      have s2 : Same H (upd H1 t (.tup [.int (i : Nat), vO z])) := s1.trans (same_new nt)
      refine ⟨t, _, rfl, SqT.of upd_same, rfl, _, _, rfl, _, _, rfl, rfl, rd_end2 (e := e) rfl rfl ?_⟩
      cases hE : isEnd e (i : Nat) with
      | true =>
        have hv := ov_end (fs := fs) (qs := ys.map k) (most := most) hE
        cases e with
        | none => cases hE
        | some n =>
          have hle : n ≤ (i : Nat) := of_decide_eq_true hE
          obtain ⟨n0, n1⟩ := he n rfl
          refine iteT ⟨_, rfl, q (some n) _ ⟨n0, by omega, ov_end (decide_eq_true (Int.le_refl _)), fun c' h0 h1 => lo c' h0 (by omega)⟩ s2⟩
      | false =>
        refine iteF (rd_gt (z := z) rfl rfl ?_)
        have ov := ov_first (qs := ys.map k) (most := most) hE hfi
        rw [← ov]
        cases hO : Ov fs (ys.map k) e most (i : Nat) with
        | true => exact iteT ⟨_, rfl, q (some (i : Nat)) _ ⟨by omega, by omega, hO, lo⟩ s2⟩
        | false =>
          refine iteF ⟨_, _, rfl, s2, fun c' h0 h1 => ?_⟩
          by_cases hc : c' < (i : Nat)
          · exact lo c' h0 hc
          · have : c' = (i : Nat) := by omega
            rw [this]
            exact hO
    · rintro σ H1 ⟨v5, v6, rfl, s1, lo⟩
      rw [List.length_map] at lo
      have hq1 := hq.same s1
      refine ⟨_, rfl, ls, rfl, ⟨_, SqL.of (s1 _ _ hs)⟩, fun D nD => lc_fm (K := K) (ys.map fun y => some (vO (foR (k y) fs.length most))) (SqL.of (s1 _ _ hs)) nD (by simp) (by rw [List.length_map, sizeLine_eq]; exact Nat.le_trans hz (by decide)) ?_ (fun H2 s2 hD => ?_)⟩
      · intro i x o H' Qy Qn hx ho s' yes _
        rw [List.getElem?_map, hx] at ho
        obtain rfl := Option.some.inj ho
        have mx := List.mem_of_getElem? hx
        obtain ⟨t, ex, ht⟩ := hq1 x mx
        refine ⟨rfl, _, rfl, _, rfl, lf, _, rfl, .inl (SqL.of (s' _ _ (s1 _ _ hf))), _, rfl, t, k x, fs.length, most, ?_, s' _ _ ht, hgq x mx, by omega, by omega, m1, yes _ rfl H' (Same.refl _)⟩
        rw [ex, List.length_map]
        rfl
      · rw [fm_some] at hD
        refine ⟨_, rfl, _, rfl, D, _, rfl, .inr (SqL.of hD), (by
          simp only [List.length_append, List.length_cons, List.length_nil, List.length_map]
          rw [sizeLine_eq]
          omega), fun l nl => ⟨l, rfl, ⟨_, SqL.of upd_same⟩, fun D2 nD2 => ?_⟩⟩
        have ez : (vO e :: ((ys.map fun y => vO (foR (k y) fs.length most)) ++ [])) = (e :: (ys.map k).map fun q => foR q fs.length most).map vO := by simp
        rw [ez] at nD2
        rw [ez]
        refine lc_fm (K := K) ((e :: (ys.map k).map fun q => foR q fs.length most).map fun z => z.map V.int) (SqL.of upd_same) nD2 (by simp) (by
          simp only [List.length_cons, List.length_map]
          rw [sizeLine_eq]
          omega) ?_ (fun H3 s3 hD3 => ?_)
        · intro i x o H' Qy Qn hx ho s' yes no
          rw [List.getElem?_map] at hx ho
          obtain ⟨z, hz1, rfl⟩ := Option.map_eq_some_iff.mp hx
          rw [hz1] at ho
          obtain rfl := Option.some.inj ho
          cases z with
          | none => exact ⟨rfl, _, rfl, _, rfl, iteF (no rfl H' (Same.refl _))⟩
          | some n => exact ⟨rfl, _, rfl, _, rfl, iteT ⟨_, rfl, yes _ rfl H' (Same.refl _)⟩⟩
        · rw [fm_int] at hD3
          have s4 : Same H H3 := (s1.trans s2).trans ((same_new nl).trans (ez ▸ s3))
          have hgq2 : ∀ q ∈ ys.map k, gQ q := fun q hq => by
            obtain ⟨y, hy, rfl⟩ := List.mem_map.mp hq
            exact hgq y hy
          obtain ⟨f1, f2⟩ := fa_math (most := most) hgq2 hfl m1 he lo
          refine ⟨D2, _, .non, rfl, rfl, SqL.of hD3, fun e0 => q none _ (f1 e0) s4, fun m hm hle => q (some m) _ (f2 m hm hle) s4⟩
end
end K39

set_option Elab.async false
set_option linter.all false
set_option maxRecDepth 100000
set_option maxHeartbeats 8000000
namespace K39
open PySem PySem.Spec PyProof.Rows L2 Lm
def FormFull (a : Ad) (H : Hp) (p : Addr) (fs : List (Option Int)) (ys : List V) (k : V → I4) (e : Option Int) : Prop := ∃ lf ls, FormAt a H p lf ls e ∧ H lf = some (.lst (fs.map vO)) ∧ H ls = some (.lst ys) ∧ Quads H ys k ∧ (∀ y ∈ ys, gQ (k y)) ∧ ys.length ≤ 60 ∧ fs.length ≤ 5 ∧ goodE e
theorem FormFull.same {a : Ad} {H H' : Hp} {p : Addr} {fs : List (Option Int)} {ys : List V} {k : V → I4} {e : Option Int} (h : FormFull a H p fs ys k e) (s : Same H H') : FormFull a H' p fs ys k e :=
  let ⟨lf, ls, h1, h2, h3, h4, h5⟩ := h; ⟨lf, ls, h1.same s, s _ _ h2, s _ _ h3, h4.same s, h5⟩
def LimAt (a : Ad) (H : Hp) (p : Addr) (z : Option Int) : Prop := ∃ dx, H p = some (.ins a.CL dx (fld (vO z)))
theorem fld3_m {x y z : V} : (fld3 x y z).lookup ("_growth" : Str) = none := by
  have e1 : (("_growth" : Str) == ("_firsts" : Str)) = false := by decide
  have e2 : (("_growth" : Str) == ("_stairs" : Str)) = false := by decide
  have e3 : (("_growth" : Str) == ("_endless" : Str)) = false := by decide
  simp [List.lookup, e1, e2, e3]
section
variable {P : Program} {w : World} {K : PySem.W.Frag} {mg : Str → Option Value} {base : Heap} {a : Ad}
/-- what is told of a value that is no number -/
def Told (CN : Addr) (v : V) (H : Hp) (E : XK) : Prop := ∀ x H', H' x = some (.xd [("value", v)]) → Same H H' → E (.ref CN) (some x) H'
theorem told_mk {CN : Addr} {v u : V} {H : Hp} {E : XK} {N : List Str} (hv : (start N [u, v])[1]? = some (some v)) (k : Told CN v H E) : tMkO CN (spNI CN) [] (tCons (tVar 1) tNil) (start N [u, v]) H (fun cls d H' => E cls d H') := by
  refine ⟨_, hv, by show 1 ≤ 1000; decide, fun x hx => ⟨x, v, rfl, upd_same, fun d hd hne => ⟨rfl, d, _, upd_same, by rw [upd_ne hne, upd_same], ?_, ?_⟩⟩⟩
  · rw [upd_ne hne] at hd
    exact hd
  · rw [upd_ne hne] at hd
    refine k d _ upd_same fun b o e => ?_
    have nb : b ≠ d := ne_of_none e hd
    have na : b ≠ x := ne_of_none e hx
    rw [upd_ne nb, del_ne na, upd_ne na, upd_ne nb, upd_ne na]
    exact e
/-! ### greatest -/
def spGr (a : Ad) : Sp := fun vs H Q E => ∃ (p : Addr) (v : V), vs = [.ref p, v] ∧
  ((∃ fs ys k e c, v = .int c ∧ 0 ≤ c ∧ FormFull a H p fs ys k e ∧ ∀ H', Same H H' → Q (gV (valAt fs (ys.map k) e c)) H') ∨ (∃ N d, DE N H v d ∧ isC d = false ∧ Told a.CN v H E))
theorem scGr : FnScope ["self", "count"] ["self", "count"] (defScope sGreatest) := ⟨rfl, rfl, rfl, by decide +kernel, rfl, by decide +kernel, by decide +kernel⟩
theorem ok_Gr {f fc fg fv : Addr} {fd fdc fdg fdv fdN : FuncData} (F : Fun K "greatest" "Formula.greatest" sGreatest f fd) (T : Txt K mg a)
    (GC : FnOk P w K mg base CX0 2 fc fdc ["value"] spIsC) (bC : Binds K fdc ["value"] []) (mC : mg "is_count" = some (.ref fc)) (kC : PySem.W.keepIn K (.ref fc) = true)
    (GG : FnOk P w K mg base CX0 1 fg fdg ["self"] (spGrowth a)) (bG : Binds K fdg ["self"] []) (mG : Meth K a.CF "_growth" fg)
    (GV : FnOk P w K mg base CX0 1 fv fdv ["growth", "count"] (spVal K)) (bV : Binds K fdv ["growth", "count"] []) (mV : mg "value_at" = some (.ref fv)) (kV : PySem.W.keepIn K (.ref fv) = true)
    (GN : FnOk P w K mg base CX0 1 a.fN fdN ["self", "value"] (spNI a.CN)) (bN : Binds K fdN ["self", "value"] []) : FnOk P w K mg base (L2.CX P w) 3 f fd ["self", "count"] (spGr a) := by
  refine F.okX scGr (fun vs H Q E h => ?_) (fun cdv A outer s H vs Q E hr h => ?_)
  · obtain ⟨p, v, rfl, _⟩ := h
    rfl
  · obtain ⟨p, v, rfl, k⟩ := h
    have hr1 : Room 1 _ := hr.mono (by decide)
    refine ⟨_, pss_cons (ps_if (pt_not (pt_val (pe_call GC hr rfl mC kC bC .nil pass0 (pa_cons (pv 1) pa_nil))))
        (pss_one (ps_raise (W := fun cls d _ H => E cls d H) rfl (takes_of rfl rfl rfl rfl) (pmk_oex T.xN.ox T.xN.iN T.xN.tN GN hr bN .nil pass0 rfl T.mgN (pa_cons (pv 1) pa_nil)))) pss_nil)
      (pss_one (ps_ret (pe_call GV hr1 rfl mV kV bV .nil pass0 (pa_cons (pe_meth0 (pv 0) T.cF mG GG hr1 bG .nil pass0) (pa_cons (pv 1) pa_nil))))), ?_⟩
    rcases k with ⟨fs, ys, k, e, c, rfl, c0, ⟨lf, ls, ⟨dx, hp⟩, hf, hs, hq, hg, hz, _, _⟩, q⟩ | ⟨N, d, hd, hc, q⟩
    · refine ⟨_, rfl, .int c, .int c, Any, rfl, .int c, _, rfl, ?_⟩
      have ec : (!isC (.int c)) = false := by
        show (!decide (0 ≤ c)) = false
        rw [decide_eq_true c0]
        rfl
      refine ifF ec ⟨_, rfl, p, dx, _, rfl, hp, fld3_m, p, lf, ls, e, rfl, ⟨dx, hp⟩, fun t nt => ⟨_, rfl, ?_⟩⟩
      have s1 : Same H (upd H t (.tup [.ref lf, .ref ls, vO e])) := same_new nt
      exact ⟨t, lf, ls, e, fs, ys, k, c, rfl, upd_same, s1 _ _ hf, s1 _ _ hs, hq.same s1, hg, hz, c0, fun H' s' => q H' (s1.trans s')⟩
    · refine ⟨_, rfl, v, d, N, rfl, hd, _, rfl, ?_⟩
      rw [hc]
      exact iteT (told_mk rfl q)
/-! ### __call__ -/
def spCa (a : Ad) : Sp := fun vs H Q E => ∃ (p : Addr) (v : V), vs = [.ref p, v] ∧
  ((∃ fs ys k e most, v = .int most ∧ most ≤ 60 ∧ FormFull a H p fs ys k e ∧ ∀ r z H', LeastF fs (ys.map k) e most r → LimAt a H' z (r.map (· - 1)) → Same H H' → Q (.ref z) H') ∨ (∃ N d, DE N H v d ∧ isI d = false ∧ Told a.CN v H E))
theorem scCa : FnScope ["self", "most", "found"] ["self", "most"] (defScope sCall) := ⟨rfl, rfl, rfl, by decide +kernel, rfl, by decide +kernel, by decide +kernel⟩
theorem ok_Ca {f fi fg fa fl : Addr} {fd fdi fdg fda fdN fdl : FuncData} (F : Fun K "__call__" "Formula.__call__" sCall f fd) (T : Txt K mg a)
    (GI : FnOk P w K mg base CX0 1 fi fdi ["value"] spIsI) (bI : Binds K fdi ["value"] []) (mI : mg "is_integer" = some (.ref fi)) (kI : PySem.W.keepIn K (.ref fi) = true)
    (GG : FnOk P w K mg base CX0 1 fg fdg ["self"] (spGrowth a)) (bG : Binds K fdg ["self"] []) (mG : Meth K a.CF "_growth" fg)
    (GA : FnOk P w K mg base CX0 2 fa fda ["growth", "most"] spFA) (bA : Binds K fda ["growth", "most"] []) (mA : mg "first_above" = some (.ref fa)) (kA : PySem.W.keepIn K (.ref fa) = true)
    (M : Mk K a.CL fl) (GL : FnOk P w K mg base CX0 2 fl fdl ["self", "size"] (spLI a)) (bL : Binds K fdl ["self", "size"] [])
    (GN : FnOk P w K mg base CX0 1 a.fN fdN ["self", "value"] (spNI a.CN)) (bN : Binds K fdN ["self", "value"] []) : FnOk P w K mg base (L2.CX P w) 4 f fd ["self", "most"] (spCa a) := by
  refine F.okX scCa (fun vs H Q E h => ?_) (fun cdv A outer s H vs Q E hr h => ?_)
  · obtain ⟨p, v, rfl, _⟩ := h
    rfl
  · obtain ⟨p, v, rfl, k⟩ := h
    have hr1 : Room 1 _ := hr.mono (by decide)
    have hr2 : Room 2 _ := hr.mono (by decide)
    refine ⟨_, pss_cons (ps_if (pt_not (pt_val (pe_call GI hr1 rfl mI kI bI .nil pass0 (pa_cons (pv 1) pa_nil))))
        (pss_one (ps_raise (W := fun cls d _ H => E cls d H) rfl (takes_of rfl rfl rfl rfl) (pmk_oex T.xN.ox T.xN.iN T.xN.tN GN hr2 bN .nil pass0 rfl T.mgN (pa_cons (pv 1) pa_nil)))) pss_nil)
      (pss_cons (ps_set (i := 2) scCa.nd rfl (.inl rfl) (pe_call GA hr2 rfl mA kA bA .nil pass0 (pa_cons (pe_meth0 (pv 0) T.cF mG GG hr1 bG .nil pass0) (pa_cons (pv 1) pa_nil))))
      (pss_one (ps_ret (pe_make M GL hr rfl T.mgL bL .nil pass0 (pa_cons (pe_ifExp (pt_cmp (pc_isN (pv 2))) pe_non (pe_op op_sub (pv 2) pe_int)) pa_nil))))), ?_⟩
    rcases k with ⟨fs, ys, k, e, most, rfl, m1, ⟨lf, ls, ⟨dx, hp⟩, hf, hs, hq, hg, hz, hz5, he⟩, q⟩ | ⟨N, d, hd, hc, q⟩
    · refine ⟨_, rfl, .int most, .int most, Any, rfl, .int most, _, rfl, iteF ⟨_, rfl, p, dx, _, rfl, hp, fld3_m, p, lf, ls, e, rfl, ⟨dx, hp⟩, fun t nt => ⟨_, rfl, ?_⟩⟩⟩
      have s1 : Same H (upd H t (.tup [.ref lf, .ref ls, vO e])) := same_new nt
      refine ⟨t, lf, ls, e, fs, ys, k, most, rfl, upd_same, s1 _ _ hf, s1 _ _ hs, hq.same s1, hg, hz, hz5, m1, he, fun r H2 hl s2 => ?_⟩
      have mk : ∀ z : Option Int, (∀ n, z = some n → -1 ≤ n) → z = r.map (· - 1) → ∀ x dx, H2 x = none → H2 dx = none → dx ≠ x → spLI a (.ref x :: ([vO z] ++ [])) (upd (upd H2 dx (.own x)) x (.ins a.CL dx [])) (fun v H3 => v = .non ∧ Q (.ref x) H3) E0 := by
        intro z hz hr x dx nx ndx ne
        refine ⟨x, dx, z, rfl, upd_same, hz, rfl, q r x _ hl ⟨dx, by rw [upd_same, hr]⟩ fun b o e => ?_⟩
        have e2 := s2 _ _ (s1 _ _ e)
        have n1 : b ≠ x := ne_of_none e2 nx
        rw [upd_ne n1, upd_ne n1, upd_ne (ne_of_none e2 ndx)]
        exact e2
      refine ⟨_, rfl, _, rfl, ?_⟩
      cases r with
      | none => exact iteT (mk none (fun n e => nomatch e) rfl)
      | some c =>
        refine iteF ⟨_, rfl, _, _, rfl, rfl, mk (some (c - 1)) (fun n e => ?_) rfl⟩
        have := Option.some.inj e
        have := hl.1
        omega
    · refine ⟨_, rfl, v, d, N, rfl, hd, _, rfl, ?_⟩
      rw [hc]
      exact iteT (told_mk rfl q)
end
end K39

set_option Elab.async false
set_option linter.all false
set_option maxRecDepth 100000
set_option maxHeartbeats 4000000
namespace Lm
open PySem PySem.Spec PyProof.Rows L2
/-! ### displays of data -/
mutual
def okSz : PyData → Bool
  | .list ds => decide (ds.length ≤ 1000) && okSzs ds
  | .tuple ds => decide (ds.length ≤ 1000) && okSzs ds
  | _ => true
def okSzs : List PyData → Bool
  | [] => true
  | d :: ds => okSz d && okSzs ds
end
def tDat (d : PyData) : TE := fun _ H Q => okSz d = true ∧ ∀ v H', Same H H' → DE Off H' v d → Q v H'
def tDats (ds : List PyData) : TA := fun _ H Q => okSzs ds = true ∧ ∀ vs H', Same H H' → DEs Off H' vs ds → Q vs H'
theorem DEs.len {N : Addr → Prop} {H : Hp} : ∀ {ds : List PyData} {vs : List V}, DEs N H vs ds → vs.length = ds.length
  | [], _, h => by cases h; rfl
  | d :: ds, _, h => by
    cases h with
    | cons h1 h2 => simp [DEs.len h2]
section
variable {X : Cx} {e : Expr} {es : List Expr} {t t' : TE} {u u' : TA} {d : PyData} {ds : List PyData} {pos : Pos}
theorem pe_weak (h : PE X e t) (w : ∀ σ H Q, t' σ H Q → t σ H Q) : PE X e t' := ⟨fun pins s σ H Q I q => h.run pins s σ H Q I (w σ H Q q)⟩
theorem pa_weak (h : PA X es u) (w : ∀ σ H Q, u' σ H Q → u σ H Q) : PA X es u' := ⟨fun pos pins s σ H Q I q => h.run pos pins s σ H Q I (w σ H Q q)⟩
theorem dat_non {j} : PE X (.Constant .none j pos) (tDat .none) := pe_weak pe_non fun σ H Q h => h.2 _ _ (Same.refl _) .non
theorem dat_bl {b j} : PE X (.Constant (.bool b) j pos) (tDat (.bool b)) := pe_weak pe_bl fun σ H Q h => h.2 _ _ (Same.refl _) (.bl b)
theorem dat_int {i j} : PE X (.Constant (.int i) j pos) (tDat (.int i)) := pe_weak pe_int fun σ H Q h => h.2 _ _ (Same.refl _) (.int i)
theorem dat_str {x j} : PE X (.Constant (.str x) j pos) (tDat (.str x)) := pe_weak pe_str fun σ H Q h => h.2 _ _ (Same.refl _) (.str x)
theorem dat_neg {i j pos'} : PE X (.UnaryOp .USub (.Constant (.int i) j pos') pos) (tDat (.int (-i))) := pe_weak (pe_un un_neg pe_int) fun σ H Q h => ⟨_, rfl, h.2 _ _ (Same.refl _) (.int (-i))⟩
theorem dat_emp : PE X (.Dict [] [] pos) (tDat (.dict [])) := pe_weak pe_dnewK fun σ H Q h p hp => h.2 _ _ (same_new hp) (.emp upd_same)
theorem dats_nil : PA X [] (tDats []) := pa_weak pa_nil fun σ H Q h => h.2 _ _ (Same.refl _) .nil
theorem dat_lst (h : PA X es (tDats ds)) : PE X (.List es pos) (tDat (.list ds)) := pe_weak (pe_lstN h) fun σ H Q q => by
  obtain ⟨q1, q⟩ := q
  have q2 := Bool.and_eq_true_iff.mp (show (decide (ds.length ≤ 1000) && okSzs ds) = true from q1)
  refine ⟨q2.2, fun vs H' s hd => ⟨?_, fun p hp off => q _ _ (s.trans (same_new hp)) (.lst off upd_same (hd.same (same_new hp)))⟩⟩
  rw [DEs.len hd, sizeLine_eq]
  exact Nat.le_trans (of_decide_eq_true q2.1) (by decide)
theorem dat_tup (h : PA X es (tDats ds)) {x1} : PE X (.Tuple es x1 pos) (tDat (.tuple ds)) := pe_weak (pe_tup h) fun σ H Q q => by
  obtain ⟨q1, q⟩ := q
  have q2 := Bool.and_eq_true_iff.mp (show (decide (ds.length ≤ 1000) && okSzs ds) = true from q1)
  refine ⟨q2.2, fun vs H' s hd => ⟨?_, fun p hp => q _ _ (s.trans (same_new hp)) (.tup upd_same (hd.same (same_new hp)))⟩⟩
  rw [DEs.len hd, sizeLine_eq]
  exact Nat.le_trans (of_decide_eq_true q2.1) (by decide)
theorem dats_cons (h : PE X e (tDat d)) (hs : PA X es (tDats ds)) (he : starEach (e :: es) X.env = (false, eval e X.env) :: starEach es X.env := by rfl) : PA X (e :: es) (tDats (d :: ds)) := pa_weak (pa_cons h hs he) fun σ H Q q => by
  obtain ⟨q1, q⟩ := q
  have q2 := Bool.and_eq_true_iff.mp (show (okSz d && okSzs ds) = true from q1)
  exact ⟨q2.1, fun v H1 s1 h1 => ⟨q2.2, fun vs H2 s2 h2 => q _ _ (s1.trans s2) (.cons (h1.same s2) h2)⟩⟩
end
section
variable {X : Cx} {CX : CXT} {k : Nat} {f : Addr} {fd : FuncData} {ps : List Str} {sp : Sp} {E : XK} {x : Str} {p pos : Pos}
/-- f() -/
theorem pe_callG0 (G : FnG X.prog X.w X.K X.mg X.base CX k f fd ps sp) (hgd : X.A.guards = some []) (hr : Room k X.A) (hg : Gl X x) (hm : X.mg x = some (.ref f)) (hk : PySem.W.keepIn X.K (.ref f) = true) (hb : Binds X.K fd ps [])
    (hx : Passes CX X E) (hdb : (x == ("__debug__" : Str)) = false := by decide) : PE X (.Call (.Name x p) [] [] pos) (tCall sp [] E tNil) := by
  refine ⟨fun pins s σ H Q I h => ?_⟩
  refine wpAny_Call_Name_kw (ld_glob I hg hm ?_ hdb)
  refine PySem.W.callWith_K0 I.kIn hk ?_
  have q : sp [] H Q E := h
  have hl : ([] : List Value).length = ps.length := G.many _ _ _ _ q
  have b := hb s [] I.kIn (by simpa using hl)
  rw [List.append_nil] at b
  refine wpAny_call (codeAny_mono (G.goes X.A X.stack s H [] [] Q E hgd hr I.env0 b .nil q) fun z s' y => ?_)
  cases z with
  | error er => exact hx pins σ H s er s' I y
  | ok fl => cases fl with
    | ret v => exact I.after y
    | next => exact y.elim
    | brk => exact y.elim
    | cont => exact y.elim
end
/-! ### data without dicts, as the layer has it -/
mutual
theorem DE.dp {N : Addr → Prop} {K : PySem.W.Frag} {H : Hp} : ∀ {d : PyData} {v : V}, DE N H v d → d.canLay0 = true → Dp K H v d
  | .none, _, h, _ => by cases h; exact .non
  | .bool b, _, h, _ => by cases h; exact .bl b
  | .int i, _, h, _ => by cases h; exact .int i
  | .str x, _, h, _ => by cases h; exact .str x
  | .list ds, _, h, c => by cases h with | lst n e q => exact .lst (SqL.of e) (DEs.dp q c)
  | .tuple ds, _, h, c => by cases h with | tup e q => exact .tup (SqT.of e) (DEs.dp q c)
  | .dict _, _, _, c => by cases c
theorem DEs.dp {N : Addr → Prop} {K : PySem.W.Frag} {H : Hp} : ∀ {ds : List PyData} {vs : List V}, DEs N H vs ds → PyData.canLayAll0 ds = true → DpAll K H vs ds
  | [], _, h, _ => by cases h; exact .nil
  | d :: ds, _, h, c => by
    have c2 := Bool.and_eq_true_iff.mp (show (d.canLay0 && PyData.canLayAll0 ds) = true from c)
    cases h with | cons h1 h2 => exact .cons (DE.dp h1 c2.1) (DEs.dp h2 c2.2)
end
end Lm

set_option Elab.async false
set_option linter.all false
set_option maxRecDepth 100000
set_option maxHeartbeats 8000000
namespace K39
open PySem PySem.Spec PyProof.Rows L2 Lm
section
variable {P : Program} {w : World} {K : PySem.W.Frag} {mg : Str → Option Value} {base : Heap} {a : Ad}
/-! ### _law_refused -/
def shortB : PyData → Bool
  | .list ds => decide (ds.length ≤ 1000)
  | .tuple ds => decide (ds.length ≤ 1000)
  | _ => true
theorem shortB_of {d : PyData} (h : shortB d = true) : short d := by
  cases d with
  | list ds => exact of_decide_eq_true (p := ds.length ≤ 1000) h
  | tuple ds => exact of_decide_eq_true (p := ds.length ≤ 1000) h
  | none => trivial
  | bool _ => trivial
  | int _ => trivial
  | str _ => trivial
  | dict _ => trivial
def shortsB (d : PyData) : Bool := shortB d && (match d with | .list ds => ds.all shortB | _ => true)
theorem shortsB_of {d : PyData} (h : shortsB d = true) : shorts d := by
  have h := Bool.and_eq_true_iff.mp h
  refine ⟨shortB_of h.1, fun ds e x hx => ?_⟩
  subst e
  exact shortB_of (List.all_eq_true.mp h.2 x hx)
def tellB (d : PyData) : Bool := d.showable && (decide (d.depth ≤ 60) && decide (d.shown.length ≤ 1000))
theorem tellB_of {d : PyData} (h : tellB d = true) : d.showable = true ∧ d.depth ≤ 60 ∧ d.shown.length ≤ sizeLine := by
  have h1 := Bool.and_eq_true_iff.mp h
  have h2 := Bool.and_eq_true_iff.mp h1.2
  refine ⟨h1.1, of_decide_eq_true h2.1, ?_⟩
  rw [sizeLine_eq]
  exact Nat.le_trans (of_decide_eq_true h2.2) (by decide)
def okRef (d1 d2 d3 : PyData) : Bool := (shortB d1 && shortsB d2) && (!(areF d1 && (areS d2 && okE d3)) && tellB (.tuple [d1, d2, d3]))
def spRef : Sp := fun vs H Q _ => ∃ v1 v2 v3 d1 d2 d3, vs = [v1, v2, v3] ∧ DE Off H v1 d1 ∧ DE Off H v2 d2 ∧ DE Off H v3 d3 ∧ okRef d1 d2 d3 = true ∧ ∀ H', Same H H' → Q (.bl true) H'
def NR : List Str := ["_law_one", "_law_two", "_law_three", "e"]
theorem scRef : FnScope NR ["_law_one", "_law_two", "_law_three"] (defScope sRef) := ⟨rfl, rfl, rfl, by decide +kernel, rfl, by decide +kernel, by decide +kernel⟩
def t_suite (K : PySem.W.Frag) (CP : Addr) : Addr → Value → Option Addr → TS := fun b cls d => tRet (tOp rEq (tCB rReprD (tCons (tXf b cls d CP "value" (tVar 3)) tNil)) (tCB rReprD (tCons (tTup (tCons (tVar 0) (tCons (tVar 1) (tCons (tVar 2) tNil)))) tNil)))
theorem ok_ref {f fI : Addr} {fd fdI : FuncData} (F : Fun K "_law_refused" "_law_refused" sRef f fd) (T : Txt K mg a) (M : Mk K a.CF fI) (GI : FnOk P w K mg base (L2.CX P w) 4 fI fdI NFI (spFI a)) (bI : Binds K fdI NFI []) :
    FnG P w K mg base CX0 6 f fd ["_law_one", "_law_two", "_law_three"] spRef := by
  refine FnG.ok F scRef (fun vs H Q E h => ?_) (fun cdv A outer s H vs Q E hgA hr h => ?_)
  · obtain ⟨v1, v2, v3, d1, d2, d3, rfl, _⟩ := h
    rfl
  · obtain ⟨v1, v2, v3, d1, d2, d3, rfl, h1, h2, h3, hok, k⟩ := h
    have hg := guards_deeper (envOfC "_law_refused" (defScope sRef) s.heap.objs.size f cdv) hgA
    have hu : (A.deeper (envOfC "_law_refused" (defScope sRef) s.heap.objs.size f cdv)).units + 64 < cLine := by have := hr.un; omega
    refine ⟨_, pss_cons (ps_try_as (i := 3) (tb := fun W => tDrop (tMakeS a.CF (spFI a) (WE W) (tCons (tVar 0) (tCons (tVar 1) (tCons (tVar 2) tNil))))) (ts := t_suite K a.CP) (Wout := fun _ _ _ _ => False) rfl rfl scRef.nd rfl rfl ⟨rfl, by decide, .inl T.mgP⟩ takes0
        (fun W pn xe tk _ => pss_one (ps_expr (pe_makeS M GI hr rfl T.mgF bI (fun σ => passAt tk σ) (pa_cons (pv 0) (pa_cons (pv 1) (pa_cons (pv 2) pa_nil))))))
        (fun b oe cls d pn hz hf => pss_one (ps_ret (pe_cmpR op_eq (pe_callB (call_reprD hg hu) (by rfl) T.rep (by decide +kernel) (pa_cons (pe_xf T.xP.xf T.xP.nV hz hf (pv 3)) pa_nil))
          (pe_callB (call_reprD hg hu) (by rfl) T.rep (by decide +kernel) (pa_cons (pe_tup (pa_cons (pv 0) (pa_cons (pv 1) (pa_cons (pv 2) pa_nil)))) pa_nil)) (nomark _)))))
      (pss_one (ps_ret pe_bl)), ?_⟩
    have ok1 := Bool.and_eq_true_iff.mp hok
    have ok2 := Bool.and_eq_true_iff.mp ok1.1
    have ok3 := Bool.and_eq_true_iff.mp ok1.2
    obtain ⟨t1, t2, t3⟩ := tellB_of ok3.2
    have bad : (areF d1 && (areS d2 && okE d3)) = false := by
      have h := ok3.1
      revert h
      cases (areF d1 && (areS d2 && okE d3)) <;> simp
    refine ⟨_, rfl, _, rfl, _, rfl, fun x dx na ndx ne => ?_⟩
    have s1 : Same H (upd (upd H dx (.own x)) x (.ins a.CF dx [])) := by
      intro b o e
      rw [upd_ne (ne_of_none e na), upd_ne (ne_of_none e ndx)]
      exact e
    refine ⟨x, dx, v1, v2, v3, rfl, upd_same, .inr ⟨Off, d1, d2, d3, h1.same s1, h2.same s1, h3.same s1, shortB_of ok2.1, shortsB_of ok2.2, bad, fun t d H' hd ht s' => ⟨true, T.xP.te, fun _ a0 _ => ?_, fun q => Bool.noConfusion q⟩⟩⟩
    have lk : List.lookup ("value" : Str) [(("value" : Str), V.ref t)] = some (V.ref t) := by simp [List.lookup]
    have s2 := s1.trans s'
    refine ⟨_, rfl, rfl, rfl, d, _, .ref t, rfl, hd, lk, .ref t, _, rfl, .tup ht (.cons (h1.same s2) (.cons (h2.same s2) (.cons (h3.same s2) .nil))), t1, t2, t3, ?_⟩
    refine ⟨_, rfl, _, rfl, _, rfl, (by show 3 ≤ sizeLine; decide), fun t2' nt2 => ?_⟩
    have s3 := s2.trans (same_new (o := .tup [v1, v2, v3]) nt2)
    refine ⟨.ref t2', _, rfl, .tup upd_same (.cons (h1.same s3) (.cons (h2.same s3) (.cons (h3.same s3) .nil))), t1, t2, t3, rfl, ?_⟩
    have e : decide (V.str (PyData.tuple [d1, d2, d3]).shown = V.str (PyData.tuple [d1, d2, d3]).shown) = true := by simp
    show Q (.bl (decide (V.str (PyData.tuple [d1, d2, d3]).shown = V.str (PyData.tuple [d1, d2, d3]).shown))) _
    rw [e]
    exact k _ s3
/-! ### _law_number_refused -/
def okNum (d : PyData) : Bool := (!isC d && (d.canLay0 && decide (d.depth ≤ 60))) && (tellB d && (PyData.eqv d (.int (-1)) || !isI d))
def spNRef (a : Ad) : Sp := fun vs H Q _ => ∃ p v d fs ys k e, vs = [.ref p, v] ∧ DE Off H v d ∧ okNum d = true ∧ FormFull a H p fs ys k e ∧ ∀ H', Same H H' → Q (.bl true) H'
def NN : List Str := ["_law_made", "_law_odd", "_law_found", "e"]
theorem scNRef : FnScope NN ["_law_made", "_law_odd"] (defScope sNRef) := ⟨rfl, rfl, rfl, by decide +kernel, rfl, by decide +kernel, by decide +kernel⟩
def t_app (K : PySem.W.Frag) (CN : Addr) : Addr → Value → Option Addr → TS := fun b cls d => tDrop (tBM K "list" rAppend (tVar 2) (tCons (tOp rEq (tCB rReprD (tCons (tXf b cls d CN "value" (tVar 3)) tNil)) (tCB rReprD (tCons (tVar 1) tNil))) tNil))
theorem fld3_g {x y z : V} : (fld3 x y z).lookup ("greatest" : Str) = none := by
  have e1 : (("greatest" : Str) == ("_firsts" : Str)) = false := by decide
  have e2 : (("greatest" : Str) == ("_stairs" : Str)) = false := by decide
  have e3 : (("greatest" : Str) == ("_endless" : Str)) = false := by decide
  simp [List.lookup, e1, e2, e3]
theorem ok_NRef {f fG fC : Addr} {fd fdG fdC : FuncData} (F : Fun K "_law_number_refused" "_law_number_refused" sNRef f fd) (T : Txt K mg a)
    (GG : FnOk P w K mg base (L2.CX P w) 3 fG fdG ["self", "count"] (spGr a)) (bG : Binds K fdG ["self", "count"] []) (mG : Meth K a.CF "greatest" fG)
    (GC : FnOk P w K mg base (L2.CX P w) 4 fC fdC ["self", "most"] (spCa a)) (bC : Binds K fdC ["self", "most"] []) (cC : StX.CallO K a.CF fC) : FnG P w K mg base CX0 5 f fd ["_law_made", "_law_odd"] (spNRef a) := by
  refine FnG.ok F scNRef (fun vs H Q E h => ?_) (fun cdv A outer s H vs Q E hgA hr h => ?_)
  · obtain ⟨p, v, d, fs, ys, k, e, rfl, _⟩ := h
    rfl
  · obtain ⟨p, v, dd, fs, ys, k, e, rfl, hD, hok, hF, q⟩ := h
    have hg := guards_deeper (envOfC "_law_number_refused" (defScope sNRef) s.heap.objs.size f cdv) hgA
    have hu : (A.deeper (envOfC "_law_number_refused" (defScope sNRef) s.heap.objs.size f cdv)).units + 64 < cLine := by have := hr.un; omega
    have hr3 : Room 3 (A.deeper (envOfC "_law_number_refused" (defScope sNRef) s.heap.objs.size f cdv)) := hr.mono (by decide)
    refine ⟨_, pss_cons (ps_set (i := 2) scNRef.nd rfl (.inl rfl) (pe_lst pa_nil))
      (pss_cons (ps_try_as (i := 3) (tb := fun W => tDrop (tMethE a.CF "greatest" (spGr a) (WE W) (tVar 0) (tCons (tVar 1) tNil))) (ts := t_app K a.CN) (Wout := fun _ _ _ _ => False) rfl rfl scNRef.nd rfl rfl ⟨rfl, by decide, .inl T.mgN⟩ takes0
        (fun W pn xe tk _ => pss_one (ps_expr (pe_methE (pv 0) T.cF mG GG hr3 bG (fun σ => passAt tk σ) (pa_cons (pv 1) pa_nil))))
        (fun b oe cls d pn hz hf => pss_one (ps_expr (pe_bm PySem.F.plainAttrs_list PySem.F.slot_list_append PySem.F.type_list_append mt_append (pv 2) (pa_cons (pe_cmpR op_eq (pe_callB (call_reprD hg hu) (by rfl) T.rep (by decide +kernel) (pa_cons (pe_xf T.xN.xf T.xN.nV hz hf (pv 3)) pa_nil))
          (pe_callB (call_reprD hg hu) (by rfl) T.rep (by decide +kernel) (pa_cons (pv 1) pa_nil)) (nomark _)) pa_nil)))))
      (pss_cons (ps_if (pt_cmpR (op_eqD hu) (pv 1) (pe_un un_neg pe_int) (nomark _)) (pss_one (ps_ret (pe_cmpR (op_eqD hu) (pv 2) (pe_lst (pa_cons pe_bl pa_nil)) (nomark _)))) pss_nil)
      (pss_cons (ps_try_as (i := 3) (tb := fun W => tDrop (tCallE a.CF (spCa a) (WE W) (tVar 0) (tCons (tVar 1) tNil))) (ts := t_app K a.CN) (Wout := fun _ _ _ _ => False) rfl rfl scNRef.nd rfl rfl ⟨rfl, by decide, .inl T.mgN⟩ takes0
        (fun W pn xe tk _ => pss_one (ps_expr (pe_callE (pv 0) cC GC hr bC (fun σ => passAt tk σ) (pa_cons (pv 1) pa_nil))))
        (fun b oe cls d pn hz hf => pss_one (ps_expr (pe_bm PySem.F.plainAttrs_list PySem.F.slot_list_append PySem.F.type_list_append mt_append (pv 2) (pa_cons (pe_cmpR op_eq (pe_callB (call_reprD hg hu) (by rfl) T.rep (by decide +kernel) (pa_cons (pe_xf T.xN.xf T.xN.nV hz hf (pv 3)) pa_nil))
          (pe_callB (call_reprD hg hu) (by rfl) T.rep (by decide +kernel) (pa_cons (pv 1) pa_nil)) (nomark _)) pa_nil)))))
      (pss_one (ps_ret (pe_cmpR (op_eqD hu) (pv 2) (pe_lst (pa_cons pe_bl (pa_cons pe_bl pa_nil))) (nomark _))))))), ?_⟩
    have ok1 := Bool.and_eq_true_iff.mp hok
    have ok2 := Bool.and_eq_true_iff.mp ok1.1
    have ok3 := Bool.and_eq_true_iff.mp ok2.2
    have ok4 := Bool.and_eq_true_iff.mp ok1.2
    obtain ⟨t1, t2, t3⟩ := tellB_of ok4.1
    have hc : isC dd = false := by simpa using ok2.1
    have hsh : SeqAt.shaped dd = true := by
      have := of_decide_eq_true ok3.2
      show (dd.canLay0 && decide (dd.depth ≤ 64)) = true
      rw [ok3.1, decide_eq_true (by omega)]
      rfl
    have lk : List.lookup ("value" : Str) [(("value" : Str), v)] = some v := by simp [List.lookup]
    have ee : decide (V.str dd.shown = V.str dd.shown) = true := by simp
    -- what the handler appends
    have app : ∀ (L : Addr) (Hx H1 : Hp) (vs : List V) (x b : Addr) (D : Ends), H L = none → H1 L = some (.lst vs) → vs.length ≤ 5 → Same H H1 → H1 x = some (.xd [("value", v)]) →
        (∀ H2, Same H H2 → H2 L = some (.lst (vs ++ [.bl true])) → D.nx [some (.ref p), some v, some (.ref L), some (.ref b)] H2) → t_app K a.CN b (.ref a.CN) (some x) D [some (.ref p), some v, some (.ref L), some (.ref b)] H1 := by
      intro L Hx H1 vs x b D nL hL hl s1 hx fin
      refine ⟨_, rfl, .inl ⟨rfl, _, SqL.of hL⟩, _, rfl, rfl, rfl, x, _, v, rfl, hx, lk, v, dd, rfl, hD.same s1, t1, t2, t3, _, rfl, v, dd, rfl, hD.same s1, t1, t2, t3, rfl, L, _, _, rfl, rfl, hL, ?_, ?_⟩
      · rw [sizeLine_eq]
        omega
      · rw [ee]
        refine fin _ (fun y o e => ?_) upd_same
        rw [upd_ne (ne_of_none e nL)]
        exact s1 _ _ e
    refine ⟨(by show 0 ≤ sizeLine; decide), fun L nL => ?_⟩
    have s0 : Same H (upd H L (.lst [])) := same_new nL
    obtain ⟨lf, ls, ⟨dx, hp⟩, hF2⟩ := hF
    have hFF : FormFull a H p fs ys k e := ⟨lf, ls, ⟨dx, hp⟩, hF2⟩
    refine ⟨_, rfl, p, dx, _, rfl, s0 _ _ hp, fld3_g, _, rfl, p, v, rfl, .inr ⟨Off, dd, hD.same s0, hc, fun x H1 hx s1 => ⟨true, T.xN.te, fun _ b _ => ?_, fun q => Bool.noConfusion q⟩⟩⟩
    refine app L H H1 [] x b _ nL (s1 _ _ upd_same) (by decide) (s0.trans s1) hx fun H2 s2 hL2 => ?_
    refine ⟨_, rfl, _, rfl, dd, .int (-1), (hD.same s2).dp ok3.1, .int _, hsh, (by decide), _, rfl, ?_⟩
    cases hq : PyData.eqv dd (.int (-1)) with
    | true =>
      refine iteT ⟨_, rfl, (by show 1 ≤ sizeLine; decide), fun l nl => ?_⟩
      have s3 : Same H2 (upd H2 l (.lst [.bl true])) := same_new nl
      exact ⟨.list [.bool true], .list [.bool true], .lst (SqL.of (s3 _ _ hL2)) (.cons (.bl _) .nil), .lst (SqL.of upd_same) (.cons (.bl _) .nil), (by decide), (by decide), q _ (s2.trans s3)⟩
    | false =>
      have hI : isI dd = false := by
        have := ok4.2
        rw [hq] at this
        simpa using this
      refine iteF ⟨_, rfl, p, rfl, _, rfl, ⟨dx, _, s2 _ _ hp⟩, p, v, rfl, .inr ⟨Off, dd, hD.same s2, hI, fun x H3 hx s3 => ⟨true, T.xN.te, fun _ b _ => ?_, fun q => Bool.noConfusion q⟩⟩⟩
      refine app L H H3 [.bl true] x b _ nL (s3 _ _ hL2) (by decide) (s2.trans s3) hx fun H4 s4 hL4 => ?_
      refine ⟨_, rfl, (by show 2 ≤ sizeLine; decide), fun l nl => ?_⟩
      have s5 : Same H4 (upd H4 l (.lst [.bl true, .bl true])) := same_new nl
      exact ⟨.list [.bool true, .bool true], .list [.bool true, .bool true], .lst (SqL.of (s5 _ _ hL4)) (.cons (.bl _) (.cons (.bl _) .nil)), .lst (SqL.of upd_same) (.cons (.bl _) (.cons (.bl _) .nil)), (by decide), (by decide), q _ (s4.trans s5)⟩
end
end K39

set_option Elab.async false
set_option linter.all false
set_option maxRecDepth 100000
set_option maxHeartbeats 8000000
namespace K39
open PySem PySem.Spec PyProof.Rows L2 Lm
/-! ### a pool: two numbers from which the law draws -/
def PoolAt (H : Hp) (p : Addr) : Prop := ∃ x y : Int, H p = some (.lst [.int x, .int y]) ∧ 0 ≤ x ∧ 0 ≤ y ∧ y < 2147483647
theorem mod_b (a b : Int) (h : 0 < b) : 0 ≤ a % b ∧ a % b < b := ⟨Int.emod_nonneg a (by omega), Int.emod_lt_of_pos a h⟩
section
variable {P : Program} {w : World} {K : PySem.W.Frag} {mg : Str → Option Value} {base : Heap} {a : Ad}
def spPool (K : PySem.W.Frag) : Sp := fun vs H Q _ => ∃ (sa : Addr) (k : Nat) (ns : List Int), vs = [.ref sa, .int k] ∧ SqL K H sa (ns.map V.int) ∧ k < 64 ∧ ∀ p H', H p = none → PoolAt H' p → Same H H' → Q (.ref p) H'
theorem scPool : FnScope ["_law_script", "_law_k", "_law_cell", "_law_mixed"] ["_law_script", "_law_k"] (defScope sPool) := ⟨rfl, rfl, rfl, by decide +kernel, rfl, by decide +kernel, by decide +kernel⟩
theorem ok_pool {f : Addr} {fd : FuncData} (F : Fun K "_law_pool" "_law_pool" sPool f fd) (T : Txt K mg a) : FnOk P w K mg base CX0 1 f fd ["_law_script", "_law_k"] (spPool K) := by
  refine F.ok scPool (fun vs H Q E h => ?_) (fun cdv A outer s H vs Q E hr h => ?_)
  · obtain ⟨sa, k, ns, rfl, _⟩ := h
    rfl
  · obtain ⟨sa, k, ns, rfl, hS, k1, q⟩ := h
    refine ⟨_, pss_cons (ps_set (i := 2) scPool.nd rfl (.inl rfl) pe_int)
      (pss_cons (ps_if (pt_cmpR op_lt (pv 1) (pe_callB call_len_seq (by rfl) T.len_ PySem.boot_len (pa_cons (pv 0) pa_nil)) (nomark _))
        (pss_one (ps_set (i := 2) scPool.nd rfl (.inl rfl) (pe_callB call_abs (by rfl) T.abs_ (by decide +kernel) (pa_cons (pe_ix ix_list (pv 0) (pv 1) (fun _ _ => rfl)) pa_nil)))) pss_nil)
      (pss_cons (ps_set (i := 3) scPool.nd rfl (.inl rfl) (pe_op op_mod (pe_callTy call_int1 (by rfl) T.int_ (by decide +kernel) (pa_cons (pe_op op_mul
        (pe_op op_add (pe_op op_add (pe_op op_add (pe_op op_mod (pe_callTy call_int1 (by rfl) T.int_ (by decide +kernel) (pa_cons (pv 2) pa_nil)) pe_int) (pe_op op_mul (pe_op op_mul pe_int (pv 1)) (pv 1))) (pe_op op_mul pe_int (pv 1))) pe_int) pe_int) pa_nil)) pe_int))
      (pss_one (ps_ret (pe_lst (pa_cons (pe_op op_mul (pv 2) (pe_callTy call_int1 (by rfl) T.int_ (by decide +kernel) (pa_cons (pe_cmpR op_ge (pv 2) (pe_op op_pow pe_int pe_int) (nomark _)) pa_nil)))
        (pa_cons (pe_op op_mod (pe_callTy call_int1 (by rfl) T.int_ (by decide +kernel) (pa_cons (pe_op op_mul (pv 3) (pv 3)) pa_nil)) pe_int) pa_nil))))))), ?_⟩
    have hk : (k : Int) < 64 := by omega
    refine ⟨_, rfl, _, rfl, sa, _, rfl, .inl hS, _, _, rfl, rfl, _, rfl, ?_⟩
    -- the cell of the script, or nought: it is not negative
    have way : ∀ c : Int, 0 ≤ c → ∃ m x y : Int, m = ((c % 2147483629 + 7919 * k * k + 31 * k + 17) * 48271) % 2147483647 ∧ (0 ≤ m ∧ m < 2147483647) ∧ x = c * (if decide ((10 : Int) ^ (18 : Int).toNat ≤ c) = true then 1 else 0) ∧ 0 ≤ x ∧
        y = (m * m) % 2147483629 ∧ 0 ≤ y ∧ y < 2147483647 := by
      intro c hc
      refine ⟨_, _, _, rfl, mod_b _ _ (by decide), rfl, ?_, rfl, (mod_b _ _ (by decide)).1, ?_⟩
      · split
        · rw [Int.mul_one]
          exact hc
        · rw [Int.mul_zero]
          exact Int.le_refl 0
      · have := (mod_b (((c % 2147483629 + 7919 * k * k + 31 * k + 17) * 48271 % 2147483647) * ((c % 2147483629 + 7919 * k * k + 31 * k + 17) * 48271 % 2147483647)) 2147483629 (by decide)).2
        omega
    refine (fun (fin : ∀ c : Int, 0 ≤ c → (_ : TS) _ [some (.ref sa), some (.int k), some (.int c), none] H) => ite2 (fun c0 => ?_) (fun c0 => fin 0 (by decide))) (fun c hc => ?_)
    · have hlt : k < (ns.map V.int).length := by
        have := of_decide_eq_true c0
        omega
      rw [List.length_map] at hlt
      have hix : (ns.map V.int)[k]? = some (V.int ns[k]) := by rw [List.getElem?_map, List.getElem?_eq_getElem hlt]; rfl
      refine ⟨_, rfl, _, rfl, sa, _, _, _, rfl, rfl, hS, atI_nat hix, _, rfl, ?_⟩
      obtain ⟨c, hc, ec⟩ : ∃ c : Int, 0 ≤ c ∧ V.int c = V.int (if ns[k] < 0 then -ns[k] else ns[k]) := ⟨if ns[k] < 0 then -ns[k] else ns[k], by split <;> omega, rfl⟩
      rw [← ec]
      exact fin c hc
    · obtain ⟨m, x, y, em, hm, ex, hx, ey, hy⟩ := way c hc
      refine ⟨_, rfl, .inl ⟨_, rfl, _, _, rfl, rfl, (by show (0 : Int) < 2147483629; decide), _, rfl, _, _, rfl, rfl, .inl ⟨by decide, by decide⟩, _, rfl, _, _, rfl, rfl, .inl ⟨by omega, by omega⟩, _, _, rfl, rfl, _, rfl, _, _, rfl, rfl, .inl ⟨by decide, by decide⟩, _, _, rfl, rfl,
        _, _, rfl, rfl, _, _, rfl, rfl, .inr ⟨by decide, by decide⟩, .inl ⟨_, rfl, _, _, rfl, rfl, (by show (0 : Int) < 2147483647; decide), ?_⟩⟩⟩
      subst em
      refine ⟨_, rfl, _, rfl, _, _, rfl, rfl, ⟨by decide, by decide, by decide⟩, _, _, rfl, rfl, .inr ⟨_, rfl, _, _, rfl, rfl, .inr (by split <;> exact ⟨by decide, by decide⟩), _, rfl, _, rfl, _, _, rfl, rfl, .inl ⟨Int.lt_of_lt_of_le (by decide) hm.1, Int.lt_trans hm.2 (by decide)⟩, .inl ⟨_, rfl, _, _, rfl, rfl,
        (by show (0 : Int) < 2147483629; decide), (by show 2 ≤ sizeLine; decide), fun p hp => q p _ hp ⟨x, y, ?_, hx, hy⟩ (same_new hp)⟩⟩⟩
      subst ex
      subst ey
      exact upd_same
def spTake : Sp := fun vs H Q _ => ∃ (p : Addr) (m : Int), vs = [.ref p, .int m] ∧ PoolAt H p ∧ 0 < m ∧ m.natAbs < 2 ^ 200 ∧ ∀ r H', 0 ≤ r → r < m → PoolAt H' p → But p H H' → Q (.int r) H'
theorem scTake : FnScope ["_law_pool_here", "_law_many", "_law_found"] ["_law_pool_here", "_law_many"] (defScope sTake) := ⟨rfl, rfl, rfl, by decide +kernel, rfl, by decide +kernel, by decide +kernel⟩
theorem ok_take {f : Addr} {fd : FuncData} (F : Fun K "_law_take" "_law_take" sTake f fd) (T : Txt K mg a) : FnOk P w K mg base CX0 1 f fd ["_law_pool_here", "_law_many"] spTake := by
  refine F.ok scTake (fun vs H Q E h => ?_) (fun cdv A outer s H vs Q E hr h => ?_)
  · obtain ⟨p, m, rfl, _⟩ := h
    rfl
  · obtain ⟨p, m, rfl, ⟨x, y, hp, hx, hy, hy2⟩, m0, mz, k⟩ := h
    refine ⟨_, pss_cons (ps_if (pt_cmpR op_gt (pe_ix ix_list (pv 0) pe_int (fun _ _ => rfl)) pe_int (nomark _))
        (pss_cons (ps_set (i := 2) scTake.nd rfl (.inl rfl) (pe_op op_mod (pe_callTy call_int1 (by rfl) T.int_ (by decide +kernel) (pa_cons (pe_ix ix_list (pv 0) pe_int (fun _ _ => rfl)) pa_nil)) (pv 1)))
        (pss_cons (ps_asg (pe_op op_fdivW (pe_callTy call_int1 (by rfl) T.int_ (by decide +kernel) (pa_cons (pe_ix ix_list (pv 0) pe_int (fun _ _ => rfl)) pa_nil)) (pv 1)) (pg_sub (pv 0) pe_int set_list))
        (pss_one (ps_ret (pv 2))))) pss_nil)
      (pss_cons (ps_asg (pe_op op_mod (pe_callTy call_int1 (by rfl) T.int_ (by decide +kernel) (pa_cons (pe_op op_add (pe_op op_mul (pe_ix ix_list (pv 0) pe_int (fun _ _ => rfl)) pe_int) pe_int) pa_nil)) pe_int) (pg_sub (pv 0) pe_int set_list))
      (pss_one (ps_ret (pe_op op_mod (pe_callTy call_int1 (by rfl) T.int_ (by decide +kernel) (pa_cons (pe_op op_fdiv (pe_op op_mod (pe_callTy call_int1 (by rfl) T.int_ (by decide +kernel)
        (pa_cons (pe_op op_mul (pe_ix ix_list (pv 0) pe_int (fun _ _ => rfl)) (pe_ix ix_list (pv 0) pe_int (fun _ _ => rfl))) pa_nil)) pe_int) pe_int) pa_nil)) (pv 1))))), ?_⟩
    have i0 : ∀ a b : Int, atI [V.int a, V.int b] 0 = some (.int a) := fun a b => atI_nat (j := 0) rfl
    have i1 : ∀ a b : Int, atI [V.int a, V.int b] 1 = some (.int b) := fun a b => atI_nat (j := 1) rfl
    refine ⟨_, rfl, p, _, _, _, rfl, rfl, SqL.of hp, i0 _ _, _, _, rfl, rfl, _, rfl, ?_⟩
    refine ite2 (fun c => ?_) (fun c => ?_)
    · refine ⟨_, rfl, p, _, _, _, rfl, rfl, SqL.of hp, i0 _ _, .inl ⟨_, rfl, _, rfl, _, _, rfl, rfl, m0, ?_⟩⟩
      refine ⟨_, rfl, p, _, _, _, rfl, rfl, SqL.of hp, i0 _ _, .inl ⟨_, rfl, _, rfl, _, _, rfl, rfl, wide_div m0 mz (by decide) (by decide), ?_⟩⟩
      refine ⟨_, rfl, p, _, _, 0, rfl, rfl, hp, rfl, ?_⟩
      obtain ⟨b0, b1⟩ := mod_b x m m0
      exact ⟨_, rfl, k _ _ b0 b1 ⟨_, y, upd_same, Int.ediv_nonneg hx (Int.le_of_lt m0), hy, hy2⟩ But.upd⟩
    · refine ⟨_, rfl, p, _, _, _, rfl, rfl, SqL.of hp, i1 _ _, _, _, rfl, rfl, .inr ⟨by decide, by decide⟩, _, _, rfl, rfl, .inl ⟨_, rfl, _, _, rfl, rfl, (by show (0 : Int) < 2147483647; decide), ?_⟩⟩
      obtain ⟨d0, d1⟩ := mod_b (y * 48271 + 12345) 2147483647 (by decide)
      refine ⟨_, rfl, p, _, _, 1, rfl, rfl, hp, rfl, ?_⟩
      have hq : upd H p (.lst ([V.int x, V.int y].set 1 (.int ((y * 48271 + 12345) % 2147483647)))) p = some (.lst [.int x, .int ((y * 48271 + 12345) % 2147483647)]) := upd_same
      refine ⟨_, rfl, p, _, _, _, rfl, rfl, SqL.of hq, i1 _ _, _, rfl, p, _, _, _, rfl, rfl, SqL.of hq, i1 _ _, _, _, rfl, rfl, .inl ⟨Int.lt_of_lt_of_le (by decide) d0, Int.lt_trans d1 (by decide)⟩,
        .inl ⟨_, rfl, _, _, rfl, rfl, (by show (0 : Int) < 2147483629; decide), _, _, rfl, rfl, ⟨by decide, by decide⟩, .inl ⟨_, rfl, _, rfl, _, _, rfl, rfl, m0, ?_⟩⟩⟩
      exact k _ _ (mod_b _ m m0).1 (mod_b _ m m0).2 ⟨x, _, hq, hx, d0, d1⟩ But.upd
end
end K39

set_option Elab.async false
set_option linter.all false
set_option maxRecDepth 100000
set_option maxHeartbeats 8000000
namespace K39
open PySem PySem.Spec PyProof.Rows L2 Lm
section
variable {P : Program} {w : World} {K : PySem.W.Frag} {mg : Str → Option Value} {base : Heap} {a : Ad}
/-! ### a drawn formula -/
structure Drawn (H : Hp) (l a1 a2 : Addr) (fs : List (Option Int)) (xs : List V) (k : V → I4) (e : Option Int) : Prop where
  at_ : H l = some (.lst [.ref a1, .ref a2, vO e])
  at1 : H a1 = some (.lst (fs.map vO))
  at2 : H a2 = some (.lst xs)
  quads : Quads H xs k
  good : ∀ x ∈ xs, gQ (k x)
  short : xs.length ≤ 60
  few : fs.length ≤ 5
  goodE : goodE e
theorem Drawn.same {H H' : Hp} {l a1 a2 : Addr} {fs : List (Option Int)} {xs : List V} {k : V → I4} {e : Option Int} (d : Drawn H l a1 a2 fs xs k e) (s : Same H H') : Drawn H' l a1 a2 fs xs k e :=
  ⟨s _ _ d.at_, s _ _ d.at1, s _ _ d.at2, d.quads.same s, d.good, d.short, d.few, d.goodE⟩
def GoodXs (H : Hp) (xs : List V) : Prop := ∀ x ∈ xs, ∃ q, (∃ t, x = V.ref t ∧ H t = some (t4 q)) ∧ gQ q
open Classical in
theorem GoodXs.pick {H : Hp} {xs : List V} (h : GoodXs H xs) : ∃ k : V → I4, Quads H xs k ∧ ∀ x ∈ xs, gQ (k x) := by
  refine ⟨fun x => if hx : ∃ q, (∃ t, x = V.ref t ∧ H t = some (t4 q)) ∧ gQ q then hx.choose else (0, 0, 0, 0), fun x hx => ?_, fun x hx => ?_⟩
  · have e := h x hx
    show ∃ t, x = V.ref t ∧ H t = some (t4 (dite _ _ _))
    rw [dif_pos e]
    exact e.choose_spec.1
  · have e := h x hx
    show gQ (dite _ _ _)
    rw [dif_pos e]
    exact e.choose_spec.2
def spDrawn : Sp := fun vs H Q _ => ∃ p, vs = [.ref p] ∧ PoolAt H p ∧ ∀ l a1 a2 fs xs k e H', Drawn H' l a1 a2 fs xs k e → H l = none → H a1 = none → H a2 = none → PoolAt H' p → But p H H' → Q (.ref l) H'
def ND : List Str := ["_law_pool_here", "_law_firsts", "_law_stairs", "_law_turn", "_law_period"]
theorem scDrawn : FnScope ND ["_law_pool_here"] (defScope sDrawn) := ⟨rfl, rfl, rfl, by decide +kernel, rfl, by decide +kernel, by decide +kernel⟩
theorem PoolAt.same {H H' : Hp} {p : Addr} (h : PoolAt H p) (s : Same H H') : PoolAt H' p := let ⟨x, y, e, q⟩ := h; ⟨x, y, s _ _ e, q⟩
theorem PoolAt.ne {H : Hp} {p l : Addr} (h : PoolAt H p) (n : H l = none) : l ≠ p := fun e => by
  obtain ⟨_, _, e1, _⟩ := h
  rw [← e, n] at e1
  cases e1
theorem ok_drawn {f fT : Addr} {fd fdT : FuncData} (F : Fun K "_law_drawn" "_law_drawn" sDrawn f fd) (T : Txt K mg a) (GT : FnOk P w K mg base CX0 1 fT fdT ["_law_pool_here", "_law_many"] spTake) (bT : Binds K fdT ["_law_pool_here", "_law_many"] [])
    (mT : mg "_law_take" = some (.ref fT)) (kT : PySem.W.keepIn K (.ref fT) = true) : FnOk P w K mg base CX0 2 f fd ["_law_pool_here"] spDrawn := by
  refine F.ok scDrawn (fun vs H Q E h => ?_) (fun cdv A outer s H vs Q E hr h => ?_)
  · obtain ⟨p, rfl, _⟩ := h
    rfl
  · obtain ⟨p, rfl, hp, k⟩ := h
    refine ⟨_, pss_cons (ps_par (i := 1) (j := 2) (by rfl) scDrawn.nd rfl rfl (by decide) rfl rfl (pa_cons (pe_lst pa_nil) (pa_cons (pe_lst pa_nil) pa_nil)) (by rfl))
      (pss_cons (ps_for PassesOwn.never rfl (pi_range1 (by rfl) T.rng (pa_cons (pe_call GT hr rfl mT kT bT .nil pass0 (pa_cons (pv 0) (pa_cons pe_int pa_nil))) pa_nil)) (pg_name (i := 3) scDrawn.nd rfl (.inl rfl))
        (pss_one (ps_expr (pe_bm PySem.F.plainAttrs_list PySem.F.slot_list_append PySem.F.type_list_append mt_append (pv 1)
          (pa_cons (pe_ifExp (pt_cmpR op_eq (pe_call GT hr rfl mT kT bT .nil pass0 (pa_cons (pv 0) (pa_cons pe_int pa_nil))) pe_int (nomark _)) pe_non
            (pe_op op_sub (pe_call GT hr rfl mT kT bT .nil pass0 (pa_cons (pv 0) (pa_cons pe_int pa_nil))) pe_int)) pa_nil)))))
      (pss_cons (ps_for PassesOwn.never rfl (pi_range1 (by rfl) T.rng (pa_cons (pe_call GT hr rfl mT kT bT .nil pass0 (pa_cons (pv 0) (pa_cons pe_int pa_nil))) pa_nil)) (pg_name (i := 3) scDrawn.nd rfl (.inl rfl))
        (pss_cons (ps_set (i := 4) scDrawn.nd rfl (.inl rfl) (pe_op op_add pe_int (pe_call GT hr rfl mT kT bT .nil pass0 (pa_cons (pv 0) (pa_cons pe_int pa_nil)))))
        (pss_one (ps_expr (pe_bm PySem.F.plainAttrs_list PySem.F.slot_list_append PySem.F.type_list_append mt_append (pv 2)
          (pa_cons (pe_tup (pa_cons (pe_call GT hr rfl mT kT bT .nil pass0 (pa_cons (pv 0) (pa_cons (pv 4) pa_nil))) (pa_cons (pv 4)
            (pa_cons (pe_op op_sub (pe_call GT hr rfl mT kT bT .nil pass0 (pa_cons (pv 0) (pa_cons pe_int pa_nil))) pe_int)
            (pa_cons (pe_call GT hr rfl mT kT bT .nil pass0 (pa_cons (pv 0) (pa_cons pe_int pa_nil))) pa_nil))))) pa_nil))))))
      (pss_one (ps_ret (pe_lst (pa_cons (pv 1) (pa_cons (pv 2) (pa_cons (pe_ifExp (pt_cmpR op_eq (pe_call GT hr rfl mT kT bT .nil pass0 (pa_cons (pv 0) (pa_cons pe_int pa_nil))) pe_int (nomark _))
        (pe_call GT hr rfl mT kT bT .nil pass0 (pa_cons (pv 0) (pa_cons pe_int pa_nil))) pe_non) pa_nil)))))))), ?_⟩
    refine ⟨(by show 0 ≤ sizeLine; decide), fun a1 n1 => ⟨(by show 0 ≤ sizeLine; decide), fun a2 n2 => ⟨_, _, rfl, ?_⟩⟩⟩
    have p1 := hp.ne n1
    have s1 : Same H (upd H a1 (.lst [])) := same_new n1
    have p2 := (hp.same s1).ne n2
    have s2 : Same H (upd (upd H a1 (.lst [])) a2 (.lst [])) := s1.trans (same_new n2)
    have n12 : a1 ≠ a2 := fun e => by rw [← e, upd_same] at n2; cases n2
    have n2' : H a2 = none := by rw [upd_ne n12.symm] at n2; exact n2
    refine ⟨_, rfl, p, 6, rfl, hp.same s2, by decide, by decide, fun r H1 r0 r1 hp1 t1 => ⟨r, rfl, by omega, by omega, for_range (lo := 0)
      (fun i σ H' => ∃ (v3 : Option V) (fs : List (Option Int)), σ = [some (.ref p), some (.ref a1), some (.ref a2), v3, none] ∧ PoolAt H' p ∧ But p H H' ∧ H' a1 = some (.lst (fs.map vO)) ∧ H' a2 = some (.lst []) ∧ fs.length = i)
      ⟨none, [], rfl, hp1, (But.same s2).trans t1, t1 _ _ (by rw [upd_ne n12, upd_same]; rfl) p1, t1 _ _ upd_same p2, rfl⟩ ?_ ?_⟩⟩
    · rintro i σ H2 hi ⟨v3, fs, rfl, q1, q2, q3, q4, q5⟩
      refine ⟨_, rfl, .inl ⟨rfl, _, SqL.of q3⟩, _, rfl, p, 4, rfl, q1, by decide, by decide, fun c H3 c0 c1 q6 q7 => ⟨rfl, _, rfl, ?_⟩⟩
      have b7 := q7 _ _ q3 p1
      have b8 := q7 _ _ q4 p2
      have fin : ∀ (z : Option Int) (H4 : Hp), PoolAt H4 p → But p H H4 → H4 a1 = some (.lst (fs.map vO)) → H4 a2 = some (.lst []) →
          ∃ (v3 : Option V) (fs' : List (Option Int)), [some (.ref p), some (.ref a1), some (.ref a2), some (V.int (0 + (i : Nat))), none] = [some (.ref p), some (.ref a1), some (.ref a2), v3, none] ∧ PoolAt (upd H4 a1 (.lst (fs.map vO ++ [vO z]))) p ∧ But p H (upd H4 a1 (.lst (fs.map vO ++ [vO z]))) ∧
            (upd H4 a1 (.lst (fs.map vO ++ [vO z]))) a1 = some (.lst (fs'.map vO)) ∧ (upd H4 a1 (.lst (fs.map vO ++ [vO z]))) a2 = some (.lst []) ∧ fs'.length = i + 1 := by
        intro z H4 h1 h2 h3 h4
        refine ⟨_, fs ++ [z], rfl, ?_, ?_, ?_, ?_, ?_⟩
        · obtain ⟨x, y, e, q⟩ := h1
          exact ⟨x, y, by rw [upd_ne p1.symm]; exact e, q⟩
        · intro b o e nb
          rw [upd_ne (ne_of_none e n1)]
          exact h2 b o e nb
        · rw [upd_same, List.map_append]
          rfl
        · rw [upd_ne n12.symm]
          exact h4
        · rw [List.length_append, q5]
          rfl
      have sz : (fs.map vO).length < sizeLine := by
        rw [List.length_map, q5, sizeLine_eq]
        omega
      refine ite2 (fun _ => ⟨a1, _, _, rfl, rfl, b7, sz, fin none H3 q6 (q2.trans q7) b7 b8⟩) (fun _ => ?_)
      exact ⟨_, rfl, p, 20, rfl, q6, by decide, by decide, fun d H4 d0 d1 q8 q9 => ⟨_, _, rfl, rfl, a1, _, _, rfl, rfl, q9 _ _ b7 p1, sz, fin (some (d - 8)) H4 q8 ((q2.trans q7).trans q9) (q9 _ _ b7 p1) (q9 _ _ b8 p2)⟩⟩
    rintro σ H2 ⟨v3, fs, rfl, q1, q2, q3, q4, q5⟩
    refine ⟨_, rfl, p, 4, rfl, q1, by decide, by decide, fun m H3 m0 m1 q6 q7 => ⟨m, rfl, by omega, by omega, for_range (lo := 0)
      (fun i σ H' => ∃ (v3 v4 : Option V) (xs : List V), σ = [some (.ref p), some (.ref a1), some (.ref a2), v3, v4] ∧ PoolAt H' p ∧ But p H H' ∧ H' a1 = some (.lst (fs.map vO)) ∧ H' a2 = some (.lst xs) ∧ xs.length = i ∧ GoodXs H' xs)
      ⟨_, _, [], rfl, q6, q2.trans q7, q7 _ _ q3 p1, q7 _ _ q4 p2, rfl, fun x hx => by simp at hx⟩ ?_ ?_⟩⟩
    · rintro i σ H4 hi ⟨v3, v4, xs, rfl, w1, w2, w3, w4, w5, w6⟩
      refine ⟨_, rfl, p, 4, rfl, w1, by decide, by decide, fun pe H5 e0 e1 w7 b5 => ⟨_, _, rfl, rfl, _, rfl, .inl ⟨rfl, _, SqL.of (b5 _ _ w4 p2)⟩, ?_⟩⟩
      refine ⟨_, rfl, _, rfl, p, 1 + pe, rfl, w7, by omega, by omega, fun o H6 o0 o1 w8 b6 => ⟨_, rfl, _, rfl, p, 20, rfl, w8, by decide, by decide, fun v H7 v0 v1 w9 b7 => ⟨_, _, rfl, rfl, _, rfl, p, 5, rfl, w9, by decide, by decide, fun g H8 g0 g1 w10 b8 =>
        ⟨(by show 4 ≤ sizeLine; decide), fun t nt => ?_⟩⟩⟩⟩
      have bb := ((b5.trans b6).trans b7).trans b8
      have st : Same H8 (upd H8 t (.tup [.int o, .int (1 + pe), .int (v - 10), .int g])) := same_new nt
      have c2 := st _ _ (bb _ _ w4 p2)
      refine ⟨a2, _, _, rfl, rfl, c2, by rw [w5, sizeLine_eq]; omega, _, _, xs ++ [.ref t], rfl, ?_, ?_, ?_, upd_same, by rw [List.length_append, w5]; rfl, ?_⟩
      · obtain ⟨x, y, e, q⟩ := w10.same st
        exact ⟨x, y, by rw [upd_ne p2.symm]; exact e, q⟩
      · intro b u e nb
        rw [upd_ne (ne_of_none e n2')]
        exact st _ _ (bb _ _ (w2 b u e nb) nb)
      · rw [upd_ne n12]
        exact st _ _ (bb _ _ w3 p1)
      · intro x hx
        rcases List.mem_append.mp hx with hx | hx
        · obtain ⟨q, ⟨t', ex, ht⟩, hg⟩ := w6 x hx
          have n1 : t' ≠ p := fun e => by
            obtain ⟨_, _, ep, _⟩ := w1
            rw [e, ep] at ht
            cases ht
          have n2 : t' ≠ a2 := fun e => by
            rw [e, w4] at ht
            cases ht
          refine ⟨q, ⟨t', ex, ?_⟩, hg⟩
          rw [upd_ne n2]
          exact st _ _ (bb _ _ ht n1)
        · obtain rfl := List.mem_singleton.mp hx
          have n2 : t ≠ a2 := fun e => by
            rw [e, bb _ _ w4 p2] at nt
            cases nt
          refine ⟨(o, 1 + pe, v - 10, g), ⟨t, rfl, ?_⟩, ?_⟩
          · rw [upd_ne n2, upd_same]
          · exact ⟨o0, o1, (show 1 + pe ≤ 4 by omega), (show -10 ≤ v - 10 by omega), (show v - 10 ≤ 9 by omega), g0, (show g ≤ 4 by omega)⟩
    rintro σ H4 ⟨v3, v4, xs, rfl, w1, w2, w3, w4, w5, w6⟩
    have fin : ∀ (e : Option Int) (H5 : Hp), goodE e → PoolAt H5 p → But p H4 H5 → ∀ l, H5 l = none → Q (.ref l) (upd H5 l (.lst [.ref a1, .ref a2, vO e])) := by
      intro e H5 he h1 b5 l nl
      have st : Same H5 (upd H5 l (.lst [.ref a1, .ref a2, vO e])) := same_new nl
      have fresh : H l = none := by
        cases hh : H l with
        | none => rfl
        | some o =>
          have nb : l ≠ p := h1.ne nl
          rw [b5 _ _ (w2 _ _ hh nb) nb] at nl
          cases nl
      have g5 : GoodXs (upd H5 l (.lst [.ref a1, .ref a2, vO e])) xs := fun x hx => by
        obtain ⟨q, ⟨t', ex, ht⟩, hg⟩ := w6 x hx
        have n1 : t' ≠ p := fun e => by
          obtain ⟨_, _, ep, _⟩ := w1
          rw [e, ep] at ht
          cases ht
        exact ⟨q, ⟨t', ex, st _ _ (b5 _ _ ht n1)⟩, hg⟩
      obtain ⟨kk, k1, k2⟩ := g5.pick
      refine k l a1 a2 fs xs kk e _ ⟨upd_same, st _ _ (b5 _ _ w3 p1), st _ _ (b5 _ _ w4 p2), k1, k2, by omega, by omega, he⟩ fresh n1 n2' (h1.same st) ?_
      exact (w2.trans b5).trans (But.same st)
    refine ⟨_, rfl, _, rfl, _, rfl, p, 4, rfl, w1, by decide, by decide, fun c H5 c0 c1 q8 b5 => ⟨rfl, _, rfl, ite2 (fun _ => ?_) (fun _ => ?_)⟩⟩
    · refine ⟨_, rfl, p, 40, rfl, q8, by decide, by decide, fun d H6 d0 d1 q9 b6 => ⟨(by show 3 ≤ sizeLine; decide), fun l nl => ?_⟩⟩
      exact fin (some d) H6 (fun n e => by obtain rfl := Option.some.inj e; exact ⟨d0, d1⟩) q9 (b5.trans b6) l nl
    · exact ⟨(by show 3 ≤ sizeLine; decide), fun l nl => fin none H5 (fun n e => nomatch e) q8 b5 l nl⟩
end
end K39

set_option Elab.async false
set_option linter.all false
set_option maxRecDepth 100000
set_option maxHeartbeats 8000000
namespace K39
open PySem PySem.Spec PyProof.Rows L2 Lm
theorem lay_all : ∀ ds : List PyData, (∀ d ∈ ds, d.canLay0 = true ∧ d.depth ≤ 5) → PyData.canLayAll0 ds = true ∧ PyData.depthAll ds ≤ 5
  | [], _ => ⟨rfl, by show 0 ≤ 5; decide⟩
  | d :: ds, h => by
    obtain ⟨h1, h2⟩ := h d (List.mem_cons_self ..)
    obtain ⟨h3, h4⟩ := lay_all ds fun x hx => h x (List.mem_cons_of_mem _ hx)
    refine ⟨?_, ?_⟩
    · show (d.canLay0 && PyData.canLayAll0 ds) = true
      rw [h1, h3]
      rfl
    · show max d.depth (PyData.depthAll ds) ≤ 5
      omega
theorem shaped_list {ds : List PyData} (h : ∀ d ∈ ds, d.canLay0 = true ∧ d.depth ≤ 5) : SeqAt.shaped (.list ds) = true := by
  obtain ⟨h1, h2⟩ := lay_all ds h
  show (PyData.canLayAll0 ds && decide (PyData.depthAll ds + 1 ≤ 64)) = true
  rw [h1, decide_eq_true (by omega)]
  rfl
section
variable {P : Program} {w : World} {K : PySem.W.Frag} {mg : Str → Option Value} {base : Heap} {a : Ad}
theorem dp_ints {H : Hp} : ∀ ns : List Int, DpAll K H (ns.map V.int) (ns.map PyData.int)
  | [] => .nil
  | n :: r => .cons (.int n) (dp_ints r)
theorem shaped_ints (ns : List Int) : SeqAt.shaped (.list (ns.map PyData.int)) = true := shaped_list fun d hd => by
  obtain ⟨n, _, rfl⟩ := List.mem_map.mp hd
  exact ⟨rfl, by show 0 ≤ 5; decide⟩
/-! ### _law_at -/
def spAt : Sp := fun vs H Q _ => ∃ l a1 a2 fs xs k e c, vs = [.ref l, .int c] ∧ Drawn H l a1 a2 fs xs k e ∧ 0 ≤ c ∧ ∀ H', Same H H' → Q (gV (valAt fs (xs.map k) e c)) H'
def NAt : List Str := ["_law_parts", "_law_count", "_law_firsts", "_law_stairs", "_law_last", "_law_found", "_law_offset", "_law_period", "_law_value", "_law_gain"]
theorem scAt : FnScope NAt ["_law_parts", "_law_count"] (defScope sAt) := ⟨rfl, rfl, rfl, by decide +kernel, rfl, by decide +kernel, by decide +kernel⟩
theorem ok_At {f : Addr} {fd : FuncData} (F : Fun K "_law_at" "_law_at" sAt f fd) (T : Txt K mg a) : FnOk P w K mg base CX0 1 f fd ["_law_parts", "_law_count"] spAt := by
  refine F.ok scAt (fun vs H Q E h => ?_) (fun cdv A outer s H vs Q E hr h => ?_)
  · obtain ⟨l, a1, a2, fs, xs, k, e, c, rfl, _⟩ := h
    rfl
  · obtain ⟨l, a1, a2, fs, ys, k, e, c, rfl, ⟨hg, hf, hs, hq, hgq, hz, hf5, he⟩, c0, q⟩ := h
    have hu : (A.deeper (envOfC "_law_at" (defScope sAt) s.heap.objs.size f cdv)).units + 64 < cLine := by have := hr.un; omega
    refine ⟨_, pss_cons (ps_asg (pv 0) (pg_lst (by rfl) (pgs_cons (pg_name (i := 2) scAt.nd rfl (.inl rfl)) (pgs_cons (pg_name (i := 3) scAt.nd rfl (.inl rfl)) (pgs_cons (pg_name (i := 4) scAt.nd rfl (.inl rfl)) pgs_nil)))))
      (pss_cons (ps_if (PW.pt (pw_and (pt_cmp (pc_notN (pv 4))) (pw_and1 (pt_cmpR op_ge (pv 1) (pv 4) (nomark _))))) (pss_one (ps_ret pe_str)) pss_nil)
      (pss_cons (ps_if (pt_cmpR op_lt (pv 1) (pe_callB call_len_seq (by rfl) T.len_ PySem.boot_len (pa_cons (pv 2) pa_nil)) (nomark _)) (pss_one (ps_ret (pe_ix ix_list (pv 2) (pv 1) (fun _ _ => rfl)))) pss_nil)
      (pss_cons (ps_setLc (i := 5) (own := [("_law_offset", 6), ("_law_period", 7), ("_law_value", 8), ("_law_gain", 9)]) (g := gTup K 4 (gCons (gName 6) (gCons (gName 7) (gCons (gName 8) (gCons (gName 9) gNil))))) (by rfl) scAt.nd rfl rfl (sw_true rfl rfl rfl (by decide +kernel)) (pi_list (pv 3)) (blkOk_by (N := NAt) (sc := defScope sAt) (by decide +kernel))
          (fun _ _ _ _ _ => pg_tup (by rfl) (pgs_cons (pg_name (i := 6) scAt.nd rfl (Or.inl rfl)) (pgs_cons (pg_name (i := 7) scAt.nd rfl (Or.inl rfl)) (pgs_cons (pg_name (i := 8) scAt.nd rfl (Or.inl rfl)) (pgs_cons (pg_name (i := 9) scAt.nd rfl (Or.inl rfl)) pgs_nil)))))
          (fun _ _ _ _ _ => pts_one (pt_cmpR op_eq (pe_op op_mod (pv 1) (pv 7)) (pv 6) (nomark _)))
          (fun _ _ _ _ _ => pe_op op_add (pv 8) (pe_op op_mul (pv 9) (pe_op op_fdiv (pv 1) (pv 7)))))
      (pss_one (ps_ret (pe_ifExp (pt_cmpR (op_neD hu) (pv 5) (pe_lst pa_nil) (nomark _)) (pe_callB (cr_max rfl) (by rfl) T.max_ (by decide +kernel) (pa_cons (pv 5) pa_nil)) pe_non)))))), ?_⟩
    refine ⟨_, rfl, l, _, rfl, SqL.of hg, rfl, _, _, rfl, _, _, rfl, _, _, rfl, rfl, rd_end (e := e) rfl rfl ?_⟩
    unfold valAt at q
    cases he : isEnd e c with
    | true =>
      rw [he] at q
      exact iteT (q H (Same.refl _))
    | false =>
      rw [he] at q
      refine iteF ⟨_, rfl, _, rfl, a1, _, rfl, .inl (SqL.of hf), _, _, rfl, rfl, _, rfl, ?_⟩
      by_cases hc : c < fs.length
      · have e1 : decide (c < ((fs.map vO).length : Int)) = true := decide_eq_true (by rw [List.length_map]; exact hc)
        have hn : c.toNat < fs.length := by omega
        refine ifT e1 ⟨_, rfl, _, rfl, a1, _, c, vO (fs.getD c.toNat none), rfl, rfl, SqL.of hf, ?_, ?_⟩
        · obtain ⟨n, rfl⟩ : ∃ n : Nat, c = n := ⟨c.toNat, by omega⟩
          refine atI_nat ?_
          have hn : n < fs.length := by omega
          simp [hn]
        · have := q H (Same.refl _)
          simp only [Bool.false_eq_true, if_false, if_pos hc] at this
          exact this
      · have e1 : decide (c < ((fs.map vO).length : Int)) = false := decide_eq_false (by rw [List.length_map]; exact hc)
        refine ifF e1 ⟨_, rfl, a2, rfl, ⟨_, SqL.of hs⟩, fun D nD => lc_fm (K := K) (ys.map fun y => (cand (k y) c).map V.int) (SqL.of hs) nD (by simp) (by rw [List.length_map, sizeLine_eq]; exact Nat.le_trans hz (by decide)) ?_ (fun H' s' hD => ?_)⟩
        · intro i x o H' Qy Qn hx ho s' yes no
          rw [List.getElem?_map, hx] at ho
          obtain rfl := Option.some.inj ho
          have mx := List.mem_of_getElem? hx
          obtain ⟨t, ex, ht⟩ := hq x mx
          obtain ⟨g1, g2, g3, g4, g5, g6, g7⟩ := hgq x mx
          refine ⟨t, _, ex, SqT.of (s' _ _ ht), rfl, _, _, rfl, _, _, rfl, _, _, rfl, _, _, rfl, rfl, rfl, _, rfl, _, rfl, _, _, rfl, rfl, (by omega), _, rfl, rfl, _, rfl, ?_⟩
          dsimp only at yes no
          by_cases hm : c % (k x).2.1 = (k x).1
          · have e2 : decide (V.int (c % (k x).2.1) = V.int (k x).1) = true := by simp [hm]
            have e3 : cand (k x) c = some ((k x).2.2.1 + (k x).2.2.2 * (c / (k x).2.1)) := if_pos hm
            rw [e3] at yes
            exact ifT e2 ⟨_, rfl, _, rfl, _, rfl, _, rfl, _, _, rfl, rfl, ⟨by omega, by omega⟩, _, _, rfl, rfl, .inl ⟨by omega, by omega⟩, _, _, rfl, rfl, yes _ rfl H' (Same.refl _)⟩
          · have e2 : decide (V.int (c % (k x).2.1) = V.int (k x).1) = false := by simp [hm]
            have e3 : cand (k x) c = none := if_neg hm
            rw [e3] at no
            exact ifF e2 (no rfl H' (Same.refl _))
        · rw [fm_cand] at hD
          refine ⟨_, rfl, (by show 0 ≤ sizeLine; decide), fun le nle => ?_⟩
          have s2 := same_new (o := .lst []) nle
          have e' := s2 _ _ hD
          have q := q _ (s'.trans s2)
          simp only [Bool.false_eq_true, if_false, if_neg hc] at q
          generalize (List.filterMap (fun q => cand q c) (ys.map k)) = ns at *
          refine ⟨.list (ns.map PyData.int), .list [], .lst (SqL.of e') (dp_ints _), .lst (SqL.of upd_same) .nil, shaped_ints ns, (by decide), _, rfl, ?_⟩
          cases ns with
          | nil => exact ifF (by rfl) q
          | cons n r =>
            refine ifT (by rfl) ⟨_, rfl, D, n :: r, rfl, SqL.of e', (by show 0 < r.length + 1; omega), fun m hm hle => ?_⟩
            rw [maxO_eq hm hle] at q
            exact q
end
end K39

set_option Elab.async false
set_option linter.all false
set_option maxRecDepth 100000
set_option maxHeartbeats 8000000
namespace K39
open PySem PySem.Spec PyProof.Rows L2 Lm
section
variable {P : Program} {w : World} {K : PySem.W.Frag} {mg : Str → Option Value} {base : Heap} {a : Ad}
/-! ### _law_due -/
def Due (fs : List (Option Int)) (qs : List I4) (e : Option Int) (most : Int) : Option Int → Prop
  | some c => 0 ≤ c ∧ c < 400 ∧ Ov fs qs e most c = true ∧ ∀ c', 0 ≤ c' → c' < c → Ov fs qs e most c' = false
  | none => ∀ c', 0 ≤ c' → c' < 400 → Ov fs qs e most c' = false
theorem due_eq {fs : List (Option Int)} {qs : List I4} {e : Option Int} {most : Int} {r r' : Option Int} (h : LeastF fs qs e most r) (d : Due fs qs e most r') : r = r' := by
  obtain ⟨h1, h2⟩ := leastF_uniq h
  cases r' with
  | none => exact h2 d
  | some c => exact h1 c d.1 d.2.1 d.2.2.2 d.2.2.1
def spDue : Sp := fun vs H Q _ => ∃ l a1 a2 fs xs k e most, vs = [.ref l, .int most, .int 400] ∧ Drawn H l a1 a2 fs xs k e ∧ ∀ r H', Due fs (xs.map k) e most r → Same H H' → Q (vO (r.map (· - 1))) H'
def NDu : List Str := ["_law_parts", "_law_most", "_law_length", "_law_count", "_law_value"]
theorem scDue : FnScope NDu ["_law_parts", "_law_most", "_law_length"] (defScope sDue) := ⟨rfl, rfl, rfl, by decide +kernel, rfl, by decide +kernel, by decide +kernel⟩
theorem rd_over {σ : L2.St} {H : Hp} {Q : Bool → Hp → Prop} {i j : Nat} {g : Option (Option Int)} {c : Int} (hi : σ[i]? = some (some (gV g))) (hj : σ[j]? = some (some (.int c))) (q : Q (over g c) H) :
    tAnd (tB (tNotN (tVar i))) (tOr (tTest (tOp rEq (tVar i) (tC (.str "endless")))) (tTest (tOp (rI0 fun i j => .bl (decide (j < i))) (tVar i) (tVar j)))) σ H Q := by
  cases g with
  | none => exact ⟨_, hi, _, rfl, iteT ⟨_, hi, rfl, _, rfl, ifT (by simp [gV]) q⟩⟩
  | some z =>
    cases z with
    | none => exact ⟨_, hi, _, rfl, iteF q⟩
    | some n => exact ⟨_, hi, _, rfl, iteT ⟨_, hi, rfl, _, rfl, ifF (by simp [gV, vO]) ⟨_, hi, _, hj, _, _, rfl, rfl, _, rfl, q⟩⟩⟩
theorem ok_Due {f fa : Addr} {fd fda : FuncData} (F : Fun K "_law_due" "_law_due" sDue f fd) (T : Txt K mg a) (GA : FnOk P w K mg base CX0 1 fa fda ["_law_parts", "_law_count"] spAt) (bA : Binds K fda ["_law_parts", "_law_count"] []) (mA : mg "_law_at" = some (.ref fa))
    (kA : PySem.W.keepIn K (.ref fa) = true) : FnOk P w K mg base CX0 2 f fd ["_law_parts", "_law_most", "_law_length"] spDue := by
  refine F.ok scDue (fun vs H Q E h => ?_) (fun cdv A outer s H vs Q E hr h => ?_)
  · obtain ⟨l, a1, a2, fs, xs, k, e, most, rfl, _⟩ := h
    rfl
  · obtain ⟨l, a1, a2, fs, xs, k, e, most, rfl, hd, q⟩ := h
    refine ⟨_, pss_cons (ps_for PassesOwn.never rfl (pi_range1 (by rfl) T.rng (pa_cons (pv 2) pa_nil)) (pg_name (i := 3) scDue.nd rfl (.inl rfl))
        (pss_cons (ps_set (i := 4) scDue.nd rfl (.inl rfl) (pe_call GA hr rfl mA kA bA .nil pass0 (pa_cons (pv 0) (pa_cons (pv 3) pa_nil))))
        (pss_one (ps_if (PW.pt (pw_and (pt_cmp (pc_notN (pv 4))) (pw_and1 (PW.pt (pw_or (pt_cmpR op_eq (pv 4) pe_str (nomark _)) (pw_or1 (pt_cmpR op_gt (pv 4) (pv 1) (nomark _))))))))
          (pss_one (ps_ret (pe_op op_sub (pv 3) pe_int))) pss_nil))))
      (pss_one (ps_ret pe_non)), ?_⟩
    refine ⟨_, rfl, 400, rfl, by decide, by decide, for_range (lo := 0) (fun i σ H' => ∃ v3 v4, σ = [some (.ref l), some (.int most), some (.int 400), v3, v4] ∧ Same H H' ∧ ∀ c' : Int, 0 ≤ c' → c' < i → Ov fs (xs.map k) e most c' = false)
      ⟨_, _, rfl, Same.refl _, fun c' h0 h1 => by omega⟩ ?_ ?_⟩
    · rintro i σ H1 hi ⟨v3, v4, rfl, s1, lo⟩
      refine ⟨_, rfl, _, rfl, l, a1, a2, fs, xs, k, e, (i : Nat), (by show [V.ref l, V.int (0 + (i : Int))] = _; rw [Int.zero_add]), hd.same s1, by omega, fun H2 s2 => rd_over (g := valAt fs (xs.map k) e (i : Nat)) (c := most) rfl rfl ?_⟩
      show (if Ov fs (xs.map k) e most (i : Nat) = true then _ else _)
      cases hO : Ov fs (xs.map k) e most (i : Nat) with
      | true =>
        refine iteT ⟨_, rfl, _, _, rfl, rfl, ?_⟩
        have := q (some (i : Nat)) H2 ⟨by omega, by omega, hO, lo⟩ (s1.trans s2)
        show Q (V.int (0 + (i : Nat) - 1)) H2
        rw [Int.zero_add]
        exact this
      | false =>
        refine iteF ⟨_, _, rfl, s1.trans s2, fun c' h0 h1 => ?_⟩
        by_cases hc : c' < (i : Nat)
        · exact lo c' h0 hc
        · have : c' = (i : Nat) := by omega
          rw [this]
          exact hO
    · rintro σ H1 ⟨v3, v4, rfl, s1, lo⟩
      exact q none H1 (fun c' h0 h1 => lo c' h0 h1) s1
end
end K39

set_option Elab.async false
set_option linter.all false
set_option maxRecDepth 100000
set_option maxHeartbeats 16000000
namespace K39
open PySem PySem.Spec PyProof.Rows L2 Lm
theorem DE.list {N : Addr → Prop} {H : Hp} {v : V} {ds : List PyData} (h : DE N H v (.list ds)) : ∃ b xs, v = .ref b ∧ H b = some (.lst xs) ∧ DEs N H xs ds := by
  cases h with
  | lst n e q => exact ⟨_, _, rfl, e, q⟩
theorem DEs.pick {N : Addr → Prop} {H : Hp} {ds : List PyData} {vs : List V} (h : DEs N H vs ds) {i : Nat} {v : V} (hv : vs[i]? = some v) : ∃ d ∈ ds, DE N H v d := by
  obtain ⟨hl, hat⟩ := DEs.at h
  have hi := (List.getElem?_eq_some_iff.mp hv).1
  have hd : ds[i]? = some (ds[i]'(by omega)) := List.getElem?_eq_getElem _
  exact ⟨_, List.getElem_mem _, hat i v _ hv hd⟩
def tp (ns : List Int) : PyData := .tuple (ns.map .int)
def odds1 : List PyData := [.none, .tuple [], .int 5, .list [.bool true], .list [.str "1"], .list [.list [.int 1]], .list [.dict []], .dict []]
def odds2 : List PyData := [.none, .tuple [], .int 5, .list [.none], .list [tp [0, 1, 2]], .list [.list [.int 0, .int 1, .int 2, .int 3]], .list [tp [1, 1, 0, 0]], .list [tp [-1, 2, 0, 0]], .list [tp [0, 0, 0, 0]]]
def odds3 : List PyData := [.list [.tuple [.int 0, .int 1, .none, .int 0]], .list [tp [0, 1, 0, -1]], .list [.tuple [.int 0, .bool true, .int 0, .int 0]], .list [tp [0, 1, 0, 0], .int 5], .list [tp [0, 1, 0, 0, 0]]]
def odds4 : List PyData := [.int (-1), .bool true, .str "1", .list [.int 1], tp [1]]
theorem bad1 : odds1.all (fun d => okRef d (.list []) .none) = true := by decide +kernel
theorem bad2 : odds2.all (fun d => okRef (.list []) d .none) = true := by decide +kernel
theorem bad3 : odds3.all (fun d => okRef (.list [.int 1]) d .none) = true := by decide +kernel
theorem bad4 : odds4.all (fun d => okRef (.list []) (.list []) d) = true := by decide +kernel
section
variable {P : Program} {w : World} {K : PySem.W.Frag} {mg : Str → Option Value} {base : Heap} {a : Ad}
def spRefs : Sp := fun vs H Q _ => vs = [] ∧ ∀ H', Same H H' → Q (.bl true) H'
theorem scRefs : FnScope ["_law_odd"] [] (defScope sRefs) := ⟨rfl, rfl, rfl, by decide +kernel, rfl, by decide +kernel, by decide +kernel⟩
theorem ok_refs {f fR : Addr} {fd fdR : FuncData} (F : Fun K "_law_refusals_right" "_law_refusals_right" sRefs f fd) (T : Txt K mg a)
    (GR : FnG P w K mg base CX0 6 fR fdR ["_law_one", "_law_two", "_law_three"] spRef) (bR : Binds K fdR ["_law_one", "_law_two", "_law_three"] []) (mR : mg "_law_refused" = some (.ref fR)) (kR : PySem.W.keepIn K (.ref fR) = true) :
    FnG P w K mg base CX0 7 f fd [] spRefs := by
  refine FnG.ok F scRefs (fun vs H Q E h => ?_) (fun cdv A outer s H vs Q E hgA hr h => ?_)
  · obtain ⟨rfl, _⟩ := h
    rfl
  · obtain ⟨rfl, k⟩ := h
    have hg := guards_deeper (envOfC "_law_refusals_right" (defScope sRefs) s.heap.objs.size f cdv) hgA
    have hu : (A.deeper (envOfC "_law_refusals_right" (defScope sRefs) s.heap.objs.size f cdv)).units + 64 < cLine := by have := hr.un; omega
    refine ⟨_, pss_cons (ps_for PassesOwn.never rfl (pi_list (by repeat' first | exact dat_non | exact dat_bl | exact dat_int | exact dat_neg | exact dat_str | exact dat_emp | exact dats_nil | apply dats_cons | apply dat_lst | apply dat_tup | exact rfl)) (pg_name (i := 0) scRefs.nd rfl (.inl rfl))
        (pss_one (ps_if (pt_not (pt_val (pe_callG GR hg hr rfl mR kR bR pass0 (pa_cons (pv 0) (pa_cons (dat_lst dats_nil) (pa_cons pe_non pa_nil)))))) (pss_one (ps_ret pe_bl)) pss_nil)))
      (pss_cons (ps_for PassesOwn.never rfl (pi_list (by repeat' first | exact dat_non | exact dat_bl | exact dat_int | exact dat_neg | exact dat_str | exact dat_emp | exact dats_nil | apply dats_cons | apply dat_lst | apply dat_tup | exact rfl)) (pg_name (i := 0) scRefs.nd rfl (.inl rfl))
        (pss_one (ps_if (pt_not (pt_val (pe_callG GR hg hr rfl mR kR bR pass0 (pa_cons (dat_lst dats_nil) (pa_cons (pv 0) (pa_cons pe_non pa_nil)))))) (pss_one (ps_ret pe_bl)) pss_nil)))
      (pss_cons (ps_for PassesOwn.never rfl (pi_list (by repeat' first | exact dat_non | exact dat_bl | exact dat_int | exact dat_neg | exact dat_str | exact dat_emp | exact dats_nil | apply dats_cons | apply dat_lst | apply dat_tup | exact rfl)) (pg_name (i := 0) scRefs.nd rfl (.inl rfl))
        (pss_one (ps_if (pt_not (pt_val (pe_callG GR hg hr rfl mR kR bR pass0 (pa_cons (dat_lst (dats_cons dat_int dats_nil)) (pa_cons (pv 0) (pa_cons pe_non pa_nil)))))) (pss_one (ps_ret pe_bl)) pss_nil)))
      (pss_one (ps_ret (pe_cmpR (op_eqD hu) (pe_lc (own := [("_law_odd", 0)]) (g := gName 0) (by rfl) scRefs.nd (pi_list (by repeat' first | exact dat_non | exact dat_bl | exact dat_int | exact dat_neg | exact dat_str | exact dat_emp | exact dats_nil | apply dats_cons | apply dat_lst | apply dat_tup | exact rfl))
          (blkOk_by (N := ["_law_odd"]) (sc := defScope sRefs) (by decide +kernel)) (fun _ _ _ _ _ => pg_name (i := 0) scRefs.nd rfl (Or.inl rfl))
          (fun _ _ _ _ _ => pts_one (pt_not (pt_val (pe_callG GR hg hr rfl mR kR bR pass0 (pa_cons (dat_lst dats_nil) (pa_cons (dat_lst dats_nil) (pa_cons (pv 0) pa_nil)))))))
          (fun _ _ _ _ _ => pv 0)) (pe_lst pa_nil) (nomark _)))))), ?_⟩
    refine ⟨by decide +kernel, fun v H1 s1 hD => ?_⟩
    obtain ⟨L, xs, rfl, hL, hxs⟩ := DE.list (ds := odds1) hD
    refine ⟨L, rfl, ⟨_, SqL.of hL⟩, for_list (K := K) (a := L) (xs := xs) (fun i σ H' => ∃ v0, σ = [v0] ∧ Same H1 H') ⟨_, rfl, Same.refl _⟩ (fun i σ H' _ ⟨_, _, z⟩ => SqL.of (z _ _ hL)) ?_ ?_⟩
    · rintro i y σ H' hi ⟨v0, rfl, z⟩
      obtain ⟨d, hd, hy⟩ := DEs.pick hxs hi
      exact ⟨_, rfl, by decide, fun v2 H2 s2 h2 => ⟨_, _, _, d, .list [], .none, rfl, (hy.same z).same s2, h2, .non, List.all_eq_true.mp bad1 d hd, fun H3 s3 => ⟨_, rfl, iteF ⟨_, rfl, (z.trans s2).trans s3⟩⟩⟩⟩
    rintro σ H2 ⟨v0, rfl, z2⟩
    have t2 := s1.trans z2
    clear hD hxs hL
    refine ⟨by decide +kernel, fun v H3 s3 hD => ?_⟩
    obtain ⟨L, xs, rfl, hL, hxs⟩ := DE.list (ds := odds2) hD
    refine ⟨L, rfl, ⟨_, SqL.of hL⟩, for_list (K := K) (a := L) (xs := xs) (fun i σ H' => ∃ v0, σ = [v0] ∧ Same H3 H') ⟨_, rfl, Same.refl _⟩ (fun i σ H' _ ⟨_, _, z⟩ => SqL.of (z _ _ hL)) ?_ ?_⟩
    · rintro i y σ H' hi ⟨v0, rfl, z⟩
      obtain ⟨d, hd, hy⟩ := DEs.pick hxs hi
      exact ⟨by decide, fun v2 H2 s2 h2 => ⟨_, rfl, _, _, _, .list [], d, .none, rfl, h2, (hy.same z).same s2, .non, List.all_eq_true.mp bad2 d hd, fun H3 s3 => ⟨_, rfl, iteF ⟨_, rfl, (z.trans s2).trans s3⟩⟩⟩⟩
    rintro σ H4 ⟨v0', rfl, z4⟩
    have t4 := (t2.trans s3).trans z4
    clear hD hxs hL
    refine ⟨by decide +kernel, fun v H5 s5 hD => ?_⟩
    obtain ⟨L, xs, rfl, hL, hxs⟩ := DE.list (ds := odds3) hD
    refine ⟨L, rfl, ⟨_, SqL.of hL⟩, for_list (K := K) (a := L) (xs := xs) (fun i σ H' => ∃ v0, σ = [v0] ∧ Same H5 H') ⟨_, rfl, Same.refl _⟩ (fun i σ H' _ ⟨_, _, z⟩ => SqL.of (z _ _ hL)) ?_ ?_⟩
    · rintro i y σ H' hi ⟨v0, rfl, z⟩
      obtain ⟨d, hd, hy⟩ := DEs.pick hxs hi
      exact ⟨by decide, fun v2 H2 s2 h2 => ⟨_, rfl, _, _, _, .list [.int 1], d, .none, rfl, h2, (hy.same z).same s2, .non, List.all_eq_true.mp bad3 d hd, fun H3 s3 => ⟨_, rfl, iteF ⟨_, rfl, (z.trans s2).trans s3⟩⟩⟩⟩
    rintro σ H6 ⟨v0'', rfl, z6⟩
    have t6 := (t4.trans s5).trans z6
    clear hD hxs hL
    refine ⟨by decide +kernel, fun v H7 s7 hD => ?_⟩
    obtain ⟨L, xs, rfl, hL, hxs⟩ := DE.list (ds := odds4) hD
    have hlen := DEs.len hxs
    refine ⟨L, rfl, ⟨_, SqL.of hL⟩, fun D nD => lc_fm (K := K) [none, none, none, none, none] (SqL.of hL) nD hlen (by rw [sizeLine_eq]; decide) ?_ (fun H8 s8 hD8 => ?_)⟩
    · intro i x o H' Qy Qn hx ho s' yes no
      obtain ⟨d, hd, hy⟩ := DEs.pick hxs hx
      have on : o = none := by
        have := List.mem_of_getElem? ho
        simpa using this
      exact ⟨rfl, by decide, fun v2 H2 s2 h2 => ⟨by decide, fun v3 H3 s3 h3 => ⟨_, rfl, _, _, _, .list [], .list [], d, rfl, h2.same s3, h3, ((hy.same s').same s2).same s3, List.all_eq_true.mp bad4 d hd, fun H4 s4 => ⟨_, rfl, iteF (no on _ ((s2.trans s3).trans s4))⟩⟩⟩⟩
    · refine ⟨(by show 0 ≤ sizeLine; decide), fun l nl => ?_⟩
      have s9 := same_new (o := .lst []) nl
      exact ⟨.list [], .list [], .lst (SqL.of (s9 _ _ hD8)) .nil, .lst (SqL.of upd_same) .nil, (by decide), (by decide), k _ (((t6.trans s7).trans s8).trans s9)⟩
end
end K39

set_option Elab.async false
set_option linter.all false
set_option maxRecDepth 100000
set_option maxHeartbeats 16000000
namespace K39
open PySem PySem.Spec PyProof.Rows L2 Lm
/-- a comprehension over a range: what each turn keeps -/
theorem lc_fmR {n : Nat} {g : TG} {tt : TT} {te : TE} {vs : List Nat} {σ : L2.St} {H1 : Hp} {D : Addr} {Qd : Hp → Prop} (os : List (Option V)) (hD : H1 D = none) (hl : n = os.length) (hz : os.length ≤ sizeLine)
    (hs : ∀ (i : Nat) (o : Option V) (H : Hp) (Qy : VK) (Qn : Hp → Prop), i < n → os[i]? = some o → Same H1 H → (∀ y, o = some y → ∀ H4, Same H H4 → Qy y H4) → (o = none → ∀ H4, Same H H4 → Qn H4) →
      g (.int (0 + i)) (wipe σ vs) H fun σ2 H2 => wipe σ2 vs = wipe σ vs ∧ tt σ2 H2 fun b H3 => if b = true then te σ2 H3 Qy else Qn H3) (hd : ∀ H, Same H1 H → H D = some (.lst (os.filterMap id)) → Qd H) :
    ∃ W : Nat → Nat → Hp → Prop, (∃ m, W 0 m (upd H1 D (.lst []))) ∧ ∀ i m H, W i m H →
      ((Itr 0 n).stop i H ∧ Qd H) ∨ ((Itr 0 n).go i H ∧ ∃ Nx : Hp → Prop, (∀ H', Nx H' → ∃ m', m' < m ∧ W (i + 1) m' H') ∧ ∀ x H', (Itr 0 n).yld i H x H' → g x (wipe σ vs) H' fun σ2 H2 => wipe σ2 vs = wipe σ vs ∧ tt σ2 H2 fun b H3 =>
        if b = true then te σ2 H3 fun y H4 => ∃ acc, H4 D = some (.lst acc) ∧ acc.length < sizeLine ∧ Nx (upd H4 D (.lst (acc ++ [y]))) else Nx H3) := by
  refine lc_range (lo := 0) (n := n) (fun i H => Same H1 H ∧ H D = some (.lst ((os.take i).filterMap id))) ⟨same_new hD, by rw [upd_same]; rfl⟩ (fun i H hi z => ?_) (fun H z => hd H z.1 (by rw [z.2, hl, List.take_length]))
  obtain ⟨z1, z2⟩ := z
  have hi' : i < os.length := by omega
  have ho : os[i]? = some os[i] := List.getElem?_eq_getElem hi'
  refine hs i os[i] H _ _ hi ho z1 (fun y e H4 s4 => ⟨_, s4 _ _ z2, ?_, ?_, ?_⟩) (fun e H4 s4 => ⟨z1.trans s4, ?_⟩)
  · have := fm_len (os.take i)
    rw [List.length_take] at this
    omega
  · intro b u eb
    rw [upd_ne (ne_of_none eb hD)]
    exact s4 _ _ (z1 _ _ eb)
  · rw [upd_same, fm_take ho, e]
    rfl
  · rw [s4 _ _ z2, fm_take ho, e]
    simp
structure FormX (a : Ad) (H : Hp) (p lf ls : Addr) (fs : List (Option Int)) (ys : List V) (k : V → I4) (e : Option Int) : Prop where
  form : FormAt a H p lf ls e
  hf : H lf = some (.lst (fs.map vO))
  hs : H ls = some (.lst ys)
  quads : Quads H ys k
  good : ∀ y ∈ ys, gQ (k y)
  short : ys.length ≤ 60
  few : fs.length ≤ 5
  goodE : goodE e
theorem FormX.full {a : Ad} {H : Hp} {p lf ls : Addr} {fs : List (Option Int)} {ys : List V} {k : V → I4} {e : Option Int} (h : FormX a H p lf ls fs ys k e) : FormFull a H p fs ys k e := ⟨lf, ls, h.form, h.hf, h.hs, h.quads, h.good, h.short, h.few, h.goodE⟩
theorem FormX.same {a : Ad} {H H' : Hp} {p lf ls : Addr} {fs : List (Option Int)} {ys : List V} {k : V → I4} {e : Option Int} (h : FormX a H p lf ls fs ys k e) (s : Same H H') : FormX a H' p lf ls fs ys k e :=
  ⟨h.form.same s, s _ _ h.hf, s _ _ h.hs, h.quads.same s, h.good, h.short, h.few, h.goodE⟩
/-- all stands but at two places -/
theorem FormX.keep {a : Ad} {H H' : Hp} {p lf ls : Addr} {fs : List (Option Int)} {ys : List V} {k : V → I4} {e : Option Int} {N : Addr → Prop} (h : FormX a H p lf ls fs ys k e) (s : ∀ b o, H b = some o → ¬ N b → H' b = some o) (n1 : ¬ N p) (n2 : ¬ N lf) (n3 : ¬ N ls) (q : Quads H' ys k) : FormX a H' p lf ls fs ys k e :=
  ⟨let ⟨dx, e⟩ := h.form; ⟨dx, s _ _ e n1⟩, s _ _ h.hf n2, s _ _ h.hs n3, q, h.good, h.short, h.few, h.goodE⟩
theorem Drawn.but {H H' : Hp} {l a1 a2 pl : Addr} {fs : List (Option Int)} {xs : List V} {k : V → I4} {e : Option Int} (d : Drawn H l a1 a2 fs xs k e) (b : But pl H H') (p : PoolAt H pl) (n0 : l ≠ pl) (n1 : a1 ≠ pl) (n2 : a2 ≠ pl) : Drawn H' l a1 a2 fs xs k e :=
  ⟨b _ _ d.at_ n0, b _ _ d.at1 n1, b _ _ d.at2 n2, fun x hx => let ⟨t, e, ht⟩ := d.quads x hx; ⟨t, e, b _ _ ht fun z => by
    obtain ⟨_, _, ep, _⟩ := p
    rw [z, ep] at ht
    cases ht⟩, d.good, d.short, d.few, d.goodE⟩
theorem FormX.but {a : Ad} {H H' : Hp} {p lf ls pl : Addr} {fs : List (Option Int)} {ys : List V} {k : V → I4} {e : Option Int} (h : FormX a H p lf ls fs ys k e) (b : But pl H H') (pp : PoolAt H pl) (n0 : p ≠ pl) (n1 : lf ≠ pl) (n2 : ls ≠ pl) : FormX a H' p lf ls fs ys k e :=
  h.keep (N := fun b => b = pl) (fun x o e n => b x o e n) n0 n1 n2 fun x hx => let ⟨t, e, ht⟩ := h.quads x hx; ⟨t, e, b _ _ ht fun z => by
    obtain ⟨_, _, ep, _⟩ := pp
    rw [z, ep] at ht
    cases ht⟩
section
variable {P : Program} {w : World} {K : PySem.W.Frag} {mg : Str → Option Value} {base : Heap} {a : Ad}
theorem mk_formR {H : Hp} {R : Addr → Hp → Prop} {E : XK} {b1 b2 : Addr} {fs : List (Option Int)} {xs : List V} {k : V → I4} {e : Option Int} (h1 : H b1 = some (.lst (fs.map vO))) (h2 : H b2 = some (.lst xs)) (hq : Quads H xs k) (hg : ∀ x ∈ xs, gQ (k x)) (hz : xs.length ≤ 60) (hf : fs.length ≤ 5) (he : goodE e)
    (kk : ∀ x lf ls ys H', H x = none → H lf = none → H ls = none → SrtO.Srtd (ltQ k) ys → SrtO.Stb (ltQ k) ys xs → FormX a H' x lf ls fs ys k e → Same H H' → R x H') :
    ∀ x dx, H x = none → H dx = none → dx ≠ x → spFI a (.ref x :: ([V.ref b1, .ref b2, vO e] ++ [])) (upd (upd H dx (.own x)) x (.ins a.CF dx [])) (fun v H2 => v = .non ∧ R x H2) E := by
  intro x dx nx ndx ne
  have s1 : Same H (upd (upd H dx (.own x)) x (.ins a.CF dx [])) := by
    intro b o e
    rw [upd_ne (ne_of_none e nx), upd_ne (ne_of_none e ndx)]
    exact e
  have old : ∀ b, (upd (upd H dx (.own x)) x (.ins a.CF dx [])) b = none → H b = none := fun b hb => by
    cases hh : H b with
    | none => rfl
    | some o =>
      rw [s1 _ _ hh] at hb
      cases hb
  refine ⟨x, dx, .ref b1, .ref b2, vO e, rfl, upd_same, .inl ⟨b1, b2, fs, xs, k, e, rfl, s1 _ _ h1, rfl, s1 _ _ h2, hq.same s1, rfl, by omega, hz, fun x hx => (hg x hx).ok, fun n en => (he n en).1, fun lf ls ys H' srt stb nlf nls nll form hlf hls but => ⟨rfl, ?_⟩⟩⟩
  have s2 : Same H H' := fun b o e => but b o (s1 _ _ e) (ne_of_none e nx)
  have mem : ∀ y ∈ ys, y ∈ xs := fun y hy => stb.perm.mem_iff.mp hy
  refine kk x lf ls ys H' nx (old _ nlf) (old _ nls) srt stb ⟨form, hlf, hls, fun y hy => (hq.same s2) y (mem y hy), fun y hy => hg y (mem y hy), ?_, hf, he⟩ s2
  rw [stb.perm.length_eq]
  exact hz
theorem dpO {H : Hp} (fs : List (Option Int)) : DpAll K H (fs.map vO) (fs.map dO) := by
  induction fs with
  | nil => exact .nil
  | cons z r ih => cases z with
    | none => exact .cons .non ih
    | some n => exact .cons (.int n) ih
theorem shO (fs : List (Option Int)) : SeqAt.shaped (.list (fs.map dO)) = true := shaped_list fun d hd => by
  obtain ⟨z, _, rfl⟩ := List.mem_map.mp hd
  cases z <;> exact ⟨rfl, by show 0 ≤ 5; decide⟩
theorem dpQ {H : Hp} {k : V → I4} : ∀ ys : List V, Quads H ys k → DpAll K H ys (ys.map fun y => dq (k y))
  | [], _ => .nil
  | x :: r, h => by
    obtain ⟨t, e, ht⟩ := h x (List.mem_cons_self ..)
    refine .cons ?_ (dpQ r fun y hy => h y (List.mem_cons_of_mem _ hy))
    rw [e] at ht ⊢
    exact .tup (SqT.of ht) (.cons (.int _) (.cons (.int _) (.cons (.int _) (.cons (.int _) .nil))))
theorem shQ (k : V → I4) (ys : List V) : SeqAt.shaped (.list (ys.map fun y => dq (k y))) = true := shaped_list fun d hd => by
  obtain ⟨z, _, rfl⟩ := List.mem_map.mp hd
  exact ⟨rfl, by show 1 ≤ 5; decide⟩
def gD : Option (Option Int) → PyData
  | none => .str "endless"
  | some z => dO z
theorem dp_gV {H : Hp} (g : Option (Option Int)) : Dp K H (gV g) (gD g) := by
  cases g with
  | none => exact .str _
  | some z => cases z with
    | none => exact .non
    | some n => exact .int n
theorem dpG {H : Hp} {α : Type} (f : α → Option (Option Int)) : ∀ l : List α, DpAll K H (l.map fun i => gV (f i)) (l.map fun i => gD (f i))
  | [] => .nil
  | i :: r => .cons (dp_gV _) (dpG f r)
theorem shG {α : Type} (f : α → Option (Option Int)) (l : List α) : SeqAt.shaped (.list (l.map fun i => gD (f i))) = true := shaped_list fun d hd => by
  obtain ⟨i, _, rfl⟩ := List.mem_map.mp hd
  cases f i with
  | none => exact ⟨by decide +kernel, by show 0 ≤ 5; decide⟩
  | some z => cases z <;> exact ⟨rfl, by show 0 ≤ 5; decide⟩
theorem eqv_no {d : PyData} (h : SeqAt.shaped d = true) : (!PyData.eqv d d) = false := by
  rw [SeqAt.eqv_refl d (SeqAt.canLay_of_shaped h)]
  rfl
theorem vO_scal (z z' : Option Int) : scal (vO z) (vO z') = true := by cases z <;> cases z' <;> rfl
theorem gV_scal (z z' : Option (Option Int)) : scal (gV z) (gV z') = true := by
  rcases z with _ | _ | _ <;> rcases z' with _ | _ | _ <;> rfl
theorem v_ne (v : V) : (!decide (v = v)) = false := by simp
theorem bl_t : (!true) = false := rfl
theorem ov_perm {fs : List (Option Int)} {qs qs' : List I4} (p : qs.Perm qs') (e : Option Int) (m c : Int) : Ov fs qs e m c = Ov fs qs' e m c := by
  unfold Ov
  rw [valAt_perm p]
theorem due_perm {fs : List (Option Int)} {qs qs' : List I4} (p : qs.Perm qs') {e : Option Int} {m : Int} {r : Option Int} (h : Due fs qs e m r) : Due fs qs' e m r := by
  cases r with
  | none =>
    intro c h0 h1
    rw [← ov_perm p]
    exact h c h0 h1
  | some c =>
    obtain ⟨h0, h1, h2, h3⟩ := h
    refine ⟨h0, h1, ?_, fun c' a b => ?_⟩
    · rw [← ov_perm p]
      exact h2
    · rw [← ov_perm p]
      exact h3 c' a b
def odds5 : List PyData := [.none, .int (-1), .bool true, .str "5", .list [.int 5], tp [5]]
theorem bad5 : odds5.all okNum = true := by decide +kernel
end
end K39

set_option Elab.async false
set_option linter.all false
set_option maxRecDepth 100000
set_option maxHeartbeats 32000000
namespace K39
open PySem PySem.Spec PyProof.Rows L2 Lm
structure Text (P : Program) (w : World) (K : PySem.W.Frag) (mg : Str → Option Value) (base : Heap) (a : Ad) : Prop where
  T : Txt K mg a
  MF : ∃ f fd, Mk K a.CF f ∧ FnOk P w K mg base (L2.CX P w) 4 f fd NFI (spFI a) ∧ Binds K fd NFI []
  G1 : ∃ fd, FnOk P w K mg base CX0 1 a.fF fd ["self"] (spList a false) ∧ Binds K fd ["self"] []
  G2 : ∃ fd, FnOk P w K mg base CX0 1 a.fS fd ["self"] (spList a true) ∧ Binds K fd ["self"] []
  G3 : ∃ fd, FnOk P w K mg base CX0 1 a.fE fd ["self"] (spEndless a) ∧ Binds K fd ["self"] []
  GZ : ∃ fd, FnOk P w K mg base CX0 1 a.fZ fd ["self"] (spSize a) ∧ Binds K fd ["self"] []
  GG : ∃ f fd, FnOk P w K mg base (L2.CX P w) 3 f fd ["self", "count"] (spGr a) ∧ Binds K fd ["self", "count"] [] ∧ Meth K a.CF "greatest" f
  GC : ∃ f fd, FnOk P w K mg base (L2.CX P w) 4 f fd ["self", "most"] (spCa a) ∧ Binds K fd ["self", "most"] [] ∧ StX.CallO K a.CF f
  GP : ∃ f fd, FnOk P w K mg base CX0 1 f fd ["_law_script", "_law_k"] (spPool K) ∧ Binds K fd ["_law_script", "_law_k"] [] ∧ mg "_law_pool" = some (.ref f) ∧ PySem.W.keepIn K (.ref f) = true
  GT : ∃ f fd, FnOk P w K mg base CX0 1 f fd ["_law_pool_here", "_law_many"] spTake ∧ Binds K fd ["_law_pool_here", "_law_many"] [] ∧ mg "_law_take" = some (.ref f) ∧ PySem.W.keepIn K (.ref f) = true
  GD : ∃ f fd, FnOk P w K mg base CX0 2 f fd ["_law_pool_here"] spDrawn ∧ Binds K fd ["_law_pool_here"] [] ∧ mg "_law_drawn" = some (.ref f) ∧ PySem.W.keepIn K (.ref f) = true
  GA : ∃ f fd, FnOk P w K mg base CX0 1 f fd ["_law_parts", "_law_count"] spAt ∧ Binds K fd ["_law_parts", "_law_count"] [] ∧ mg "_law_at" = some (.ref f) ∧ PySem.W.keepIn K (.ref f) = true
  GU : ∃ f fd, FnOk P w K mg base CX0 2 f fd ["_law_parts", "_law_most", "_law_length"] spDue ∧ Binds K fd ["_law_parts", "_law_most", "_law_length"] [] ∧ mg "_law_due" = some (.ref f) ∧ PySem.W.keepIn K (.ref f) = true
  GN : ∃ f fd, FnG P w K mg base CX0 5 f fd ["_law_made", "_law_odd"] (spNRef a) ∧ Binds K fd ["_law_made", "_law_odd"] [] ∧ mg "_law_number_refused" = some (.ref f) ∧ PySem.W.keepIn K (.ref f) = true
  GR : ∃ f fd, FnG P w K mg base CX0 7 f fd [] spRefs ∧ Binds K fd [] [] ∧ mg "_law_refusals_right" = some (.ref f) ∧ PySem.W.keepIn K (.ref f) = true
section
variable {P : Program} {w : World} {K : PySem.W.Frag} {mg : Str → Option Value} {base : Heap} {a : Ad}
def spLaw (K : PySem.W.Frag) : Sp := fun vs H Q _ => ∃ (sa : Addr) (ns : List Int), vs = [.ref sa] ∧ SqL K H sa (ns.map V.int) ∧ ns.length ≤ 63 ∧ ∀ H', Q (.bl true) H'
def NL : List Str := ["_law_script", "_law_k", "_law_pool_here", "_law_turn", "_law_parts", "_law_handed", "_law_made", "_law_row", "_law_count", "_law_great", "_law_most", "_law_due_here", "_law_found", "_law_odd"]
theorem scLaw : FnScope NL ["_law_script"] (defScope sLaw) := ⟨rfl, rfl, rfl, by decide +kernel, rfl, by decide +kernel, by decide +kernel⟩
theorem ok_law {f : Addr} {fd : FuncData} (F : Fun K "law" "law" sLaw f fd) (X : Text P w K mg base a) : FnG P w K mg base CX0 8 f fd ["_law_script"] (spLaw K) := by
  obtain ⟨T, ⟨fI, fdI, MF, GI, bI⟩, ⟨fd1, G1, b1⟩, ⟨fd2, G2, b2⟩, ⟨fd3, G3, b3⟩, ⟨fdZ, GZ, bZ⟩, ⟨fG, fdG, GG, bG, mG⟩, ⟨fC, fdC, GC, bC, cC⟩, ⟨fP, fdP, GP, bP, mP, kP⟩, ⟨fT, fdT, GT, bT, mT, kT⟩, ⟨fD, fdD, GD, bD, mD, kD⟩,
    ⟨fA, fdA, GA, bA, mA, kA⟩, ⟨fU, fdU, GU, bU, mU, kU⟩, ⟨fN, fdN, GN, bN, mN, kN⟩, ⟨fR, fdR, GR, bR, mR, kR⟩⟩ := X
  refine FnG.ok F scLaw (fun vs H Q E h => ?_) (fun cdv A outer s H vs Q E hgA hr h => ?_)
  · obtain ⟨sa, ns, rfl, _⟩ := h
    rfl
  · obtain ⟨sa, ns, rfl, hS, hlen, k⟩ := h
    have hg := guards_deeper (envOfC "law" (defScope sLaw) s.heap.objs.size f cdv) hgA
    have hu : (A.deeper (envOfC "law" (defScope sLaw) s.heap.objs.size f cdv)).units + 64 < cLine := by have := hr.un; omega
    have hr5 : Room 5 (A.deeper (envOfC "law" (defScope sLaw) s.heap.objs.size f cdv)) := hr.mono (by decide)
    have hr4 : Room 4 (A.deeper (envOfC "law" (defScope sLaw) s.heap.objs.size f cdv)) := hr.mono (by decide)
    have hr3 : Room 3 (A.deeper (envOfC "law" (defScope sLaw) s.heap.objs.size f cdv)) := hr.mono (by decide)
    have hr2 : Room 2 (A.deeper (envOfC "law" (defScope sLaw) s.heap.objs.size f cdv)) := hr.mono (by decide)
    have hr1 : Room 1 (A.deeper (envOfC "law" (defScope sLaw) s.heap.objs.size f cdv)) := hr.mono (by decide)
    refine ⟨_, (pss_cons (ps_if (pt_not (pt_val (pe_callG0 GR hg hr rfl mR kR bR pass0))) (pss_one (ps_ret pe_bl)) pss_nil)
          (pss_cons (ps_for PassesOwn.never rfl (pi_range1 (by rfl) T.rng (pa_cons (pe_callB (call_max2 rfl) (by rfl) T.max_ (by decide +kernel) (pa_cons pe_int (pa_cons (pe_callB (call_min2 rfl) (by rfl) T.min_ (by decide +kernel) (pa_cons pe_int (pa_cons (pe_callB call_len_seq (by rfl) T.len_ PySem.boot_len (pa_cons (pv 0) pa_nil)) pa_nil))) pa_nil))) pa_nil)) (pg_name (i := 1) scLaw.nd rfl (.inl rfl))
        (pss_cons (ps_set (i := 2) scLaw.nd rfl (.inl rfl) (pe_call GP hr1 rfl mP kP bP .nil pass0 (pa_cons (pv 0) (pa_cons (pv 1) pa_nil))))
          (pss_one (ps_for PassesOwn.never rfl (pi_range1 (by rfl) T.rng (pa_cons pe_int pa_nil)) (pg_name (i := 3) scLaw.nd rfl (.inl rfl))
          (pss_cons (ps_set (i := 4) scLaw.nd rfl (.inr rfl) (pe_call GD hr2 rfl mD kD bD .nil pass0 (pa_cons (pv 2) pa_nil)))
          (pss_cons (ps_set (i := 5) scLaw.nd rfl (.inl rfl) (pe_lst (pa_cons (pe_callTy call_list_of (by rfl) T.list_ (by decide +kernel) (pa_cons (pe_ix ix_list (pv 4) pe_int (fun _ _ => rfl)) pa_nil)) (pa_cons (pe_callTy call_list_of (by rfl) T.list_ (by decide +kernel) (pa_cons (pe_ix ix_list (pv 4) pe_int (fun _ _ => rfl)) pa_nil)) pa_nil))))
          (pss_cons (ps_set (i := 6) scLaw.nd rfl (.inr rfl) (pe_make MF GI hr5 rfl T.mgF bI .nil passF (pa_cons (pe_ix ix_list (pv 5) pe_int (fun _ _ => rfl)) (pa_cons (pe_ix ix_list (pv 5) pe_int (fun _ _ => rfl)) (pa_cons (pe_ix ix_list (pv 4) pe_int (fun _ _ => rfl)) pa_nil)))))
          (pss_cons (ps_for PassesOwn.never rfl (pi_list (pv 5)) (pg_name (i := 7) scLaw.nd rfl (.inl rfl)) (pss_one (ps_expr (pe_bm PySem.F.plainAttrs_list PySem.F.slot_list_append PySem.F.type_list_append mt_append (pv 7) (pa_cons (pe_tup (pa_cons pe_int (pa_cons pe_int (pa_cons pe_int (pa_cons pe_int pa_nil))))) pa_nil)))))
          (pss_cons (ps_expr (pe_bm PySem.F.plainAttrs_list PySem.F.slot_list_append PySem.F.type_list_append mt_append (pe_prop (pv 6) T.cF T.pF G1 hr2 b1 .nil pass0 rfl) (pa_cons pe_non pa_nil)))
          (pss_cons (ps_expr (pe_bm PySem.F.plainAttrs_list PySem.F.slot_list_append PySem.F.type_list_append mt_append (pe_prop (pv 6) T.cF T.pS G2 hr2 b2 .nil pass0 rfl) (pa_cons pe_non pa_nil)))
          (pss_cons (ps_if (PW.pt (pw_or (pt_cmpR (op_neD hu) (pe_prop (pv 6) T.cF T.pF G1 hr2 b1 .nil pass0 rfl) (pe_ix ix_list (pv 4) pe_int (fun _ _ => rfl)) (nomark _))
            (pw_or (pt_cmpR (op_neD hu) (pe_prop (pv 6) T.cF T.pS G2 hr2 b2 .nil pass0 rfl) (pe_callB cr_sort4 (by rfl) T.sorted_ (by decide +kernel) (pa_cons (pe_ix ix_list (pv 4) pe_int (fun _ _ => rfl)) pa_nil)) (nomark _))
            (pw_or1 (pt_cmpR op_ne (pe_prop (pv 6) T.cF T.pE G3 hr2 b3 .nil pass0 rfl) (pe_ix ix_list (pv 4) pe_int (fun _ _ => rfl)) (nomark _)))))) (pss_one (ps_ret pe_bl)) pss_nil)
          (pss_cons (ps_if (pt_cmpR (op_neD hu) (pe_lc (own := [("_law_count", 8)]) (g := gName 8) (tt := tYes) (by rfl) scLaw.nd (pi_range1 (by rfl) T.rng (pa_cons pe_int pa_nil)) (blkOk_by (N := NL) (sc := defScope sLaw) (by decide +kernel)) (fun _ _ _ _ _ => pg_name (i := 8) scLaw.nd rfl (Or.inl rfl)) (fun _ _ _ _ _ => pts_nil)
            (fun _ _ _ _ _ => (pe_methE (E := fun _ _ _ _ => False) (pv 6) T.cF mG GG hr3 bG (fun σ => passFA σ) (pa_cons (pv 8) pa_nil))))
            (pe_lc (own := [("_law_count", 8)]) (g := gName 8) (tt := tYes) (by rfl) scLaw.nd (pi_range1 (by rfl) T.rng (pa_cons pe_int pa_nil)) (blkOk_by (N := NL) (sc := defScope sLaw) (by decide +kernel)) (fun _ _ _ _ _ => pg_name (i := 8) scLaw.nd rfl (Or.inl rfl)) (fun _ _ _ _ _ => pts_nil)
            (fun _ _ _ _ _ => (pe_call GA hr1 rfl mA kA bA .nil pass0 (pa_cons (pv 4) (pa_cons (pv 8) pa_nil))))) (nomark _)) (pss_one (ps_ret pe_bl)) pss_nil)
          (pss_cons (ps_set (i := 9) scLaw.nd rfl (.inl rfl) (pe_op op_add (pe_op op_pow pe_int pe_int) (pe_call GT hr1 rfl mT kT bT .nil pass0 (pa_cons (pv 2) (pa_cons (pe_op op_pow pe_int pe_int) pa_nil)))))
          (pss_cons (ps_if (pt_cmpR op_ne (pe_methE (E := fun _ _ _ _ => False) (pv 6) T.cF mG GG hr3 bG (fun σ => passFA σ) (pa_cons (pv 9) pa_nil)) (pe_call GA hr1 rfl mA kA bA .nil pass0 (pa_cons (pv 4) (pa_cons (pv 9) pa_nil))) (nomark _)) (pss_one (ps_ret pe_bl)) pss_nil)
          (pss_cons (ps_for PassesOwn.never rfl (pi_list (pe_lst (pa_cons (pe_op op_sub (pe_call GT hr1 rfl mT kT bT .nil pass0 (pa_cons (pv 2) (pa_cons pe_int pa_nil))) pe_int) (pa_cons (pe_un un_neg pe_int) (pa_cons pe_int pa_nil))))) (pg_name (i := 10) scLaw.nd rfl (.inl rfl))
            (pss_cons (ps_par (i := 11) (j := 12) (by rfl) scLaw.nd rfl rfl (by decide) rfl rfl (pa_cons (pe_call GU hr2 rfl mU kU bU .nil pass0 (pa_cons (pv 4) (pa_cons (pv 10) (pa_cons pe_int pa_nil))))
              (pa_cons (pe_prop (pe_callE (E := fun _ _ _ _ => False) (pv 6) cC GC hr4 bC (fun σ => passFA σ) (pa_cons (pv 10) pa_nil)) T.cL T.pZ GZ hr2 bZ .nil pass0 rfl) pa_nil)) (by rfl))
          (pss_one (ps_if (pt_cmpR op_ne (pv 12) (pv 11) (nomark _)) (pss_one (ps_ret pe_bl)) pss_nil))))
          (pss_one (ps_for PassesOwn.never rfl (pi_list (dat_lst (dats_cons dat_non (dats_cons dat_neg (dats_cons dat_bl (dats_cons dat_str (dats_cons (dat_lst (dats_cons dat_int dats_nil)) (dats_cons (dat_tup (dats_cons dat_int dats_nil)) dats_nil)))))))) (pg_name (i := 13) scLaw.nd rfl (.inl rfl))
            (pss_one (ps_if (pt_not (pt_val (pe_callG GN hg hr5 rfl mN kN bN pass0 (pa_cons (pv 6) (pa_cons (pv 13) pa_nil))))) (pss_one (ps_ret pe_bl)) pss_nil)))))))))))))))))))
          (pss_one (ps_ret pe_bl)))), ?_⟩
    -- what is refused
    refine ⟨rfl, fun H0 z0 => ⟨_, rfl, iteF ?_⟩⟩
    -- for k in range(..)
    refine ⟨_, rfl, sa, _, rfl, .inl (z0.seq hS), _, _, rfl, _, _, rfl, _, rfl, (by split <;> (try split) <;> omega), (by split <;> (try split) <;> omega), for_range (lo := 0)
      (fun i σ H' => ∃ v1 v2 v3 v4 v5 v6 v7 v8 v9 v10 v11 v12 v13, σ = [some (.ref sa), v1, v2, v3, v4, v5, v6, v7, v8, v9, v10, v11, v12, v13] ∧ Same H H') ⟨_, _, _, _, _, _, _, _, _, _, _, _, _, rfl, z0⟩ ?_ ?_⟩
    rotate_left
    · rintro σ H' ⟨v1, v2, v3, v4, v5, v6, v7, v8, v9, v10, v11, v12, v13, rfl, _⟩
      exact k H'
    rintro ki σ Ho hki ⟨v1, v2, v3, v4, v5, v6, v7, v8, v9, v10, v11, v12, v13, rfl, zo⟩
    have hki : ki < 64 := by
      revert hki
      split <;> (try split) <;> omega
    refine ⟨_, rfl, _, rfl, sa, ki, ns, (by show [V.ref sa, V.int (0 + (ki : Int))] = _; rw [Int.zero_add]), zo.seq hS, hki, fun pl Hp npl pp sp => ?_⟩
    -- for turn in range(6)
    refine ⟨6, rfl, by decide, by decide, for_range (lo := 0) (n := 6)
      (fun i σ H' => ∃ v1 v3 v4 v5 v6 v7 v8 v9 v10 v11 v12 v13, σ = [some (.ref sa), v1, some (.ref pl), v3, v4, v5, v6, v7, v8, v9, v10, v11, v12, v13] ∧ But pl Ho H' ∧ PoolAt H' pl) ⟨_, _, _, _, _, _, _, _, _, _, _, _, rfl, But.same sp, pp⟩ ?_ ?_⟩
    rotate_left
    · rintro σ H' ⟨v1, v3, v4, v5, v6, v7, v8, v9, v10, v11, v12, v13, rfl, bo, _⟩
      exact ⟨_, _, _, _, _, _, _, _, _, _, _, _, _, rfl, fun b o e => bo b o (zo b o e) (ne_of_none (zo b o e) npl)⟩
    rintro ti σ Ht _ ⟨v1, v3, v4, v5, v6, v7, v8, v9, v10, v11, v12, v13, rfl, bo, pt⟩
    -- parts
    refine ⟨_, rfl, pl, rfl, pt, fun l a1 a2 fs xs kq e H1 D nl n1 n2 p1 bd => ?_⟩
    have ql := pt.ne nl
    have q1 := pt.ne n1
    have q2 := pt.ne n2
    -- handed
    refine ⟨_, rfl, l, _, _, _, rfl, rfl, SqL.of D.at_, atI_nat (j := 0) rfl, a1, _, rfl, .inl (SqL.of D.at1), fun h1 nh1 => ?_⟩
    have sA : Same H1 (upd H1 h1 (.lst (fs.map vO))) := same_new nh1
    have DA := D.same sA
    refine ⟨_, rfl, l, _, _, _, rfl, rfl, SqL.of DA.at_, atI_nat (j := 1) rfl, a2, _, rfl, .inl (SqL.of DA.at2), fun h2 nh2 => ⟨(by show 2 ≤ sizeLine; decide), fun hd nhd => ?_⟩⟩
    have sB : Same (upd H1 h1 (.lst (fs.map vO))) (upd (upd H1 h1 (.lst (fs.map vO))) h2 (.lst xs)) := same_new nh2
    have sC : Same (upd (upd H1 h1 (.lst (fs.map vO))) h2 (.lst xs)) (upd (upd (upd H1 h1 (.lst (fs.map vO))) h2 (.lst xs)) hd (.lst [.ref h1, .ref h2])) := same_new nhd
    have nh2' : H1 h2 = none := by
      cases hh : H1 h2 with
      | none => rfl
      | some o =>
        rw [sA _ _ hh] at nh2
        cases nh2
    have n12 : h2 ≠ h1 := fun z => by rw [z, upd_same] at nh2; cases nh2
    obtain ⟨HC, eHC⟩ : ∃ HC, HC = upd (upd (upd H1 h1 (.lst (fs.map vO))) h2 (.lst xs)) hd (.lst [.ref h1, .ref h2]) := ⟨_, rfl⟩
    have e1 : HC h1 = some (.lst (fs.map vO)) := by rw [eHC]; exact sC _ _ (sB _ _ upd_same)
    have e2 : HC h2 = some (.lst xs) := by rw [eHC]; exact sC _ _ upd_same
    have e3 : HC hd = some (.lst [.ref h1, .ref h2]) := by rw [eHC]; exact upd_same
    have s1C : Same H1 HC := by rw [eHC]; exact (sA.trans sB).trans sC
    have DC := D.same s1C
    rw [← eHC]
    clear eHC sA sB sC DA nhd nh2
    -- made
    refine ⟨_, rfl, hd, _, _, _, rfl, rfl, SqL.of e3, atI_nat (j := 0) rfl, _, rfl, hd, _, _, _, rfl, rfl, SqL.of e3, atI_nat (j := 1) rfl, _, rfl, l, _, _, _, rfl, rfl, SqL.of DC.at_, atI_nat (j := 2) rfl,
      mk_formR (b1 := h1) (b2 := h2) (fs := fs) (xs := xs) (k := kq) (e := e) e1 e2 DC.quads DC.good DC.short DC.few DC.goodE fun x lf ls ys H4 nx nlf nls srt stb FX s4 => ?_⟩
    have perm : (ys.map kq).Perm (xs.map kq) := stb.perm.map kq
    have f1 := s4 _ _ e1
    have f2 := s4 _ _ e2
    have f3 := s4 _ _ e3
    have nd2 : hd ≠ h2 := fun z => by
      rw [z] at e3
      obtain ⟨t, ht, _⟩ := DC.quads (.ref h1) (by rw [e2] at e3; rw [HO.lst.inj (Option.some.inj e3)]; exact List.mem_cons_self ..)
      cases ht
      rename_i hq
      rw [e1] at hq
      cases hq
    have nd1 : hd ≠ h1 := fun z => by
      rw [z, e1] at e3
      have := List.map_eq_cons_iff.mp (HO.lst.inj (Option.some.inj e3))
      obtain ⟨z0, _, _, hz, _⟩ := this
      cases z0 <;> cases hz
    -- what was handed in grows
    refine ⟨_, rfl, hd, rfl, ⟨_, SqL.of f3⟩, for_list (K := K) (a := hd) (xs := [.ref h1, .ref h2])
      (fun i σ H' => ∃ v7, σ = [some (.ref sa), v1, some (.ref pl), some (.int (0 + ti)), some (.ref l), some (.ref hd), some (.ref x), v7, v8, v9, v10, v11, v12, v13] ∧ (∀ b o, H4 b = some o → b ≠ h1 → b ≠ h2 → H' b = some o) ∧
        (∃ z1, H' h1 = some (.lst z1) ∧ z1.length ≤ 70 + i) ∧ ∃ z2, H' h2 = some (.lst z2) ∧ z2.length ≤ 70 + i)
      ⟨_, rfl, fun b o e _ _ => e, ⟨_, f1, by rw [List.length_map]; have := DC.few; omega⟩, _, f2, by have := DC.short; omega⟩ (fun i σ H' _ ⟨_, _, kp, _⟩ => SqL.of (kp _ _ f3 nd1 nd2)) ?_ ?_⟩
    · rintro i y σ H' hi ⟨v7, rfl, kp, ⟨z1, y1, l1⟩, z2, y2, l2⟩
      have i2 : i < 2 := by
        have := (List.getElem?_eq_some_iff.mp hi).1
        exact this
      have sz : sizeLine = 16777216 := sizeLine_eq
      match i, hi, i2 with
      | 0, hi, _ =>
        obtain rfl : V.ref h1 = y := Option.some.inj hi
        refine ⟨_, rfl, .inl ⟨rfl, _, SqL.of y1⟩, (by show 4 ≤ sizeLine; decide), fun t nt => ⟨h1, z1, _, rfl, rfl, same_new nt _ _ y1, by omega, _, rfl, fun b o e a b' => ?_, ⟨_, upd_same, by rw [List.length_append]; show z1.length + 1 ≤ _; omega⟩, z2, ?_, by omega⟩⟩
        · rw [upd_ne a]
          exact same_new nt _ _ (kp b o e a b')
        · rw [upd_ne n12]
          exact same_new nt _ _ y2
      | 1, hi, _ =>
        obtain rfl : V.ref h2 = y := Option.some.inj hi
        refine ⟨_, rfl, .inl ⟨rfl, _, SqL.of y2⟩, (by show 4 ≤ sizeLine; decide), fun t nt => ⟨h2, z2, _, rfl, rfl, same_new nt _ _ y2, by omega, _, rfl, fun b o e a b' => ?_, ⟨z1, ?_, by omega⟩, _, upd_same, by rw [List.length_append]; show z2.length + 1 ≤ _; omega⟩⟩
        · rw [upd_ne b']
          exact same_new nt _ _ (kp b o e a b')
        · rw [upd_ne n12.symm]
          exact same_new nt _ _ y1
    rintro σ H5 ⟨v7, rfl, kp, _, _⟩
    have sK : Same H1 H5 := fun b o eb => kp b o (s4 _ _ (s1C _ _ eb)) (ne_of_none eb nh1) (ne_of_none eb nh2')
    have out : ∀ b, HC b = none → ¬ (b = h1 ∨ b = h2) := fun b hb z => by
      rcases z with z | z
      · rw [z, e1] at hb
        cases hb
      · rw [z, e2] at hb
        cases hb
    have FX5 : FormX a H5 x lf ls fs ys kq e := FX.keep (N := fun b => b = h1 ∨ b = h2) (fun b o eb nb => kp b o eb (fun z => nb (.inl z)) (fun z => nb (.inr z))) (out _ nx) (out _ nlf) (out _ nls)
      fun y hy => (D.quads.same sK) y (stb.perm.mem_iff.mp hy)
    have D5 := D.same sK
    have p5 := p1.same sK
    have b5 : But pl Ho H5 := (bo.trans bd).trans (But.same sK)
    have hpC : PoolAt HC pl := p1.same s1C
    have qx := hpC.ne nx
    have qf := hpC.ne nlf
    have qs := hpC.ne nls
    clear kp out e1 e2 e3 f1 f2 f3 s4 FX
    -- made.firsts.append(None), made.stairs.append(None)
    have hsz : sizeLine = 16777216 := sizeLine_eq
    obtain ⟨dx, hx5⟩ := FX5.form
    refine ⟨_, rfl, x, dx, _, rfl, hx5, x, lf, ls, e, _, rfl, ⟨dx, hx5⟩, FX5.hf, fun m1 H6 nm1 hm1 s6 => ⟨.inl ⟨rfl, _, SqL.of hm1⟩, m1, _, _, rfl, rfl, hm1, by rw [List.length_map]; have := FX5.few; omega, ?_⟩⟩
    have s7 : Same H5 (upd H6 m1 (.lst (fs.map vO ++ [.non]))) := fun b o eb => by
      rw [upd_ne (ne_of_none eb nm1)]
      exact s6 _ _ eb
    have FX7 := FX5.same s7
    obtain ⟨H7, eH7⟩ : ∃ H7, H7 = upd H6 m1 (.lst (fs.map vO ++ [.non])) := ⟨_, rfl⟩
    rw [← eH7] at s7 FX7 ⊢
    clear eH7
    have hx7 := s7 _ _ hx5
    refine ⟨_, rfl, x, dx, _, rfl, hx7, x, lf, ls, e, _, rfl, ⟨dx, hx7⟩, FX7.hs, fun m2 H8 nm2 hm2 s8 => ⟨.inl ⟨rfl, _, SqL.of hm2⟩, m2, _, _, rfl, rfl, hm2, by have := FX7.short; omega, ?_⟩⟩
    have s9 : Same H7 (upd H8 m2 (.lst (ys ++ [.non]))) := fun b o eb => by
      rw [upd_ne (ne_of_none eb nm2)]
      exact s8 _ _ eb
    obtain ⟨H9, eH9⟩ : ∃ H9, H9 = upd H8 m2 (.lst (ys ++ [.non])) := ⟨_, rfl⟩
    rw [← eH9] at s9 ⊢
    clear eH9
    have s59 := s7.trans s9
    have FX9 := FX5.same s59
    have D9 := D5.same s59
    have hx9 := s59 _ _ hx5
    clear s7 s9 FX7 hx7 s6 s8 hm1 hm2 nm1 nm2
    -- firsts, stairs, endless
    refine ⟨_, rfl, x, dx, _, rfl, hx9, x, lf, ls, e, _, rfl, ⟨dx, hx9⟩, FX9.hf, fun m3 H10 nm3 hm3 s10 => ⟨_, rfl, l, _, _, _, rfl, rfl, SqL.of (D9.same s10).at_, atI_nat (j := 0) rfl,
      .list (fs.map dO), .list (fs.map dO), .lst (SqL.of hm3) (dpO fs), .lst (SqL.of (D9.same s10).at1) (dpO fs), shO fs, shO fs, _, rfl, ifF (eqv_no (shO fs)) ?_⟩⟩
    have FXa := FX9.same s10
    have Da := D9.same s10
    have hxa := s10 _ _ hx9
    refine ⟨_, rfl, x, dx, _, rfl, hxa, x, lf, ls, e, _, rfl, ⟨dx, hxa⟩, FXa.hs, fun m4 H11 nm4 hm4 s11 => ⟨_, rfl, l, _, _, _, rfl, rfl, SqL.of (Da.same s11).at_, atI_nat (j := 1) rfl, a2, xs, kq, rfl, SqL.of (Da.same s11).at2, (Da.same s11).quads, fun ys2 m5 srt2 stb2 nm5 => ?_⟩⟩
    obtain rfl : ys2 = ys := SrtO.stb_uniq (ltQ_swo kq) srt2 srt ⟨stb2.perm.trans stb.perm.symm, fun z => (stb2.cls z).trans (stb.cls z).symm⟩
    have s12 := same_new (o := .lst ys2) nm5
    have s1b := s11.trans s12
    refine ⟨.list (ys2.map fun y => dq (kq y)), .list (ys2.map fun y => dq (kq y)), .lst (SqL.of (s12 _ _ hm4)) (dpQ ys2 (FXa.same s1b).quads), .lst (SqL.of upd_same) (dpQ ys2 (FXa.same s1b).quads), shQ kq ys2, shQ kq ys2, _, rfl, ifF (eqv_no (shQ kq ys2)) ?_⟩
    have FXb := FXa.same s1b
    have Db := Da.same s1b
    have hxb := s1b _ _ hxa
    refine ⟨_, rfl, x, dx, _, rfl, hxb, x, lf, ls, e, rfl, ⟨dx, hxb⟩, _, rfl, l, _, _, _, rfl, rfl, SqL.of Db.at_, atI_nat (j := 2) rfl, vO_scal e e, _, rfl, ifF (v_ne _) ?_⟩
    have pb := p5.same (s59.trans (s10.trans s1b))
    have bb := b5.trans (But.same (s59.trans (s10.trans s1b)))
    obtain ⟨HB, eHB⟩ : ∃ HB, HB = upd H11 m5 (.lst ys2) := ⟨_, rfl⟩
    rw [← eHB] at FXb Db hxb pb bb ⊢
    clear eHB s12 s1b s11 s10 hm3 hm4 nm3 nm4 nm5 FXa Da hxa FX9 D9 hx9 s59 FX5 D5 hx5 p5 b5 stb2 srt2
    -- greatest at 0 .. 44
    refine ⟨45, rfl, by decide, by decide, fun D1 nD1 => lc_fmR (n := 45) ((List.range 45).map fun (i : Nat) => some (gV (valAt fs (ys2.map kq) e (0 + (i : Int))))) nD1 (by simp) (by rw [List.length_map, List.length_range, hsz]; decide) ?_ (fun H12 s12 hD1 =>
      ⟨45, rfl, by decide, by decide, fun D2 nD2 => lc_fmR (n := 45) ((List.range 45).map fun (i : Nat) => some (gV (valAt fs (ys2.map kq) e (0 + (i : Int))))) nD2 (by simp) (by rw [List.length_map, List.length_range, hsz]; decide) ?_ (fun H13 s13 hD2 => ?_)⟩)⟩
    · intro i o H' Qy Qn hi ho s' yes _
      rw [List.getElem?_map, List.getElem?_range hi] at ho
      obtain rfl := Option.some.inj ho
      exact ⟨rfl, _, rfl, x, dx, _, rfl, s' _ _ hxb, fld3_g, _, rfl, x, .int (0 + i), rfl, .inl ⟨fs, ys2, kq, e, 0 + i, rfl, by omega, (FXb.same s').full, fun H'' s'' => yes _ rfl H'' s''⟩⟩
    · intro i o H' Qy Qn hi ho s' yes _
      rw [List.getElem?_map, List.getElem?_range hi] at ho
      obtain rfl := Option.some.inj ho
      refine ⟨rfl, _, rfl, _, rfl, l, a1, a2, fs, xs, kq, e, 0 + i, rfl, (Db.same s12).same s', by omega, fun H'' s'' => ?_⟩
      rw [← valAt_perm perm]
      exact yes _ rfl H'' s''
    rw [fm_some] at hD1 hD2
    refine ⟨.list ((List.range 45).map fun (i : Nat) => gD (valAt fs (ys2.map kq) e (0 + ((i : Nat) : Int)))), .list ((List.range 45).map fun (i : Nat) => gD (valAt fs (ys2.map kq) e (0 + ((i : Nat) : Int)))), .lst (SqL.of (s13 _ _ hD1)) (dpG _ _), .lst (SqL.of hD2) (dpG _ _), shG _ _, shG _ _, _, rfl, ifF (eqv_no (shG _ _)) ?_⟩
    have sb := s12.trans s13
    have FXc := FXb.same sb
    have Dc := Db.same sb
    have pc := pb.same sb
    have bc := bb.trans (But.same sb)
    clear hD1 hD2 s12 s13 sb FXb Db hxb pb bb
    -- a great count
    refine ⟨_, _, rfl, rfl, ⟨by decide, by decide, by decide⟩, _, rfl, _, _, rfl, rfl, ⟨by decide, by decide, by decide⟩, pl, _, rfl, pc, by decide, by decide, fun r H14 r0 _ p14 b14 => ⟨_, _, rfl, rfl, ?_⟩⟩
    have g0 : (0 : Int) ≤ (10 : Int) ^ (29 : Int).toNat + r := by
      have : (0 : Int) ≤ (10 : Int) ^ (29 : Int).toNat := by decide
      omega
    have FXd := FXc.but b14 pc qx qf qs
    have Dd := Dc.but b14 pc ql q1 q2
    have bd' := bc.trans b14
    obtain ⟨dx, hxd⟩ := FXd.form
    refine ⟨_, rfl, x, dx, _, rfl, hxd, fld3_g, _, rfl, x, .int _, rfl, .inl ⟨fs, ys2, kq, e, _, rfl, g0, FXd.full, fun H15 s15 => ⟨_, rfl, _, rfl, l, a1, a2, fs, xs, kq, e, _, rfl, Dd.same s15, g0, fun H16 s16 => ⟨gV_scal _ _, _, rfl, ifF (by rw [← valAt_perm perm]; exact v_ne _) ?_⟩⟩⟩⟩
    have se := s15.trans s16
    have FXe := FXd.same se
    have De := Dd.same se
    have pe := p14.same se
    have be := bd'.trans (But.same se)
    -- the limits
    refine ⟨_, rfl, pl, 40, rfl, pe, by decide, by decide, fun r2 H17 c0 c1 p17 b17 => ⟨_, _, rfl, rfl, _, rfl, (by show 3 ≤ sizeLine; decide), fun Lm nLm => ?_⟩⟩
    have FXf := FXe.but b17 pe qx qf qs
    have Df := De.but b17 pe ql q1 q2
    have sL := same_new (o := .lst [V.int (r2 - 10), .int (-20), .int 60]) nLm
    have FXL := FXf.same sL
    have DL := Df.same sL
    have pL := p17.same sL
    have bL := (be.trans b17).trans (But.same sL)
    obtain ⟨dx, hxL⟩ := FXL.form
    obtain ⟨HL, eHL⟩ : ∃ HL, HL = upd H17 Lm (.lst [V.int (r2 - 10), .int (-20), .int 60]) := ⟨_, rfl⟩
    have hLm : HL Lm = some (.lst [V.int (r2 - 10), .int (-20), .int 60]) := by rw [eHL]; exact upd_same
    rw [← eHL] at FXL DL pL bL hxL ⊢
    clear eHL
    refine ⟨Lm, rfl, ⟨_, SqL.of hLm⟩, for_list (K := K) (a := Lm) (xs := [V.int (r2 - 10), .int (-20), .int 60])
      (fun i σ H' => ∃ v10 v11 v12, σ = [some (.ref sa), v1, some (.ref pl), some (.int (0 + ti)), some (.ref l), some (.ref hd), some (.ref x), v7, v8, some (.int ((10 : Int) ^ (29 : Int).toNat + r)), v10, v11, v12, v13] ∧ Same HL H')
      ⟨_, _, _, rfl, Same.refl _⟩ (fun i σ H' _ ⟨_, _, _, _, z⟩ => SqL.of (z _ _ hLm)) ?_ ?_⟩
    · rintro i y σ H' hi ⟨v10, v11, v12, rfl, z⟩
      obtain ⟨c, rfl, hc⟩ : ∃ c : Int, y = .int c ∧ c ≤ 60 := by
        have := List.mem_of_getElem? hi
        simp only [List.mem_cons, List.mem_nil_iff, or_false] at this
        rcases this with rfl | rfl | rfl
        · exact ⟨_, rfl, by omega⟩
        · exact ⟨_, rfl, by omega⟩
        · exact ⟨_, rfl, by omega⟩
      refine ⟨_, rfl, _, rfl, l, a1, a2, fs, xs, kq, e, c, rfl, DL.same z, fun rd H18 du s18 => ⟨_, rfl, x, rfl, _, rfl, ⟨dx, _, s18 _ _ (z _ _ hxL)⟩, x, .int c, rfl, .inl ⟨fs, ys2, kq, e, c, rfl, hc, ((FXL.same z).same s18).full, fun rr zz H19 lf2 lim s19 => ?_⟩⟩⟩
      obtain ⟨dz, hz⟩ := lim
      obtain rfl : rr = rd := due_eq lf2 (due_perm perm.symm du)
      exact ⟨zz, dz, _, rfl, hz, zz, dz, _, rfl, hz, _, _, rfl, _, rfl, _, rfl, vO_scal _ _, _, rfl, ifF (v_ne _) ⟨_, _, _, rfl, (z.trans s18).trans s19⟩⟩
    rintro σ H20 ⟨v10', v11', v12', rfl, z20⟩
    have FXg := FXL.same z20
    have pg := pL.same z20
    have bg := bL.trans (But.same z20)
    -- what greatest and the call refuse
    refine ⟨by decide +kernel, fun v H21 s21 hD => ?_⟩
    obtain ⟨L5, o5, rfl, hL5, hxs⟩ := DE.list (ds := odds5) hD
    refine ⟨L5, rfl, ⟨_, SqL.of hL5⟩, for_list (K := K) (a := L5) (xs := o5)
      (fun i σ H' => ∃ v13, σ = [some (.ref sa), v1, some (.ref pl), some (.int (0 + ti)), some (.ref l), some (.ref hd), some (.ref x), v7, v8, some (.int ((10 : Int) ^ (29 : Int).toNat + r)), v10', v11', v12', v13] ∧ Same H21 H')
      ⟨_, rfl, Same.refl _⟩ (fun i σ H' _ ⟨_, _, z⟩ => SqL.of (z _ _ hL5)) ?_ ?_⟩
    · rintro i y σ H' hi ⟨v13, rfl, z⟩
      obtain ⟨d, hd5, hy⟩ := DEs.pick hxs hi
      exact ⟨_, rfl, _, rfl, x, y, d, fs, ys2, kq, e, rfl, hy.same z, List.all_eq_true.mp bad5 d hd5, ((FXg.same s21).same z).full, fun H2 s2 => ⟨_, rfl, iteF ⟨_, rfl, z.trans s2⟩⟩⟩
    · rintro σ H22 ⟨v13', rfl, z22⟩
      exact ⟨_, _, _, _, _, _, _, _, _, _, _, _, rfl, bg.trans (But.same (s21.trans z22)), pg.same (s21.trans z22)⟩
end
end K39

set_option Elab.async false
set_option linter.all false
set_option maxRecDepth 100000
set_option maxHeartbeats 32000000
namespace K39
open PySem PySem.Spec PyProof.Rows L2 Lm
/-- an error of a class is what the clause of this class names -/
theorem own_clause {K : PySem.W.Frag} {S : Addr} (h1 : PySem.W.subIn K (.ref S) (.type "BaseException") = some true) (h2 : PySem.W.isClsIn K S = true) (h3 : PySem.W.typeIn K (.ref S) = some (.type "type"))
    (h4 : PySem.W.subIn K (.ref S) (.ref S) = some true) : PySem.W.exmOne K (.ref S) (.ref S) = some true := by
  have e1 : (PySem.W.subIn K (.ref S) (.type "BaseException") == some true) = true := by rw [h1] <;> rfl
  have e3 : (PySem.W.clsIn K S).isSome = true := h2
  have e2 : ((PySem.W.clsIn K S).isSome && PySem.W.typeIn K (.ref S) == some (.type "type")) = true := by rw [e3, h3] <;> rfl
  show (if (PySem.W.subIn K (.ref S) (.type "BaseException") == some true) = true then _ else none) = some true
  rw [if_pos e1]
  show (if ((PySem.W.clsIn K S).isSome && PySem.W.typeIn K (.ref S) == some (.type "type")) = true then _ else none) = some true
  rw [if_pos e2]
  exact h4


theorem all_mk {l : PySem.W.OpenLaw} {w : World} {K : PySem.W.Frag} {h : Heap} {mg : Str → Option Value} {fa CL CF CN CP CS pZ pF pS pE fIs fIn fN fP fZ fF fS fE fAF fAS fIS fIC fFI fGR fCA fGW fVA fFA fFO fLP fLT fLD fLA fLU fLR fLN fLS fL : Addr} (Y : K.In h) (G : h.Ns mainGlobals mg) (hfa : mg "law" = some (.ref fa))
    {restZ restF restS restE : List Value}
    {nmn qn : Str} {Nn : Addr} {bsn : List Value} {snn : List Str} {subn : List Value} {abn : Bool} {coln : Option Bool} {ddn : Option Addr} {m0n m1n m2n m3n m5n : Option Value}
    {nmp qp : Str} {Np : Addr} {bsp : List Value} {snp : List Str} {subp : List Value} {abp : Bool} {colp : Option Bool} {ddp : Option Addr} {m0p m1p m2p m3p m5p : Option Value}
    {odIs anIs : Option Addr} {slIs : Array (Option Value)} {ocIs kVIs dcIs pmIs cdIs ctIs : Value}
    {odIn anIn : Option Addr} {slIn : Array (Option Value)} {ocIn kVIn dcIn pmIn cdIn ctIn : Value}
    {odN anN : Option Addr} {slN : Array (Option Value)} {ocN kVN dcN pmN cdN ctN : Value}
    {odP anP : Option Addr} {slP : Array (Option Value)} {ocP kVP dcP pmP cdP ctP : Value}
    {odZ anZ : Option Addr} {slZ : Array (Option Value)} {ocZ kVZ dcZ pmZ cdZ ctZ : Value}
    {odF anF : Option Addr} {slF : Array (Option Value)} {ocF kVF dcF pmF cdF ctF : Value}
    {odS anS : Option Addr} {slS : Array (Option Value)} {ocS kVS dcS pmS cdS ctS : Value}
    {odE anE : Option Addr} {slE : Array (Option Value)} {ocE kVE dcE pmE cdE ctE : Value}
    {odAF anAF : Option Addr} {slAF : Array (Option Value)} {ocAF kVAF dcAF pmAF cdAF ctAF : Value}
    {odAS anAS : Option Addr} {slAS : Array (Option Value)} {ocAS kVAS dcAS pmAS cdAS ctAS : Value}
    {odIS anIS : Option Addr} {slIS : Array (Option Value)} {ocIS kVIS dcIS pmIS cdIS ctIS : Value}
    {odIC anIC : Option Addr} {slIC : Array (Option Value)} {ocIC kVIC dcIC pmIC cdIC ctIC : Value}
    {odFI anFI : Option Addr} {slFI : Array (Option Value)} {ocFI kVFI dcFI pmFI cdFI ctFI : Value}
    {odGR anGR : Option Addr} {slGR : Array (Option Value)} {ocGR kVGR dcGR pmGR cdGR ctGR : Value}
    {odCA anCA : Option Addr} {slCA : Array (Option Value)} {ocCA kVCA dcCA pmCA cdCA ctCA : Value}
    {odGW anGW : Option Addr} {slGW : Array (Option Value)} {ocGW kVGW dcGW pmGW cdGW ctGW : Value}
    {odVA anVA : Option Addr} {slVA : Array (Option Value)} {ocVA kVVA dcVA pmVA cdVA ctVA : Value}
    {odFA anFA : Option Addr} {slFA : Array (Option Value)} {ocFA kVFA dcFA pmFA cdFA ctFA : Value}
    {odFO anFO : Option Addr} {slFO : Array (Option Value)} {ocFO kVFO dcFO pmFO cdFO ctFO : Value}
    {odLP anLP : Option Addr} {slLP : Array (Option Value)} {ocLP kVLP dcLP pmLP cdLP ctLP : Value}
    {odLT anLT : Option Addr} {slLT : Array (Option Value)} {ocLT kVLT dcLT pmLT cdLT ctLT : Value}
    {odLD anLD : Option Addr} {slLD : Array (Option Value)} {ocLD kVLD dcLD pmLD cdLD ctLD : Value}
    {odLA anLA : Option Addr} {slLA : Array (Option Value)} {ocLA kVLA dcLA pmLA cdLA ctLA : Value}
    {odLU anLU : Option Addr} {slLU : Array (Option Value)} {ocLU kVLU dcLU pmLU cdLU ctLU : Value}
    {odLR anLR : Option Addr} {slLR : Array (Option Value)} {ocLR kVLR dcLR pmLR cdLR ctLR : Value}
    {odLN anLN : Option Addr} {slLN : Array (Option Value)} {ocLN kVLN dcLN pmLN cdLN ctLN : Value}
    {odLS anLS : Option Addr} {slLS : Array (Option Value)} {ocLS kVLS dcLS pmLS cdLS ctLS : Value}
    {odL anL : Option Addr} {slL : Array (Option Value)} {ocL kVL dcL pmL cdL ctL : Value}
    (oL : PySem.W.nsIn K mainGlobals "Limit" = some (some (.ref CL)))
    (oF : PySem.W.nsIn K mainGlobals "Formula" = some (some (.ref CF)))
    (oN : PySem.W.nsIn K mainGlobals "InvalidNumber" = some (some (.ref CN)))
    (oP : PySem.W.nsIn K mainGlobals "InvalidPaper" = some (some (.ref CP)))
    (aIs : PySem.W.nsIn K mainGlobals "is_integer" = some (some (.ref fIs)))
    (lIs : K.lookup fIs = some ⟨ocIs, odIs, .func (PySem.W.fnOf "is_integer" "is_integer" (defArgs sIsI) (defBody sIsI) (defScope sIsI) .none kVIs dcIs pmIs anIs cdIs ctIs), slIs⟩)
    (cIs : PySem.W.codeIn K cdIs "is_integer" = true)
    (kIs : PySem.W.keepIn K (.ref fIs) = true)
    (aIn : PySem.W.findIn K (.ref CL) "__init__" = some (some (.ref fIn)))
    (iIn : PySem.W.isFn K (.ref fIn) = true)
    (lIn : K.lookup fIn = some ⟨ocIn, odIn, .func (PySem.W.fnOf "__init__" "Limit.__init__" (defArgs sInit) (defBody sInit) (defScope sInit) .none kVIn dcIn pmIn anIn cdIn ctIn), slIn⟩)
    (cIn : PySem.W.codeIn K cdIn "Limit.__init__" = true)
    (kIn : PySem.W.keepIn K (.ref fIn) = true)
    (aN : PySem.W.findIn K (.ref CN) "__init__" = some (some (.ref fN)))
    (iN : PySem.W.typeIn K (.ref fN) = some (.type "function"))
    (lN : K.lookup fN = some ⟨ocN, odN, .func (PySem.W.fnOf "__init__" "InvalidNumber.__init__" (defArgs sNI) (defBody sNI) (defScope sNI) .none kVN dcN pmN anN cdN ctN), slN⟩)
    (cN : PySem.W.codeIn K cdN "InvalidNumber.__init__" = true)
    (kN : PySem.W.keepIn K (.ref fN) = true)
    (aP : PySem.W.findIn K (.ref CP) "__init__" = some (some (.ref fP)))
    (iP : PySem.W.typeIn K (.ref fP) = some (.type "function"))
    (lP : K.lookup fP = some ⟨ocP, odP, .func (PySem.W.fnOf "__init__" "InvalidPaper.__init__" (defArgs sPI) (defBody sPI) (defScope sPI) .none kVP dcP pmP anP cdP ctP), slP⟩)
    (cP : PySem.W.codeIn K cdP "InvalidPaper.__init__" = true)
    (kP : PySem.W.keepIn K (.ref fP) = true)
    (pAZ : PySem.W.findIn K (.ref CL) "size" = some (some (.ref pZ)))
    (pGZ : PySem.W.specialIn K (.ref pZ) "__get__" = some (some (.builtin "property.__get__")))
    (pTZ : PySem.W.takesIn K (.ref pZ) = some true)
    (pRZ : PySem.W.recIn K pZ "property" = some (.ref fZ :: restZ))
    (lZ : K.lookup fZ = some ⟨ocZ, odZ, .func (PySem.W.fnOf "size" "Limit.size" (defArgs sSize) (defBody sSize) (defScope sSize) .none kVZ dcZ pmZ anZ cdZ ctZ), slZ⟩)
    (cZ : PySem.W.codeIn K cdZ "Limit.size" = true)
    (kZ : PySem.W.keepIn K (.ref fZ) = true)
    (pAF : PySem.W.findIn K (.ref CF) "firsts" = some (some (.ref pF)))
    (pGF : PySem.W.specialIn K (.ref pF) "__get__" = some (some (.builtin "property.__get__")))
    (pTF : PySem.W.takesIn K (.ref pF) = some true)
    (pRF : PySem.W.recIn K pF "property" = some (.ref fF :: restF))
    (lF : K.lookup fF = some ⟨ocF, odF, .func (PySem.W.fnOf "firsts" "Formula.firsts" (defArgs sFirsts) (defBody sFirsts) (defScope sFirsts) .none kVF dcF pmF anF cdF ctF), slF⟩)
    (cF : PySem.W.codeIn K cdF "Formula.firsts" = true)
    (kF : PySem.W.keepIn K (.ref fF) = true)
    (pAS : PySem.W.findIn K (.ref CF) "stairs" = some (some (.ref pS)))
    (pGS : PySem.W.specialIn K (.ref pS) "__get__" = some (some (.builtin "property.__get__")))
    (pTS : PySem.W.takesIn K (.ref pS) = some true)
    (pRS : PySem.W.recIn K pS "property" = some (.ref fS :: restS))
    (lS : K.lookup fS = some ⟨ocS, odS, .func (PySem.W.fnOf "stairs" "Formula.stairs" (defArgs sStairs) (defBody sStairs) (defScope sStairs) .none kVS dcS pmS anS cdS ctS), slS⟩)
    (cS : PySem.W.codeIn K cdS "Formula.stairs" = true)
    (kS : PySem.W.keepIn K (.ref fS) = true)
    (pAE : PySem.W.findIn K (.ref CF) "endless" = some (some (.ref pE)))
    (pGE : PySem.W.specialIn K (.ref pE) "__get__" = some (some (.builtin "property.__get__")))
    (pTE : PySem.W.takesIn K (.ref pE) = some true)
    (pRE : PySem.W.recIn K pE "property" = some (.ref fE :: restE))
    (lE : K.lookup fE = some ⟨ocE, odE, .func (PySem.W.fnOf "endless" "Formula.endless" (defArgs sEndless) (defBody sEndless) (defScope sEndless) .none kVE dcE pmE anE cdE ctE), slE⟩)
    (cE : PySem.W.codeIn K cdE "Formula.endless" = true)
    (kE : PySem.W.keepIn K (.ref fE) = true)
    (aAF : PySem.W.nsIn K mainGlobals "are_firsts" = some (some (.ref fAF)))
    (lAF : K.lookup fAF = some ⟨ocAF, odAF, .func (PySem.W.fnOf "are_firsts" "are_firsts" (defArgs sAreF) (defBody sAreF) (defScope sAreF) .none kVAF dcAF pmAF anAF cdAF ctAF), slAF⟩)
    (cAF : PySem.W.codeIn K cdAF "are_firsts" = true)
    (kAF : PySem.W.keepIn K (.ref fAF) = true)
    (aAS : PySem.W.nsIn K mainGlobals "are_stairs" = some (some (.ref fAS)))
    (lAS : K.lookup fAS = some ⟨ocAS, odAS, .func (PySem.W.fnOf "are_stairs" "are_stairs" (defArgs sAreS) (defBody sAreS) (defScope sAreS) .none kVAS dcAS pmAS anAS cdAS ctAS), slAS⟩)
    (cAS : PySem.W.codeIn K cdAS "are_stairs" = true)
    (kAS : PySem.W.keepIn K (.ref fAS) = true)
    (aIS : PySem.W.nsIn K mainGlobals "is_stair" = some (some (.ref fIS)))
    (lIS : K.lookup fIS = some ⟨ocIS, odIS, .func (PySem.W.fnOf "is_stair" "is_stair" (defArgs sIsS) (defBody sIsS) (defScope sIsS) .none kVIS dcIS pmIS anIS cdIS ctIS), slIS⟩)
    (cIS : PySem.W.codeIn K cdIS "is_stair" = true)
    (kIS : PySem.W.keepIn K (.ref fIS) = true)
    (aIC : PySem.W.nsIn K mainGlobals "is_count" = some (some (.ref fIC)))
    (lIC : K.lookup fIC = some ⟨ocIC, odIC, .func (PySem.W.fnOf "is_count" "is_count" (defArgs sIsC) (defBody sIsC) (defScope sIsC) .none kVIC dcIC pmIC anIC cdIC ctIC), slIC⟩)
    (cIC : PySem.W.codeIn K cdIC "is_count" = true)
    (kIC : PySem.W.keepIn K (.ref fIC) = true)
    (aFI : PySem.W.findIn K (.ref CF) "__init__" = some (some (.ref fFI)))
    (iFI : PySem.W.isFn K (.ref fFI) = true)
    (lFI : K.lookup fFI = some ⟨ocFI, odFI, .func (PySem.W.fnOf "__init__" "Formula.__init__" (defArgs sFI) (defBody sFI) (defScope sFI) .none kVFI dcFI pmFI anFI cdFI ctFI), slFI⟩)
    (cFI : PySem.W.codeIn K cdFI "Formula.__init__" = true)
    (kFI : PySem.W.keepIn K (.ref fFI) = true)
    (aGR : PySem.W.findIn K (.ref CF) "greatest" = some (some (.ref fGR)))
    (iGR : PySem.W.isFn K (.ref fGR) = true)
    (lGR : K.lookup fGR = some ⟨ocGR, odGR, .func (PySem.W.fnOf "greatest" "Formula.greatest" (defArgs sGreatest) (defBody sGreatest) (defScope sGreatest) .none kVGR dcGR pmGR anGR cdGR ctGR), slGR⟩)
    (cGR : PySem.W.codeIn K cdGR "Formula.greatest" = true)
    (kGR : PySem.W.keepIn K (.ref fGR) = true)
    (aCA : PySem.W.findIn K (.ref CF) "__call__" = some (some (.ref fCA)))
    (iCA : PySem.W.isFn K (.ref fCA) = true)
    (lCA : K.lookup fCA = some ⟨ocCA, odCA, .func (PySem.W.fnOf "__call__" "Formula.__call__" (defArgs sCall) (defBody sCall) (defScope sCall) .none kVCA dcCA pmCA anCA cdCA ctCA), slCA⟩)
    (cCA : PySem.W.codeIn K cdCA "Formula.__call__" = true)
    (kCA : PySem.W.keepIn K (.ref fCA) = true)
    (aGW : PySem.W.findIn K (.ref CF) "_growth" = some (some (.ref fGW)))
    (iGW : PySem.W.isFn K (.ref fGW) = true)
    (lGW : K.lookup fGW = some ⟨ocGW, odGW, .func (PySem.W.fnOf "_growth" "Formula._growth" (defArgs sGrowth) (defBody sGrowth) (defScope sGrowth) .none kVGW dcGW pmGW anGW cdGW ctGW), slGW⟩)
    (cGW : PySem.W.codeIn K cdGW "Formula._growth" = true)
    (kGW : PySem.W.keepIn K (.ref fGW) = true)
    (aVA : PySem.W.nsIn K mainGlobals "value_at" = some (some (.ref fVA)))
    (lVA : K.lookup fVA = some ⟨ocVA, odVA, .func (PySem.W.fnOf "value_at" "value_at" (defArgs sValueAt) (defBody sValueAt) (defScope sValueAt) .none kVVA dcVA pmVA anVA cdVA ctVA), slVA⟩)
    (cVA : PySem.W.codeIn K cdVA "value_at" = true)
    (kVA : PySem.W.keepIn K (.ref fVA) = true)
    (aFA : PySem.W.nsIn K mainGlobals "first_above" = some (some (.ref fFA)))
    (lFA : K.lookup fFA = some ⟨ocFA, odFA, .func (PySem.W.fnOf "first_above" "first_above" (defArgs sFirstAbove) (defBody sFirstAbove) (defScope sFirstAbove) .none kVFA dcFA pmFA anFA cdFA ctFA), slFA⟩)
    (cFA : PySem.W.codeIn K cdFA "first_above" = true)
    (kFA : PySem.W.keepIn K (.ref fFA) = true)
    (aFO : PySem.W.nsIn K mainGlobals "first_on" = some (some (.ref fFO)))
    (lFO : K.lookup fFO = some ⟨ocFO, odFO, .func (PySem.W.fnOf "first_on" "first_on" (defArgs sFirstOn) (defBody sFirstOn) (defScope sFirstOn) .none kVFO dcFO pmFO anFO cdFO ctFO), slFO⟩)
    (cFO : PySem.W.codeIn K cdFO "first_on" = true)
    (kFO : PySem.W.keepIn K (.ref fFO) = true)
    (aLP : PySem.W.nsIn K mainGlobals "_law_pool" = some (some (.ref fLP)))
    (lLP : K.lookup fLP = some ⟨ocLP, odLP, .func (PySem.W.fnOf "_law_pool" "_law_pool" (defArgs sPool) (defBody sPool) (defScope sPool) .none kVLP dcLP pmLP anLP cdLP ctLP), slLP⟩)
    (cLP : PySem.W.codeIn K cdLP "_law_pool" = true)
    (kLP : PySem.W.keepIn K (.ref fLP) = true)
    (aLT : PySem.W.nsIn K mainGlobals "_law_take" = some (some (.ref fLT)))
    (lLT : K.lookup fLT = some ⟨ocLT, odLT, .func (PySem.W.fnOf "_law_take" "_law_take" (defArgs sTake) (defBody sTake) (defScope sTake) .none kVLT dcLT pmLT anLT cdLT ctLT), slLT⟩)
    (cLT : PySem.W.codeIn K cdLT "_law_take" = true)
    (kLT : PySem.W.keepIn K (.ref fLT) = true)
    (aLD : PySem.W.nsIn K mainGlobals "_law_drawn" = some (some (.ref fLD)))
    (lLD : K.lookup fLD = some ⟨ocLD, odLD, .func (PySem.W.fnOf "_law_drawn" "_law_drawn" (defArgs sDrawn) (defBody sDrawn) (defScope sDrawn) .none kVLD dcLD pmLD anLD cdLD ctLD), slLD⟩)
    (cLD : PySem.W.codeIn K cdLD "_law_drawn" = true)
    (kLD : PySem.W.keepIn K (.ref fLD) = true)
    (aLA : PySem.W.nsIn K mainGlobals "_law_at" = some (some (.ref fLA)))
    (lLA : K.lookup fLA = some ⟨ocLA, odLA, .func (PySem.W.fnOf "_law_at" "_law_at" (defArgs sAt) (defBody sAt) (defScope sAt) .none kVLA dcLA pmLA anLA cdLA ctLA), slLA⟩)
    (cLA : PySem.W.codeIn K cdLA "_law_at" = true)
    (kLA : PySem.W.keepIn K (.ref fLA) = true)
    (aLU : PySem.W.nsIn K mainGlobals "_law_due" = some (some (.ref fLU)))
    (lLU : K.lookup fLU = some ⟨ocLU, odLU, .func (PySem.W.fnOf "_law_due" "_law_due" (defArgs sDue) (defBody sDue) (defScope sDue) .none kVLU dcLU pmLU anLU cdLU ctLU), slLU⟩)
    (cLU : PySem.W.codeIn K cdLU "_law_due" = true)
    (kLU : PySem.W.keepIn K (.ref fLU) = true)
    (aLR : PySem.W.nsIn K mainGlobals "_law_refused" = some (some (.ref fLR)))
    (lLR : K.lookup fLR = some ⟨ocLR, odLR, .func (PySem.W.fnOf "_law_refused" "_law_refused" (defArgs sRef) (defBody sRef) (defScope sRef) .none kVLR dcLR pmLR anLR cdLR ctLR), slLR⟩)
    (cLR : PySem.W.codeIn K cdLR "_law_refused" = true)
    (kLR : PySem.W.keepIn K (.ref fLR) = true)
    (aLN : PySem.W.nsIn K mainGlobals "_law_number_refused" = some (some (.ref fLN)))
    (lLN : K.lookup fLN = some ⟨ocLN, odLN, .func (PySem.W.fnOf "_law_number_refused" "_law_number_refused" (defArgs sNRef) (defBody sNRef) (defScope sNRef) .none kVLN dcLN pmLN anLN cdLN ctLN), slLN⟩)
    (cLN : PySem.W.codeIn K cdLN "_law_number_refused" = true)
    (kLN : PySem.W.keepIn K (.ref fLN) = true)
    (aLS : PySem.W.nsIn K mainGlobals "_law_refusals_right" = some (some (.ref fLS)))
    (lLS : K.lookup fLS = some ⟨ocLS, odLS, .func (PySem.W.fnOf "_law_refusals_right" "_law_refusals_right" (defArgs sRefs) (defBody sRefs) (defScope sRefs) .none kVLS dcLS pmLS anLS cdLS ctLS), slLS⟩)
    (cLS : PySem.W.codeIn K cdLS "_law_refusals_right" = true)
    (kLS : PySem.W.keepIn K (.ref fLS) = true)
    (aL : PySem.W.nsIn K mainGlobals "law" = some (some (.ref fL)))
    (lL : K.lookup fL = some ⟨ocL, odL, .func (PySem.W.fnOf "law" "law" (defArgs sLaw) (defBody sLaw) (defScope sLaw) .none kVL dcL pmL anL cdL ctL), slL⟩)
    (cL : PySem.W.codeIn K cdL "law" = true)
    (kL : PySem.W.keepIn K (.ref fL) = true)
    (xLn : K.lookup CN = some (excClassObj nmn qn CN Nn bsn [.ref CS, .type "ValueError", .type "Exception", .type "BaseException", .type "object"] true snn subn abn coln ddn m0n m1n m2n m3n m5n "ValueError.__new__"))
    (xan : PySem.W.findIn K (.ref CN) "__setattr__" = some (some (.builtin "object.__setattr__")))
    (xgn : PySem.W.findIn K (.ref CN) "__getattribute__" = some (some (.builtin "BaseException.__getattribute__")))
    (xhn : PySem.W.findIn K (.ref CN) "__getattr__" = some none)
    (xvn : PySem.W.findIn K (.ref CN) "value" = some none)
    (xkn : PySem.W.keepIn K (.ref CN) = true)
    (xen : PySem.W.subIn K (.ref CN) (.type "BaseException") = some true)
    (xtn : PySem.W.typeIn K (.ref CN) = some (.type "type"))
    (xdn : PySem.W.hasDictIn K CN = true)
    (xin : PySem.W.isClsIn K CN = true)
    (xsn : PySem.W.subIn K (.ref CN) (.ref CN) = some true)
    (xLp : K.lookup CP = some (excClassObj nmp qp CP Np bsp [.ref CS, .type "ValueError", .type "Exception", .type "BaseException", .type "object"] true snp subp abp colp ddp m0p m1p m2p m3p m5p "ValueError.__new__"))
    (xap : PySem.W.findIn K (.ref CP) "__setattr__" = some (some (.builtin "object.__setattr__")))
    (xgp : PySem.W.findIn K (.ref CP) "__getattribute__" = some (some (.builtin "BaseException.__getattribute__")))
    (xhp : PySem.W.findIn K (.ref CP) "__getattr__" = some none)
    (xvp : PySem.W.findIn K (.ref CP) "value" = some none)
    (xkp : PySem.W.keepIn K (.ref CP) = true)
    (xep : PySem.W.subIn K (.ref CP) (.type "BaseException") = some true)
    (xtp : PySem.W.typeIn K (.ref CP) = some (.type "type"))
    (xdp : PySem.W.hasDictIn K CP = true)
    (xip : PySem.W.isClsIn K CP = true)
    (xsp : PySem.W.subIn K (.ref CP) (.ref CP) = some true)
    (pgl : PySem.W.plainGet K CL Str.empty = true)
    (hdl : PySem.W.hasDictIn K CL = true)
    (pol : PySem.W.plainOver K CL = true)
    (sal : PySem.W.findIn K (.ref CL) "__setattr__" = some (some (.builtin "object.__setattr__")))
    (mkl : PySem.W.makesIn K CL = true)
    (kcl : PySem.W.keepIn K (.ref CL) = true)
    (pgf : PySem.W.plainGet K CF Str.empty = true)
    (hdf : PySem.W.hasDictIn K CF = true)
    (pof : PySem.W.plainOver K CF = true)
    (saf : PySem.W.findIn K (.ref CF) "__setattr__" = some (some (.builtin "object.__setattr__")))
    (mkf : PySem.W.makesIn K CF = true)
    (kcf : PySem.W.keepIn K (.ref CF) = true)
    (nZ : PySem.W.findIn K (.ref CL) "_size" = some none)
    (nF : PySem.W.findIn K (.ref CF) "_firsts" = some none)
    (nS : PySem.W.findIn K (.ref CF) "_stairs" = some none)
    (nE : PySem.W.findIn K (.ref CF) "_endless" = some none)
    (fnC : PySem.W.fnIn K fCA = true)
    (z0 : PySem.W.nsIn K mainGlobals "isinstance" = some none)
    (z1 : PySem.W.nsIn K mainGlobals "int" = some none)
    (z2 : PySem.W.nsIn K mainGlobals "bool" = some none)
    (z3 : PySem.W.nsIn K mainGlobals "list" = some none)
    (z4 : PySem.W.nsIn K mainGlobals "tuple" = some none)
    (z5 : PySem.W.nsIn K mainGlobals "min" = some none)
    (z6 : PySem.W.nsIn K mainGlobals "max" = some none)
    (z7 : PySem.W.nsIn K mainGlobals "abs" = some none)
    (z8 : PySem.W.nsIn K mainGlobals "len" = some none)
    (z9 : PySem.W.nsIn K mainGlobals "all" = some none)
    (z10 : PySem.W.nsIn K mainGlobals "repr" = some none)
    (z11 : PySem.W.nsIn K mainGlobals "range" = some none)
    (z12 : PySem.W.nsIn K mainGlobals "enumerate" = some none)
    (z13 : PySem.W.nsIn K mainGlobals "sorted" = some none)
    : ∃ fd : FuncData, (∀ (s : Shared) (u : Value), BindsTo s fd ⟨[u], []⟩ [("_law_script", u)]) ∧ ∀ base : Heap, K.In base → base.Ns mainGlobals mg → FnG l.prog w K mg base CX0 8 fa fd ["_law_script"] (spLaw K) := by
  have e := hfa.symm.trans (PySem.W.mg_of Y G aL)
  cases e
  have XN : ExT K CN fN := { ox := ⟨⟨nmn, qn, Nn, bsn, _, snn, subn, abn, coln, ddn, m0n, m1n, m2n, m3n, m5n, xLn, rfl⟩, xan, xen, xtn, xkn⟩, nV := xvn, iN := aN, tN := iN, xf := ⟨xgn, xhn, xen, xdn⟩, te := own_clause xen xin xtn xsn }
  have XP : ExT K CP fP := { ox := ⟨⟨nmp, qp, Np, bsp, _, snp, subp, abp, colp, ddp, m0p, m1p, m2p, m3p, m5p, xLp, rfl⟩, xap, xep, xtp, xkp⟩, nV := xvp, iN := aP, tN := iP, xf := ⟨xgp, xhp, xep, xdp⟩, te := own_clause xep xip xtp xsp }
  have T : Txt K mg ⟨CL, CF, CN, CP, fN, fP, pZ, fZ, pF, fF, pS, fS, pE, fE⟩ :=
    { cL := ⟨pgl, hdl, pol, sal⟩, cF := ⟨pgf, hdf, pof, saf⟩, nZ := nZ, nF := nF, nS := nS, nE := nE, pZ := ⟨pAZ, pGZ, pTZ, _, pRZ⟩, pF := ⟨pAF, pGF, pTF, _, pRF⟩, pS := ⟨pAS, pGS, pTS, _, pRS⟩, pE := ⟨pAE, pGE, pTE, _, pRE⟩,
      xN := XN, xP := XP, mgL := PySem.W.mg_of Y G oL, mgF := PySem.W.mg_of Y G oF, mgN := PySem.W.mg_of Y G oN, mgP := PySem.W.mg_of Y G oP,
      isi := PySem.W.mg_none_of Y G z0, int_ := PySem.W.mg_none_of Y G z1, bool_ := PySem.W.mg_none_of Y G z2, list_ := PySem.W.mg_none_of Y G z3, tuple_ := PySem.W.mg_none_of Y G z4, min_ := PySem.W.mg_none_of Y G z5, max_ := PySem.W.mg_none_of Y G z6, abs_ := PySem.W.mg_none_of Y G z7, len_ := PySem.W.mg_none_of Y G z8, all_ := PySem.W.mg_none_of Y G z9, rep := PySem.W.mg_none_of Y G z10, rng := PySem.W.mg_none_of Y G z11, enum := PySem.W.mg_none_of Y G z12, sorted_ := PySem.W.mg_none_of Y G z13 }
  have ML : Mk K CL fIn := ⟨mkl, aIn, iIn, kcl⟩
  have MF : Mk K CF fFI := ⟨mkf, aFI, iFI, kcf⟩
  have FIs := fun_mk (st := sIsI) lIs cIs kIs
  have bIs := FIs.binds (ps := ["value"]) fun _ _ _ _ _ _ us hl => match us, hl with | [_], _ => rfl
  have FIn := fun_mk (st := sInit) lIn cIn kIn
  have bIn := FIn.binds (ps := ["self", "size"]) fun _ _ _ _ _ _ us hl => match us, hl with | [_, _], _ => rfl
  have FN := fun_mk (st := sNI) lN cN kN
  have bN := FN.binds (ps := ["self", "value"]) fun _ _ _ _ _ _ us hl => match us, hl with | [_, _], _ => rfl
  have FP := fun_mk (st := sPI) lP cP kP
  have bP := FP.binds (ps := ["self", "value"]) fun _ _ _ _ _ _ us hl => match us, hl with | [_, _], _ => rfl
  have FZ := fun_mk (st := sSize) lZ cZ kZ
  have bZ := FZ.binds (ps := ["self"]) fun _ _ _ _ _ _ us hl => match us, hl with | [_], _ => rfl
  have FF := fun_mk (st := sFirsts) lF cF kF
  have bF := FF.binds (ps := ["self"]) fun _ _ _ _ _ _ us hl => match us, hl with | [_], _ => rfl
  have FS := fun_mk (st := sStairs) lS cS kS
  have bS := FS.binds (ps := ["self"]) fun _ _ _ _ _ _ us hl => match us, hl with | [_], _ => rfl
  have FE := fun_mk (st := sEndless) lE cE kE
  have bE := FE.binds (ps := ["self"]) fun _ _ _ _ _ _ us hl => match us, hl with | [_], _ => rfl
  have FAF := fun_mk (st := sAreF) lAF cAF kAF
  have bAF := FAF.binds (ps := ["value"]) fun _ _ _ _ _ _ us hl => match us, hl with | [_], _ => rfl
  have FAS := fun_mk (st := sAreS) lAS cAS kAS
  have bAS := FAS.binds (ps := ["value"]) fun _ _ _ _ _ _ us hl => match us, hl with | [_], _ => rfl
  have FIS := fun_mk (st := sIsS) lIS cIS kIS
  have bIS := FIS.binds (ps := ["value"]) fun _ _ _ _ _ _ us hl => match us, hl with | [_], _ => rfl
  have FIC := fun_mk (st := sIsC) lIC cIC kIC
  have bIC := FIC.binds (ps := ["value"]) fun _ _ _ _ _ _ us hl => match us, hl with | [_], _ => rfl
  have FFI := fun_mk (st := sFI) lFI cFI kFI
  have bFI := FFI.binds (ps := ["self", "firsts", "stairs", "endless"]) fun _ _ _ _ _ _ us hl => match us, hl with | [_, _, _, _], _ => rfl
  have FGR := fun_mk (st := sGreatest) lGR cGR kGR
  have bGR := FGR.binds (ps := ["self", "count"]) fun _ _ _ _ _ _ us hl => match us, hl with | [_, _], _ => rfl
  have FCA := fun_mk (st := sCall) lCA cCA kCA
  have bCA := FCA.binds (ps := ["self", "most"]) fun _ _ _ _ _ _ us hl => match us, hl with | [_, _], _ => rfl
  have FGW := fun_mk (st := sGrowth) lGW cGW kGW
  have bGW := FGW.binds (ps := ["self"]) fun _ _ _ _ _ _ us hl => match us, hl with | [_], _ => rfl
  have FVA := fun_mk (st := sValueAt) lVA cVA kVA
  have bVA := FVA.binds (ps := ["growth", "count"]) fun _ _ _ _ _ _ us hl => match us, hl with | [_, _], _ => rfl
  have FFA := fun_mk (st := sFirstAbove) lFA cFA kFA
  have bFA := FFA.binds (ps := ["growth", "most"]) fun _ _ _ _ _ _ us hl => match us, hl with | [_, _], _ => rfl
  have FFO := fun_mk (st := sFirstOn) lFO cFO kFO
  have bFO := FFO.binds (ps := ["stair", "least", "most"]) fun _ _ _ _ _ _ us hl => match us, hl with | [_, _, _], _ => rfl
  have FLP := fun_mk (st := sPool) lLP cLP kLP
  have bLP := FLP.binds (ps := ["_law_script", "_law_k"]) fun _ _ _ _ _ _ us hl => match us, hl with | [_, _], _ => rfl
  have FLT := fun_mk (st := sTake) lLT cLT kLT
  have bLT := FLT.binds (ps := ["_law_pool_here", "_law_many"]) fun _ _ _ _ _ _ us hl => match us, hl with | [_, _], _ => rfl
  have FLD := fun_mk (st := sDrawn) lLD cLD kLD
  have bLD := FLD.binds (ps := ["_law_pool_here"]) fun _ _ _ _ _ _ us hl => match us, hl with | [_], _ => rfl
  have FLA := fun_mk (st := sAt) lLA cLA kLA
  have bLA := FLA.binds (ps := ["_law_parts", "_law_count"]) fun _ _ _ _ _ _ us hl => match us, hl with | [_, _], _ => rfl
  have FLU := fun_mk (st := sDue) lLU cLU kLU
  have bLU := FLU.binds (ps := ["_law_parts", "_law_most", "_law_length"]) fun _ _ _ _ _ _ us hl => match us, hl with | [_, _, _], _ => rfl
  have FLR := fun_mk (st := sRef) lLR cLR kLR
  have bLR := FLR.binds (ps := ["_law_one", "_law_two", "_law_three"]) fun _ _ _ _ _ _ us hl => match us, hl with | [_, _, _], _ => rfl
  have FLN := fun_mk (st := sNRef) lLN cLN kLN
  have bLN := FLN.binds (ps := ["_law_made", "_law_odd"]) fun _ _ _ _ _ _ us hl => match us, hl with | [_, _], _ => rfl
  have FLS := fun_mk (st := sRefs) lLS cLS kLS
  have bLS := FLS.binds (ps := []) fun _ _ _ _ _ _ us hl => match us, hl with | [], _ => rfl
  have FL := fun_mk (st := sLaw) lL cL kL
  have bL := FL.binds (ps := ["_law_script"]) fun _ _ _ _ _ _ us hl => match us, hl with | [_], _ => rfl
  refine ⟨PySem.W.fnOf "law" "law" (defArgs sLaw) (defBody sLaw) (defScope sLaw) .none kVL dcL pmL anL cdL ctL, fun s u => .of_eq rfl, fun base _ _ => ?_⟩
  have GIs : FnOk l.prog w K mg base CX0 1 fIs _ ["value"] spIsI := ok_isI FIs T
  have GIC : FnOk l.prog w K mg base CX0 2 fIC _ ["value"] spIsC := ok_isC FIC GIs bIs (PySem.W.mg_of Y G aIs) kIs
  have GN : FnOk l.prog w K mg base CX0 1 fN _ ["self", "value"] (spNI CN) := ok_NI (a := ⟨CL, CF, CN, CP, fN, fP, pZ, fZ, pF, fF, pS, fS, pE, fE⟩) FN XN
  have GP : FnOk l.prog w K mg base CX0 1 fP _ ["self", "value"] (spNI CP) := ok_PI (a := ⟨CL, CF, CN, CP, fN, fP, pZ, fZ, pF, fF, pS, fS, pE, fE⟩) FP XP
  have GAF : FnOk l.prog w K mg base CX0 2 fAF _ ["value"] (spAre areF) := ok_areF FAF T GIs bIs (PySem.W.mg_of Y G aIs) kIs
  have GIS : FnOk l.prog w K mg base CX0 2 fIS _ ["value"] (spAre isSt) := ok_isS FIS T GIs bIs (PySem.W.mg_of Y G aIs) kIs
  have GAS : FnOk l.prog w K mg base CX0 3 fAS _ ["value"] spAreS := ok_areS FAS T GIS bIS (PySem.W.mg_of Y G aIS) kIS
  have GFI : FnOk l.prog w K mg base (L2.CX l.prog w) 4 fFI _ NFI (spFI ⟨CL, CF, CN, CP, fN, fP, pZ, fZ, pF, fF, pS, fS, pE, fE⟩) := ok_FI FFI T GAF bAF (PySem.W.mg_of Y G aAF) kAF GAS bAS (PySem.W.mg_of Y G aAS) kAS GIC bIC (PySem.W.mg_of Y G aIC) kIC GP bP
  have GW : FnOk l.prog w K mg base CX0 1 fGW _ ["self"] (spGrowth ⟨CL, CF, CN, CP, fN, fP, pZ, fZ, pF, fF, pS, fS, pE, fE⟩) := ok_growth FGW T
  have GVA : FnOk l.prog w K mg base CX0 1 fVA _ ["growth", "count"] (spVal K) := ok_val FVA T
  have GFO : FnOk l.prog w K mg base CX0 1 fFO _ ["stair", "least", "most"] spFO := ok_FO FFO T
  have GFA : FnOk l.prog w K mg base CX0 2 fFA _ ["growth", "most"] spFA := ok_FA FFA T GFO bFO (PySem.W.mg_of Y G aFO) kFO
  have GLI : FnOk l.prog w K mg base CX0 2 fIn _ ["self", "size"] (spLI ⟨CL, CF, CN, CP, fN, fP, pZ, fZ, pF, fF, pS, fS, pE, fE⟩) := ok_LI FIn T GIs bIs (PySem.W.mg_of Y G aIs) kIs
  have GGR : FnOk l.prog w K mg base (L2.CX l.prog w) 3 fGR _ ["self", "count"] (spGr ⟨CL, CF, CN, CP, fN, fP, pZ, fZ, pF, fF, pS, fS, pE, fE⟩) := ok_Gr FGR T GIC bIC (PySem.W.mg_of Y G aIC) kIC GW bGW ⟨aGW, iGW, kGW⟩ GVA bVA (PySem.W.mg_of Y G aVA) kVA GN bN
  have GCA : FnOk l.prog w K mg base (L2.CX l.prog w) 4 fCA _ ["self", "most"] (spCa ⟨CL, CF, CN, CP, fN, fP, pZ, fZ, pF, fF, pS, fS, pE, fE⟩) := ok_Ca FCA T GIs bIs (PySem.W.mg_of Y G aIs) kIs GW bGW ⟨aGW, iGW, kGW⟩ GFA bFA (PySem.W.mg_of Y G aFA) kFA ML GLI bIn GN bN
  have GLT : FnOk l.prog w K mg base CX0 1 fLT _ ["_law_pool_here", "_law_many"] spTake := ok_take FLT T
  have GLA : FnOk l.prog w K mg base CX0 1 fLA _ ["_law_parts", "_law_count"] spAt := ok_At FLA T
  have GLR : FnG l.prog w K mg base CX0 6 fLR _ ["_law_one", "_law_two", "_law_three"] spRef := ok_ref FLR T MF GFI bFI
  have CC : StX.CallO K CF fCA := ⟨aCA, iCA, fnC⟩
  exact ok_law FL ⟨T, ⟨_, _, MF, GFI, bFI⟩, ⟨_, ok_firsts FF T, bF⟩, ⟨_, ok_stairs FS T, bS⟩, ⟨_, ok_endless FE T, bE⟩, ⟨_, ok_size FZ T, bZ⟩, ⟨_, _, GGR, bGR, aGR, iGR, kGR⟩, ⟨_, _, GCA, bCA, CC⟩,
    ⟨_, _, ok_pool FLP T, bLP, PySem.W.mg_of Y G aLP, kLP⟩, ⟨_, _, GLT, bLT, PySem.W.mg_of Y G aLT, kLT⟩, ⟨_, _, ok_drawn FLD T GLT bLT (PySem.W.mg_of Y G aLT) kLT, bLD, PySem.W.mg_of Y G aLD, kLD⟩,
    ⟨_, _, GLA, bLA, PySem.W.mg_of Y G aLA, kLA⟩, ⟨_, _, ok_Due FLU T GLA bLA (PySem.W.mg_of Y G aLA) kLA, bLU, PySem.W.mg_of Y G aLU, kLU⟩,
    ⟨_, _, ok_NRef FLN T GGR bGR ⟨aGR, iGR, kGR⟩ GCA bCA CC, bLN, PySem.W.mg_of Y G aLN, kLN⟩, ⟨_, _, ok_refs FLS T GLR bLR (PySem.W.mg_of Y G aLR) kLR, bLS, PySem.W.mg_of Y G aLS, kLS⟩⟩
theorem walk {l : PySem.W.OpenLaw} {q : Program} {loose : List Str} {XP : (Str → Option Value) → Heap → Prop} {YP : World → Heap → Prop} {d : DefRec} {K : Params → PySem.W.Frag} (hn : l.most = some 63) (hdf : d.params.defaults = [])
    (hY : ∀ (w : World) (h : Heap), YP w h → (K w.params).In h)
    (F : ∀ (w : World) (mg : Str → Option Value) (fa : Addr) (h : Heap), (K w.params).In h → h.Ns mainGlobals mg → mg d.name = some (.ref fa) →
      ∃ fd : FuncData, (∀ (s : Shared) (u : Value), BindsTo s fd ⟨[u], []⟩ [("_law_script", u)]) ∧ ∀ base : Heap, (K w.params).In base → base.Ns mainGlobals mg → FnG l.prog w (K w.params) mg base CX0 8 fa fd ["_law_script"] (spLaw (K w.params))) :
    PySem.W.WalkO q loose XP YP l.row.toRowW d [] (fun f vs => PySem.call f vs) :=
  walk_ofG (n := 63) (k := 8) (x := "_law_script") (CX := fun _ => CX0) (sp := fun w => spLaw (K w.params)) hn (by decide) hdf ⟨rfl, by decide, by decide⟩ rfl hY F (fun _ _ a ns hl _ hS => ⟨a, ns, rfl, hS, hl, fun _ => rfl⟩) fun _ _ _ _ _ z => z
end K39
open PySem PySem.W PyProof.Rows
set_option maxRecDepth 100000 in
set_option maxHeartbeats 0 in
theorem PySem.Challenge.cw_safeupto_k39_formulas_told_holds : PySem.Challenge.rw_safeupto_k39_formulas_told.Holds := by
  w_on; o_law; k_head; (case hw => w_witness2)
  k_fill
  refine K39.walk (l := PySem.Challenge.rw_safeupto_k39_formulas_told) rfl rfl (fun w h Y => PySem.W.kIn_of Y) ?F
  case F =>
    intro w mg fa h KX G hmg
    refine' K39.all_mk KX G hmg ?oL ?oF ?oN ?oP ?aIs ?lIs ?cIs ?kIs ?aIn ?iIn ?lIn ?cIn ?kIn ?aN ?iN ?lN ?cN ?kN ?aP ?iP ?lP ?cP ?kP ?pAZ ?pGZ ?pTZ ?pRZ ?lZ ?cZ ?kZ ?pAF ?pGF ?pTF ?pRF ?lF ?cF ?kF ?pAS ?pGS ?pTS ?pRS ?lS ?cS ?kS ?pAE ?pGE ?pTE ?pRE ?lE ?cE ?kE ?aAF ?lAF ?cAF ?kAF ?aAS ?lAS ?cAS ?kAS ?aIS ?lIS ?cIS ?kIS ?aIC ?lIC ?cIC ?kIC ?aFI ?iFI ?lFI ?cFI ?kFI ?aGR ?iGR ?lGR ?cGR ?kGR ?aCA ?iCA ?lCA ?cCA ?kCA ?aGW ?iGW ?lGW ?cGW ?kGW ?aVA ?lVA ?cVA ?kVA ?aFA ?lFA ?cFA ?kFA ?aFO ?lFO ?cFO ?kFO ?aLP ?lLP ?cLP ?kLP ?aLT ?lLT ?cLT ?kLT ?aLD ?lLD ?cLD ?kLD ?aLA ?lLA ?cLA ?kLA ?aLU ?lLU ?cLU ?kLU ?aLR ?lLR ?cLR ?kLR ?aLN ?lLN ?cLN ?kLN ?aLS ?lLS ?cLS ?kLS ?aL ?lL ?cL ?kL ?xLn ?xan ?xgn ?xhn ?xvn ?xkn ?xen ?xtn ?xdn ?xin ?xsn ?xLp ?xap ?xgp ?xhp ?xvp ?xkp ?xep ?xtp ?xdp ?xip ?xsp ?pgl ?hdl ?pol ?sal ?mkl ?kcl ?pgf ?hdf ?pof ?saf ?mkf ?kcf ?nZ ?nF ?nS ?nE ?fnC ?z0 ?z1 ?z2 ?z3 ?z4 ?z5 ?z6 ?z7 ?z8 ?z9 ?z10 ?z11 ?z12 ?z13
    (case oL => first | k_is | rfl)
    (case oF => first | k_is | rfl)
    (case oN => first | k_is | rfl)
    (case oP => first | k_is | rfl)
    (case aIs => first | k_is | rfl)
    (case lIs => first | k_is | rfl)
    (case cIs => first | k_is | rfl)
    (case kIs => first | k_is | rfl)
    (case aIn => first | k_is | rfl)
    (case iIn => first | k_is | rfl)
    (case lIn => first | k_is | rfl)
    (case cIn => first | k_is | rfl)
    (case kIn => first | k_is | rfl)
    (case aN => first | k_is | rfl)
    (case iN => first | k_is | rfl)
    (case lN => first | k_is | rfl)
    (case cN => first | k_is | rfl)
    (case kN => first | k_is | rfl)
    (case aP => first | k_is | rfl)
    (case iP => first | k_is | rfl)
    (case lP => first | k_is | rfl)
    (case cP => first | k_is | rfl)
    (case kP => first | k_is | rfl)
    (case pAZ => first | k_is | rfl)
    (case pGZ => first | k_is | rfl)
    (case pTZ => first | k_is | rfl)
    (case pRZ => first | k_is | rfl)
    (case lZ => first | k_is | rfl)
    (case cZ => first | k_is | rfl)
    (case kZ => first | k_is | rfl)
    (case pAF => first | k_is | rfl)
    (case pGF => first | k_is | rfl)
    (case pTF => first | k_is | rfl)
    (case pRF => first | k_is | rfl)
    (case lF => first | k_is | rfl)
    (case cF => first | k_is | rfl)
    (case kF => first | k_is | rfl)
    (case pAS => first | k_is | rfl)
    (case pGS => first | k_is | rfl)
    (case pTS => first | k_is | rfl)
    (case pRS => first | k_is | rfl)
    (case lS => first | k_is | rfl)
    (case cS => first | k_is | rfl)
    (case kS => first | k_is | rfl)
    (case pAE => first | k_is | rfl)
    (case pGE => first | k_is | rfl)
    (case pTE => first | k_is | rfl)
    (case pRE => first | k_is | rfl)
    (case lE => first | k_is | rfl)
    (case cE => first | k_is | rfl)
    (case kE => first | k_is | rfl)
    (case aAF => first | k_is | rfl)
    (case lAF => first | k_is | rfl)
    (case cAF => first | k_is | rfl)
    (case kAF => first | k_is | rfl)
    (case aAS => first | k_is | rfl)
    (case lAS => first | k_is | rfl)
    (case cAS => first | k_is | rfl)
    (case kAS => first | k_is | rfl)
    (case aIS => first | k_is | rfl)
    (case lIS => first | k_is | rfl)
    (case cIS => first | k_is | rfl)
    (case kIS => first | k_is | rfl)
    (case aIC => first | k_is | rfl)
    (case lIC => first | k_is | rfl)
    (case cIC => first | k_is | rfl)
    (case kIC => first | k_is | rfl)
    (case aFI => first | k_is | rfl)
    (case iFI => first | k_is | rfl)
    (case lFI => first | k_is | rfl)
    (case cFI => first | k_is | rfl)
    (case kFI => first | k_is | rfl)
    (case aGR => first | k_is | rfl)
    (case iGR => first | k_is | rfl)
    (case lGR => first | k_is | rfl)
    (case cGR => first | k_is | rfl)
    (case kGR => first | k_is | rfl)
    (case aCA => first | k_is | rfl)
    (case iCA => first | k_is | rfl)
    (case lCA => first | k_is | rfl)
    (case cCA => first | k_is | rfl)
    (case kCA => first | k_is | rfl)
    (case aGW => first | k_is | rfl)
    (case iGW => first | k_is | rfl)
    (case lGW => first | k_is | rfl)
    (case cGW => first | k_is | rfl)
    (case kGW => first | k_is | rfl)
    (case aVA => first | k_is | rfl)
    (case lVA => first | k_is | rfl)
    (case cVA => first | k_is | rfl)
    (case kVA => first | k_is | rfl)
    (case aFA => first | k_is | rfl)
    (case lFA => first | k_is | rfl)
    (case cFA => first | k_is | rfl)
    (case kFA => first | k_is | rfl)
    (case aFO => first | k_is | rfl)
    (case lFO => first | k_is | rfl)
    (case cFO => first | k_is | rfl)
    (case kFO => first | k_is | rfl)
    (case aLP => first | k_is | rfl)
    (case lLP => first | k_is | rfl)
    (case cLP => first | k_is | rfl)
    (case kLP => first | k_is | rfl)
    (case aLT => first | k_is | rfl)
    (case lLT => first | k_is | rfl)
    (case cLT => first | k_is | rfl)
    (case kLT => first | k_is | rfl)
    (case aLD => first | k_is | rfl)
    (case lLD => first | k_is | rfl)
    (case cLD => first | k_is | rfl)
    (case kLD => first | k_is | rfl)
    (case aLA => first | k_is | rfl)
    (case lLA => first | k_is | rfl)
    (case cLA => first | k_is | rfl)
    (case kLA => first | k_is | rfl)
    (case aLU => first | k_is | rfl)
    (case lLU => first | k_is | rfl)
    (case cLU => first | k_is | rfl)
    (case kLU => first | k_is | rfl)
    (case aLR => first | k_is | rfl)
    (case lLR => first | k_is | rfl)
    (case cLR => first | k_is | rfl)
    (case kLR => first | k_is | rfl)
    (case aLN => first | k_is | rfl)
    (case lLN => first | k_is | rfl)
    (case cLN => first | k_is | rfl)
    (case kLN => first | k_is | rfl)
    (case aLS => first | k_is | rfl)
    (case lLS => first | k_is | rfl)
    (case cLS => first | k_is | rfl)
    (case kLS => first | k_is | rfl)
    (case aL => first | k_is | rfl)
    (case lL => first | k_is | rfl)
    (case cL => first | k_is | rfl)
    (case kL => first | k_is | rfl)
    (case xLn => first | k_is | rfl)
    (case xan => first | k_is | rfl)
    (case xgn => first | k_is | rfl)
    (case xhn => first | k_is | rfl)
    (case xvn => first | k_is | rfl)
    (case xkn => first | k_is | rfl)
    (case xen => first | k_is | rfl)
    (case xtn => first | k_is | rfl)
    (case xdn => first | k_is | rfl)
    (case xin => first | k_is | rfl)
    (case xsn => first | k_is | rfl)
    (case xLp => first | k_is | rfl)
    (case xap => first | k_is | rfl)
    (case xgp => first | k_is | rfl)
    (case xhp => first | k_is | rfl)
    (case xvp => first | k_is | rfl)
    (case xkp => first | k_is | rfl)
    (case xep => first | k_is | rfl)
    (case xtp => first | k_is | rfl)
    (case xdp => first | k_is | rfl)
    (case xip => first | k_is | rfl)
    (case xsp => first | k_is | rfl)
    (case pgl => first | k_is | rfl)
    (case hdl => first | k_is | rfl)
    (case pol => first | k_is | rfl)
    (case sal => first | k_is | rfl)
    (case mkl => first | k_is | rfl)
    (case kcl => first | k_is | rfl)
    (case pgf => first | k_is | rfl)
    (case hdf => first | k_is | rfl)
    (case pof => first | k_is | rfl)
    (case saf => first | k_is | rfl)
    (case mkf => first | k_is | rfl)
    (case kcf => first | k_is | rfl)
    (case nZ => first | k_is | rfl)
    (case nF => first | k_is | rfl)
    (case nS => first | k_is | rfl)
    (case nE => first | k_is | rfl)
    (case fnC => first | k_is | rfl)
    (case z0 => first | k_is | rfl)
    (case z1 => first | k_is | rfl)
    (case z2 => first | k_is | rfl)
    (case z3 => first | k_is | rfl)
    (case z4 => first | k_is | rfl)
    (case z5 => first | k_is | rfl)
    (case z6 => first | k_is | rfl)
    (case z7 => first | k_is | rfl)
    (case z8 => first | k_is | rfl)
    (case z9 => first | k_is | rfl)
    (case z10 => first | k_is | rfl)
    (case z11 => first | k_is | rfl)
    (case z12 => first | k_is | rfl)
    (case z13 => first | k_is | rfl)
