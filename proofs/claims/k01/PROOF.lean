import PyProof.Rows.All
import Wide.All
import OpenK.AllK
import Wide.FinOn
import HandS.ForMost
import PyProof.InstNe
import PyProof.MeetsIn
import PyProof.CallType
import PyProof.Conv_bool
import HandS.Exc
import HandS.TryOnly
import HandS.ExcOwn
import HandS.ExcInit
import HandS.ExcField
import HandS.WordsExc
import HandS.IsInst
import HandS.Property
import HandS.Wide
import PyProof.ReprRoads
import PyProof.CallFns
import HandS.Comp
import HandS.Star
import PyProof.AutoSeq1
import HandS.SetBool
import PyProof.SetRoads
import PyProof.FactsAll.NoneType_1
import PyProof.MinMaxWalk
import PyProof.WalkInts
import PyProof.Rows.MinMaxN
import HandS.SortKw
import HandS.Flow
import HandS.StrMore
import HandS.Walk
import HandS.ListEq
import PyProof.EqAt
import HandS.TupAny
import HandS.TupMul
import HandS.TupLe
import PySem.Challenge.RW_safeupto_k01_bodies_recognized
set_option Elab.async false
set_option linter.all false
set_option maxRecDepth 100000
namespace Lm
open PySem PySem.Spec PyProof.Rows L2
/-! ### is True, is not False: the right side a truth value, the left one anything -/
theorem beq_bl {x : V} {v : Value} (r : RelV x v) (b : Bool) : PySem.plainIs v (.bool b) = true ∧ (v == Value.bool b) = decide (x = V.bl b) := by
  cases x with
  | bl c => cases (show v = Value.bool c from r); refine ⟨rfl, ?_⟩; by_cases e : c = b
            · subst e; simp
            · rw [decide_eq_false (fun z => e (V.bl.inj z)), beq_eq_false_iff_ne]; exact fun z => e (Value.bool.inj z)
  | non => cases (show v = Value.none from r); exact ⟨rfl, by simp⟩
  | int i => obtain ⟨t, rfl⟩ := r; exact ⟨rfl, by simp⟩
  | str i => obtain ⟨t, rfl⟩ := r; exact ⟨rfl, by simp⟩
  | byt i => obtain ⟨t, rfl⟩ := r; exact ⟨rfl, by simp⟩
  | flt i => obtain ⟨t, rfl⟩ := r; exact ⟨rfl, by simp⟩
  | ref a => cases (show v = Value.ref a from r); exact ⟨rfl, by simp⟩
  | ty a => cases (show v = Value.type a from r); exact ⟨rfl, by simp⟩
theorem op_isB {X : Cx} : OpR X (compareOp .Is) (fun x y H Q => ∃ b, y = .bl b ∧ Q (.bl (decide (x = V.bl b))) H) := by
  intro pins s σ H x y v u Q I rx ry h
  obtain ⟨b, rfl, q⟩ := h
  cases (show u = Value.bool b from ry)
  obtain ⟨p, e⟩ := beq_bl rx b
  exact wpAny_is_plain p (fin_bl I q e.symm)
theorem op_notB {X : Cx} : OpR X (compareOp .IsNot) (fun x y H Q => ∃ b, y = .bl b ∧ Q (.bl (!decide (x = V.bl b))) H) := by
  intro pins s σ H x y v u Q I rx ry h
  obtain ⟨b, rfl, q⟩ := h
  cases (show u = Value.bool b from ry)
  obtain ⟨p, e⟩ := beq_bl rx b
  exact wpAny_isNot_plain p (fin_bl I q (by rw [e]))
end Lm

set_option Elab.async false
set_option linter.all false
set_option maxRecDepth 100000
set_option maxHeartbeats 4000000
/-! Rules of our own: operators that an own class defines, repr of data, defs that are run where no repr is under way. -/
namespace Lm
open PySem PySem.Spec PyProof.Rows L2

section
variable {X : Cx} {CX : CXT} {k : Nat} {C f : Addr} {fd : FuncData} {ps : List Str} {sp : Sp} {E : XK}

/-- what a call that hands back a bool leaves -/
def BoolTo (Q : VK) : VK := fun v H' => ∃ b, v = .bl b ∧ Q (.bl b) H'

theorem ins_of {pins : List (Addr × Obj)} {σ : L2.St} {H : Hp} {s : Shared} {a dx : Addr} {fs : List (Str × V)} (I : Inv X pins σ H s) (ea : H a = some (.ins C dx fs)) :
    ∃ ox od, PySem.W.InstAt s.heap a ox C od := by
  obtain ⟨mA, O, _⟩ := ins_get I.hok ea
  obtain ⟨od, J, _⟩ := O.look
  exact ⟨_, _, J⟩

/-- v in o -/
def rInO (C : Addr) (sp : Sp) (E : XK) : R2 := fun x y H Q => ∃ a dx fs, y = .ref a ∧ H a = some (.ins C dx fs) ∧ sp [.ref a, x] H (BoolTo Q) E
theorem op_inO (F : FnOk X.prog X.w X.K X.mg X.base CX k f fd ps sp) (hs : PySem.W.findIn X.K (.ref C) "__contains__" = some (some (.ref f))) (hf : PySem.W.isFn X.K (.ref f) = true)
    (hb : Binds X.K fd ps []) (hr : Room k X.A) (hx : Passes CX X E) : OpR X (compareOp .In) (rInO C sp E) := by
  intro pins s σ H x y v u Q I rx ry h
  obtain ⟨a, dx, fs, rfl, ea, q⟩ := h
  obtain rfl : u = Value.ref a := ry
  obtain ⟨ox, od, J⟩ := ins_of I ea
  obtain ⟨m, hF⟩ := I.fr
  refine PySem.W.in_K hF I.ok.mod.kin J hs hf ?_
  refine wpAny_mono (run_fn (us := [.ref a, v]) (vs := [.ref a, x]) F hr hb .nil hx I (.cons rfl (.cons rx .nil)) q) (fun r s' z => ?_) fun _ _ z => z
  obtain ⟨v1, H1, I1, r1, b, e, q1⟩ := z
  subst e
  obtain rfl : r = Value.bool b := r1
  exact wpAny_truthy_bool ⟨.bl b, H1, I1, rfl, q1⟩

/-- o & o', both of one class -/
def rBinO (C : Addr) (sp : Sp) (E : XK) : R2 := fun x y H Q => ∃ a dx fs b dy gs, x = .ref a ∧ y = .ref b ∧ H a = some (.ins C dx fs) ∧ H b = some (.ins C dy gs) ∧
  sp [.ref a, .ref b] H (fun v H' => ∃ p, v = .ref p ∧ Q (.ref p) H') E
theorem op_binO {op : Operator} (F : FnOk X.prog X.w X.K X.mg X.base CX k f fd ps sp) (hs : PySem.W.findIn X.K (.ref C) (PySem.dunder op.info.2) = some (some (.ref f))) (hf : PySem.W.isFn X.K (.ref f) = true)
    (hc : PySem.W.selfFirst X.K C = true) (hb : Binds X.K fd ps []) (hr : Room k X.A) (hx : Passes CX X E) : OpR X (binaryOp op) (rBinO C sp E) := by
  intro pins s σ H x y v u Q I rx ry h
  obtain ⟨a, dx, fs, b, dy, gs, rfl, rfl, ea, eb, q⟩ := h
  obtain rfl : v = Value.ref a := rx
  obtain rfl : u = Value.ref b := ry
  obtain ⟨ox, od, J⟩ := ins_of I ea
  obtain ⟨oy, oe, J2⟩ := ins_of I eb
  obtain ⟨m, hF⟩ := I.fr
  refine PySem.W.binop_K hF I.ok.mod.kin J J2.type hc hs hf ?_
  refine wpAny_mono (run_fn (us := [.ref a, .ref b]) (vs := [.ref a, .ref b]) F hr hb .nil hx I (.cons rfl (.cons rfl .nil)) q) (fun r s' z => ?_) fun _ _ z => z
  obtain ⟨v1, H1, I1, r1, p, e, q1⟩ := z
  subst e
  obtain rfl : r = Value.ref p := r1
  exact ⟨.ref p, H1, I1, rfl, q1⟩

/-- what may stand to the right of an own == -/
inductive Right (K : PySem.W.Frag) (C : Addr) (H : Hp) : V → Prop where
  | own {b dy : Addr} {gs : List (Str × V)} (e : H b = some (.ins C dy gs)) : Right K C H (.ref b)
  | int (i : Int) (n : PySem.W.notFirst K C (.type "int") = true) : Right K C H (.int i)
  | non (n : PySem.W.notFirst K C (.type "NoneType") = true) : Right K C H .non
theorem right_looks {pins : List (Addr × Obj)} {σ : L2.St} {H : Hp} {s : Shared} {y : V} {u : Value} (I : Inv X pins σ H s) (r : Right X.K C H y) (ry : RelV y u) :
    ∃ tb, PySem.W.Looks (model X.prog X.w) s.heap (typeOf u) tb ∧ PySem.W.notFirst X.K C tb = true := by
  cases r with
  | own e =>
    rename_i b dy gs
    obtain rfl : u = Value.ref b := ry
    obtain ⟨oy, oe, J⟩ := ins_of I e
    exact ⟨_, J.type, by simp [PySem.W.notFirst]⟩
  | int i n =>
    obtain ⟨t, rfl⟩ := (show ∃ t, u = Value.int i t from ry)
    exact ⟨_, PySem.W.Looks.of_pure rfl, n⟩
  | non n =>
    obtain rfl : u = Value.none := ry
    exact ⟨_, PySem.W.Looks.of_pure rfl, n⟩
/-- o == y -/
def rEqO (K : PySem.W.Frag) (C : Addr) (sp : Sp) (E : XK) : R2 := fun x y H Q => ∃ a dx fs, x = .ref a ∧ H a = some (.ins C dx fs) ∧ Right K C H y ∧ sp [.ref a, y] H (BoolTo Q) E
theorem op_eqO (F : FnOk X.prog X.w X.K X.mg X.base CX k f fd ps sp) (hs : PySem.W.findIn X.K (.ref C) "__eq__" = some (some (.ref f))) (hf : PySem.W.isFn X.K (.ref f) = true)
    (hb : Binds X.K fd ps []) (hr : Room k X.A) (hx : Passes CX X E) : OpR X (compareOp .Eq) (rEqO X.K C sp E) := by
  intro pins s σ H x y v u Q I rx ry h
  obtain ⟨a, dx, fs, rfl, ea, ri, q⟩ := h
  obtain rfl : v = Value.ref a := rx
  obtain ⟨ox, od, J⟩ := ins_of I ea
  obtain ⟨m, hF⟩ := I.fr
  obtain ⟨tb, hL, hn⟩ := right_looks I ri ry
  show wpAny (model X.prog X.w) X.A (richCompare .Eq (.ref a) u) _ _ _
  refine PySem.W.cmp_K (op := .Eq) (tb := tb) hr.units0 hF I.ok.mod.kin J hL hn hs hf ?_
  refine wpAny_mono (run_fn (us := [.ref a, u]) (vs := [.ref a, y]) F hr hb .nil hx I (.cons rfl (.cons ry .nil)) q) (fun r s' z => ?_) fun _ _ z => z
  obtain ⟨v1, H1, I1, r1, b, e, q1⟩ := z
  subst e
  obtain rfl : r = Value.bool b := r1
  exact ⟨.bl b, H1, I1, rfl, q1⟩
end
end Lm

set_option Elab.async false
set_option linter.all false
set_option maxRecDepth 100000
set_option maxHeartbeats 4000000
namespace Lm
open PySem PySem.Spec PyProof.Rows L2

section
open Builtin
variable {prog : Program} {w : World} {A : Around} {E : Value → Shared → Prop} {s : Shared} {K : PySem.W.Frag} {x C L f : Addr} {h₀ : Heap} {m : Str → Option Value} {ox : Obj} {od : Option Obj} {u tb : Value}

/-- the default != of object, found by the class -/
theorem bound_ne {M : Model} {r : List Value} {Q : Option Value → Shared → Prop} (Y : K.In s.heap) (J : PySem.W.InstAt s.heap x ox C od)
    (hs : PySem.W.findIn K (.ref C) "__ne__" = some (some (.builtin "object.__ne__")))
    (h : wpAny M A (call (.builtin "object.__ne__") (.ref x :: r)) (fun v => Q (some v)) E s) : wpAny M A (callSpecialIfBound? (.ref x) "__ne__" r) Q E s := by
  have last : wpAny M A (call (.builtin "object.__ne__") ([.ref x] ++ r) >>= fun v => pure (some v)) Q E s :=
    wpAny_bind (wpAny_mono h (fun _ _ y => wpAny_pure y) fun _ _ y => y)
  simp only [bindSpecialIfBound?, callSpecialIfBound?]
  refine wpAny_holding (wpAny_bind (wpAny_bind (wpAny_bind (J.type.here ((PySem.W.looks_findIn Y hs).here (wpAny_bind (wpAny_askSetting (wpAny_ite ?_))))))))
  split
  · exact wpAny_bind (wpAny_of_eq (F.cmp_object.ne.bind _) (wpAny_pure (by exact last)))
  · exact wpAny_tryCatch (wpAny_bind (wpAny_of_eq (F.cmp_object.ne.bind _) (wpAny_pure (by exact last))))

/-- o != y where the class has an == of its own and no != -/
theorem neq_K {Q : Value → Shared → Prop} (hu : A.units + 1 < cLine) (Fz : Fr h₀ L s.heap m) (X₀ : K.In h₀) (J : PySem.W.InstAt s.heap x ox C od) (hL : PySem.W.Looks (model prog w) s.heap (typeOf u) tb)
    (hn : PySem.W.notFirst K C tb = true) (hne : PySem.W.findIn K (.ref C) "__ne__" = some (some (.builtin "object.__ne__"))) (hm : PySem.W.mroIn K C (.type "object") = some true)
    (hs : PySem.W.findIn K (.ref C) "__eq__" = some (some (.ref f))) (hf : PySem.W.isFn K (.ref f) = true)
    (h : wpAny (model prog w) A.in1 (call (.ref f) [.ref x, u]) (fun v s' => ∃ b, v = .bool b ∧ Q (.bool (!b)) s') E s) : wpAny (model prog w) A (richCompare .NotEq (.ref x) u) Q E s := by
  have Y := X₀.keeps Fz.keep
  have inner : wpAny (model prog w) A.in1 (Builtin.«object.__ne__» ⟨[.ref x, u], []⟩) (fun fin s' => ∃ b, fin = .done (.ret (.bool b)) ∧ Q (.bool b) s') E s := by
    unfold Builtin.«object.__ne__»
    refine wpAny_bind (wpAny_pure ?_)
    refine wpAny_bind (wpAny_cRoomFor hu ?_)
    refine wpAny_bind (PySem.W.ifBound_K Y J hs hf (wpAny_mono h (fun r s' hr => ?_) fun _ _ e => e))
    obtain ⟨b, rfl, hq⟩ := hr
    refine wpAny_bind (wpAny_truthy_bool ?_)
    exact wpAny_pure ⟨_, rfl, hq⟩
  have one : wpAny (model prog w) A (tryCompare (.ref x) "__ne__" u) (fun r s' => ∃ b, r = some (.bool b) ∧ Q (.bool b) s') E s := by
    unfold tryCompare
    refine wpAny_bind (bound_ne Y J hne (wpAny_call (codeAny_call_builtin F.cmp_object.ne.plain F.cmpEntry_ne (PySem.W.check_slot F.cmpKind_ne F.cmpSplit_ne (J.type.andThen (PySem.W.looks_mroIn Y hm)) (F.cmpArgs_ne _ _)
      (wpAny_mono inner (fun fin s' z => ?_) fun _ _ z => z)))))
    obtain ⟨b, rfl, hq⟩ := z
    exact wpAny_pure ⟨b, rfl, hq⟩
  unfold richCompare
  simp only [oneThing_ref]
  refine wpAny_holding (wpAny_bind (wpAny_cRoomFor (Nat.lt_of_succ_lt hu) (wpAny_bind (J.type.here (wpAny_bind (hL.here ?_))))))
  have fin : ∀ {k : Bool}, k = false → True := fun _ => trivial
  split
  · rename_i q
    have e : PySem.W.subIn K tb (.ref C) = some false := by
      rcases Bool.or_eq_true_iff.mp hn with e | e
      · rw [beq_iff_eq.mp e] at q
        simp at q
      · exact beq_iff_eq.mp e
    refine wpAny_bind ((PySem.W.looks_subIn Y e).here ?_)
    simp only [Bool.false_eq_true, if_false]
    refine wpAny_bind (wpAny_mono one (fun r s' z => ?_) fun _ _ e => e)
    obtain ⟨b, rfl, hq⟩ := z
    exact wpAny_pure hq
  · refine wpAny_bind (wpAny_pure ?_)
    simp only [Bool.false_eq_true, if_false]
    refine wpAny_bind (wpAny_mono one (fun r s' z => ?_) fun _ _ e => e)
    obtain ⟨b, rfl, hq⟩ := z
    exact wpAny_pure hq
end

section
variable {X : Cx} {CX : CXT} {k : Nat} {C f : Addr} {fd : FuncData} {ps : List Str} {sp : Sp} {E : XK}

/-- the callee runs one step deeper -/
theorem run_fn1 {pins : List (Addr × Obj)} {σ : L2.St} {H : Hp} {s : Shared} {Q : VK} {us : List Value} {vs : List V} (F : FnOk X.prog X.w X.K X.mg X.base CX k f fd ps sp) (hr : Room k X.A.in1) (hb : Binds X.K fd ps [])
    (hx : Passes CX X E) (I : Inv X pins σ H s) (r : Vals vs us) (h : sp vs H Q E) : wpAny (model X.prog X.w) X.A.in1 (call (.ref f) us) (EP X pins σ Q) X.xe s := by
  have hl : us.length = ps.length := (r.length).symm.trans (F.len _ _ _ _ h)
  have b := hb s us I.kIn (by simpa using hl)
  rw [List.append_nil] at b
  refine wpAny_call (codeAny_mono (F.run X.A.in1 X.stack s H ⟨us, []⟩ us vs Q E hr I.env0.in1 b r h) fun z s' hq => ?_)
  cases z with
  | error e => exact hx pins σ H s e s' I hq
  | ok fl => cases fl with
    | ret y => exact I.after hq
    | next => exact hq.elim
    | brk => exact hq.elim
    | cont => exact hq.elim

/-- o != y -/
def rNeO (K : PySem.W.Frag) (C : Addr) (sp : Sp) (E : XK) : R2 := fun x y H Q => ∃ a dx fs, x = .ref a ∧ H a = some (.ins C dx fs) ∧ Right K C H y ∧ sp [.ref a, y] H (fun v H' => ∃ b, v = .bl b ∧ Q (.bl (!b)) H') E
theorem op_neO (F : FnOk X.prog X.w X.K X.mg X.base CX k f fd ps sp) (hne : PySem.W.findIn X.K (.ref C) "__ne__" = some (some (.builtin "object.__ne__"))) (hm : PySem.W.mroIn X.K C (.type "object") = some true)
    (hs : PySem.W.findIn X.K (.ref C) "__eq__" = some (some (.ref f))) (hf : PySem.W.isFn X.K (.ref f) = true)
    (hb : Binds X.K fd ps []) (hr : Room (k + 1) X.A) (hx : Passes CX X E) : OpR X (compareOp .NotEq) (rNeO X.K C sp E) := by
  intro pins s σ H x y v u Q I rx ry h
  obtain ⟨a, dx, fs, rfl, ea, ri, q⟩ := h
  obtain rfl : v = Value.ref a := rx
  obtain ⟨ox, od, J⟩ := ins_of I ea
  obtain ⟨m, hF⟩ := I.fr
  obtain ⟨tb, hL, hn⟩ := right_looks I ri ry
  show wpAny (model X.prog X.w) X.A (richCompare .NotEq (.ref a) u) _ _ _
  refine neq_K (tb := tb) (by have := hr.un; omega) hF I.ok.mod.kin J hL hn hne hm hs hf ?_
  refine wpAny_mono (run_fn1 (us := [.ref a, u]) (vs := [.ref a, y]) F hr.in1 hb hx I (.cons rfl (.cons ry .nil)) q) (fun r s' z => ?_) fun _ _ z => z
  obtain ⟨v1, H1, I1, r1, b, e, q1⟩ := z
  subst e
  obtain rfl : r = Value.bool b := r1
  exact ⟨b, rfl, .bl (!b), H1, I1, rfl, q1⟩
end
end Lm

set_option Elab.async false
set_option linter.all false
set_option maxRecDepth 100000
set_option maxHeartbeats 4000000
namespace Lm
open PySem PySem.Spec PyProof.Rows L2

section
variable {prog : Program} {w : World} {A : Around} {E : Value → Shared → Prop} {s : Shared}
/-- bool.__new__ of a thing whose truth is known here -/
theorem bool_body {v : Value} {R : Result → Shared → Prop} (h : wpAny (model prog w) A.in1 (truthy v) (fun b s' => R (.ok (.ret (.bool b))) s') (fun e s' => R (.error e) s') s) :
    wpAny (model prog w) A.in1 (Builtin.«bool.__new__» ⟨[.type "bool", v], []⟩)
      (fun fin s' => match fin with | .done f => R (.ok f) s' | .again c' => c'.quiet = true ∧ codeAny (model prog w) A c' R s') (fun e s' => R (.error e) s') s := by
  have f1 := F.conv_sub_bool
  unfold Builtin.«bool.__new__»
  repeat (any_goals (first | assumption | (with_reducible refine wpAny_bind (m := truthy v) (wpAny_mono h (fun b s' hb => ?_) fun _ _ z => z)) | wp_step))
  all_goals exact hb
/-- a bool is handed back, or what is raised is passed on -/
def BoolWish (Q E : Value → Shared → Prop) : Result → Shared → Prop
  | .ok (.ret o), s' => (∃ b, o = .bool b) ∧ Q o s'
  | .ok _, _ => False
  | .error e, s' => E e s'
/-- bool(v) -/
theorem bool_call {v : Value} {Q : Value → Shared → Prop} (h : wpAny (model prog w) A.in1.in1 (truthy v) (fun b s' => Q (.bool b) s') E s) :
    wpAny (model prog w) A (call (.type "bool") [v]) Q E s := by
  have ft := F.called_bool
  obtain ⟨c, tl, hmro⟩ := ft.mro
  have hmade := ft.made
  have hsub := ft.sub
  have h1 := ft.notType
  have h2 := ft.canCreate
  refine wpAny_call (codeAny_of_tree (show wpAny _ _ (callAny (.type "bool") _) _ _ _ from wpAny_pure ⟨Code.quiet_builtin _ (by decide +kernel), codeAny_builtin F.entry_type_call ?_⟩))
  rw [Around.under_plain (weight_type_call_type "bool" [v] []) (units_type_call_type "bool" [v] [])]
  repeat (any_goals (first | assumption | wp_step))
  refine codeAny_mono (R := BoolWish Q E) (codeAny_call_builtin ft.plain F.entry_bool_new (wpAny_of_eq (F.newCall_bool_1 v) (bool_body (A := A.in1) (v := v) (R := BoolWish Q E) ?_))) fun r s₁ hr => ?_
  · exact wpAny_mono h (fun b s' hb => ⟨⟨b, rfl⟩, hb⟩) fun _ _ z => z
  · cases r with
    | error e => exact hr
    | ok fl => cases fl with
      | ret o =>
        obtain ⟨⟨b, rfl⟩, hq⟩ := hr
        have hli := ft.init.lookup
        have hbi := ft.init.bind (.bool b)
        have hT : s₁.TypeIs (.bool b) "bool" := by first | exact typeIs_bool _ _ | exact rfl
        repeat (any_goals (first | assumption | wp_step))
        have g := object_init_meets (self := .bool b) (rest := [v]) ft.init.lookup ft.made F.newNe_bool
        refine codeAny_mono (R := fun r s₂ => r = .ok (.ret .none) ∧ s₂ = s₁) (codeAny_call_builtin ft.init.plain F.entry_object_init (ft.init.check _ _ _ _ _ _ _ _ hT (F.args_object_init_2 (.bool b) v)
          (g prog w A.in1 (fun r s₂ => r = .ok (.ret .none) ∧ s₂ = s₁) s₁ ⟨hT, rfl, rfl⟩))) fun r₂ s₂ hr₂ => ?_
        obtain ⟨rfl, rfl⟩ := hr₂
        repeat (any_goals (first | assumption | wp_step))
      | next => exact hr.elim
      | brk => exact hr.elim
      | cont => exact hr.elim
end
end Lm

namespace Lm
open PySem PySem.Spec PyProof.Rows L2
section
variable {X : Cx} {CX : CXT} {k : Nat} {C f : Addr} {fd : FuncData} {ps : List Str} {sp : Sp} {E : XK}
theorem Room.two {k : Nat} {A : Around} (r : Room (k + 1) A) : Room k A.in1.in1 :=
  ⟨r.hd, by have := r.dp; show A.depth + 3 * k + 5 < _; omega, by have := r.un; show A.units + 1 + 1 + 16 * k + 200 < _; omega⟩
theorem Env0.two {P : Program} {w : World} {K : PySem.W.Frag} {mg : Str → Option Value} {base : Heap} {A : Around} {outer : List Env} {s : Shared} {H : Hp} (e : Env0 P w K mg base A outer s H) :
    Env0 P w K mg base A.in1.in1 outer s H := e.in1.in1
/-- the callee runs two steps deeper -/
theorem run_fn2 {pins : List (Addr × Obj)} {σ : L2.St} {H : Hp} {s : Shared} {Q : VK} {us : List Value} {vs : List V} (F : FnOk X.prog X.w X.K X.mg X.base CX k f fd ps sp) (hr : Room k X.A.in1.in1) (hb : Binds X.K fd ps [])
    (hx : Passes CX X E) (I : Inv X pins σ H s) (r : Vals vs us) (h : sp vs H Q E) : wpAny (model X.prog X.w) X.A.in1.in1 (call (.ref f) us) (EP X pins σ Q) X.xe s := by
  have hl : us.length = ps.length := (r.length).symm.trans (F.len _ _ _ _ h)
  have b := hb s us I.kIn (by simpa using hl)
  rw [List.append_nil] at b
  refine wpAny_call (codeAny_mono (F.run X.A.in1.in1 X.stack s H ⟨us, []⟩ us vs Q E hr I.env0.in1.in1 b r h) fun z s' hq => ?_)
  cases z with
  | error e => exact hx pins σ H s e s' I hq
  | ok fl => cases fl with
    | ret y => exact I.after hq
    | next => exact hq.elim
    | brk => exact hq.elim
    | cont => exact hq.elim
/-- bool(o) by its own __bool__ -/
def rBoolO (C : Addr) (sp : Sp) (E : XK) : List V → Hp → VK → Prop := fun xs H Q => ∃ a dx fs, xs = [.ref a] ∧ H a = some (.ins C dx fs) ∧ sp [.ref a] H (BoolTo Q) E
theorem call_boolO (F : FnOk X.prog X.w X.K X.mg X.base CX k f fd ps sp) (hs : PySem.W.findIn X.K (.ref C) "__bool__" = some (some (.ref f))) (hf : PySem.W.isFn X.K (.ref f) = true)
    (hb : Binds X.K fd ps []) (hr : Room (k + 1) X.A) (hx : Passes CX X E) : CallR X (.type "bool") (rBoolO C sp E) := by
  intro pins s σ H xs us Q I r h
  obtain ⟨a, dx, fs, rfl, ea, q⟩ := h
  obtain ⟨u, rfl, r1⟩ := vals1 r
  obtain rfl : u = Value.ref a := r1
  obtain ⟨ox, od, J⟩ := ins_of I ea
  obtain ⟨m, hF⟩ := I.fr
  refine bool_call (PySem.W.truthy_K hF I.ok.mod.kin J hs hf ?_)
  refine wpAny_mono (run_fn2 (us := [.ref a]) (vs := [.ref a]) F (Room.two hr) hb hx I (.cons rfl .nil) q) (fun z s' y => ?_) fun _ _ z => z
  obtain ⟨v1, H1, I1, r2, b, e, q1⟩ := y
  subst e
  obtain rfl : z = Value.bool b := r2
  exact ⟨.bl b, H1, I1, rfl, q1⟩
end
end Lm

set_option Elab.async false
set_option linter.all false
set_option maxRecDepth 100000
set_option maxHeartbeats 4000000
namespace Lm
open PySem PySem.Spec PyProof.Rows L2

/-! ### repr of data, where no repr is under way -/
/-- the text that repr hands back of a value -/
inductive Shown (K : PySem.W.Frag) (H : Hp) : V → Str → Prop where
  | non : Shown K H .non "None"
  | bl (b : Bool) : Shown K H (.bl b) (if b then "True" else "False")
  | int (i : Int) (h : i.natAbs.log2 < 1920) : Shown K H (.int i) (toString i)
  | str (x : Str) (h : (reprText x).length ≤ sizeLine) : Shown K H (.str x) (reprText x)
  | dat {a : Addr} {d : PyData} (h : Dp K H (.ref a) d) (hn : d.hasDict = false) (hs : d.showable = true) (hd : d.depth ≤ 60) (hz : d.shown.length ≤ sizeLine) : Shown K H (.ref a) d.shown
  | emp {a : Addr} (h : H a = some (.dK [])) : Shown K H (.ref a) (PyData.dict []).shown
def rRepr (K : PySem.W.Frag) : List V → Hp → VK → Prop := fun xs H Q => ∃ x t, xs = [x] ∧ Shown K H x t ∧ Q (.str t) H
section
variable {X : Cx}
theorem call_reprS (hg : X.A.guards = some []) (hu : X.A.units + 64 < cLine) : CallR X (.builtin "repr") (rRepr X.K) := by
  intro pins s σ H xs us Q I r h
  obtain ⟨x, t, rfl, hS, q⟩ := h
  obtain ⟨u, rfl, ru⟩ := vals1 r
  cases hS with
  | non =>
    obtain rfl : u = Value.none := ru
    exact PySem.P.repr_of_none ⟨.str _, H, I.tok _, ⟨_, rfl⟩, q⟩
  | bl b =>
    obtain rfl : u = Value.bool b := ru
    exact PySem.P.repr_of_bool ⟨.str _, H, I.tok _, ⟨_, rfl⟩, q⟩
  | int i hi =>
    obtain ⟨tk, rfl⟩ := (show ∃ t, u = Value.int i t from ru)
    exact PySem.P.repr_of_int hi ⟨.str _, H, I.tok _, ⟨_, rfl⟩, q⟩
  | str z hz =>
    obtain ⟨tk, rfl⟩ := (show ∃ t, u = Value.str z t from ru)
    exact PySem.P.repr_of_str (h := ⟨.str _, H, I.tok _, ⟨_, rfl⟩, q⟩) hz
  | @dat a d hD hn hs hd hz =>
    obtain rfl : u = Value.ref a := ru
    obtain ⟨as, rd⟩ := Dp.reads I d _ _ hD rfl
    exact repr_of_reads' rd hs (PyData.noDict_hsm hn) hg (by omega) (fun _ _ e => e) (fun h' u tk hk => ⟨.str _, H, I.kept hk, ⟨_, rfl⟩, q⟩) hz
  | @emp a hE =>
    obtain rfl : u = Value.ref a := ru
    obtain ⟨_, hsys, vs, rel, o, es, ep, ho, hx, hd, _, hp, _⟩ := dk_of I.hok hE
    have e0 : es.toList = [] := by
      have l := hp.length
      cases rel
      exact List.eq_nil_of_length_eq_zero (by simpa using l)
    have rd : Reads s.heap (.ref a) (.dict []) (a :: [] ++ []) := .dict ho hx.1 hd (by rw [e0]; exact .nil) (by rw [e0]; exact .nil)
    have hdp : (PyData.dict []).depth ≤ 60 := by decide
    refine repr_of_reads' rd (by decide +kernel) (fun _ hm => ?_) hg (by omega) (fun _ _ e => e) (fun h' u tk hk => ⟨.str _, H, I.kept hk, ⟨_, rfl⟩, q⟩) (by decide +kernel)
    have e1 : sysModules = a := by simpa using hm
    rw [e1] at hsys
    simp at hsys
end

/-! ### a def that keeps its promise where no repr is under way -/
structure FnG (P : Program) (w : World) (K : PySem.W.Frag) (mg : Str → Option Value) (base : Heap) (CX : CXT) (k : Nat) (f : Addr) (fd : FuncData) (ps : List Str) (sp : Sp) : Prop where
  many : ∀ vs H Q E, sp vs H Q E → vs.length = ps.length
  goes : ∀ (A : Around) (o : List Env) (s : Shared) (H : Hp) (us : List Value) (vs : List V) (Q : VK) (E : XK), A.guards = some [] → Room k A → Env0 P w K mg base A o s H →
    BindsTo s fd ⟨us, []⟩ (ps.zip us) → Vals vs us → sp vs H Q E → codeAny (model P w) A (.call (.ref f) ⟨us, []⟩) (CR CX o P w H s Q E) s

section
variable {CX : CXT} {P : Program} {w : World} {K : PySem.W.Frag} {mg : Str → Option Value} {base : Heap} {k : Nat} {f : Addr} {N ps : List Str} {sp : Sp} {x qual : Str} {st : Stmt} {fd : FuncData}
theorem FnG.of (Fz : Fun K x qual st f fd) (S : FnScope N ps (defScope st)) (many : ∀ vs H Q E, sp vs H Q E → vs.length = ps.length)
    (body : ∀ (cdv : Value) (A : Around) (o : List Env) (s : Shared) (H : Hp) (vs : List V) (Q : VK) (E : XK), A.guards = some [] → Room k (A.deeper (envOfC qual (defScope st) s.heap.objs.size f cdv)) → sp vs H Q E →
      ∃ t, PSs (cxOf CX P w K mg base N qual (defScope st) f cdv A o s H E) (defBody st) t ∧ t { nx := fun _ H' => Q .non H', rt := Q } (start N vs) H) :
    FnG P w K mg base CX (k + 1) f fd ps sp := by
  obtain ⟨oc, od, kV, doc, pm, an, cdv, ct, osl, rfl, lk, hcd⟩ := Fz.ex
  refine ⟨many, fun A o s H us vs Q E hg hr e0 hb r hsp => ?_⟩
  have inK : K.In s.heap := e0.mod.kin.keeps fun b u e => (e0.bs b u e).1
  have noL : s.heap.NoLimit := e0.mod.nolimit.keeps fun b u e => (e0.bs b u e).1
  refine codeAny_call_function hr.depth (inK _ _ lk) rfl S.co S.gen rfl (PySem.W.codeRec_of inK hcd) (hb _ _ _ _ (wpAny_newFunctionEnv_cells S.kind (fun y hy => ?_) fun env he s1 z => ?_))
  · rcases S.par y.1 (List.of_mem_zip hy).1 with q | q
    · exact .inl q
    · exact .inr ⟨q, PySem.W.cellsFrom_some _ _ _ (.inl q)⟩
  · subst he
    refine ⟨noL.keeps z.toInCall.keep, codeAny_func ?_⟩
    obtain ⟨t, ht, hq⟩ := body cdv A o s H vs Q E hg (hr.deeper _) hsp
    have J : Inv (cxOf CX P w K mg base N qual (defScope st) f cdv A o s H E) [] (start N vs) H s1 := inv_start S hr.hd e0 (many _ _ _ _ hsp) r z
    refine wpAny_mono (ht.run [] s1 (start N vs) H _ J hq) (fun fl s' y => ?_) fun _ _ y => y
    cases fl with
    | ret u =>
      obtain ⟨v, _, H', J', rv, q⟩ := y
      exact ⟨v, H', J'.os, J'.bare, J'.base, J'.hok, rv, q⟩
    | next =>
      obtain ⟨_, H', J', q⟩ := y
      exact ⟨V.non, H', J'.os, J'.bare, J'.base, J'.hok, rfl, q⟩
    | brk => exact y.elim fun _ y => y.elim fun _ y => y.2.elim
    | cont => exact y.elim fun _ y => y.elim fun _ y => y.2.elim
end

section
variable {X : Cx} {CX : CXT} {k : Nat} {f : Addr} {fd : FuncData} {ps : List Str} {sp : Sp} {E : XK} {x : Str} {p pos : Pos} {e : Expr} {es : List Expr} {t : TA}
/-- f(e, ..) -/
theorem pe_callG (G : FnG X.prog X.w X.K X.mg X.base CX k f fd ps sp) (hgd : X.A.guards = some []) (hr : Room k X.A) (hg : Gl X x) (hm : X.mg x = some (.ref f)) (hk : PySem.W.keepIn X.K (.ref f) = true) (hb : Binds X.K fd ps [])
    (hx : Passes CX X E) (ha : PA X (e :: es) t) (hdb : (x == ("__debug__" : Str)) = false := by decide) (he : starEach (e :: es) X.env = (false, eval e X.env) :: starEach es X.env := by rfl)
    (hpl : (backTo pos (starEach es X.env)).any (·.1) = false := by rfl) : PE X (.Call (.Name x p) (e :: es) [] pos) (tCall sp [] E t) := by
  refine ⟨fun pins s σ H Q I h => ?_⟩
  refine wpAny_Call_Name_kw (ld_glob I hg hm (PySem.W.callWith_K (h₀ := X.base) I.ok.mod.kin hk (thn (ha.run pos pins s σ H _ I h) fun us s1 ⟨vs, H1, I1, r, q⟩ => ⟨I1.kIn, ?_⟩) he hpl) hdb)
  have q : sp vs H1 Q E := by simpa using q
  have hl : us.length = ps.length := (r.length).symm.trans (G.many _ _ _ _ q)
  have b := hb s1 us I1.kIn (by simpa using hl)
  rw [List.append_nil] at b
  refine wpAny_call (codeAny_mono (G.goes X.A X.stack s1 H1 us vs Q E hgd hr I1.env0 b r q) fun z s' y => ?_)
  cases z with
  | error er => exact hx pins σ H1 s1 er s' I1 y
  | ok fl => cases fl with
    | ret v => exact I1.after y
    | next => exact y.elim
    | brk => exact y.elim
    | cont => exact y.elim
end
end Lm

set_option Elab.async false
set_option linter.all false
set_option maxRecDepth 100000
set_option maxHeartbeats 4000000
namespace Lm
open PySem PySem.Spec PyProof.Rows L2

/-! ### the law's own call, by a promise kept where no repr is under way -/
section
variable {P : Program} {w : World} {K : PySem.W.Frag} {mg mb : Str → Option Value} {CX : CXT} {k : Nat} {fa a : Addr} {fd : FuncData} {x : Str} {sp : Sp} {s₁ : Shared} {vs : List Value} {ns : List Int}
/-- how the law's call ends -/
def Ended (s₁ : Shared) (r : Result) (s' : Shared) : Prop := r = .ok (.ret (.bool true)) ∧ OldK s₁.heap s'.heap ∧ s'.os = s₁.os ∧ AllBare s'.gens
theorem ended_of {H : Hp} (hO : Only H) (hok : HOk P w H s₁.heap) (hCX : ∀ e s', CX [] H s₁ (fun _ _ _ => False) e s' → False) {r : Result} {s' : Shared}
    (h : CR CX [] P w H s₁ (fun v _ => v = .bl true) (fun _ _ _ => False) r s') : Ended s₁ r s' := by
  cases r with
  | error e => exact (hCX e s' h).elim
  | ok fl => cases fl with
    | next => exact h.elim
    | brk => exact h.elim
    | cont => exact h.elim
    | ret u =>
      obtain ⟨v, H', os, bare, un, hok', rv, ev⟩ := h
      obtain rfl : v = .bl true := ev
      obtain rfl : u = Value.bool true := rv
      refine ⟨rfl, OldK.of_keep fun b o e => ?_, os, bare⟩
      rcases hO b with z | ⟨ob, xs, z⟩
      · exact un.keep b o e z (fun y => absurd (show b ∈ ([] : List Addr) from y) (by simp)) (by simp)
      · obtain ⟨e1, _⟩ := hok b _ z
        obtain ⟨e2, _⟩ := hok' b _ (un.frzs b ob _ z)
        rw [e] at e1
        cases e1
        exact e2
theorem law_callG (KX : K.In s₁.heap) (hns : s₁.heap.Ns mainGlobals mg) (hb : s₁.heap.Ns builtinsNs mb) (hbb : ∀ x : Str, x ≠ "__name__" → mb x = bootBuiltins x) (hlim : s₁.heap.NoLimit) (hg : s₁.gens = #[])
    (ha : s₁.heap.get? a = some { cls := .type "list", data := .seq vs.toArray }) (hi : IntsAre vs ns) (hl : ns.length ≤ sizeLine) (hr : Room k callerA) (hgd : callerA.guards = some [])
    (G : ∀ base : Heap, K.In base → base.Ns mainGlobals mg → FnG P w K mg base CX k fa fd [x] sp) (hbind : ∀ (s : Shared) (u : Value), BindsTo s fd ⟨[u], []⟩ [(x, u)])
    (hsp : ∀ H : Hp, Only H → SqL K H a (ns.map V.int) → sp [.ref a] H (fun v _ => v = .bl true) fun _ _ _ => False)
    (hCX : ∀ H e s', CX [] H s₁ (fun _ _ _ => False) e s' → False) : codeAny (model P w) callerA (.call (.ref fa) ⟨[.ref a], []⟩) (Ended s₁) s₁ := by
  have rv := vals_ints hi
  have main : ∀ H : Hp, Only H → SqL K H a (ns.map V.int) → HOk P w H s₁.heap → (∀ b, H b ≠ none → b = a) → (H a ≠ none → K.lookup a = none) →
      codeAny (model P w) callerA (.call (.ref fa) ⟨[.ref a], []⟩) (Ended s₁) s₁ := by
    intro H hO hS hok one hK
    -- what isn't the script lies in the base
    have off : ∀ {b : Addr}, b ≠ a → H b = none := fun {b} hb => Classical.byContradiction fun z => hb (one b z)
    have low : ∀ {b : Addr} {o : Obj}, s₁.heap.get? b = some o → H b = none → (hidT s₁.heap H).get? b = some o := fun e n => hidT_get e n
    have dic : ∀ {b : Addr} {o : Obj} {es : Array DictEntry} {ep : Nat}, s₁.heap.get? b = some o → o.data = .dict es ep → H b = none := fun {b o es ep} e d => off fun z => by
      subst z
      rw [ha] at e
      cases e
      cases (show Data.seq vs.toArray _ = Data.dict es ep from d)
    have nsB : ∀ {b : Addr} {m : Str → Option Value}, s₁.heap.Ns b m → (hidT s₁.heap H).Ns b m := fun {b m} ⟨o, es, ep, e, d, r⟩ => ⟨o, es, ep, low e (dic e d), d, r⟩
    have inB : K.In (hidT s₁.heap H) := fun b o e => low (KX b o e) (Classical.byContradiction fun z => by
      have eb := one b z
      subst eb
      rw [hK z] at e
      cases e)
    have md : Mod K mg (hidT s₁.heap H) := ⟨inB, nsB hns, ⟨mb, nsB hb, hbb⟩, let ⟨mc, h1, h2⟩ := hlim; ⟨mc, nsB h1, h2⟩⟩
    have e0 : Env0 P w K mg (hidT s₁.heap H) callerA [] s₁ H :=
      ⟨rfl, md, fun b o e => of_hidT e, Nat.le_of_eq (hidT_size _ _), trivial, fun b hb => absurd (show b ∈ ([] : List Addr) from hb) (by simp), hok, .of_eq hg⟩
    exact codeAny_mono ((G _ inB (nsB hns)).goes callerA [] s₁ H [.ref a] [.ref a] _ _ hgd hr e0 (hbind s₁ (.ref a)) (.cons rfl .nil) (hsp H hO hS)) fun r s' h => ended_of hO hok (hCX H) h
  cases hk : K.lookup a with
  | some o =>
    have e := KX a o hk
    rw [ha] at e
    cases e
    exact main (fun _ => none) (fun _ => .inl rfl) (.inr ⟨_, vs.toArray, _, hk, rfl, rfl, rfl, by rw [List.size_toArray, hi.length]; exact hl, by simpa using rv⟩) (fun b u z => nomatch (show (none : Option HO) = some u from z))
      (fun b z => absurd rfl z) fun z => absurd rfl z
  | none =>
    refine main (fun b => if b = a then some (.frz { cls := .type "list", data := .seq vs.toArray } (.lst (ns.map V.int))) else none) (fun b => ?_) (.inl (.inr ⟨{ cls := .type "list", data := .seq vs.toArray }, if_pos rfl⟩)) (fun b u z => ?_)
      (fun b z => Classical.byContradiction fun nb => z (if_neg nb)) fun _ => hk
    · by_cases nb : b = a
      · exact .inr ⟨_, _, if_pos nb⟩
      · exact .inl (if_neg nb)
    · by_cases nb : b = a
      · cases (if_pos nb).symm.trans z
        subst nb
        exact ⟨ha, by rw [List.length_map]; exact hl, vs, _, rv, ha⟩
      · cases (if_neg nb).symm.trans z
end
theorem walk_ofG {l : PySem.W.OpenLaw} {n k : Nat} {q : Program} {loose : List Str} {XP : (Str → Option Value) → Heap → Prop} {YP : World → Heap → Prop} {d : DefRec} {K : Params → PySem.W.Frag} {CX : World → CXT} {sp : World → Sp} {x : Str}
    (hn : l.most = some n) (hn2 : n ≤ sizeLine) (hdf : d.params.defaults = []) (hr : Room k callerA) (hgd : callerA.guards = some []) (hY : ∀ (w : World) (h : Heap), YP w h → (K w.params).In h)
    (F : ∀ (w : World) (mg : Str → Option Value) (fa : Addr) (h : Heap), (K w.params).In h → h.Ns mainGlobals mg → mg d.name = some (.ref fa) →
      ∃ fd : FuncData, (∀ (s : Shared) (u : Value), BindsTo s fd ⟨[u], []⟩ [(x, u)]) ∧ ∀ base : Heap, (K w.params).In base → base.Ns mainGlobals mg → FnG l.prog w (K w.params) mg base (CX w) k fa fd [x] (sp w))
    (hsp : ∀ (w : World) (H : Hp) (a : Addr) (ns : List Int), ns.length ≤ n → Only H → SqL (K w.params) H a (ns.map V.int) → sp w [.ref a] H (fun v _ => v = .bl true) fun _ _ _ => False)
    (hCX : ∀ (w : World) (H : Hp) (s : Shared) (e : Value) (s' : Shared), CX w [] H s (fun _ _ _ => False) e s' → False) : PySem.W.WalkO q loose XP YP l.row.toRowW d [] (fun f vs => PySem.call f vs) := by
  refine Att.attach_call hn hdf fun w s₀ s₁ mg mb fa o pm cd doc a vs ns G Y ho hd hcd hmg hobj hints hlen hg => ?_
  obtain ⟨fd, hb, hF⟩ := F w mg fa _ (hY w _ Y) G.T.g hmg
  exact law_callG (hY w _ Y) G.T.g G.T.b G.T.builtins G.T.nolimit hg hobj hints (Nat.le_trans hlen hn2) hr hgd hF hb (fun H hO hS => hsp w H a ns hlen hO hS) fun H e s' => hCX w H s₁ e s'
end Lm

set_option Elab.async false
set_option linter.all false
set_option maxRecDepth 100000
set_option maxHeartbeats 4000000
namespace Lm
open PySem PySem.Spec PyProof.Rows L2
section
variable {X : Cx} {CX : CXT} {k : Nat} {f C : Addr} {fd : FuncData} {ps : List Str} {sp : Sp} {E : L2.St → XK} {x : Str} {p pos : Pos} {e : Expr} {es : List Expr} {t : TA}
/-- C(e, ..), what its __init__ raises wished for at the slots -/
def tMakeS (C : Addr) (sp : Sp) (E : L2.St → XK) (t : TA) : TE := fun σ H Q => t σ H fun vs H1 => ∀ a dx, H1 a = none → H1 dx = none → dx ≠ a →
  sp (.ref a :: vs) (upd (upd H1 dx (.own a)) a (.ins C dx [])) (fun v H2 => v = .non ∧ Q (.ref a) H2) (E σ)
theorem pe_makeS (M : Mk X.K C f) (F : FnOk X.prog X.w X.K X.mg X.base CX k f fd ps sp) (hr : Room (k + 1) X.A) (hg : Gl X x) (hm : X.mg x = some (.ref C)) (hb : Binds X.K fd ps []) (hx : ∀ σ, PassesAt CX X σ (E σ))
    (ha : PA X (e :: es) t) (hdb : (x == ("__debug__" : Str)) = false := by decide) (he : starEach (e :: es) X.env = (false, eval e X.env) :: starEach es X.env := by rfl) (hpl : (backTo pos (starEach es X.env)).any (·.1) = false := by rfl) :
    PE X (.Call (.Name x p) (e :: es) [] pos) (tMakeS C sp E t) := by
  refine ⟨fun pins s σ H Q I h => ?_⟩
  refine wpAny_Call_Name_kw (ld_glob I hg hm (PySem.W.callWith_K (h₀ := X.base) I.ok.mod.kin M.kp (thn (ha.run pos pins s σ H _ I h) fun us s1 ⟨vs, H1, I1, r, q⟩ => ⟨I1.kIn, ?_⟩) he hpl) hdb)
  have hq := q (s1.heap.objs.size + 1) s1.heap.objs.size (I1.hok.fresh (Nat.le_succ _)) (I1.hok.fresh (Nat.le_refl _)) (Nat.ne_of_lt (Nat.lt_succ_self _))
  have J := Inv.made (C := C) I1
  have r2 : Vals (V.ref (s1.heap.objs.size + 1) :: vs) (Value.ref (s1.heap.objs.size + 1) :: us) := .cons rfl r
  have hl : (Value.ref (s1.heap.objs.size + 1) :: us).length = ps.length := (r2.length).symm.trans (F.len _ _ _ _ hq)
  have b := hb _ (Value.ref (s1.heap.objs.size + 1) :: us) J.kIn (by simpa using hl)
  rw [List.append_nil] at b
  show wpAny _ _ (call (.ref C) us) _ _ _
  refine wpAny_call (make_map (f := f) I1.kIn M.makes M.init (beq_iff_eq.mp M.fn) (codeAny_mono (F.run _ X.stack _ _ ⟨Value.ref (s1.heap.objs.size + 1) :: us, []⟩ _ _ _ (E σ) (hr.make C us []) (J.env0.make C us []) b r2 hq) fun z s' y => ?_))
  cases z with
  | error er => exact hx σ pins _ _ er s' J y
  | ok fl => cases fl with
    | ret u =>
      obtain ⟨v, H', I3, rv, ev, q3⟩ := J.after y
      subst ev
      exact ⟨rv, ⟨V.ref (s1.heap.objs.size + 1), H', I3, rfl, q3⟩⟩
    | next => exact y.elim
    | brk => exact y.elim
    | cont => exact y.elim
end
section
variable {P : Program} {w : World} {K : PySem.W.Frag} {mg : Str → Option Value} {base : Heap} {k : Nat} {f : Addr} {N ps : List Str} {sp : Sp} {x qual : Str} {st : Stmt} {fd : FuncData}
/-- .. of a def that no exception leaves -/
theorem FnG.ok (Fz : Fun K x qual st f fd) (S : FnScope N ps (defScope st)) (many : ∀ vs H Q E, sp vs H Q E → vs.length = ps.length)
    (body : ∀ (cdv : Value) (A : Around) (o : List Env) (s : Shared) (H : Hp) (vs : List V) (Q : VK) (E : XK), A.guards = some [] → Room k (A.deeper (envOfC qual (defScope st) s.heap.objs.size f cdv)) → sp vs H Q E →
      ∃ t, PSs (cxOf CX0 P w K mg base N qual (defScope st) f cdv A o s H E).nox (defBody st) t ∧ t { nx := fun _ H' => Q .non H', rt := Q } (start N vs) H) :
    FnG P w K mg base CX0 (k + 1) f fd ps sp :=
  FnG.of Fz S many fun cdv A o s H vs Q E hg hr hsp => let ⟨t, h, q⟩ := body cdv A o s H vs Q E hg hr hsp; ⟨t, h.nox, q⟩
theorem ifT {c : Bool} {Y Z : Prop} (e : c = true) (h : Y) : if c = true then Y else Z := by
  subst e
  exact iteT h
theorem ifF {c : Bool} {Y Z : Prop} (e : c = false) (h : Z) : if c = true then Y else Z := by
  subst e
  exact iteF h
theorem guards_deeper {A : Around} (env : Env) (h : A.guards = some []) : (A.deeper env).guards = some [] := by
  first
    | exact h
    | simpa [Around.deeper, pushGuards, Code.guards] using h
end
/-- what stood stands -/
theorem same_new {H : Hp} {p : Addr} {o : HO} (h : H p = none) : Same H (upd H p o) := fun b u e => by rw [upd_ne (ne_of_none e h)]; exact e
end Lm

set_option Elab.async false
set_option linter.all false
set_option maxRecDepth 100000
set_option maxHeartbeats 4000000
namespace Lm
open PySem PySem.Spec PyProof.Rows L2
theorem fm_take {α : Type} {os : List (Option α)} {i : Nat} {o : Option α} (h : os[i]? = some o) : (os.take (i + 1)).filterMap id = (os.take i).filterMap id ++ o.toList := by
  have hi : i < os.length := by
    have := List.getElem?_eq_some_iff.mp h
    exact this.1
  have e : os.take (i + 1) = os.take i ++ [o] := by
    rw [List.take_add_one, h]
    rfl
  rw [e, List.filterMap_append]
  cases o <;> rfl
theorem fm_len {α : Type} (os : List (Option α)) : (os.filterMap id).length ≤ os.length := List.length_filterMap_le _ _
/-- a comprehension over a list that stands: what each turn keeps -/
theorem lc_fm {K : PySem.W.Frag} {a : Addr} {xs : List V} {g : TG} {tt : TT} {te : TE} {vs : List Nat} {σ : L2.St} {H1 : Hp} {D : Addr} {Qd : Hp → Prop} (os : List (Option V)) (hS : SqL K H1 a xs) (hD : H1 D = none) (hl : xs.length = os.length) (hz : os.length ≤ sizeLine)
    (hs : ∀ (i : Nat) (x : V) (o : Option V) (H : Hp) (Qy : VK) (Qn : Hp → Prop), xs[i]? = some x → os[i]? = some o → Same H1 H → (∀ y, o = some y → ∀ H4, Same H H4 → Qy y H4) → (o = none → ∀ H4, Same H H4 → Qn H4) →
      g x (wipe σ vs) H fun σ2 H2 => wipe σ2 vs = wipe σ vs ∧ tt σ2 H2 fun b H3 => if b = true then te σ2 H3 Qy else Qn H3) (hd : ∀ H, Same H1 H → H D = some (.lst (os.filterMap id)) → Qd H) :
    ∃ W : Nat → Nat → Hp → Prop, (∃ m, W 0 m (upd H1 D (.lst []))) ∧ ∀ i m H, W i m H →
      ((Itl K a).stop i H ∧ Qd H) ∨ ((Itl K a).go i H ∧ ∃ Nx : Hp → Prop, (∀ H', Nx H' → ∃ m', m' < m ∧ W (i + 1) m' H') ∧ ∀ x H', (Itl K a).yld i H x H' → g x (wipe σ vs) H' fun σ2 H2 => wipe σ2 vs = wipe σ vs ∧ tt σ2 H2 fun b H3 =>
        if b = true then te σ2 H3 fun y H4 => ∃ acc, H4 D = some (.lst acc) ∧ acc.length < sizeLine ∧ Nx (upd H4 D (.lst (acc ++ [y]))) else Nx H3) := by
  refine lc_list (K := K) (a := a) (xs := xs) (fun i H => Same H1 H ∧ H D = some (.lst ((os.take i).filterMap id))) ⟨same_new hD, by rw [upd_same]; rfl⟩ (fun i H _ z => z.1.seq hS) (fun i x H hx z => ?_) (fun H z => hd H z.1 (by rw [z.2, hl, List.take_length]))
  obtain ⟨z1, z2⟩ := z
  have hi : i < os.length := by
    have := (List.getElem?_eq_some_iff.mp hx).1
    omega
  have ho : os[i]? = some os[i] := List.getElem?_eq_getElem hi
  refine hs i x os[i] H _ _ hx ho z1 (fun y e H4 s4 => ⟨_, s4 _ _ z2, ?_, ?_, ?_⟩) (fun e H4 s4 => ⟨z1.trans s4, ?_⟩)
  · have := fm_len (os.take i)
    rw [List.length_take] at this
    omega
  · intro b u eb
    rw [upd_ne (ne_of_none eb hD)]
    exact s4 _ _ (z1 _ _ eb)
  · rw [upd_same, fm_take ho, e]
    rfl
  · rw [s4 _ _ z2, fm_take ho, e]
    simp
theorem seqT {K : PySem.W.Frag} {H H' : Hp} {a : Addr} {xs : List V} (e : Same H H') (h : SqT K H a xs) : SqT K H' a xs := by
  rcases h with (h | ⟨o, h⟩) | h
  · exact .inl (.inl (e _ _ h))
  · exact .inl (.inr ⟨o, e _ _ h⟩)
  · exact .inr h
/-- a comprehension over a tuple that stands: what each turn keeps -/
theorem lc_fmT {K : PySem.W.Frag} {a : Addr} {xs : List V} {g : TG} {tt : TT} {te : TE} {vs : List Nat} {σ : L2.St} {H1 : Hp} {D : Addr} {Qd : Hp → Prop} (os : List (Option V)) (hS : SqT K H1 a xs) (hD : H1 D = none) (hl : xs.length = os.length) (hz : os.length ≤ sizeLine)
    (hs : ∀ (i : Nat) (x : V) (o : Option V) (H : Hp) (Qy : VK) (Qn : Hp → Prop), xs[i]? = some x → os[i]? = some o → Same H1 H → (∀ y, o = some y → ∀ H4, Same H H4 → Qy y H4) → (o = none → ∀ H4, Same H H4 → Qn H4) →
      g x (wipe σ vs) H fun σ2 H2 => wipe σ2 vs = wipe σ vs ∧ tt σ2 H2 fun b H3 => if b = true then te σ2 H3 Qy else Qn H3) (hd : ∀ H, Same H1 H → H D = some (.lst (os.filterMap id)) → Qd H) :
    ∃ W : Nat → Nat → Hp → Prop, (∃ m, W 0 m (upd H1 D (.lst []))) ∧ ∀ i m H, W i m H →
      ((Itt K a).stop i H ∧ Qd H) ∨ ((Itt K a).go i H ∧ ∃ Nx : Hp → Prop, (∀ H', Nx H' → ∃ m', m' < m ∧ W (i + 1) m' H') ∧ ∀ x H', (Itt K a).yld i H x H' → g x (wipe σ vs) H' fun σ2 H2 => wipe σ2 vs = wipe σ vs ∧ tt σ2 H2 fun b H3 =>
        if b = true then te σ2 H3 fun y H4 => ∃ acc, H4 D = some (.lst acc) ∧ acc.length < sizeLine ∧ Nx (upd H4 D (.lst (acc ++ [y]))) else Nx H3) := by
  refine lc_tup (K := K) (a := a) (xs := xs) (fun i H => Same H1 H ∧ H D = some (.lst ((os.take i).filterMap id))) ⟨same_new hD, by rw [upd_same]; rfl⟩ (fun i H _ z => seqT z.1 hS) (fun i x H hx z => ?_) (fun H z => hd H z.1 (by rw [z.2, hl, List.take_length]))
  obtain ⟨z1, z2⟩ := z
  have hi : i < os.length := by
    have := (List.getElem?_eq_some_iff.mp hx).1
    omega
  have ho : os[i]? = some os[i] := List.getElem?_eq_getElem hi
  refine hs i x os[i] H _ _ hx ho z1 (fun y e H4 s4 => ⟨_, s4 _ _ z2, ?_, ?_, ?_⟩) (fun e H4 s4 => ⟨z1.trans s4, ?_⟩)
  · have := fm_len (os.take i)
    rw [List.length_take] at this
    omega
  · intro b u eb
    rw [upd_ne (ne_of_none eb hD)]
    exact s4 _ _ (z1 _ _ eb)
  · rw [upd_same, fm_take ho, e]
    rfl
  · rw [s4 _ _ z2, fm_take ho, e]
    simp
end Lm

set_option Elab.async false
set_option linter.all false
set_option maxRecDepth 100000
set_option maxHeartbeats 4000000
namespace Lm
open PySem PySem.Spec PyProof.Rows L2
/-- o.m(e, ..), what m raises wished for at the slots -/
def tMethE (C : Addr) (m : Str) (sp : Sp) (E : L2.St → XK) (ta : TE) (t : TA) : TE := fun σ H Q => ta σ H fun x H1 => ∃ a dx fs, x = .ref a ∧ H1 a = some (.ins C dx fs) ∧ fs.lookup m = none ∧ t σ H1 fun vs H2 => sp (x :: vs) H2 Q (E σ)
/-- o(e, ..), o an instance of C -/
def tCallE (C : Addr) (sp : Sp) (E : L2.St → XK) (tf : TE) (t : TA) : TE := fun σ H Q => tf σ H fun y H1 => ∃ a, y = V.ref a ∧ t σ H1 fun vs H2 => (∃ dx fs, H2 a = some (.ins C dx fs)) ∧ sp (V.ref a :: vs) H2 Q (E σ)
section
variable {X : Cx} {CX : CXT} {k : Nat} {f C g : Addr} {fd : FuncData} {ps : List Str} {sp : Sp} {E : L2.St → XK} {m : Str} {apos pos : Pos} {o e fe : Expr} {es : List Expr} {ta tf : TE} {t : TA}
theorem pe_methE {pl : Sem Bool} (he : PE X o ta) (c : Cls X.K C) (hm : Meth X.K C m f) (F : FnOk X.prog X.w X.K X.mg X.base CX k f fd ps sp) (hr : Room k X.A) (hb : Binds X.K fd ps []) (hx : ∀ σ, PassesAt CX X σ (E σ)) (ha : PA X (e :: es) t)
    (hst : starEach (e :: es) X.env = (false, eval e X.env) :: starEach es X.env := by rfl) (hpl : (backTo pos (starEach es X.env)).any (·.1) = false := by rfl)
    (ht : eval (.Call (.Attribute o m apos) (e :: es) [] pos) X.env = (do
      let ov ← eval o X.env
      standAt apos.atName
      let (f, first) ← holding [ov] (getMethod ov m pl)
      callWith pos f first (backTo pos (starEach (e :: es) X.env)) (backToKw pos (keywordEach [] X.env))) := by rfl) :
    PE X (.Call (.Attribute o m apos) (e :: es) [] pos) (tMethE C m sp E ta t) := by
  refine ⟨fun pins s σ H Q I h => ?_⟩
  refine PySem.W.methodCall_KW (pl := pl) (thn (he.run pins s σ H _ I h) fun u s1 ⟨x, H1, I1, rx, a, dx, fs, ex, ea, l, q⟩ => ?_) ht
  subst ex
  obtain rfl : u = Value.ref a := rx
  refine getmeth_ok I1 ea c hm l ?_
  refine PySem.W.callWith_K (first := [.ref a]) (h₀ := X.base) I.ok.mod.kin hm.kp (thn (ha.run pos pins s1 σ H1 _ I1 q) fun us s2 ⟨vs, H2, I2, r, q2⟩ => ⟨I2.kIn, ?_⟩) hst hpl
  exact run_fnS (us := .ref a :: us) (vs := .ref a :: vs) F hr hb (hx σ) I2 (.cons rfl r) q2
theorem pe_callE (hf : PE X fe tf) (c : StX.CallO X.K C g) (F : FnOk X.prog X.w X.K X.mg X.base CX k g fd ps sp) (hr : Room k X.A) (hb : Binds X.K fd ps []) (hx : ∀ σ, PassesAt CX X σ (E σ)) (ha : PA X (e :: es) t)
    (ht : eval (.Call fe (e :: es) [] pos) X.env = (do callWith pos (← eval fe X.env) [] (backTo pos (starEach (e :: es) X.env)) (backToKw pos (keywordEach [] X.env))) := by rfl)
    (he : starEach (e :: es) X.env = (false, eval e X.env) :: starEach es X.env := by rfl) (hpl : (backTo pos (starEach es X.env)).any (·.1) = false := by rfl) : PE X (.Call fe (e :: es) [] pos) (tCallE C sp E tf t) := by
  refine ⟨fun pins s σ H Q I h => ?_⟩
  refine Call_ (thn (hf.run pins s σ H _ I h) fun u s1 ⟨y, H1, I1, ry, a, ey, q⟩ => ?_) ht
  subst ey
  obtain rfl : u = Value.ref a := ry
  refine StX.callO_with (thn (ha.run pos pins s1 σ H1 _ I1 q) fun us s2 ⟨vs, H2, I2, r, hi, q2⟩ => ?_) he hpl
  obtain ⟨ox, od, J, hd⟩ := StX.insC_at I2 (.inr hi)
  refine ⟨⟨C, ox, od, J, hd⟩, ?_⟩
  have r2 : Vals (V.ref a :: vs) (Value.ref a :: us) := .cons rfl r
  have hl : (Value.ref a :: us).length = ps.length := (r2.length).symm.trans (F.len _ _ _ _ q2)
  have b := hb _ (Value.ref a :: us) I2.kIn (by simpa using hl)
  rw [List.append_nil] at b
  refine wpAny_call (PySem.W.kco_code I2.kIn J hd c.at_ c.fn c.fi (codeAny_mono (F.run X.A X.stack s2 H2 ⟨Value.ref a :: us, []⟩ _ _ _ (E σ) hr I2.env0 b r2 q2) fun z s' y => ?_))
  cases z with
  | error er => exact hx σ pins _ _ er s' I2 y
  | ok fl => cases fl with
    | ret u => exact I2.after y
    | next => exact y.elim
    | brk => exact y.elim
    | cont => exact y.elim
end
/-! ### displays at places that are not the modules' dict -/
section
variable {X : Cx} {es : List Expr} {t : TA} {pos : Pos}
def tTupN (t : TA) : TE := fun σ H Q => t σ H fun xs H1 => xs.length ≤ sizeLine ∧ ∀ p, H1 p = none → p ≠ sysModules → Q (.ref p) (upd H1 p (.tup xs))
def tLstN (t : TA) : TE := fun σ H Q => t σ H fun xs H1 => xs.length ≤ sizeLine ∧ ∀ p, H1 p = none → p ≠ sysModules → Q (.ref p) (upd H1 p (.lst xs))
theorem pe_tupN {x1} (h : PA X es t) : PE X (.Tuple es x1 pos) (tTupN t) := by
  refine ⟨fun pins s σ H Q I hq => ?_⟩
  refine wpAny_Tuple_spliced (thn (h.run pos pins s σ H _ I hq) fun us s1 ⟨xs, H1, I1, r, z, q⟩ => ⟨by rw [← r.length]; exact z, ?_⟩)
  have hf : H1 s1.heap.objs.size = none := I1.hok.fresh (Nat.le_refl _)
  refine ⟨.ref s1.heap.objs.size, upd H1 s1.heap.objs.size (.tup xs), I1.laid (t' := s1.toks) (fun b u e => Heap.get?_push_of_some _ e) (Nat.le_refl _) ?_, rfl, q _ hf (Nat.ne_of_gt I1.big)⟩
  exact ⟨z, us, r, ⟨_, Heap.get?_push_size _ rfl, rfl, _, rfl⟩⟩
theorem pe_lstN (h : PA X es t) : PE X (.List es pos) (tLstN t) := by
  refine ⟨fun pins s σ H Q I hq => ?_⟩
  refine wpAny_List_spliced (thn (h.run pos pins s σ H _ I hq) fun us s1 ⟨xs, H1, I1, r, z, q⟩ => ⟨by rw [← r.length]; exact z, ?_⟩)
  have hf : H1 s1.heap.objs.size = none := I1.hok.fresh (Nat.le_refl _)
  refine ⟨.ref s1.heap.objs.size, upd H1 s1.heap.objs.size (.lst xs), I1.laid (t' := s1.toks) (fun b u e => Heap.get?_push_of_some _ e) (Nat.le_refl _) ?_, rfl, q _ hf (Nat.ne_of_gt I1.big)⟩
  exact ⟨z, us, 0, r, Heap.get?_push_size _ rfl⟩
end
/-! ### data with an empty dict in it -/
mutual
inductive DE (N : Addr → Prop) (H : Hp) : V → PyData → Prop
  | non : DE N H .non .none
  | bl (b : Bool) : DE N H (.bl b) (.bool b)
  | int (i : Int) : DE N H (.int i) (.int i)
  | str (x : Str) : DE N H (.str x) (.str x)
  | lst {a : Addr} {xs : List V} {ds : List PyData} : N a → H a = some (.lst xs) → DEs N H xs ds → DE N H (.ref a) (.list ds)
  | tup {a : Addr} {xs : List V} {ds : List PyData} : H a = some (.tup xs) → DEs N H xs ds → DE N H (.ref a) (.tuple ds)
  | emp {a : Addr} : H a = some (.dK []) → DE N H (.ref a) (.dict [])
inductive DEs (N : Addr → Prop) (H : Hp) : List V → List PyData → Prop
  | nil : DEs N H [] []
  | cons {v : V} {vs : List V} {d : PyData} {ds : List PyData} : DE N H v d → DEs N H vs ds → DEs N H (v :: vs) (d :: ds)
end
/-- off the modules' dict -/
abbrev Off : Addr → Prop := fun a => a ≠ sysModules
mutual
theorem DE.same {N : Addr → Prop} {H H' : Hp} (s : ∀ b o, H b = some o → H' b = some o) : ∀ {d : PyData} {v : V}, DE N H v d → DE N H' v d
  | .none, _, h => by cases h; exact .non
  | .bool b, _, h => by cases h; exact .bl b
  | .int i, _, h => by cases h; exact .int i
  | .str x, _, h => by cases h; exact .str x
  | .list ds, _, h => by cases h with | lst n e q => exact .lst n (s _ _ e) (DEs.same s q)
  | .tuple ds, _, h => by cases h with | tup e q => exact .tup (s _ _ e) (DEs.same s q)
  | .dict [], _, h => by cases h with | emp e => exact .emp (s _ _ e)
  | .dict (_ :: _), _, h => by cases h
theorem DEs.same {N : Addr → Prop} {H H' : Hp} (s : ∀ b o, H b = some o → H' b = some o) : ∀ {ds : List PyData} {vs : List V}, DEs N H vs ds → DEs N H' vs ds
  | [], _, h => by cases h; exact .nil
  | d :: ds, _, h => by cases h with | cons h1 h2 => exact .cons (DE.same s h1) (DEs.same s h2)
end
section
variable {X : Cx} {pins : List (Addr × Obj)} {σ : L2.St} {H : Hp} {s : Shared}
mutual
theorem DE.reads (I : Inv X pins σ H s) : ∀ (d : PyData) (v : V) (u : Value), DE Off H v d → RelV v u → ∃ as, Reads s.heap u d as ∧ sysModules ∉ as
  | .none, _, _, h, r => by
    cases h
    cases r
    exact ⟨_, Reads.none, by simp⟩
  | .bool b, _, _, h, r => by
    cases h
    cases r
    exact ⟨_, Reads.bool b, by simp⟩
  | .int i, _, _, h, r => by
    cases h
    obtain ⟨t, rfl⟩ := r
    exact ⟨_, Reads.int i t, by simp⟩
  | .str x, _, _, h, r => by
    cases h
    obtain ⟨t, rfl⟩ := r
    exact ⟨_, Reads.str x t, by simp⟩
  | .list ds, _, _, h, r => by
    cases h with
    | lst n hs ha =>
      cases r
      obtain ⟨its, rv, ⟨o, m, ho, hc, _, hd⟩, _⟩ := I.list (SqL.of hs)
      obtain ⟨as, hr, no⟩ := DE.readsAll I ds _ its ha rv
      exact ⟨_, Reads.list ho hc hd hr, by simpa using ⟨Ne.symm n, no⟩⟩
  | .tuple ds, _, _, h, r => by
    cases h with
    | tup hs ha =>
      cases r
      obtain ⟨its, rv, ⟨o, ho, hc, m, hd⟩, _⟩ := I.tuple (SqT.of hs)
      obtain ⟨as, hr, no⟩ := DE.readsAll I ds _ its ha rv
      exact ⟨_, Reads.tuple ho hc hd hr, by simpa using no⟩
  | .dict [], _, _, h, r => by
    cases h with
    | @emp a hE =>
      cases r
      obtain ⟨_, hsys, vs, rel, o, es, ep, ho, hx, hd, _, hp, _⟩ := dk_of I.hok hE
      have e0 : es.toList = [] := by
        have l := hp.length
        cases rel
        exact List.eq_nil_of_length_eq_zero (by simpa using l)
      refine ⟨a :: [] ++ [], .dict ho hx.1 hd (by rw [e0]; exact .nil) (by rw [e0]; exact .nil), fun hm => ?_⟩
      have e1 : sysModules = a := by simpa using hm
      rw [e1] at hsys
      simp at hsys
  | .dict (_ :: _), _, _, h, _ => by cases h
theorem DE.readsAll (I : Inv X pins σ H s) : ∀ (ds : List PyData) (vs : List V) (us : List Value), DEs Off H vs ds → Vals vs us → ∃ as, ReadsAll s.heap us ds as ∧ sysModules ∉ as
  | [], _, _, h, r => by
    cases h
    cases r
    exact ⟨_, ReadsAll.nil, by simp⟩
  | d :: ds, _, _, h, r => by
    cases h with
    | cons h1 h2 =>
      cases r with
      | cons r1 r2 =>
        obtain ⟨as, q1, n1⟩ := DE.reads I d _ _ h1 r1
        obtain ⟨bs, q2, n2⟩ := DE.readsAll I ds _ _ h2 r2
        exact ⟨_, ReadsAll.cons q1 q2, by simpa using ⟨n1, n2⟩⟩
end
end
/-- repr of such data -/
def rReprD : List V → Hp → VK → Prop := fun xs H Q => ∃ x d, xs = [x] ∧ DE Off H x d ∧ d.showable = true ∧ d.depth ≤ 60 ∧ d.shown.length ≤ sizeLine ∧ Q (.str d.shown) H
section
variable {X : Cx}
theorem call_reprD (hg : X.A.guards = some []) (hu : X.A.units + 64 < cLine) : CallR X (.builtin "repr") rReprD := by
  intro pins s σ H xs us Q I r h
  obtain ⟨x, d, rfl, hS, hs, hd, hz, q⟩ := h
  obtain ⟨u, rfl, ru⟩ := vals1 r
  cases hS with
  | non =>
    obtain rfl : u = Value.none := ru
    exact PySem.P.repr_of_none ⟨.str _, H, I.tok _, ⟨_, rfl⟩, q⟩
  | bl b =>
    obtain rfl : u = Value.bool b := ru
    exact PySem.P.repr_of_bool ⟨.str _, H, I.tok _, ⟨_, rfl⟩, q⟩
  | int i =>
    obtain ⟨tk, rfl⟩ := (show ∃ t, u = Value.int i t from ru)
    exact PySem.P.repr_of_int (by simpa [PyData.showable] using hs) ⟨.str _, H, I.tok _, ⟨_, rfl⟩, q⟩
  | str z =>
    obtain ⟨tk, rfl⟩ := (show ∃ t, u = Value.str z t from ru)
    exact PySem.P.repr_of_str (h := ⟨.str _, H, I.tok _, ⟨_, rfl⟩, q⟩) hz
  | @lst a xs ds n e l =>
    obtain rfl : u = Value.ref a := ru
    obtain ⟨as, rd, no⟩ := DE.reads I _ _ _ (.lst n e l) rfl
    exact repr_of_reads' rd hs (fun _ => no) hg (by omega) (fun _ _ e => e) (fun h' u tk hk => ⟨.str _, H, I.kept hk, ⟨_, rfl⟩, q⟩) hz
  | @tup a xs ds e l =>
    obtain rfl : u = Value.ref a := ru
    obtain ⟨as, rd, no⟩ := DE.reads I _ _ _ (.tup e l) rfl
    exact repr_of_reads' rd hs (fun _ => no) hg (by omega) (fun _ _ e => e) (fun h' u tk hk => ⟨.str _, H, I.kept hk, ⟨_, rfl⟩, q⟩) hz
  | @emp a e =>
    obtain rfl : u = Value.ref a := ru
    obtain ⟨as, rd, no⟩ := DE.reads I _ _ _ (.emp e) rfl
    exact repr_of_reads' rd hs (fun _ => no) hg (by omega) (fun _ _ e => e) (fun h' u tk hk => ⟨.str _, H, I.kept hk, ⟨_, rfl⟩, q⟩) hz
end
/-! ### isinstance of data -/
def tyD : PyData → String
  | .none => "NoneType"
  | .bool _ => "bool"
  | .int _ => "int"
  | .str _ => "str"
  | .list _ => "list"
  | .tuple _ => "tuple"
  | .dict _ => "dict"
theorem DE.ty {N : Addr → Prop} {K : PySem.W.Frag} {H : Hp} {v : V} {d : PyData} (h : DE N H v d) : TyX K H v (.type (tyD d)) := by
  cases h with
  | non => exact .base .non
  | bl b => exact .base (.bl b)
  | int i => exact .base (.int i)
  | str x => exact .base (.str x)
  | lst n e q => exact .base (.lst e)
  | tup e q => exact .base (.tup e)
  | emp e => exact .base (.dK e)
theorem ty_int {K : PySem.W.Frag} (d : PyData) : PySem.W.kitOne K (.type (tyD d)) (.type "int") = some (match d with | .int _ => true | .bool _ => true | _ => false) := by
  cases d with
  | none => exact kit_ty (show kitB "NoneType" "int" = some false by decide +kernel)
  | bool _ => exact kit_ty (show kitB "bool" "int" = some true by decide +kernel)
  | int _ => exact kit_ty (show kitB "int" "int" = some true by decide +kernel)
  | str _ => exact kit_ty (show kitB "str" "int" = some false by decide +kernel)
  | list _ => exact kit_ty (show kitB "list" "int" = some false by decide +kernel)
  | tuple _ => exact kit_ty (show kitB "tuple" "int" = some false by decide +kernel)
  | dict _ => exact kit_ty (show kitB "dict" "int" = some false by decide +kernel)
theorem ty_bool {K : PySem.W.Frag} (d : PyData) : PySem.W.kitOne K (.type (tyD d)) (.type "bool") = some (match d with | .bool _ => true | _ => false) := by
  cases d with
  | none => exact kit_ty (show kitB "NoneType" "bool" = some false by decide +kernel)
  | bool _ => exact kit_ty (show kitB "bool" "bool" = some true by decide +kernel)
  | int _ => exact kit_ty (show kitB "int" "bool" = some false by decide +kernel)
  | str _ => exact kit_ty (show kitB "str" "bool" = some false by decide +kernel)
  | list _ => exact kit_ty (show kitB "list" "bool" = some false by decide +kernel)
  | tuple _ => exact kit_ty (show kitB "tuple" "bool" = some false by decide +kernel)
  | dict _ => exact kit_ty (show kitB "dict" "bool" = some false by decide +kernel)
theorem ty_list {K : PySem.W.Frag} (d : PyData) : PySem.W.kitOne K (.type (tyD d)) (.type "list") = some (match d with | .list _ => true | _ => false) := by
  cases d with
  | none => exact kit_ty (show kitB "NoneType" "list" = some false by decide +kernel)
  | bool _ => exact kit_ty (show kitB "bool" "list" = some false by decide +kernel)
  | int _ => exact kit_ty (show kitB "int" "list" = some false by decide +kernel)
  | str _ => exact kit_ty (show kitB "str" "list" = some false by decide +kernel)
  | list _ => exact kit_ty (show kitB "list" "list" = some true by decide +kernel)
  | tuple _ => exact kit_ty (show kitB "tuple" "list" = some false by decide +kernel)
  | dict _ => exact kit_ty (show kitB "dict" "list" = some false by decide +kernel)
theorem ty_tuple {K : PySem.W.Frag} (d : PyData) : PySem.W.kitOne K (.type (tyD d)) (.type "tuple") = some (match d with | .tuple _ => true | _ => false) := by
  cases d with
  | none => exact kit_ty (show kitB "NoneType" "tuple" = some false by decide +kernel)
  | bool _ => exact kit_ty (show kitB "bool" "tuple" = some false by decide +kernel)
  | int _ => exact kit_ty (show kitB "int" "tuple" = some false by decide +kernel)
  | str _ => exact kit_ty (show kitB "str" "tuple" = some false by decide +kernel)
  | list _ => exact kit_ty (show kitB "list" "tuple" = some false by decide +kernel)
  | tuple _ => exact kit_ty (show kitB "tuple" "tuple" = some true by decide +kernel)
  | dict _ => exact kit_ty (show kitB "dict" "tuple" = some false by decide +kernel)
end Lm

set_option Elab.async false
set_option linter.all false
set_option maxRecDepth 100000
set_option maxHeartbeats 4000000
namespace Lm
open PySem PySem.Spec PyProof.Rows L2
/-! ### displays of data -/
mutual
def okSz : PyData → Bool
  | .list ds => decide (ds.length ≤ 1000) && okSzs ds
  | .tuple ds => decide (ds.length ≤ 1000) && okSzs ds
  | _ => true
def okSzs : List PyData → Bool
  | [] => true
  | d :: ds => okSz d && okSzs ds
end
def tDat (d : PyData) : TE := fun _ H Q => okSz d = true ∧ ∀ v H', Same H H' → DE Off H' v d → Q v H'
def tDats (ds : List PyData) : TA := fun _ H Q => okSzs ds = true ∧ ∀ vs H', Same H H' → DEs Off H' vs ds → Q vs H'
theorem DEs.len {N : Addr → Prop} {H : Hp} : ∀ {ds : List PyData} {vs : List V}, DEs N H vs ds → vs.length = ds.length
  | [], _, h => by cases h; rfl
  | d :: ds, _, h => by
    cases h with
    | cons h1 h2 => simp [DEs.len h2]
section
variable {X : Cx} {e : Expr} {es : List Expr} {t t' : TE} {u u' : TA} {d : PyData} {ds : List PyData} {pos : Pos}
theorem pe_weak (h : PE X e t) (w : ∀ σ H Q, t' σ H Q → t σ H Q) : PE X e t' := ⟨fun pins s σ H Q I q => h.run pins s σ H Q I (w σ H Q q)⟩
theorem pa_weak (h : PA X es u) (w : ∀ σ H Q, u' σ H Q → u σ H Q) : PA X es u' := ⟨fun pos pins s σ H Q I q => h.run pos pins s σ H Q I (w σ H Q q)⟩
theorem dat_non {j} : PE X (.Constant .none j pos) (tDat .none) := pe_weak pe_non fun σ H Q h => h.2 _ _ (Same.refl _) .non
theorem dat_bl {b j} : PE X (.Constant (.bool b) j pos) (tDat (.bool b)) := pe_weak pe_bl fun σ H Q h => h.2 _ _ (Same.refl _) (.bl b)
theorem dat_int {i j} : PE X (.Constant (.int i) j pos) (tDat (.int i)) := pe_weak pe_int fun σ H Q h => h.2 _ _ (Same.refl _) (.int i)
theorem dat_str {x j} : PE X (.Constant (.str x) j pos) (tDat (.str x)) := pe_weak pe_str fun σ H Q h => h.2 _ _ (Same.refl _) (.str x)
theorem dat_neg {i j pos'} : PE X (.UnaryOp .USub (.Constant (.int i) j pos') pos) (tDat (.int (-i))) := pe_weak (pe_un un_neg pe_int) fun σ H Q h => ⟨_, rfl, h.2 _ _ (Same.refl _) (.int (-i))⟩
theorem dat_emp : PE X (.Dict [] [] pos) (tDat (.dict [])) := pe_weak pe_dnewK fun σ H Q h p hp => h.2 _ _ (same_new hp) (.emp upd_same)
theorem dats_nil : PA X [] (tDats []) := pa_weak pa_nil fun σ H Q h => h.2 _ _ (Same.refl _) .nil
theorem dat_lst (h : PA X es (tDats ds)) : PE X (.List es pos) (tDat (.list ds)) := pe_weak (pe_lstN h) fun σ H Q q => by
  obtain ⟨q1, q⟩ := q
  have q2 := Bool.and_eq_true_iff.mp (show (decide (ds.length ≤ 1000) && okSzs ds) = true from q1)
  refine ⟨q2.2, fun vs H' s hd => ⟨?_, fun p hp off => q _ _ (s.trans (same_new hp)) (.lst off upd_same (hd.same (same_new hp)))⟩⟩
  rw [DEs.len hd, sizeLine_eq]
  exact Nat.le_trans (of_decide_eq_true q2.1) (by decide)
theorem dat_tup (h : PA X es (tDats ds)) {x1} : PE X (.Tuple es x1 pos) (tDat (.tuple ds)) := pe_weak (pe_tup h) fun σ H Q q => by
  obtain ⟨q1, q⟩ := q
  have q2 := Bool.and_eq_true_iff.mp (show (decide (ds.length ≤ 1000) && okSzs ds) = true from q1)
  refine ⟨q2.2, fun vs H' s hd => ⟨?_, fun p hp => q _ _ (s.trans (same_new hp)) (.tup upd_same (hd.same (same_new hp)))⟩⟩
  rw [DEs.len hd, sizeLine_eq]
  exact Nat.le_trans (of_decide_eq_true q2.1) (by decide)
theorem dats_cons (h : PE X e (tDat d)) (hs : PA X es (tDats ds)) (he : starEach (e :: es) X.env = (false, eval e X.env) :: starEach es X.env := by rfl) : PA X (e :: es) (tDats (d :: ds)) := pa_weak (pa_cons h hs he) fun σ H Q q => by
  obtain ⟨q1, q⟩ := q
  have q2 := Bool.and_eq_true_iff.mp (show (okSz d && okSzs ds) = true from q1)
  exact ⟨q2.1, fun v H1 s1 h1 => ⟨q2.2, fun vs H2 s2 h2 => q _ _ (s1.trans s2) (.cons (h1.same s2) h2)⟩⟩
end
section
variable {X : Cx} {CX : CXT} {k : Nat} {f : Addr} {fd : FuncData} {ps : List Str} {sp : Sp} {E : XK} {x : Str} {p pos : Pos}
/-- f() -/
theorem pe_callG0 (G : FnG X.prog X.w X.K X.mg X.base CX k f fd ps sp) (hgd : X.A.guards = some []) (hr : Room k X.A) (hg : Gl X x) (hm : X.mg x = some (.ref f)) (hk : PySem.W.keepIn X.K (.ref f) = true) (hb : Binds X.K fd ps [])
    (hx : Passes CX X E) (hdb : (x == ("__debug__" : Str)) = false := by decide) : PE X (.Call (.Name x p) [] [] pos) (tCall sp [] E tNil) := by
  refine ⟨fun pins s σ H Q I h => ?_⟩
  refine wpAny_Call_Name_kw (ld_glob I hg hm ?_ hdb)
  refine PySem.W.callWith_K0 I.kIn hk ?_
  have q : sp [] H Q E := h
  have hl : ([] : List Value).length = ps.length := G.many _ _ _ _ q
  have b := hb s [] I.kIn (by simpa using hl)
  rw [List.append_nil] at b
  refine wpAny_call (codeAny_mono (G.goes X.A X.stack s H [] [] Q E hgd hr I.env0 b .nil q) fun z s' y => ?_)
  cases z with
  | error er => exact hx pins σ H s er s' I y
  | ok fl => cases fl with
    | ret v => exact I.after y
    | next => exact y.elim
    | brk => exact y.elim
    | cont => exact y.elim
end
/-! ### data without dicts, as the layer has it -/
mutual
theorem DE.dp {N : Addr → Prop} {K : PySem.W.Frag} {H : Hp} : ∀ {d : PyData} {v : V}, DE N H v d → d.canLay0 = true → Dp K H v d
  | .none, _, h, _ => by cases h; exact .non
  | .bool b, _, h, _ => by cases h; exact .bl b
  | .int i, _, h, _ => by cases h; exact .int i
  | .str x, _, h, _ => by cases h; exact .str x
  | .list ds, _, h, c => by cases h with | lst n e q => exact .lst (SqL.of e) (DEs.dp q c)
  | .tuple ds, _, h, c => by cases h with | tup e q => exact .tup (SqT.of e) (DEs.dp q c)
  | .dict _, _, _, c => by cases c
theorem DEs.dp {N : Addr → Prop} {K : PySem.W.Frag} {H : Hp} : ∀ {ds : List PyData} {vs : List V}, DEs N H vs ds → PyData.canLayAll0 ds = true → DpAll K H vs ds
  | [], _, h, _ => by cases h; exact .nil
  | d :: ds, _, h, c => by
    have c2 := Bool.and_eq_true_iff.mp (show (d.canLay0 && PyData.canLayAll0 ds) = true from c)
    cases h with | cons h1 h2 => exact .cons (DE.dp h1 c2.1) (DEs.dp h2 c2.2)
end
end Lm

set_option Elab.async false
set_option linter.all false
set_option maxRecDepth 100000
set_option maxHeartbeats 8000000
namespace PySem.HandSExt
open PySem PySem.Spec PyProof.Rows Builtin PySem.F
set_option maxRecDepth 8000 in
/-- a list grows by the items of a tuple -/
theorem grow_tup (l b : Addr) (us ws : Array Value) (n m : Nat) (dd : Option Addr) (sl : Array (Option Value)) (h0 : ¬(!us.isEmpty && Builtin.List.listTooLong (us.size + ws.size)) = true) (h1 : us.size ≤ sizeLine) (h2 : us.size + ws.size ≤ sizeLine + 1) :
    Meets (Builtin.«list.extend» ⟨[.ref l, .ref b], []⟩) (fun _ R s => s.heap.get? l = some { cls := .type "list", dict := none, data := .seq us n, slots := #[] } ∧ s.heap.get? b = some { cls := .type "tuple", dict := dd, data := .seq ws m, slots := sl } ∧
      R (.ok (.ret Value.none)) { s with heap := s.heap.update l (Obj.mapSeq fun x => x ++ ws), toks := s.toks }) := by
  refine .of_wp fun prog w A R s h => ?_
  obtain ⟨hp, g, d, tk, os⟩ := s
  obtain ⟨hl, hb, h⟩ := h
  have f1 := AutoSeq1.idx_int
  have f2 := AutoSeq1.sub_tuple_tuple
  have f3 := AutoSeq1.sub_list_list
  have f4 := AutoSeq1.sub_tuple_list
  have f5 := AutoSeq1.sub_list_tuple
  have hz' : (us ++ ws).size ≤ sizeLine + 1 := by rw [Array.size_append]; exact h2
  wp_walk using (wpAny_updateSeq hl rfl (hz := h1) (_hz' := hz')), AutoSeq1.wpAny_loadPart' hl, AutoSeq1.wpAny_loadPart' hb
  exact ⟨_, rfl, h⟩
end PySem.HandSExt
namespace Lm
open PySem PySem.Spec PyProof.Rows L2
section
variable {X : Cx}
def rExtT (K : PySem.W.Frag) : V → List V → Hp → VK → Prop := fun x vs H Q => ∃ l b xs zs, x = .ref l ∧ vs = [.ref b] ∧ H l = some (.lst xs) ∧ SqT K H b zs ∧ xs.length + zs.length ≤ sizeLine ∧ Q .non (upd H l (.lst (xs ++ zs)))
theorem mt_extT : MtR X "list.extend" (rExtT X.K) := by
  intro pins s σ H x vs v us Q I rx rv h
  obtain ⟨l, b, xs, zs, rfl, rfl, hH, hB, hz, q⟩ := h
  cases rx
  obtain ⟨u, rfl, ru⟩ := rv.one
  cases ru
  obtain ⟨z, its, n, r, hl, e⟩ := I.lstM hH
  obtain ⟨ws, r2, ⟨⟨cls, dd, data, sl⟩, ho, hc, m, hd⟩, hl2⟩ := I.tuple hB
  simp only at hc hd
  subst hc hd
  have e2 := r2.length
  have many : its.toArray.size + ws.toArray.size ≤ sizeLine := by simp only [List.size_toArray]; omega
  have door : ¬ (!its.toArray.isEmpty && Builtin.List.listTooLong (its.toArray.size + ws.toArray.size)) = true := by
    rw [notLongL many, Bool.and_false]
    exact Bool.false_ne_true
  refine call_meets F.slot_list_extend ⟨_, e, rfl⟩ F.entry_list_extend (F.args_list_extend_2 _ _) (PySem.HandSExt.grow_tup l b its.toArray ws.toArray n m dd sl door (by simp only [List.size_toArray]; omega) (by omega)) ⟨e, ho, ?_⟩
  exact ⟨.non, _, I.lset (its' := its ++ ws) hH e (by simp) (r.append r2) (by rw [List.length_append]; omega), rfl, q⟩
end
theorem ty_str {K : PySem.W.Frag} (d : PyData) : PySem.W.kitOne K (.type (tyD d)) (.type "str") = some (match d with | .str _ => true | _ => false) := by
  cases d with
  | none => exact kit_ty (show kitB "NoneType" "str" = some false by decide +kernel)
  | bool _ => exact kit_ty (show kitB "bool" "str" = some false by decide +kernel)
  | int _ => exact kit_ty (show kitB "int" "str" = some false by decide +kernel)
  | str _ => exact kit_ty (show kitB "str" "str" = some true by decide +kernel)
  | list _ => exact kit_ty (show kitB "list" "str" = some false by decide +kernel)
  | tuple _ => exact kit_ty (show kitB "tuple" "str" = some false by decide +kernel)
  | dict _ => exact kit_ty (show kitB "dict" "str" = some false by decide +kernel)
end Lm

set_option Elab.async false
set_option linter.all false
set_option maxRecDepth 100000
set_option maxHeartbeats 8000000
/-! sets of None and texts: what they are, set.add, len, set comprehensions -/
namespace LmSet
open PySem PySem.Spec PyProof.Rows L2
def nHash : Int := 0xFCA86420
theorem pyHash_non {prog : Program} {w : World} {A : Around} {E : Value → Shared → Prop} {s : Shared} {Q : Int → Shared → Prop} (h : Q nHash { s with toks := s.toks + 1 }) : wpAny (model prog w) A (pyHash .none) Q E s := by
  have t : s.TypeIs .none "NoneType" := rfl
  unfold pyHash
  refine wpAny_bind ?_
  rw [cRoomFor, if_neg (by exact Bool.false_ne_true)]
  refine wpAny_pure (wpAny_bind (wpAny_specialOf t PySem.F.slot_NoneType_hash.lookup ?_))
  show wpAny _ _ (if (some (Value.builtin "NoneType.__hash__") == some Value.none) = true then _ else _) Q E s
  rw [if_neg (by rw [beq_builtin_none]; exact Bool.false_ne_true)]
  refine wpAny_bind (wpAny_specialOf t PySem.F.slot_NoneType_hash.lookup ?_)
  show wpAny _ _ (callSpecialIfBoundUnlessNone? .none "__hash__" _ >>= _) Q E s
  refine wpAny_bind (wpAny_callSpecialIfBoundUnlessNone?_slot t PySem.F.slot_NoneType_hash (wpAny_call_entry PySem.F.slot_NoneType_hash t PySem.F.entry_NoneType_hash (show wpAny _ _ (do ret (← mkInt nHash)) _ _ s from wpAny_ret_mkInt ?_) (PySem.F.args_NoneType_hash_1 _)))
  show wpAny _ _ (if (decide (-(2 : Int) ^ 63 ≤ nHash) && decide (nHash < 2 ^ 63)) = true then _ else _) Q E _
  rw [if_pos (by decide)]
  exact wpAny_pure h
/-- a member: None or a text -/
abbrev Mb := Option Str
def isM : Mb → Value → Bool
  | none, .none => true
  | some x, v => Value.isStrOf x v
  | _, _ => false
theorem isM_shape : ∀ {k : Mb} {v : Value}, isM k v = true → (k = none ∧ v = .none) ∨ ∃ x t, k = some x ∧ v = .str x t
  | none, v, h => by
    cases v <;> first
      | exact .inl ⟨rfl, rfl⟩
      | exact absurd h Bool.false_ne_true
  | some x, v, h => by
    obtain ⟨t, e⟩ := Value.isStrOf_shape (x := x) (v := v) h
    exact .inr ⟨x, t, rfl, e⟩
def hM (w : World) : Mb → Int
  | none => nHash
  | some x => hashStr w x
def kindM (prog : Program) (w : World) : PySem.KeyKind prog w Mb where
  is := isM
  hash := hM w
  inj := fun v a b ha hb => by
    rcases isM_shape ha with ⟨rfl, rfl⟩ | ⟨x, t, rfl, rfl⟩
    · rcases isM_shape hb with ⟨rfl, _⟩ | ⟨y, u, rfl, e⟩
      · rfl
      · exact nomatch e
    · rcases isM_shape hb with ⟨rfl, e⟩ | ⟨y, u, rfl, e⟩
      · exact nomatch e
      · injection e with e1 _
        rw [e1]
  byValue := fun k v h => by
    rcases isM_shape h with ⟨rfl, rfl⟩ | ⟨x, t, rfl, rfl⟩ <;> rfl
  pyHash := fun hv h => by
    rcases isM_shape hv with ⟨rfl, rfl⟩ | ⟨x, t, rfl, rfl⟩
    · exact pyHash_non h
    · exact wpAny_pyHash_str h
  eqBool := fun hu hv h => by
    rcases isM_shape hu with ⟨rfl, rfl⟩ | ⟨x, t, rfl, rfl⟩
    · rcases isM_shape hv with ⟨rfl, rfl⟩ | ⟨y, u, rfl, rfl⟩
      · exact SeqAt.EqAt.same _ _ _ _ _ (by simpa using h)
      · exact SeqAt.EqAt.none_str y u _ _ _ _ (by simpa using h)
    · rcases isM_shape hv with ⟨rfl, rfl⟩ | ⟨y, u, rfl, rfl⟩
      · exact SeqAt.EqAt.str_none x t _ _ _ _ (by simpa using h)
      · exact wpAny_eqBool_str (by simpa using h)
  «strs» := fun k x t v h => by
    rcases isM_shape h with ⟨rfl, e⟩ | ⟨y, u, rfl, e⟩
    · exact nomatch e
    · injection e with e1 _
      subst e1
      cases v <;> rfl
/-! ### as a tracked thing -/
def SetM (P : Program) (w : World) (a : Addr) (S : Mb → Bool) (n : Nat) : HO := .ext fun h => h.SetOf (kindM P w) a S n
def mV : Mb → V
  | none => .non
  | some x => .str x
theorem setM_ok {P : Program} {w : World} {H : Hp} {h : Heap} {a : Addr} {S : Mb → Bool} {n : Nat} (R : h.SetOf (kindM P w) a S n) : ObjOk P w H h a (SetM P w a S n) := by
  refine ⟨R, ?_, fun h1 h2 p k => ?_⟩
  · obtain ⟨o, _, _, _, ho, _⟩ := R
    exact ⟨o, ho⟩
  · obtain ⟨o, es, ep, t, ho, r⟩ := p
    exact ⟨o, es, ep, t, k o ho, r⟩
theorem mem_is {P : Program} {w : World} {k : Mb} {u : Value} (r : RelV (mV k) u) : (kindM P w).is k u = true ∧ u.scannable = true := by
  cases k with
  | none =>
    obtain rfl : u = Value.none := r
    exact ⟨rfl, rfl⟩
  | some x =>
    obtain ⟨t, rfl⟩ := (show ∃ t, u = Value.str x t from r)
    exact ⟨by show Value.isStrOf x (.str x t) = true; simp [Value.isStrOf], rfl⟩
section
variable {X : Cx} {pins : List (Addr × Obj)} {σ : L2.St} {H : Hp} {s : Shared} {D : Addr} {S : Mb → Bool} {n : Nat}
theorem addM {E : Value → Shared → Prop} {Q : Value → Shared → Prop} {k : Mb} {u : Value} (I : Inv X pins σ H s) (hD : H D = some (SetM X.prog X.w D S n)) (room : n + 1 < scanBound) (r : RelV (mV k) u)
    (h : ∀ s', Inv X pins σ (upd H D (SetM X.prog X.w D (fun j => S j || decide (j = k)) (if S k = true then n else n + 1))) s' → Q .none s') : wpAny (model X.prog X.w) X.A (call (.builtin "set.add") [.ref D, u]) Q E s := by
  have R : s.heap.SetOf (kindM X.prog X.w) D S n := (I.hok D _ hD).1
  obtain ⟨i1, i2⟩ := mem_is (P := X.prog) (w := X.w) r
  refine call_set_add i1 i2 R room fun h' sb new => ?_
  have there : ∃ o, h'.get? D = some o := by
    obtain ⟨o, _, _, _, ho, _⟩ := new
    exact ⟨o, ho⟩
  exact h _ (I.write (e := D) (t' := s.toks + 1) (by rw [hD]; trivial) (.inl rfl) (fun b o nb e => (sb.2 b nb).trans e) there (setM_ok new))
theorem freshM {P : Program} {w : World} (h : Heap) : (h.push { cls := .type "set", dict := none, data := .set #[] 0 (.fresh 0 0 (!w.params.followText "set-order")) }).SetOf (kindM P w) h.objs.size (fun _ => false) 0 :=
  ⟨_, #[], 0, _, Heap.get?_push_size _ rfl, ⟨rfl, rfl, rfl⟩, rfl, (fun e he => by simp at he), (fun k => by simp), (by decide), (by rfl), rfl⟩
/-- len of such a set -/
def rLenM (P : Program) (w : World) : List V → Hp → VK → Prop := fun xs H Q => ∃ a S n, xs = [.ref a] ∧ H a = some (SetM P w a S n) ∧ Q (.int (n : Nat)) H
theorem call_lenM : CallR X (.builtin "len") (rLenM X.prog X.w) := by
  intro pins s σ H xs us Q I r h
  obtain ⟨a, S, n, rfl, ha, q⟩ := h
  obtain ⟨u, rfl, ru⟩ := vals1 r
  obtain rfl : u = Value.ref a := ru
  obtain ⟨o, es, ep, t, ho, hx, hd, _, _, hb, hf, rfl⟩ : s.heap.SetOf (kindM X.prog X.w) a S n := (I.hok a _ ha).1
  refine call_len_set ho hx hd hf (by have : scanBound = 4096 := rfl; omega) ?_
  exact ⟨.int (es.size : Nat), H, I.tok _, ⟨_, rfl⟩, q⟩
end
section
variable {X : Cx}
/-- {elt for target in iter if ..}, elt None or a text: D the new set -/
def tScM (P : Program) (w : World) (wi : TI) (g : TG) (tt : TT) (te : TE) (vs : List Nat) : TE := fun σ H Q => wi σ H fun J H1 => ∀ D, H1 D = none → ∃ Y : Nat → Nat → Hp → Prop, (∃ m, Y 0 m (upd H1 D (SetM P w D (fun _ => false) 0))) ∧ ∀ i m H', Y i m H' →
  (J.stop i H' ∧ Q (.ref D) H') ∨ (J.go i H' ∧ ∃ Z : Hp → Prop, (∀ H2, Z H2 → ∃ m2, m2 < m ∧ Y (i + 1) m2 H2) ∧ ∀ x H2, J.yld i H' x H2 → g x (wipe σ vs) H2 fun σ3 H3 => wipe σ3 vs = wipe σ vs ∧ tt σ3 H3 fun b H4 =>
    if b = true then te σ3 H4 fun y H5 => ∃ (c : Mb) (S : Mb → Bool) (n : Nat), y = mV c ∧ H5 D = some (SetM P w D S n) ∧ n + 1 < scanBound ∧ Z (upd H5 D (SetM P w D (fun j => S j || decide (j = c)) (if S c = true then n else n + 1))) else Z H4)
theorem pe_scM {elt tg iter : Expr} {ifs : List Expr} {scope : Scope} {own : List (PySem.Str × Nat)} {pos : Pos} {wi : TI} {g : TG} {tt : TT} {te : TE} (calm : X.calm = true) (nodup : X.N.Nodup) (hi : PI X tg iter wi) (blk : BlkOk X.N X.env.scope scope own)
    (hg : ∀ (s : Shared) (H : Hp) (C : Addr) (cl : List (PySem.Str × Addr)) (fp : List Addr), PG (X.blk s H scope (compEnvC scope cl C X.env) fp) tg g) (ht : ∀ (s : Shared) (H : Hp) (C : Addr) (cl : List (PySem.Str × Addr)) (fp : List Addr), PTs (X.blk s H scope (compEnvC scope cl C X.env) fp) ifs tt)
    (he : ∀ (s : Shared) (H : Hp) (C : Addr) (cl : List (PySem.Str × Addr)) (fp : List Addr), PE (X.blk s H scope (compEnvC scope cl C X.env) fp) elt te) (hs : ∀ x, foldedSetIterable iter X.env x = pure x := by intro _; rfl) :
    PE X (.SetComp elt [⟨tg, iter, ifs, 0⟩] scope pos) (tScM X.prog X.w wi g tt te (own.map (·.2))) := by
  refine ⟨fun pins s σ H Q I h => ?_⟩
  rw [PpSet.eval_SetComp]
  have cells : ∀ y ∈ scope.names, y.2 = .free → ∃ c, X.env.cells.lookup y.1 = some c := fun y hy e => by
    rcases blk.free y hy e with k | k <;> exact I.ok.has _ (by first | exact .inl k | exact .inr k)
  refine wpAny_comprehension_free (use := none) rfl hs (closure_ok cells) blk.kind (fun y hy e => by rw [blk.uniq y hy, e]) (thn (hi.run pins s σ H _ I h) fun xv sA hx => thn hx fun itv sB hB => ?_)
  obtain ⟨it, fp, tn, J, HB, e, IB, T, stB, fB, ask⟩ := hB
  subst e
  refine PpSet.newSet_ok (newEnv_comp ?_)
  generalize eD : sB.heap.objs.size = D
  have free : HB D = none := IB.hok.fresh (Nat.le_of_eq eD)
  obtain ⟨Y, ⟨m0, y0⟩, turn⟩ := ask D free
  generalize eC : ({ sB with heap := sB.heap.push { cls := .type "set", dict := none, data := .set #[] 0 (.fresh 0 0 (!X.w.params.followText "set-order")) } } : Shared) = sC
  have heapC : sC.heap = sB.heap.push { cls := .type "set", dict := none, data := .set #[] 0 (.fresh 0 0 (!X.w.params.followText "set-order")) } := by rw [← eC]
  generalize eH : upd HB D (SetM X.prog X.w D (fun _ => false) 0) = HC at y0
  have IC : Inv X pins σ HC sC := by
    rw [← eC, ← eH]
    exact IB.laid (t' := sB.toks) (fun b o e => Heap.get?_push_of_some _ e) (Nat.le_of_eq eD) (by rw [← eD]; exact setM_ok (freshM _))
  have low : ∀ b ∈ fp, b < sB.heap.objs.size := fun b hb => let ⟨o, e, _⟩ := T.obj _ _ stB b hb; Heap.lt_size e
  have fC : ∀ b ∈ fp, FpOk X pins HC b ∧ b < sC.heap.objs.size := fun b hb => by
    refine ⟨⟨?_, (fB b hb).2⟩, by rw [heapC, Heap.size_push]; exact Nat.lt_succ_of_lt (low b hb)⟩
    rw [← eH, upd_ne (by rw [← eD]; exact Nat.ne_of_lt (low b hb))]
    exact (fB b hb).1
  have none_ : ∀ b ∈ fp, HC b = none := fun b hb => (fC b hb).1.1
  have stC : tn 0 sC.heap := T.keep _ _ _ stB fun b _ o e => by rw [heapC]; exact Heap.get?_push_of_some _ e
  have IE := block_start IC blk nodup fC
  have pg := hg sC HC sC.heap.objs.size (cellsFrom (sC.heap.objs.size + 1) scope.names (cloFrom X.env.cells scope.names [])) fp
  have pt := ht sC HC sC.heap.objs.size (cellsFrom (sC.heap.objs.size + 1) scope.names (cloFrom X.env.cells scope.names [])) fp
  have pe := he sC HC sC.heap.objs.size (cellsFrom (sC.heap.objs.size + 1) scope.names (cloFrom X.env.cells scope.names [])) fp
  generalize eV : compEnvC scope (cellsFrom (sC.heap.objs.size + 1) scope.names (cloFrom X.env.cells scope.names [])) sC.heap.objs.size X.env = env at IE pg pt pe
  have locals_ : env.locals = sC.heap.objs.size := by rw [← eV]; rfl
  generalize eG : ({ sC with heap := pushCells (sC.heap.push { cls := .type "dict", data := .dict #[] }) scope.names } : Shared) = sG at IE
  have stG : tn 0 sG.heap := T.keep _ _ _ stC fun b _ o e => by rw [← eG]; exact pushCells_keeps _ _ _ _ (Heap.get?_push_of_some _ e)
  have stay : ∀ {σ' : L2.St} {H' : Hp} {s' : Shared}, Inv (X.blk sC HC scope env fp) [] σ' H' s' → (∀ b ∈ fp, H' b = none) → ∀ b ∈ fp, FpOk (X.blk sC HC scope env fp) [] H' b := fun {σ' H' s'} J hn b hb =>
    ⟨hn b hb, (J.ok.exf b hb).1, J.ok.exfs b hb, .inl hb, fun x c e => (J.ok.exf b hb).2 x c e, fun p hp => absurd (show p ∈ ([] : List (Addr × Obj)) ++ [] from hp) (by simp)⟩
  -- the end, back in the def
  have ends : ∀ (H' : Hp) (s' : Shared), Inv (X.blk sC HC scope env fp) [] (wipe σ (own.map (·.2))) H' s' → Q (.ref D) H' → compPost (model X.prog X.w) X.A X.xe none (fun u s'' => ∃ v H', Inv X pins σ H' s'' ∧ RelV v u ∧ Q v H') (.ref D) sC.heap.objs.size (.ok .next) s' := by
    intro H' s' J q
    have back : Inv X pins σ H' s' := IC.call' (ch := fp) J.os J.base J.hok J.bare fun b hb => ⟨(fC b hb).1.2.2.2.1, (fC b hb).1.2.1, (fC b hb).1.2.2.2.2.1, (fC b hb).1.2.2.2.2.2⟩
    have fr : H' sC.heap.objs.size = none := by
      have z : H' env.locals = none := J.free
      rwa [locals_] at z
    obtain ⟨m, hn, _⟩ := J.loc
    have hn : s'.heap.Ns sC.heap.objs.size m := by
      have z : s'.heap.Ns env.locals m := hn
      rwa [locals_] at z
    obtain ⟨f0, f1, f2, f3, f4, f5⟩ := IC.fpOk (Nat.le_refl _) fr
    exact ⟨m, hn, fun h'' sb => ⟨.ref D, H', back.turned (t' := s'.toks) (fun b o hb e => (sb.2 b hb).trans e) f0 f1 f3 f4 f5, rfl, q⟩⟩
  have loop : codeAny (model X.prog X.w) X.A (.compLoop (.SetComp elt [⟨tg, iter, ifs, 0⟩] scope pos) 0 (.ref it) (.ref D) env) (compPost (model X.prog X.w) X.A X.xe none (fun u s'' => ∃ v H', Inv X pins σ H' s'' ∧ RelV v u ∧ Q v H') (.ref D) sC.heap.objs.size) sG := by
    refine PpSet.compLoopS_any (fun n s' => ∃ i H', Inv (X.blk sC HC scope env fp) [] (wipe σ (own.map (·.2))) H' s' ∧ tn i s'.heap ∧ (∀ b ∈ fp, H' b = none) ∧ Y i n H') ?_ m0 ⟨0, HC, IE, stG, none_, y0⟩
    rintro n s5 ⟨i, H5, J5, t5, n5, y5⟩
    rcases turn i n H5 y5 with ⟨stop, q⟩ | ⟨go, Z, hZ, step⟩
    · refine thnF (T.done (X.blk sC HC scope env fp) rfl rfl rfl calm i [] s5 _ H5 (fun _ _ => False) J5 (stay J5 n5) t5 stop) fun r s6 ⟨hr, J6⟩ => ?_
      subst hr
      exact ends H5 s6 J6 q
    · refine thnF (T.item (X.blk sC HC scope env fp) rfl rfl rfl calm i [] s5 _ H5 (fun _ _ => False) J5 (stay J5 n5) t5 go) fun r s6 ⟨u, hr, h6⟩ => ?_
      subst hr
      refine thnF h6 fun _ s7 ⟨x, H7, J7, r7, y7, t7, n7⟩ => ?_
      have P7 := J7.pinned (stay J7 n7) (T.obj _ _ t7)
      refine thnF (pg.run _ s7 _ H7 x u _ P7 r7 (step x H7 y7)) fun _ s8 ⟨σ8, H8, J8, w8, q8⟩ => thnF (pt.run _ s8 σ8 H8 _ J8 q8) fun b s9 ⟨H9, J9, q9⟩ => ?_
      have next : ∀ {s' : Shared} {H' : Hp}, Inv (X.blk sC HC scope env fp) ([] ++ pinsAt fp s7.heap) σ8 H' s' → Z H' → ∃ m, m < n ∧ ∃ i H', Inv (X.blk sC HC scope env fp) [] (wipe σ (own.map (·.2))) H' s' ∧ tn i s'.heap ∧ (∀ b ∈ fp, H' b = none) ∧ Y i m H' := by
        intro s' H' J' z
        obtain ⟨m2, lt, y2⟩ := hZ H' z
        have pinned : ∀ b ∈ fp, ∀ o, s7.heap.get? b = some o → s'.heap.get? b = some o ∧ H' b = none := fun b hb o e =>
          have z := J'.pin (b, o) (List.mem_append_right _ (List.mem_append_right _ (mem_pinsAt hb e)))
          ⟨z.1, z.2.1⟩
        refine ⟨m2, lt, i + 1, H', (J'.unpinned (pins := [])).weak (by rw [← w8, wipe_length]) (fun j v e => ?_), T.keep _ _ _ t7 fun b hb o e => (pinned b hb o e).1, fun b hb => ?_, y2⟩
        · rw [← w8] at e
          exact (wipe_some e).1
        · obtain ⟨o, e, _⟩ := T.obj _ _ t7 b hb
          exact (pinned b hb o e).2
      cases b with
      | false =>
        simp only [Bool.false_eq_true, if_false] at q9 ⊢
        exact next J9 q9
      | true =>
        simp only [if_true] at q9 ⊢
        refine thnF (pe.run _ s9 σ8 H9 _ J9 q9) fun z s10 ⟨yv, H10, J10, r10, c, S0, n0, ey, hD, room, fin⟩ => ?_
        subst ey
        exact addM (X := X.blk sC HC scope env fp) J10 hD room r10 fun s11 J11 => next J11 fin
  have all := PpSet.codeAny_compStart_set loop (T.self X.A 0 _ _ _ stG loop)
  subst eV
  subst eG
  exact all
/-- over a tuple that stays -/
theorem sc_tupM {P : Program} {w : World} {K : PySem.W.Frag} {a : Addr} {xs : List V} {g : TG} {tt : TT} {te : TE} {vs : List Nat} {σ : L2.St} {H1 : Hp} {D : Addr} {Qd : Hp → Prop} (Pv : Nat → Hp → Prop) (h0 : Pv 0 (upd H1 D (SetM P w D (fun _ => false) 0))) (hl : ∀ i H, i ≤ xs.length → Pv i H → SqT K H a xs)
    (hs : ∀ i x H, xs[i]? = some x → Pv i H → g x (wipe σ vs) H fun σ2 H2 => wipe σ2 vs = wipe σ vs ∧ tt σ2 H2 fun b H3 =>
      if b = true then te σ2 H3 fun y H4 => ∃ (c : Mb) (S : Mb → Bool) (n : Nat), y = mV c ∧ H4 D = some (SetM P w D S n) ∧ n + 1 < scanBound ∧ Pv (i + 1) (upd H4 D (SetM P w D (fun j => S j || decide (j = c)) (if S c = true then n else n + 1))) else Pv (i + 1) H3) (hd : ∀ H, Pv xs.length H → Qd H) :
    ∃ Y : Nat → Nat → Hp → Prop, (∃ m, Y 0 m (upd H1 D (SetM P w D (fun _ => false) 0))) ∧ ∀ i m H', Y i m H' →
      ((Itt K a).stop i H' ∧ Qd H') ∨ ((Itt K a).go i H' ∧ ∃ Z : Hp → Prop, (∀ H2, Z H2 → ∃ m2, m2 < m ∧ Y (i + 1) m2 H2) ∧ ∀ x H2, (Itt K a).yld i H' x H2 → g x (wipe σ vs) H2 fun σ3 H3 => wipe σ3 vs = wipe σ vs ∧ tt σ3 H3 fun b H4 =>
        if b = true then te σ3 H4 fun y H5 => ∃ (c : Mb) (S : Mb → Bool) (n : Nat), y = mV c ∧ H5 D = some (SetM P w D S n) ∧ n + 1 < scanBound ∧ Z (upd H5 D (SetM P w D (fun j => S j || decide (j = c)) (if S c = true then n else n + 1))) else Z H4) := by
  refine ⟨fun i m H => m + i = xs.length ∧ Pv i H, ⟨xs.length, by simp, h0⟩, ?_⟩
  rintro i m H ⟨e, p⟩
  have q := hl i H (by omega) p
  by_cases lt : i < xs.length
  · refine .inr ⟨⟨xs, xs[i], q, by simp [lt]⟩, Pv (i + 1), fun H2 p2 => ⟨m - 1, by omega, by omega, p2⟩, fun x H2 y => ?_⟩
    obtain ⟨rfl, y⟩ := y
    exact hs i x _ (y xs q) p
  · obtain rfl : i = xs.length := by omega
    exact .inl ⟨⟨xs, q, Nat.le_refl _⟩, hd H p⟩
end
end LmSet

set_option Elab.async false
set_option linter.all false
set_option maxRecDepth 100000
set_option maxHeartbeats 4000000
namespace Lm
open PySem PySem.Spec PyProof.Rows L2
/-- a built-in function called with keywords -/
theorem tree_kw {prog : Program} {w : World} {A : Around} {E : Value → Shared → Prop} {s : Shared} {id : String} {b : Builtin} {a : Args} {Q : Value → Shared → Prop} (hk : builtinKind id = none) (hp : plainId id = true)
    (hb : entryFor table id = some b) (ha : argsOk id a)
    (hc : wpAny (model prog w) A.in1 (b a) (fun fin s' => match fin with
      | .done f => (match (Except.ok f : Result) with | .ok (.ret v) => Q v s' | .ok _ => False | .error e => E e s')
      | .again c' => c'.quiet = true ∧ codeAny (model prog w) A c' (fun r s' => match r with | .ok (.ret v) => Q v s' | .ok _ => False | .error e => E e s') s') E s) :
    wpAny (model prog w) A (call (.builtin id) a.pos a.kw) Q E s := by
  refine wpAny_call (codeAny_call_builtin hp hb ?_)
  simp only [checkBuiltinCall, hk]
  cases hs : Manifest.signature? id with
  | none => exact wpAny_pure hc
  | some g =>
    have q : Bind.checkArgs id g a = pure () := by
      simp only [argsOk, hs] at ha
      exact ha
    show wpAny _ _ (Bind.checkArgs id g a) _ _ _
    rw [q]
    exact wpAny_pure hc

section
variable {prog : Program} {w : World} {A : Around} {E : Value → Shared → Prop} {R : Result → Shared → Prop} {I : Addr} {fp wr : List Addr} {n : Nat} {P : Nat → Value → Prop} {St : Nat → Heap → Prop} {dv : Value}
/-- max's turns, with default= -/
theorem max_turns (W : Walks prog w A.in1 I fp wr n P St) (bt : Nat → Nat → Bool) (hcmp : CmpOf prog w A.in1 .Gt P bt) (S : Addr) (off : S ∉ fp) :
    ∀ (k j : Nat) (s : Shared) (vb : Value) (c : Nat), n - (j + 1) = k → j + 1 ≤ n → St (j + 1) s.heap → P (argBest bt j) vb →
    s.heap.get? S = some { cls := .type "list", dict := none, data := .seq #[vb, vb] c, slots := #[] } →
    (∀ v h' tk, P (argBest bt (n - 1)) v → (∀ b o, b ∉ wr → b ≠ S → s.heap.get? b = some o → h'.get? b = some o) → R (.ok (.ret v)) { s with heap := h', toks := tk }) →
    codeAny (model prog w) A (.builtin "max.loop" ⟨[.ref I, .none, .ref S], [(Str.ofString "default", dv)]⟩) R s := by
  have offw : S ∉ wr := fun h => off (W.sub _ h)
  have nm : (toString "max" ++ toString ".loop" : String) = "max.loop" := by decide
  intro k
  induction k with
  | zero =>
    intro j s vb c hk hj st hb hS fin
    have last : j + 1 = n := by omega
    refine codeAny_builtin F.entry_max_loop ?_
    rw [Around.under_plainId F.plain_max_loop _]
    refine wpAny_bind (m := seqItems? (.ref S)) (wpAny_seqItems hS rfl (wpAny_bind (m := tryCatch (pyNext (.ref I)) _) (wpAny_tryCatch (W.done s _ _ (last ▸ st) fun h' tk hk' => ?_))))
    have hS' := hk' S _ offw hS
    refine wpAny_bind (m := updateSeq S (fun _ => #[])) (wpAny_updateSeq hS' rfl (wpAny_bind (wpAny_letGo (wpAny_pure ?_))))
    exact fin vb _ tk (last ▸ hb) fun b o n1 n2 e => (Heap.get?_update_other _ _ (Ne.symm n2)).trans (hk' b o n1 e)
  | succ k ih =>
    intro j s vb c hk hj st hb hS fin
    have more : j + 1 < n := by omega
    refine codeAny_builtin F.entry_max_loop ?_
    rw [Around.under_plainId F.plain_max_loop _]
    refine wpAny_bind (m := seqItems? (.ref S)) (wpAny_seqItems hS rfl (wpAny_bind (m := tryCatch (pyNext (.ref I)) _) (wpAny_tryCatch (W.item (j + 1) s _ _ more st fun v h' tk hP st' hk' => ?_))))
    have hS' := hk' S _ offw hS
    refine wpAny_bind (m := tryCatch (holding [v, v] (richCompare .Gt v vb >>= _)) _) (wpAny_tryCatch (wpAny_holding (wpAny_bind (hcmp (j + 1) (argBest bt j) v vb _ _ _ hP hb ?_))))
    refine wpAny_bind (wpAny_holding (wpAny_truthy_bool ?_))
    refine wpAny_bind (wpAny_letGo (wpAny_pure ?_))
    cases q : bt (j + 1) (argBest bt j) with
    | true =>
      simp only [if_true]
      refine wpAny_bind (wpAny_updateSeq hS' rfl (wpAny_bind (wpAny_letGo ?_)))
      rw [nm]
      refine wpAny_pure ⟨plainId_quiet F.plain_max_loop _, ih (j + 1) _ v _ (by omega) more (W.frame _ _ _ st' fun b hbf o e => ?_) (by simp only [argBest, q, if_true]; exact hP) (Heap.get?_update_self _ hS' rfl) fun v' h'' tk'' hP' hk'' => ?_⟩
      · exact (Heap.get?_update_other _ _ (fun h : S = b => off (h ▸ hbf))).trans e
      · exact fin v' h'' tk'' hP' fun b o n1 n2 e => hk'' b o n1 n2 ((Heap.get?_update_other _ _ (Ne.symm n2)).trans (hk' b o n1 e))
    | false =>
      simp only [Bool.false_eq_true, if_false]
      refine wpAny_bind (wpAny_letGo ?_)
      rw [nm]
      refine wpAny_pure ⟨plainId_quiet F.plain_max_loop _, ih (j + 1) _ vb c (by omega) more st' (by simp only [argBest, q, Bool.false_eq_true, if_false]; exact hb) hS' fun v' h'' tk'' hP' hk'' => ?_⟩
      exact fin v' h'' tk'' hP' fun b o n1 n2 e => hk'' b o n1 n2 (hk' b o n1 e)
/-- max's first turn: an item, or the default -/
theorem max_first (W : Walks prog w A.in1 I fp wr n P St) (bt : Nat → Nat → Bool) (hcmp : CmpOf prog w A.in1 .Gt P bt) (S : Addr) (off : S ∉ fp) {s : Shared} {c : Nat} (st : St 0 s.heap)
    (hS : s.heap.get? S = some { cls := .type "list", dict := none, data := .seq #[] c, slots := #[] })
    (some_ : 0 < n → ∀ v h' tk, P (argBest bt (n - 1)) v → (∀ b o, b ∉ wr → b ≠ S → s.heap.get? b = some o → h'.get? b = some o) → R (.ok (.ret v)) { s with heap := h', toks := tk })
    (none_ : n = 0 → ∀ h' tk, (∀ b o, b ∉ wr → b ≠ S → s.heap.get? b = some o → h'.get? b = some o) → R (.ok (.ret dv)) { s with heap := h', toks := tk }) :
    codeAny (model prog w) A (.builtin "max.loop" ⟨[.ref I, .none, .ref S], [(Str.ofString "default", dv)]⟩) R s := by
  have offw : S ∉ wr := fun h => off (W.sub _ h)
  have nm : (toString "max" ++ toString ".loop" : String) = "max.loop" := by decide
  refine codeAny_builtin F.entry_max_loop ?_
  rw [Around.under_plainId F.plain_max_loop _]
  rcases Nat.eq_zero_or_pos n with z | hn
  · refine wpAny_bind (m := seqItems? (.ref S)) (wpAny_seqItems hS rfl (wpAny_bind (m := tryCatch (pyNext (.ref I)) _) (wpAny_tryCatch (W.done s _ _ (z ▸ st) fun h' tk hk' => ?_))))
    exact wpAny_bind (wpAny_rule (wpAny_pure (none_ z h' tk fun b o n1 _ e => hk' b o n1 e)))
  · refine wpAny_bind (m := seqItems? (.ref S)) (wpAny_seqItems hS rfl (wpAny_bind (m := tryCatch (pyNext (.ref I)) _) (wpAny_tryCatch (W.item 0 s _ _ hn st fun v h' tk hP st' hk' => ?_))))
    have hS' := hk' S _ offw hS
    refine wpAny_bind (m := updateSeq S (fun _ => #[v, v])) (wpAny_updateSeq hS' rfl ?_)
    rw [nm]
    refine wpAny_pure ⟨plainId_quiet F.plain_max_loop _, max_turns W bt hcmp S off _ 0 _ v _ rfl hn (W.frame _ _ _ st' fun b hbf o e => ?_) hP (Heap.get?_update_self _ hS' rfl) fun v' h'' tk'' hP' hk'' => ?_⟩
    · exact (Heap.get?_update_other _ _ (fun h : S = b => off (h ▸ hbf))).trans e
    · exact some_ hn v' h'' tk'' hP' fun b o n1 n2 e => hk'' b o n1 n2 ((Heap.get?_update_other _ _ (Ne.symm n2)).trans (hk' b o n1 e))
theorem args_maxd (a d : Value) : argsOk "max" ⟨[a], [(Str.ofString "default", d)]⟩ := by unfold argsOk; kernel_rfl
/-- max(l, default=d), l a list of ints -/
theorem max_call {s : Shared} {l : Addr} {xs : Array (Int × Tok)} {Q : Value → Shared → Prop} (hh : A.handled = none) (hl : s.heap.IsList l (intItems xs))
    (some_ : 0 < xs.size → ∀ v h' tk, (intItems xs)[argBest (fun i j => decide (numAt xs i > numAt xs j)) (xs.size - 1)]? = some v → (∀ b o, s.heap.get? b = some o → h'.get? b = some o) → Q v { s with heap := h', toks := tk })
    (none_ : xs.size = 0 → ∀ h' tk, (∀ b o, s.heap.get? b = some o → h'.get? b = some o) → Q dv { s with heap := h', toks := tk }) :
    wpAny (model prog w) A (call (.builtin "max") [.ref l] [(Str.ofString "default", dv)]) Q E s := by
  have nm : (toString "max" ++ toString ".loop" : String) = "max.loop" := by decide
  refine tree_kw (a := ⟨[.ref l], [(Str.ofString "default", dv)]⟩) F.kind_max F.plain_max F.entry_max (args_maxd _ _) ?_
  show wpAny _ A.in1 (Builtin.Builtins.bindParams "max" ["key", "default"] 0 ⟨[], [(Str.ofString "default", dv)]⟩ >>= _) _ _ s
  refine wpAny_bind (wpAny_of_eq (show Builtin.Builtins.bindParams "max" ["key", "default"] 0 ⟨[], [(Str.ofString "default", dv)]⟩ = pure [none, some dv] from rfl) (wpAny_bind (wpAny_pure (wpAny_bind ?_))))
  refine iter_intList hl fun s₂ e st hfp hne => ?_
  subst e
  refine wpAny_bind (wpAny_newObj_type ?_)
  rw [nm]
  have off : (s.heap.push { cls := .type "list_iterator", data := .fields #[.ref l, .int 0 0] }).objs.size ∉ [s.heap.objs.size, l] := fun hm => Nat.lt_irrefl _ (hfp _ hm)
  have W := Walks.list (prog := prog) (w := w) (A := A.in1) hh s.heap.objs.size l hne (intItems xs)
  have old : ∀ {b : Addr} {o : Obj}, s.heap.get? b = some o → b ∉ [s.heap.objs.size] ∧ b ≠ (s.heap.push { cls := .type "list_iterator", data := .fields #[.ref l, .int 0 0] }).objs.size := fun {b o} e => by
    have hb := Heap.lt_size e
    refine ⟨fun hm => Nat.ne_of_lt hb (List.mem_singleton.mp hm), ?_⟩
    rw [Heap.size_push]
    exact Nat.ne_of_lt (Nat.lt_succ_of_lt hb)
  refine wpAny_pure ⟨plainId_quiet F.plain_max_loop _, max_first W _ (CmpOf.ints_gt (numAt xs) (fun _ _ => intItems_at)) _ off (W.frame _ _ _ st fun b _ o e => Heap.get?_push_of_some _ e) (Heap.get?_push_size _ rfl) (fun hn v h' tk hP hk => ?_) (fun hn h' tk hk => ?_)⟩
  · exact some_ (by simpa [intItems] using hn) v h' tk (by simpa [intItems] using hP) fun b o e => hk b o (old e).1 (old e).2 (Heap.get?_push_of_some _ (Heap.get?_push_of_some _ e))
  · exact none_ (by simpa [intItems] using hn) h' tk fun b o e => hk b o (old e).1 (old e).2 (Heap.get?_push_of_some _ (Heap.get?_push_of_some _ e))
end
/-- max of a list of ints, or what is told for none -/
def rmaxd (K : PySem.W.Frag) : List V → List V → Hp → VK → Prop := fun vs zs H Q => ∃ (a : Addr) (ns : List Int) (d : V), vs = [.ref a] ∧ zs = [d] ∧ SqL K H a (ns.map V.int) ∧ (ns = [] → Q d H) ∧ ∀ m, m ∈ ns → (∀ y, y ∈ ns → y ≤ m) → Q (.int m) H
theorem cr_maxd {X : Cx} (hc : X.calm = true) : CallRK X (.builtin "max") [Str.ofString "default"] (rmaxd X.K) := by
  intro pins s σ H vs zs us ws Q I r rz h
  obtain ⟨a, ns, d, rfl, rfl, hs, q0, q1⟩ := h
  obtain ⟨its, rv, hl, _⟩ := I.list hs
  obtain rfl := Vals.ref1 r
  obtain ⟨dv, rfl, rd⟩ := vals1 rz
  have hi := rv.ints
  obtain ⟨xs, e⟩ := hi.allInts.items
  have hn : numsOf (intItems xs).toList = ns := by rw [← e]; exact hi.numsOf
  rw [nums_intItems] at hn
  have hl2 := hl.isList
  rw [e] at hl2
  show wpAny _ _ (call (.builtin "max") [.ref a] [(Str.ofString "default", dv)]) _ _ _
  refine max_call (I.ok.hd hc) hl2 (fun hz v h' tk hv hk => ?_) (fun hz h' tk hk => ?_)
  · obtain ⟨t, rfl⟩ := intItems_at hv
    obtain ⟨h1, h2⟩ := argBest_gt (numAt xs) (xs.size - 1)
    refine ⟨.int _, H, I.kept hk, ⟨_, rfl⟩, q1 _ ?_ fun y hy => ?_⟩
    · subst hn
      rw [numAt_eq]
      exact PySem.getD_mem (by rw [List.length_map, Array.length_toList]; omega)
    · subst hn
      obtain ⟨j, hj, rfl⟩ := mem_getD hy
      rw [List.length_map, Array.length_toList] at hj
      rw [← numAt_eq]
      exact h2 j (by omega)
  · refine ⟨d, H, I.kept hk, rd, q0 ?_⟩
    subst hn
    have : xs.toList = [] := List.eq_nil_of_length_eq_zero (by simpa using hz)
    rw [this]
    rfl

section
variable {prog : Program} {w : World} {A : Around} {E : Value → Shared → Prop} {R : Result → Shared → Prop} {I : Addr} {fp wr : List Addr} {n : Nat} {P : Nat → Value → Prop} {St : Nat → Heap → Prop} {dv : Value}
/-- min's turns, with default= -/
theorem min_turns (W : Walks prog w A.in1 I fp wr n P St) (bt : Nat → Nat → Bool) (hcmp : CmpOf prog w A.in1 .Lt P bt) (S : Addr) (off : S ∉ fp) :
    ∀ (k j : Nat) (s : Shared) (vb : Value) (c : Nat), n - (j + 1) = k → j + 1 ≤ n → St (j + 1) s.heap → P (argBest bt j) vb →
    s.heap.get? S = some { cls := .type "list", dict := none, data := .seq #[vb, vb] c, slots := #[] } →
    (∀ v h' tk, P (argBest bt (n - 1)) v → (∀ b o, b ∉ wr → b ≠ S → s.heap.get? b = some o → h'.get? b = some o) → R (.ok (.ret v)) { s with heap := h', toks := tk }) →
    codeAny (model prog w) A (.builtin "min.loop" ⟨[.ref I, .none, .ref S], [(Str.ofString "default", dv)]⟩) R s := by
  have offw : S ∉ wr := fun h => off (W.sub _ h)
  have nm : (toString "min" ++ toString ".loop" : String) = "min.loop" := by decide
  intro k
  induction k with
  | zero =>
    intro j s vb c hk hj st hb hS fin
    have last : j + 1 = n := by omega
    refine codeAny_builtin F.entry_min_loop ?_
    rw [Around.under_plainId F.plain_min_loop _]
    refine wpAny_bind (m := seqItems? (.ref S)) (wpAny_seqItems hS rfl (wpAny_bind (m := tryCatch (pyNext (.ref I)) _) (wpAny_tryCatch (W.done s _ _ (last ▸ st) fun h' tk hk' => ?_))))
    have hS' := hk' S _ offw hS
    refine wpAny_bind (m := updateSeq S (fun _ => #[])) (wpAny_updateSeq hS' rfl (wpAny_bind (wpAny_letGo (wpAny_pure ?_))))
    exact fin vb _ tk (last ▸ hb) fun b o n1 n2 e => (Heap.get?_update_other _ _ (Ne.symm n2)).trans (hk' b o n1 e)
  | succ k ih =>
    intro j s vb c hk hj st hb hS fin
    have more : j + 1 < n := by omega
    refine codeAny_builtin F.entry_min_loop ?_
    rw [Around.under_plainId F.plain_min_loop _]
    refine wpAny_bind (m := seqItems? (.ref S)) (wpAny_seqItems hS rfl (wpAny_bind (m := tryCatch (pyNext (.ref I)) _) (wpAny_tryCatch (W.item (j + 1) s _ _ more st fun v h' tk hP st' hk' => ?_))))
    have hS' := hk' S _ offw hS
    refine wpAny_bind (m := tryCatch (holding [v, v] (richCompare .Lt v vb >>= _)) _) (wpAny_tryCatch (wpAny_holding (wpAny_bind (hcmp (j + 1) (argBest bt j) v vb _ _ _ hP hb ?_))))
    refine wpAny_bind (wpAny_holding (wpAny_truthy_bool ?_))
    refine wpAny_bind (wpAny_letGo (wpAny_pure ?_))
    cases q : bt (j + 1) (argBest bt j) with
    | true =>
      simp only [if_true]
      refine wpAny_bind (wpAny_updateSeq hS' rfl (wpAny_bind (wpAny_letGo ?_)))
      rw [nm]
      refine wpAny_pure ⟨plainId_quiet F.plain_min_loop _, ih (j + 1) _ v _ (by omega) more (W.frame _ _ _ st' fun b hbf o e => ?_) (by simp only [argBest, q, if_true]; exact hP) (Heap.get?_update_self _ hS' rfl) fun v' h'' tk'' hP' hk'' => ?_⟩
      · exact (Heap.get?_update_other _ _ (fun h : S = b => off (h ▸ hbf))).trans e
      · exact fin v' h'' tk'' hP' fun b o n1 n2 e => hk'' b o n1 n2 ((Heap.get?_update_other _ _ (Ne.symm n2)).trans (hk' b o n1 e))
    | false =>
      simp only [Bool.false_eq_true, if_false]
      refine wpAny_bind (wpAny_letGo ?_)
      rw [nm]
      refine wpAny_pure ⟨plainId_quiet F.plain_min_loop _, ih (j + 1) _ vb c (by omega) more st' (by simp only [argBest, q, Bool.false_eq_true, if_false]; exact hb) hS' fun v' h'' tk'' hP' hk'' => ?_⟩
      exact fin v' h'' tk'' hP' fun b o n1 n2 e => hk'' b o n1 n2 (hk' b o n1 e)
/-- min's first turn: an item, or the default -/
theorem min_first (W : Walks prog w A.in1 I fp wr n P St) (bt : Nat → Nat → Bool) (hcmp : CmpOf prog w A.in1 .Lt P bt) (S : Addr) (off : S ∉ fp) {s : Shared} {c : Nat} (st : St 0 s.heap)
    (hS : s.heap.get? S = some { cls := .type "list", dict := none, data := .seq #[] c, slots := #[] })
    (some_ : 0 < n → ∀ v h' tk, P (argBest bt (n - 1)) v → (∀ b o, b ∉ wr → b ≠ S → s.heap.get? b = some o → h'.get? b = some o) → R (.ok (.ret v)) { s with heap := h', toks := tk })
    (none_ : n = 0 → ∀ h' tk, (∀ b o, b ∉ wr → b ≠ S → s.heap.get? b = some o → h'.get? b = some o) → R (.ok (.ret dv)) { s with heap := h', toks := tk }) :
    codeAny (model prog w) A (.builtin "min.loop" ⟨[.ref I, .none, .ref S], [(Str.ofString "default", dv)]⟩) R s := by
  have offw : S ∉ wr := fun h => off (W.sub _ h)
  have nm : (toString "min" ++ toString ".loop" : String) = "min.loop" := by decide
  refine codeAny_builtin F.entry_min_loop ?_
  rw [Around.under_plainId F.plain_min_loop _]
  rcases Nat.eq_zero_or_pos n with z | hn
  · refine wpAny_bind (m := seqItems? (.ref S)) (wpAny_seqItems hS rfl (wpAny_bind (m := tryCatch (pyNext (.ref I)) _) (wpAny_tryCatch (W.done s _ _ (z ▸ st) fun h' tk hk' => ?_))))
    exact wpAny_bind (wpAny_rule (wpAny_pure (none_ z h' tk fun b o n1 _ e => hk' b o n1 e)))
  · refine wpAny_bind (m := seqItems? (.ref S)) (wpAny_seqItems hS rfl (wpAny_bind (m := tryCatch (pyNext (.ref I)) _) (wpAny_tryCatch (W.item 0 s _ _ hn st fun v h' tk hP st' hk' => ?_))))
    have hS' := hk' S _ offw hS
    refine wpAny_bind (m := updateSeq S (fun _ => #[v, v])) (wpAny_updateSeq hS' rfl ?_)
    rw [nm]
    refine wpAny_pure ⟨plainId_quiet F.plain_min_loop _, min_turns W bt hcmp S off _ 0 _ v _ rfl hn (W.frame _ _ _ st' fun b hbf o e => ?_) hP (Heap.get?_update_self _ hS' rfl) fun v' h'' tk'' hP' hk'' => ?_⟩
    · exact (Heap.get?_update_other _ _ (fun h : S = b => off (h ▸ hbf))).trans e
    · exact some_ hn v' h'' tk'' hP' fun b o n1 n2 e => hk'' b o n1 n2 ((Heap.get?_update_other _ _ (Ne.symm n2)).trans (hk' b o n1 e))
theorem args_mind (a d : Value) : argsOk "min" ⟨[a], [(Str.ofString "default", d)]⟩ := by unfold argsOk; kernel_rfl
/-- min(l, default=d), l a list of ints -/
theorem min_call {s : Shared} {l : Addr} {xs : Array (Int × Tok)} {Q : Value → Shared → Prop} (hh : A.handled = none) (hl : s.heap.IsList l (intItems xs))
    (some_ : 0 < xs.size → ∀ v h' tk, (intItems xs)[argBest (fun i j => decide (numAt xs i < numAt xs j)) (xs.size - 1)]? = some v → (∀ b o, s.heap.get? b = some o → h'.get? b = some o) → Q v { s with heap := h', toks := tk })
    (none_ : xs.size = 0 → ∀ h' tk, (∀ b o, s.heap.get? b = some o → h'.get? b = some o) → Q dv { s with heap := h', toks := tk }) :
    wpAny (model prog w) A (call (.builtin "min") [.ref l] [(Str.ofString "default", dv)]) Q E s := by
  have nm : (toString "min" ++ toString ".loop" : String) = "min.loop" := by decide
  refine tree_kw (a := ⟨[.ref l], [(Str.ofString "default", dv)]⟩) F.kind_min F.plain_min F.entry_min (args_mind _ _) ?_
  show wpAny _ A.in1 (Builtin.Builtins.bindParams "min" ["key", "default"] 0 ⟨[], [(Str.ofString "default", dv)]⟩ >>= _) _ _ s
  refine wpAny_bind (wpAny_of_eq (show Builtin.Builtins.bindParams "min" ["key", "default"] 0 ⟨[], [(Str.ofString "default", dv)]⟩ = pure [none, some dv] from rfl) (wpAny_bind (wpAny_pure (wpAny_bind ?_))))
  refine iter_intList hl fun s₂ e st hfp hne => ?_
  subst e
  refine wpAny_bind (wpAny_newObj_type ?_)
  rw [nm]
  have off : (s.heap.push { cls := .type "list_iterator", data := .fields #[.ref l, .int 0 0] }).objs.size ∉ [s.heap.objs.size, l] := fun hm => Nat.lt_irrefl _ (hfp _ hm)
  have W := Walks.list (prog := prog) (w := w) (A := A.in1) hh s.heap.objs.size l hne (intItems xs)
  have old : ∀ {b : Addr} {o : Obj}, s.heap.get? b = some o → b ∉ [s.heap.objs.size] ∧ b ≠ (s.heap.push { cls := .type "list_iterator", data := .fields #[.ref l, .int 0 0] }).objs.size := fun {b o} e => by
    have hb := Heap.lt_size e
    refine ⟨fun hm => Nat.ne_of_lt hb (List.mem_singleton.mp hm), ?_⟩
    rw [Heap.size_push]
    exact Nat.ne_of_lt (Nat.lt_succ_of_lt hb)
  refine wpAny_pure ⟨plainId_quiet F.plain_min_loop _, min_first W _ (CmpOf.ints_lt (numAt xs) (fun _ _ => intItems_at)) _ off (W.frame _ _ _ st fun b _ o e => Heap.get?_push_of_some _ e) (Heap.get?_push_size _ rfl) (fun hn v h' tk hP hk => ?_) (fun hn h' tk hk => ?_)⟩
  · exact some_ (by simpa [intItems] using hn) v h' tk (by simpa [intItems] using hP) fun b o e => hk b o (old e).1 (old e).2 (Heap.get?_push_of_some _ (Heap.get?_push_of_some _ e))
  · exact none_ (by simpa [intItems] using hn) h' tk fun b o e => hk b o (old e).1 (old e).2 (Heap.get?_push_of_some _ (Heap.get?_push_of_some _ e))
end
/-- min of a list of ints, or what is told for none -/
def rmind (K : PySem.W.Frag) : List V → List V → Hp → VK → Prop := fun vs zs H Q => ∃ (a : Addr) (ns : List Int) (d : V), vs = [.ref a] ∧ zs = [d] ∧ SqL K H a (ns.map V.int) ∧ (ns = [] → Q d H) ∧ ∀ m, m ∈ ns → (∀ y, y ∈ ns → m ≤ y) → Q (.int m) H
theorem cr_mind {X : Cx} (hc : X.calm = true) : CallRK X (.builtin "min") [Str.ofString "default"] (rmind X.K) := by
  intro pins s σ H vs zs us ws Q I r rz h
  obtain ⟨a, ns, d, rfl, rfl, hs, q0, q1⟩ := h
  obtain ⟨its, rv, hl, _⟩ := I.list hs
  obtain rfl := Vals.ref1 r
  obtain ⟨dv, rfl, rd⟩ := vals1 rz
  have hi := rv.ints
  obtain ⟨xs, e⟩ := hi.allInts.items
  have hn : numsOf (intItems xs).toList = ns := by rw [← e]; exact hi.numsOf
  rw [nums_intItems] at hn
  have hl2 := hl.isList
  rw [e] at hl2
  show wpAny _ _ (call (.builtin "min") [.ref a] [(Str.ofString "default", dv)]) _ _ _
  refine min_call (I.ok.hd hc) hl2 (fun hz v h' tk hv hk => ?_) (fun hz h' tk hk => ?_)
  · obtain ⟨t, rfl⟩ := intItems_at hv
    obtain ⟨h1, h2⟩ := argBest_lt (numAt xs) (xs.size - 1)
    refine ⟨.int _, H, I.kept hk, ⟨_, rfl⟩, q1 _ ?_ fun y hy => ?_⟩
    · subst hn
      rw [numAt_eq]
      exact PySem.getD_mem (by rw [List.length_map, Array.length_toList]; omega)
    · subst hn
      obtain ⟨j, hj, rfl⟩ := mem_getD hy
      rw [List.length_map, Array.length_toList] at hj
      rw [← numAt_eq]
      exact h2 j (by omega)
  · refine ⟨d, H, I.kept hk, rd, q0 ?_⟩
    subst hn
    have : xs.toList = [] := List.eq_nil_of_length_eq_zero (by simpa using hz)
    rw [this]
    rfl
end Lm

set_option Elab.async false
set_option linter.all false
set_option maxRecDepth 100000
set_option maxHeartbeats 8000000
namespace K01
open PySem PySem.Spec PyProof.Rows L2 Lm
def top (i : Nat) : Stmt := PySem.Challenge.pw_safeupto_k01_bodies_recognized.main.body.getD i (.Pass ⟨0, 0, 0, 0⟩)
abbrev sWithin : Stmt := top 4
abbrev sNumber : Stmt := top 5
abbrev sRange : Stmt := top 6
abbrev sName : Stmt := top 7
abbrev sLook : Stmt := top 13
abbrev sBody : Stmt := top 14
abbrev sLong : Stmt := top 15
abbrev sShort : Stmt := top 16
abbrev sLonger : Stmt := top 17
abbrev sKnown : Stmt := top 18
abbrev sNew : Stmt := top 19
abbrev sParts : Stmt := top 20
abbrev sIsBody : Stmt := top 22
abbrev sPool : Stmt := top 24
abbrev sTake : Stmt := top 25
abbrev sLName : Stmt := top 26
abbrev sLInt : Stmt := top 27
abbrev sLBig : Stmt := top 28
abbrev sLParts : Stmt := top 29
abbrev sLFits : Stmt := top 30
abbrev sLInner : Stmt := top 31
abbrev sLMany : Stmt := top 32
abbrev sLBody : Stmt := top 33
abbrev sDrawn : Stmt := top 34
abbrev sOdd : Stmt := top 35
abbrev sRight : Stmt := top 36
abbrev sLaw : Stmt := top 37
/-! ### names, as the program and as the law looks at them -/
def lo30 : Int := -((10 : Int) ^ (30 : Int).toNat)
def hi30 : Int := (10 : Int) ^ (30 : Int).toNat
def codeNm (s : Str) : Bool := decide ((s.length : Int) ≤ 8) && (Txt.isalpha s && (Txt.isascii s && Txt.islower s))
def abc : Str := "abcdefghijklmnopqrstuvwxyz"
def inAbc (c : Nat) : Bool := !(Builtin.Str.occurrences abc ⟨#[c]⟩ 0 abc.length 1).isEmpty
def lawNm (s : Str) : Bool := (decide ((1 : Int) ≤ s.length) && decide ((s.length : Int) ≤ 8)) && (s.cps.toList.all inAbc)
/-- the texts of the law -/
def menu : List Str := ["x", "abcdefgh", "go", "p", "y", "w", "g", "set", "input", "call", "place", "read", "guard", "either", "loop", "l", "m", "k", "X", "", "abcdefghi", "a", "b", "c", "d", "e", "f", "stop", "a1"]
theorem menu_ok : menu.all (fun s => codeNm s == lawNm s) = true := by decide +kernel
def okS (s : Str) : Bool := menu.any fun m => m == s
theorem okS_nm {s : Str} (h : okS s = true) : codeNm s = lawNm s := by
  obtain ⟨m, hm, e⟩ := List.any_eq_true.mp h
  have := List.all_eq_true.mp menu_ok m hm
  rw [eq_of_beq e] at this
  exact eq_of_beq this
mutual
/-- all texts in it are the law's -/
def okD : PyData → Bool
  | .str s => okS s
  | .list ds => okDs ds
  | .tuple ds => okDs ds
  | .dict _ => true
  | .none => true
  | .bool _ => true
  | .int _ => true
def okDs : List PyData → Bool
  | [] => true
  | d :: ds => okD d && okDs ds
end
theorem okDs_mem : ∀ {ds : List PyData}, okDs ds = true → ∀ d ∈ ds, okD d = true
  | d :: ds, h, x, hx => by
    have h := Bool.and_eq_true_iff.mp (show (okD d && okDs ds) = true from h)
    rcases List.mem_cons.mp hx with rfl | hx
    · exact h.1
    · exact okDs_mem h.2 x hx
  | [], _, _, hx => by cases hx
theorem okDs_of : ∀ {ds : List PyData}, (∀ d ∈ ds, okD d = true) → okDs ds = true
  | [], _ => rfl
  | d :: ds, h => by
    show (okD d && okDs ds) = true
    rw [h d List.mem_cons_self, okDs_of fun x hx => h x (List.mem_cons_of_mem _ hx)]
    rfl
/-! ### what bodies are -/
def isNm : PyData → Bool
  | .str s => codeNm s
  | _ => false
def isBig : PyData → Bool
  | .int n => decide (lo30 ≤ n) && decide (n ≤ hi30)
  | _ => false
def isIn (lo hi : Int) : PyData → Bool
  | .int n => decide (lo ≤ n) && decide (n ≤ hi)
  | _ => false
def isRg : PyData → PyData → Bool
  | .int a, .int b => decide (lo30 ≤ a) && (decide (a ≤ b) && decide (b ≤ hi30))
  | _, _ => false
def isNon : PyData → Bool
  | .none => true
  | _ => false
def partOk : PyData → Bool
  | .tuple [v, c] => (isNon v || isNm v) && (isBig c || isNm c)
  | _ => false
def keyD : PyData → Option Str
  | .tuple [.str s, _] => some s
  | _ => none
def partsOk : PyData → Bool
  | .tuple ps => (decide (0 < ps.length) && decide (ps.length ≤ 4)) && (ps.all partOk && decide ((ps.map keyD).Nodup))
  | _ => false
def stOk (inner : PyData → Bool) : PyData → Bool
  | .tuple [.str w, a] => (decide (w = "call") || decide (w = "place")) && isNm a
  | .tuple [.str w, a, b] => if w = "set" then isNm a && partsOk b else if w = "loop" then isNm a && inner b else if w = "either" then inner a && inner b else decide (w = "read") && (isNm a && isNm b)
  | .tuple [.str w, a, b, c] => decide (w = "input") && (isNm a && isRg b c)
  | .tuple [.str w, a, b, c, d] => (decide (w = "guard") && isNm a) && (isNm b && (isBig c && isIn 1 99 d))
  | _ => false
def wf : Nat → PyData → Bool
  | 0, _ => false
  | n + 1, .tuple ds => ds.all (stOk (wf n))
  | _ + 1, _ => false
def stN (inner : PyData → Nat) : PyData → Nat
  | .tuple [.str w, a, b] => if w = "loop" then inner b else if w = "either" then inner a + inner b else 0
  | _ => 0
def num : Nat → PyData → Nat
  | 0, _ => 0
  | n + 1, .tuple ds => (ds.map fun d => 1 + stN (num n) d).sum
  | _ + 1, _ => 0
/-- what the program and the law say of a body -/
def bodyOk (d : PyData) : Bool := wf 4 d && decide (num 4 d ≤ 40)
structure Txt1 (mg : Str → Option Value) : Prop where
  isi : mg "isinstance" = none
  int_ : mg "int" = none
  bool_ : mg "bool" = none
  str_ : mg "str" = none
  list_ : mg "list" = none
  tuple_ : mg "tuple" = none
  min_ : mg "min" = none
  max_ : mg "max" = none
  abs_ : mg "abs" = none
  len_ : mg "len" = none
  rep : mg "repr" = none
  rng : mg "range" = none
  gr : ∃ t, mg "GREATEST" = some (.int hi30 t)
  le : ∃ t, mg "LEAST" = some (.int lo30 t)
  ln : ∃ t, mg "LONGEST_NAME" = some (.int 8 t)
  ms : ∃ t, mg "MOST_STATEMENTS" = some (.int 40 t)
  ml : ∃ t, mg "MOST_LEVELS" = some (.int 4 t)
  mp : ∃ t, mg "MOST_PARTS" = some (.int 4 t)
  gc : ∃ t, mg "GREATEST_COST" = some (.int 99 t)
section
variable {P : Program} {w : World} {K : PySem.W.Frag} {mg : Str → Option Value} {base : Heap}
/-! ### is_within, is_number, is_range, is_name -/
def spWithin : Sp := fun vs H Q _ => ∃ v d N lo hi, vs = [v, .int lo, .int hi] ∧ DE N H v d ∧ Q (.bl (isIn lo hi d)) H
theorem scWithin : FnScope ["value", "low", "high"] ["value", "low", "high"] (defScope sWithin) := ⟨rfl, rfl, rfl, by decide +kernel, rfl, by decide +kernel, by decide +kernel⟩
theorem ok_within {f : Addr} {fd : FuncData} (F : Fun K "is_within" "is_within" sWithin f fd) (T : Txt1 mg) : FnOk P w K mg base CX0 1 f fd ["value", "low", "high"] spWithin := by
  refine F.ok scWithin (fun vs H Q E h => ?_) (fun cdv A outer s H vs Q E hr h => ?_)
  · obtain ⟨v, d, N, lo, hi, rfl, _⟩ := h
    rfl
  · obtain ⟨v, d, N, lo, hi, rfl, hd, k⟩ := h
    refine ⟨_, pss_one (ps_ret (pe_and (pe_callB call_isi (by rfl) T.isi (by decide +kernel) (pa_cons (pv 0) (pa_cons (pe_bltn (v := .ty "int") (by rfl) T.int_ (by decide +kernel) rfl) pa_nil)))
      (pe_and (pe_cmpR op_notB (pv 0) pe_bl (nomark _)) (pe_and (pe_cmpR op_notB (pv 0) pe_bl (nomark _))
      (pe_one (pe_chain op_le op_le (pv 1) (pv 0) (pv 2))))))), ?_⟩
    refine ⟨_, rfl, v, .ty "int", _, .type "int", _, rfl, .ty "int", hd.ty, ty_int d, _, rfl, ?_⟩
    cases d with
    | int i =>
      cases hd
      refine iteT ⟨_, rfl, true, rfl, _, rfl, iteT ⟨_, rfl, false, rfl, _, rfl, iteT ?_⟩⟩
      refine ⟨_, rfl, _, rfl, _, _, rfl, rfl, _, rfl, ?_⟩
      have e : isIn lo hi (.int i) = (decide (lo ≤ i) && decide (i ≤ hi)) := rfl
      rw [e] at k
      cases h1 : decide (lo ≤ i) with
      | true =>
        rw [h1] at k
        exact iteT ⟨_, rfl, _, _, rfl, rfl, k⟩
      | false =>
        rw [h1] at k
        exact iteF k
    | bool i =>
      cases hd
      cases i with
      | true => exact iteT ⟨_, rfl, true, rfl, _, rfl, iteF k⟩
      | false => exact iteT ⟨_, rfl, true, rfl, _, rfl, iteT ⟨_, rfl, false, rfl, _, rfl, iteF k⟩⟩
    | none => exact iteF k
    | str _ => exact iteF k
    | list _ => exact iteF k
    | tuple _ => exact iteF k
    | dict _ => exact iteF k
end
end K01

set_option Elab.async false
set_option linter.all false
set_option maxRecDepth 100000
set_option maxHeartbeats 8000000
namespace K01
open PySem PySem.Spec PyProof.Rows L2 Lm
/-! ### a op b op c op d -/
section
variable {X : Cx} {a b c d : Expr} {ta tb tc td : TE} {pos : Pos}
def tChain3 (r r' r'' : R2) (ta tb tc td : TE) : TE := fun σ H Q => ta σ H fun x H1 => tb σ H1 fun y H2 => r x y H2 fun z H3 => ∃ k, z = .bl k ∧
  (if k = true then tc σ H3 fun w' H4 => r' y w' H4 fun z H5 => ∃ k, z = .bl k ∧ (if k = true then td σ H5 fun u' H6 => r'' w' u' H6 Q else Q (.bl false) H5) else Q (.bl false) H3)
theorem pe_chain3 {op op' op'' : CmpOp} {r r' r'' : R2} (ho : OpR X (compareOp op) r) (ho' : OpR X (compareOp op') r') (ho'' : OpR X (compareOp op'') r'') (ha : PE X a ta) (hb : PE X b tb) (hc : PE X c tc) (hd : PE X d td)
    (hm : lastMarks [op, op', op''] [b, c, d] = false := by with_unfolding_all rfl) : PE X (.Compare a [op, op', op''] [b, c, d] pos) (tChain3 r r' r'' ta tb tc td) := by
  refine ⟨fun pins s σ H Q I h => ?_⟩
  refine Compare_chain (thn (ha.run pins s σ H _ I h) fun v s1 ⟨x, H1, I1, r1, q1⟩ => chain_link (thn (hb.run pins s1 σ H1 _ I1 q1) fun u s2 ⟨y, H2, I2, r2, q2⟩ =>
    thn (ho pins s2 σ H2 x y v u _ I2 r1 r2 q2) fun e s3 ⟨z, H3, I3, r3, k, ek, q3⟩ => ?_)) hm
  subst ek
  cases r3
  refine wpAny_truthy_bool ?_
  cases k with
  | false => exact ite_ff ⟨.bl false, H3, I3, rfl, q3⟩
  | true =>
    refine ite_tt (chain_link (thn (hc.run pins s3 σ H3 _ I3 q3) fun w' s4 ⟨z', H4, I4, r4, q4⟩ => thn (ho' pins s4 σ H4 y z' u w' _ I4 r2 r4 q4) fun e s5 ⟨z5, H5, I5, r5, k5, e5, q5⟩ => ?_))
    subst e5
    cases r5
    refine wpAny_truthy_bool ?_
    cases k5 with
    | false => exact ite_ff ⟨.bl false, H5, I5, rfl, q5⟩
    | true => exact ite_tt (chain_last (thn (hd.run pins s5 σ H5 _ I5 q5) fun u' s6 ⟨z6, H6, I6, r6, q6⟩ => ho'' pins s6 σ H6 z' z6 w' u' Q I6 r4 r6 q6))
end
theorem okS_len {s : Str} (h : okS s = true) : s.length ≤ 20 := by
  obtain ⟨m, hm, e⟩ := List.any_eq_true.mp h
  have := List.all_eq_true.mp (show menu.all (fun s => decide (s.length ≤ 20)) = true by decide +kernel) m hm
  rw [eq_of_beq e] at this
  exact of_decide_eq_true this
section
variable {P : Program} {w : World} {K : PySem.W.Frag} {mg : Str → Option Value} {base : Heap}
def spNumber : Sp := fun vs H Q _ => ∃ v d N, vs = [v] ∧ DE N H v d ∧ Q (.bl (isBig d)) H
theorem scNumber : FnScope ["value"] ["value"] (defScope sNumber) := ⟨rfl, rfl, rfl, by decide +kernel, rfl, by decide +kernel, by decide +kernel⟩
theorem ok_number {f : Addr} {fd : FuncData} (F : Fun K "is_number" "is_number" sNumber f fd) (T : Txt1 mg) : FnOk P w K mg base CX0 1 f fd ["value"] spNumber := by
  obtain ⟨t1, m1⟩ := T.le
  obtain ⟨t2, m2⟩ := T.gr
  refine F.ok scNumber (fun vs H Q E h => ?_) (fun cdv A outer s H vs Q E hr h => ?_)
  · obtain ⟨v, d, N, rfl, _⟩ := h
    rfl
  · obtain ⟨v, d, N, rfl, hd, k⟩ := h
    refine ⟨_, pss_one (ps_ret (pe_and (pe_callB call_isi (by rfl) T.isi (by decide +kernel) (pa_cons (pv 0) (pa_cons (pe_bltn (v := .ty "int") (by rfl) T.int_ (by decide +kernel) rfl) pa_nil)))
      (pe_and (pe_cmpR op_notB (pv 0) pe_bl (nomark _)) (pe_and (pe_cmpR op_notB (pv 0) pe_bl (nomark _))
      (pe_one (pe_chain op_le op_le (pe_glob (v := .int lo30) (by rfl) m1 ⟨_, rfl⟩) (pv 0) (pe_glob (v := .int hi30) (by rfl) m2 ⟨_, rfl⟩))))))), ?_⟩
    refine ⟨_, rfl, v, .ty "int", _, .type "int", _, rfl, .ty "int", hd.ty, ty_int d, _, rfl, ?_⟩
    cases d with
    | int i =>
      cases hd
      refine iteT ⟨_, rfl, true, rfl, _, rfl, iteT ⟨_, rfl, false, rfl, _, rfl, iteT ?_⟩⟩
      refine ⟨_, rfl, _, _, rfl, rfl, _, rfl, ?_⟩
      have e : isBig (.int i) = (decide (lo30 ≤ i) && decide (i ≤ hi30)) := rfl
      rw [e] at k
      cases h1 : decide (lo30 ≤ i) with
      | true =>
        rw [h1] at k
        exact iteT ⟨_, _, rfl, rfl, k⟩
      | false =>
        rw [h1] at k
        exact iteF k
    | bool i =>
      cases hd
      cases i with
      | true => exact iteT ⟨_, rfl, true, rfl, _, rfl, iteF k⟩
      | false => exact iteT ⟨_, rfl, true, rfl, _, rfl, iteT ⟨_, rfl, false, rfl, _, rfl, iteF k⟩⟩
    | none => exact iteF k
    | str _ => exact iteF k
    | list _ => exact iteF k
    | tuple _ => exact iteF k
    | dict _ => exact iteF k
def isInt : PyData → Bool
  | .int _ => true
  | .bool _ => true
  | _ => false
def isBl : PyData → Bool
  | .bool _ => true
  | _ => false
theorem ty_int' {K : PySem.W.Frag} (d : PyData) : PySem.W.kitOne K (.type (tyD d)) (.type "int") = some (isInt d) := by rw [ty_int]; cases d <;> rfl
theorem ty_bool' {K : PySem.W.Frag} (d : PyData) : PySem.W.kitOne K (.type (tyD d)) (.type "bool") = some (isBl d) := by rw [ty_bool]; cases d <;> rfl
def spRange : Sp := fun vs H Q _ => ∃ v d u e N, vs = [v, u] ∧ DE N H v d ∧ DE N H u e ∧ Q (.bl (isRg d e)) H
theorem scRange : FnScope ["low", "high"] ["low", "high"] (defScope sRange) := ⟨rfl, rfl, rfl, by decide +kernel, rfl, by decide +kernel, by decide +kernel⟩
theorem ok_range {f : Addr} {fd : FuncData} (F : Fun K "is_range" "is_range" sRange f fd) (T : Txt1 mg) : FnOk P w K mg base CX0 1 f fd ["low", "high"] spRange := by
  obtain ⟨t1, m1⟩ := T.le
  obtain ⟨t2, m2⟩ := T.gr
  refine F.ok scRange (fun vs H Q E h => ?_) (fun cdv A outer s H vs Q E hr h => ?_)
  · obtain ⟨v, d, u, e, N, rfl, _⟩ := h
    rfl
  · obtain ⟨v, d, u, e, N, rfl, hd, he, k⟩ := h
    refine ⟨_, pss_cons (ps_if (PW.pt (pw_or (pt_not (pt_val (pe_callB call_isi (by rfl) T.isi (by decide +kernel) (pa_cons (pv 0) (pa_cons (pe_bltn (v := .ty "int") (by rfl) T.int_ (by decide +kernel) rfl) pa_nil)))))
        (pw_or1 (pt_not (pt_val (pe_callB call_isi (by rfl) T.isi (by decide +kernel) (pa_cons (pv 1) (pa_cons (pe_bltn (v := .ty "int") (by rfl) T.int_ (by decide +kernel) rfl) pa_nil))))))))
        (pss_one (ps_ret pe_bl)) pss_nil)
      (pss_cons (ps_if (PW.pt (pw_or (pt_cmpR op_isB (pv 0) pe_bl (nomark _)) (pw_or (pt_cmpR op_isB (pv 0) pe_bl (nomark _)) (pw_or (pt_cmpR op_isB (pv 1) pe_bl (nomark _)) (pw_or1 (pt_cmpR op_isB (pv 1) pe_bl (nomark _)))))))
        (pss_one (ps_ret pe_bl)) pss_nil)
      (pss_one (ps_ret (pe_chain3 op_le op_le op_le (pe_glob (v := .int lo30) (by rfl) m1 ⟨_, rfl⟩) (pv 0) (pv 1) (pe_glob (v := .int hi30) (by rfl) m2 ⟨_, rfl⟩))))), ?_⟩
    refine ⟨_, rfl, v, .ty "int", _, .type "int", _, rfl, .ty "int", hd.ty, ty_int' d, _, rfl, ?_⟩
    have bad : isRg d e = false → Q (.bl false) H := fun z => by rw [z] at k; exact k
    cases d with
    | int i =>
      cases hd
      refine iteF ⟨_, rfl, u, .ty "int", _, .type "int", _, rfl, .ty "int", he.ty, ty_int' e, _, rfl, ?_⟩
      cases e with
      | int j =>
        cases he
        refine iteF ⟨_, rfl, true, rfl, _, rfl, iteF ⟨_, rfl, false, rfl, _, rfl, iteF ⟨_, rfl, true, rfl, _, rfl, iteF ⟨_, rfl, false, rfl, _, rfl, iteF ?_⟩⟩⟩⟩
        refine ⟨_, rfl, _, _, rfl, rfl, _, rfl, ?_⟩
        have e : isRg (.int i) (.int j) = (decide (lo30 ≤ i) && (decide (i ≤ j) && decide (j ≤ hi30))) := rfl
        rw [e] at k
        cases h1 : decide (lo30 ≤ i) with
        | true =>
          rw [h1] at k
          refine iteT ⟨_, rfl, _, _, rfl, rfl, _, rfl, ?_⟩
          cases h2 : decide (i ≤ j) with
          | true =>
            rw [h2] at k
            exact iteT ⟨_, _, rfl, rfl, k⟩
          | false =>
            rw [h2] at k
            exact iteF k
        | false =>
          rw [h1] at k
          exact iteF k
      | bool j =>
        cases he
        cases j with
        | true => exact iteF ⟨_, rfl, true, rfl, _, rfl, iteF ⟨_, rfl, false, rfl, _, rfl, iteF ⟨_, rfl, true, rfl, _, rfl, iteT (bad rfl)⟩⟩⟩
        | false => exact iteF ⟨_, rfl, true, rfl, _, rfl, iteF ⟨_, rfl, false, rfl, _, rfl, iteF ⟨_, rfl, true, rfl, _, rfl, iteF ⟨_, rfl, false, rfl, _, rfl, iteT (bad rfl)⟩⟩⟩⟩
      | none => exact iteT (bad rfl)
      | str _ => exact iteT (bad rfl)
      | list _ => exact iteT (bad rfl)
      | tuple _ => exact iteT (bad rfl)
      | dict _ => exact iteT (bad rfl)
    | bool i =>
      cases hd
      refine iteF ⟨_, rfl, u, .ty "int", _, .type "int", _, rfl, .ty "int", he.ty, ty_int' e, _, rfl, ?_⟩
      cases hI : isInt e with
      | true => cases i with
        | true => exact iteF ⟨_, rfl, true, rfl, _, rfl, iteT (bad rfl)⟩
        | false => exact iteF ⟨_, rfl, true, rfl, _, rfl, iteF ⟨_, rfl, false, rfl, _, rfl, iteT (bad rfl)⟩⟩
      | false => exact iteT (bad rfl)
    | none => exact iteT (bad rfl)
    | str _ => exact iteT (bad rfl)
    | list _ => exact iteT (bad rfl)
    | tuple _ => exact iteT (bad rfl)
    | dict _ => exact iteT (bad rfl)
/-! ### is_name -/
def spName : Sp := fun vs H Q _ => ∃ v d N, vs = [v] ∧ DE N H v d ∧ okD d = true ∧ Q (.bl (isNm d)) H
theorem scName : FnScope ["value"] ["value"] (defScope sName) := ⟨rfl, rfl, rfl, by decide +kernel, rfl, by decide +kernel, by decide +kernel⟩
def isS : PyData → Bool
  | .str _ => true
  | _ => false
theorem ty_str' {K : PySem.W.Frag} (d : PyData) : PySem.W.kitOne K (.type (tyD d)) (.type "str") = some (isS d) := by rw [ty_str]; cases d <;> rfl
theorem ok_name {f : Addr} {fd : FuncData} (F : Fun K "is_name" "is_name" sName f fd) (T : Txt1 mg) : FnOk P w K mg base CX0 1 f fd ["value"] spName := by
  obtain ⟨t1, m1⟩ := T.ln
  refine F.ok scName (fun vs H Q E h => ?_) (fun cdv A outer s H vs Q E hr h => ?_)
  · obtain ⟨v, d, N, rfl, _⟩ := h
    rfl
  · obtain ⟨v, d, N, rfl, hd, ok, k⟩ := h
    refine ⟨_, pss_one (ps_ret (pe_and (pe_callB call_isi (by rfl) T.isi (by decide +kernel) (pa_cons (pv 0) (pa_cons (pe_bltn (v := .ty "str") (by rfl) T.str_ (by decide +kernel) rfl) pa_nil)))
      (pe_and (pe_cmpR op_le (pe_callB call_len_str (by rfl) T.len_ PySem.boot_len (pa_cons (pv 0) pa_nil)) (pe_glob (v := .int 8) (by rfl) m1 ⟨_, rfl⟩) (nomark _))
      (pe_and (pe_bm0 PySem.F.plainAttrs_str PySem.F.slot_str_isalpha PySem.F.type_str_isalpha mt_isalpha (pv 0))
      (pe_and (pe_bm0 PySem.F.plainAttrs_str PySem.F.slot_str_isascii PySem.F.type_str_isascii mt_isascii (pv 0))
      (pe_one (pe_bm0 PySem.F.plainAttrs_str PySem.F.slot_str_islower PySem.F.type_str_islower mt_islower (pv 0)))))))), ?_⟩
    refine ⟨_, rfl, v, .ty "str", _, .type "str", _, rfl, .ty "str", hd.ty, ty_str' d, _, rfl, ?_⟩
    cases d with
    | str x =>
      cases hd
      have hz := okS_len (s := x) ok
      have e : isNm (.str x) = (decide ((x.length : Int) ≤ 8) && (Txt.isalpha x && (Txt.isascii x && Txt.islower x))) := rfl
      rw [e] at k
      refine iteT ⟨_, rfl, x, rfl, by rw [sizeLine_eq]; omega, _, _, rfl, rfl, _, rfl, ?_⟩
      cases h1 : decide ((x.length : Int) ≤ 8) with
      | false =>
        rw [h1] at k
        exact iteF k
      | true =>
        rw [h1] at k
        refine iteT ⟨_, rfl, rfl, x, rfl, rfl, trivial, _, rfl, ?_⟩
        cases h2 : Txt.isalpha x with
        | false =>
          rw [h2] at k
          exact iteF k
        | true =>
          rw [h2] at k
          refine iteT ⟨_, rfl, rfl, x, rfl, rfl, trivial, _, rfl, ?_⟩
          cases h3 : Txt.isascii x with
          | false =>
            rw [h3] at k
            exact iteF k
          | true =>
            rw [h3] at k
            exact iteT ⟨_, rfl, rfl, x, rfl, rfl, trivial, k⟩
    | bool i => exact iteF k
    | int i => exact iteF k
    | none => exact iteF k
    | list _ => exact iteF k
    | tuple _ => exact iteF k
    | dict _ => exact iteF k
end
end K01

set_option Elab.async false
set_option linter.all false
set_option maxRecDepth 100000
set_option maxHeartbeats 8000000
namespace K01
open PySem PySem.Spec PyProof.Rows L2 Lm
/-- all that stood stands, but for one place -/
def But (p : Addr) (H H' : Hp) : Prop := ∀ b o, H b = some o → b ≠ p → H' b = some o
theorem But.trans {p : Addr} {H H1 H2 : Hp} (a : But p H H1) (b : But p H1 H2) : But p H H2 := fun c o e n => b c o (a c o e n) n
theorem But.upd {p : Addr} {H : Hp} {o : HO} : But p H (upd H p o) := fun b u e n => by rw [upd_ne n]; exact e
theorem But.same {p : Addr} {H H' : Hp} (s : Same H H') : But p H H' := fun b o e _ => s b o e
/-- lists at any address -/
abbrev Any : Addr → Prop := fun _ => True
mutual
theorem DE.any {N : Addr → Prop} {H : Hp} : ∀ {d : PyData} {v : V}, DE N H v d → DE Any H v d
  | .none, _, h => by cases h; exact .non
  | .bool b, _, h => by cases h; exact .bl b
  | .int i, _, h => by cases h; exact .int i
  | .str x, _, h => by cases h; exact .str x
  | .list ds, _, h => by cases h with | lst n e q => exact .lst trivial e (DEs.any q)
  | .tuple ds, _, h => by cases h with | tup e q => exact .tup e (DEs.any q)
  | .dict [], _, h => by cases h with | emp e => exact .emp e
  | .dict (_ :: _), _, h => by cases h
theorem DEs.any {N : Addr → Prop} {H : Hp} : ∀ {ds : List PyData} {vs : List V}, DEs N H vs ds → DEs Any H vs ds
  | [], _, h => by cases h; exact .nil
  | d :: ds, _, h => by cases h with | cons h1 h2 => exact .cons (DE.any h1) (DEs.any h2)
end
/-- a dict whose keys are names -/
def DN (H : Hp) (d : Addr) (n : Nat) : Prop := ∃ kv : List (Key × V), H d = some (.dK kv) ∧ kv.length ≤ n ∧ ∀ s : Str, (valV kv (Sum.inr s)).isSome = true → codeNm s = true
theorem DN.put {H : Hp} {d : Addr} {kv : List (Key × V)} {n : Nat} {s : Str} {v : V} (hl : kv.length ≤ n) (hk : ∀ s : Str, (valV kv (Sum.inr s)).isSome = true → codeNm s = true) (hs : codeNm s = true) : DN (upd H d (.dK (putK kv (Sum.inr s) v))) d (n + 1) := by
  refine ⟨_, upd_same, Nat.le_trans (length_putK _ _ _) (by omega), fun x hx => ?_⟩
  rw [valV_put] at hx
  by_cases e : (Sum.inr x : Key) = Sum.inr s
  · injection e with e
    rw [e]
    exact hs
  · rw [if_neg e] at hx
    exact hk x hx
theorem DN.mono {H : Hp} {d : Addr} {n m : Nat} (h : DN H d n) (l : n ≤ m) : DN H d m := let ⟨kv, a, b, c⟩ := h; ⟨kv, a, Nat.le_trans b l, c⟩
section
variable {P : Program} {w : World} {K : PySem.W.Frag} {mg : Str → Option Value} {base : Heap}
def spNew : Sp := fun vs H Q _ => ∃ (s : Str) (d : Addr) (n : Nat), vs = [.str s, .ref d] ∧ okS s = true ∧ DN H d n ∧ n < 100000 ∧ ∀ H', But d H H' → DN H' d (n + 1) → Q (.bl (codeNm s)) H'
theorem scNew : FnScope ["name", "known"] ["name", "known"] (defScope sNew) := ⟨rfl, rfl, rfl, by decide +kernel, rfl, by decide +kernel, by decide +kernel⟩
theorem ok_new {f fn : Addr} {fd fdn : FuncData} (F : Fun K "is_new" "is_new" sNew f fd) (GN : FnOk P w K mg base CX0 1 fn fdn ["value"] spName) (bN : Binds K fdn ["value"] []) (mN : mg "is_name" = some (.ref fn)) (kN : PySem.W.keepIn K (.ref fn) = true) :
    FnOk P w K mg base CX0 2 f fd ["name", "known"] spNew := by
  refine F.ok scNew (fun vs H Q E h => ?_) (fun cdv A outer s H vs Q E hr h => ?_)
  · obtain ⟨s, d, n, rfl, _⟩ := h
    rfl
  · obtain ⟨x, d, n, rfl, ok, ⟨kv, hd, hl, hk⟩, hn, q⟩ := h
    have hu := hu_of hr
    refine ⟨_, pss_cons (ps_if (pt_val (pe_call GN hr (by rfl) mN kN bN .nil pass0 (pa_cons (pv 0) pa_nil))) (pss_one (ps_dput hu (pv 1) (pv 0) pe_bl rfl)) pss_nil)
      (pss_one (ps_ret (pe_cmp (pc_din hu (pv 0) (pv 1)) rfl))), ?_⟩
    refine ⟨_, rfl, _, .str x, fun _ => True, rfl, .str x, ok, _, rfl, ?_⟩
    show if codeNm x = true then _ else _
    have hz : sizeLine = 16777216 := sizeLine_eq
    cases hx : codeNm x with
    | true =>
      rw [hx] at q
      refine iteT ⟨_, rfl, _, rfl, d, _, rfl, DPut.k (k := Sum.inr x) hd (by omega), ?_⟩
      refine ⟨_, rfl, _, rfl, d, _, rfl, DGet.k (k := Sum.inr x) upd_same, ?_⟩
      rw [valV_put, if_pos rfl]
      exact q _ (fun b o e ne => by rw [upd_ne ne]; exact e) (DN.put hl hk hx)
    | false =>
      rw [hx] at q
      refine iteF ⟨_, rfl, _, rfl, d, _, rfl, DGet.k (k := Sum.inr x) hd, ?_⟩
      have e : (valV kv (Sum.inr x)).isSome = false := by
        cases hs : (valV kv (Sum.inr x)).isSome with
        | false => rfl
        | true => rw [hk x hs] at hx; cases hx
      rw [e]
      exact q _ (fun b o e ne => e) ⟨kv, hd, by omega, hk⟩
def spKnown : Sp := fun vs H Q _ => ∃ (v : V) (dd : PyData) (N : Addr → Prop) (d : Addr) (n : Nat), vs = [v, .ref d] ∧ DE N H v dd ∧ okD dd = true ∧ DN H d n ∧ n < 100000 ∧ ∀ H', But d H H' → DN H' d (n + 1) → Q (.bl (isNm dd)) H'
theorem scKnown : FnScope ["name", "known"] ["name", "known"] (defScope sKnown) := ⟨rfl, rfl, rfl, by decide +kernel, rfl, by decide +kernel, by decide +kernel⟩
theorem ok_known {f fn : Addr} {fd fdn : FuncData} (F : Fun K "is_known" "is_known" sKnown f fd) (T : Txt1 mg) (GW : FnOk P w K mg base CX0 2 fn fdn ["name", "known"] spNew) (bW : Binds K fdn ["name", "known"] []) (mW : mg "is_new" = some (.ref fn)) (kW : PySem.W.keepIn K (.ref fn) = true) :
    FnOk P w K mg base CX0 3 f fd ["name", "known"] spKnown := by
  refine F.ok scKnown (fun vs H Q E h => ?_) (fun cdv A outer s H vs Q E hr h => ?_)
  · obtain ⟨v, dd, N, d, n, rfl, _⟩ := h
    rfl
  · obtain ⟨v, dd, N, d, n, rfl, hv, ok, dn, hn, q⟩ := h
    have hu := hu_of hr
    refine ⟨_, pss_one (ps_ret (pe_and (pe_callB call_isi (by rfl) T.isi (by decide +kernel) (pa_cons (pv 0) (pa_cons (pe_bltn (v := .ty "str") (by rfl) T.str_ (by decide +kernel) rfl) pa_nil)))
      (pe_one (pe_or (pe_cmp (pc_din hu (pv 0) (pv 1)) rfl) (pe_one (pe_call GW hr (by rfl) mW kW bW .nil pass0 (pa_cons (pv 0) (pa_cons (pv 1) pa_nil)))))))), ?_⟩
    refine ⟨_, rfl, v, .ty "str", _, .type "str", _, rfl, .ty "str", hv.ty, ty_str' dd, _, rfl, ?_⟩
    have out : isNm dd = false → Q (.bl false) H := fun e => by
      rw [e] at q
      exact q H (fun _ _ e _ => e) (dn.mono (by omega))
    cases dd with
    | str x =>
      cases hv
      obtain ⟨kv, hd, hl, hk⟩ := dn
      refine iteT ⟨_, rfl, _, rfl, d, _, rfl, DGet.k (k := Sum.inr x) hd, _, rfl, ?_⟩
      cases hs : (valV kv (Sum.inr x)).isSome with
      | true =>
        have e : isNm (.str x) = true := hk x hs
        rw [e] at q
        exact iteT (q _ (fun b o e ne => e) ⟨kv, hd, by omega, hk⟩)
      | false => exact iteF ⟨_, rfl, _, rfl, x, d, n, rfl, ok, ⟨kv, hd, hl, hk⟩, hn, q⟩
    | bool i => exact iteF (out rfl)
    | int i => exact iteF (out rfl)
    | none => exact iteF (out rfl)
    | list _ => exact iteF (out rfl)
    | tuple _ => exact iteF (out rfl)
    | dict _ => exact iteF (out rfl)
end
end K01

set_option Elab.async false
set_option linter.all false
set_option maxRecDepth 100000
set_option maxHeartbeats 16000000
namespace K01
open PySem PySem.Spec PyProof.Rows L2 Lm LmSet
theorem DE.tup_inv {N : Addr → Prop} {H : Hp} {v : V} {ds : List PyData} (h : DE N H v (.tuple ds)) : ∃ b xs, v = .ref b ∧ H b = some (.tup xs) ∧ DEs N H xs ds := by
  cases h with
  | tup e q => exact ⟨_, _, rfl, e, q⟩
theorem DEs.at_ {N : Addr → Prop} {H : Hp} : ∀ {ds : List PyData} {vs : List V}, DEs N H vs ds → ∀ {i : Nat} {v : V}, vs[i]? = some v → ∃ d, ds[i]? = some d ∧ DE N H v d
  | [], _, h, i, v, e => by
    cases h
    cases e
  | d :: ds, _, h, i, v, e => by
    cases h with
    | cons h1 h2 =>
      cases i with
      | zero =>
        cases e
        exact ⟨d, rfl, h1⟩
      | succ i => exact DEs.at_ h2 (i := i) (by simpa using e)
/-! ### what is found on the way -/
structure Fd where
  fa : Addr
  d0 : Addr
  d1 : Addr
  d2 : Addr
  d3 : Addr
  l4 : Addr
  l5 : Addr
  l6 : Addr
def LN (H : Hp) (l : Addr) (n : Nat) : Prop := ∃ xs, H l = some (.lst xs) ∧ xs.length ≤ n
def LM (H : Hp) (l : Addr) (m : Nat) : Prop := ∃ xs, H l = some (.lst xs) ∧ xs.length = m
theorem DN.but {H H' : Hp} {b d : Addr} {n : Nat} (h : DN H d n) (s : But b H H') (ne : d ≠ b) : DN H' d n := let ⟨kv, a, b, c⟩ := h; ⟨kv, s _ _ a ne, b, c⟩
theorem LN.but {H H' : Hp} {b d : Addr} {n : Nat} (h : LN H d n) (s : But b H H') (ne : d ≠ b) : LN H' d n := let ⟨xs, a, c⟩ := h; ⟨xs, s _ _ a ne, c⟩
theorem LM.but {H H' : Hp} {b d : Addr} {n : Nat} (h : LM H d n) (s : But b H H') (ne : d ≠ b) : LM H' d n := let ⟨xs, a, c⟩ := h; ⟨xs, s _ _ a ne, c⟩
theorem LN.mono {H : Hp} {d : Addr} {n m : Nat} (h : LN H d n) (l : n ≤ m) : LN H d m := let ⟨kv, a, b⟩ := h; ⟨kv, a, Nat.le_trans b l⟩
theorem DN.neL {H : Hp} {d l : Addr} {n m : Nat} (h : DN H d n) (g : LN H l m) : d ≠ l := let ⟨_, a, _⟩ := h; let ⟨_, b, _⟩ := g; ne_of a b (by intro z; cases z)
theorem DN.neM {H : Hp} {d l : Addr} {n m : Nat} (h : DN H d n) (g : LM H l m) : d ≠ l := let ⟨_, a, _⟩ := h; let ⟨_, b, _⟩ := g; ne_of a b (by intro z; cases z)
theorem DN.neT {H : Hp} {d t : Addr} {n : Nat} {xs : List V} (h : DN H d n) (g : H t = some (.tup xs)) : t ≠ d := let ⟨_, a, _⟩ := h; ne_of g a (by intro z; cases z)
theorem LN.neT {H : Hp} {d t : Addr} {n : Nat} {xs : List V} (h : LN H d n) (g : H t = some (.tup xs)) : t ≠ d := let ⟨_, a, _⟩ := h; ne_of g a (by intro z; cases z)
theorem LM.neT {H : Hp} {d t : Addr} {n : Nat} {xs : List V} (h : LM H d n) (g : H t = some (.tup xs)) : t ≠ d := let ⟨_, a, _⟩ := h; ne_of g a (by intro z; cases z)
structure FS (H0 H : Hp) (F : Fd) (n m : Nat) : Prop where
  same : Same H0 H
  top : H F.fa = some (.tup [.ref F.d0, .ref F.d1, .ref F.d2, .ref F.d3, .ref F.l4, .ref F.l5, .ref F.l6])
  q_d0 : H0 F.d0 = none
  q_d1 : H0 F.d1 = none
  q_d2 : H0 F.d2 = none
  q_d3 : H0 F.d3 = none
  q_l4 : H0 F.l4 = none
  q_l5 : H0 F.l5 = none
  q_l6 : H0 F.l6 = none
  k_d0 : DN H F.d0 n
  k_d1 : DN H F.d1 n
  k_d2 : DN H F.d2 n
  k_d3 : DN H F.d3 n
  k_l4 : LN H F.l4 n
  k_l5 : LN H F.l5 n
  k_l6 : LM H F.l6 m
  n_d0_d1 : F.d0 ≠ F.d1
  n_d0_d2 : F.d0 ≠ F.d2
  n_d0_d3 : F.d0 ≠ F.d3
  n_d1_d2 : F.d1 ≠ F.d2
  n_d1_d3 : F.d1 ≠ F.d3
  n_d2_d3 : F.d2 ≠ F.d3
  n_l4_l5 : F.l4 ≠ F.l5
  n_l4_l6 : F.l4 ≠ F.l6
  n_l5_l6 : F.l5 ≠ F.l6
theorem FS.d0 {H0 H H' : Hp} {F : Fd} {n m : Nat} (h : FS H0 H F n m) (s : But F.d0 H H') (k : DN H' F.d0 (n + 1)) : FS H0 H' F (n + 1) m where
  same := fun b o e => s b o (h.same b o e) (ne_of_none e h.q_d0)
  top := s _ _ h.top (h.k_d0.neT h.top)
  q_d0 := h.q_d0
  q_d1 := h.q_d1
  q_d2 := h.q_d2
  q_d3 := h.q_d3
  q_l4 := h.q_l4
  q_l5 := h.q_l5
  q_l6 := h.q_l6
  k_d0 := k
  k_d1 := (h.k_d1.but s (h.n_d0_d1.symm)).mono (Nat.le_succ n)
  k_d2 := (h.k_d2.but s (h.n_d0_d2.symm)).mono (Nat.le_succ n)
  k_d3 := (h.k_d3.but s (h.n_d0_d3.symm)).mono (Nat.le_succ n)
  k_l4 := (h.k_l4.but s ((h.k_d0.neL h.k_l4).symm)).mono (Nat.le_succ n)
  k_l5 := (h.k_l5.but s ((h.k_d0.neL h.k_l5).symm)).mono (Nat.le_succ n)
  k_l6 := (h.k_l6.but s ((h.k_d0.neM h.k_l6).symm))
  n_d0_d1 := h.n_d0_d1
  n_d0_d2 := h.n_d0_d2
  n_d0_d3 := h.n_d0_d3
  n_d1_d2 := h.n_d1_d2
  n_d1_d3 := h.n_d1_d3
  n_d2_d3 := h.n_d2_d3
  n_l4_l5 := h.n_l4_l5
  n_l4_l6 := h.n_l4_l6
  n_l5_l6 := h.n_l5_l6
theorem FS.d1 {H0 H H' : Hp} {F : Fd} {n m : Nat} (h : FS H0 H F n m) (s : But F.d1 H H') (k : DN H' F.d1 (n + 1)) : FS H0 H' F (n + 1) m where
  same := fun b o e => s b o (h.same b o e) (ne_of_none e h.q_d1)
  top := s _ _ h.top (h.k_d1.neT h.top)
  q_d0 := h.q_d0
  q_d1 := h.q_d1
  q_d2 := h.q_d2
  q_d3 := h.q_d3
  q_l4 := h.q_l4
  q_l5 := h.q_l5
  q_l6 := h.q_l6
  k_d0 := (h.k_d0.but s (h.n_d0_d1)).mono (Nat.le_succ n)
  k_d1 := k
  k_d2 := (h.k_d2.but s (h.n_d1_d2.symm)).mono (Nat.le_succ n)
  k_d3 := (h.k_d3.but s (h.n_d1_d3.symm)).mono (Nat.le_succ n)
  k_l4 := (h.k_l4.but s ((h.k_d1.neL h.k_l4).symm)).mono (Nat.le_succ n)
  k_l5 := (h.k_l5.but s ((h.k_d1.neL h.k_l5).symm)).mono (Nat.le_succ n)
  k_l6 := (h.k_l6.but s ((h.k_d1.neM h.k_l6).symm))
  n_d0_d1 := h.n_d0_d1
  n_d0_d2 := h.n_d0_d2
  n_d0_d3 := h.n_d0_d3
  n_d1_d2 := h.n_d1_d2
  n_d1_d3 := h.n_d1_d3
  n_d2_d3 := h.n_d2_d3
  n_l4_l5 := h.n_l4_l5
  n_l4_l6 := h.n_l4_l6
  n_l5_l6 := h.n_l5_l6
theorem FS.d2 {H0 H H' : Hp} {F : Fd} {n m : Nat} (h : FS H0 H F n m) (s : But F.d2 H H') (k : DN H' F.d2 (n + 1)) : FS H0 H' F (n + 1) m where
  same := fun b o e => s b o (h.same b o e) (ne_of_none e h.q_d2)
  top := s _ _ h.top (h.k_d2.neT h.top)
  q_d0 := h.q_d0
  q_d1 := h.q_d1
  q_d2 := h.q_d2
  q_d3 := h.q_d3
  q_l4 := h.q_l4
  q_l5 := h.q_l5
  q_l6 := h.q_l6
  k_d0 := (h.k_d0.but s (h.n_d0_d2)).mono (Nat.le_succ n)
  k_d1 := (h.k_d1.but s (h.n_d1_d2)).mono (Nat.le_succ n)
  k_d2 := k
  k_d3 := (h.k_d3.but s (h.n_d2_d3.symm)).mono (Nat.le_succ n)
  k_l4 := (h.k_l4.but s ((h.k_d2.neL h.k_l4).symm)).mono (Nat.le_succ n)
  k_l5 := (h.k_l5.but s ((h.k_d2.neL h.k_l5).symm)).mono (Nat.le_succ n)
  k_l6 := (h.k_l6.but s ((h.k_d2.neM h.k_l6).symm))
  n_d0_d1 := h.n_d0_d1
  n_d0_d2 := h.n_d0_d2
  n_d0_d3 := h.n_d0_d3
  n_d1_d2 := h.n_d1_d2
  n_d1_d3 := h.n_d1_d3
  n_d2_d3 := h.n_d2_d3
  n_l4_l5 := h.n_l4_l5
  n_l4_l6 := h.n_l4_l6
  n_l5_l6 := h.n_l5_l6
theorem FS.d3 {H0 H H' : Hp} {F : Fd} {n m : Nat} (h : FS H0 H F n m) (s : But F.d3 H H') (k : DN H' F.d3 (n + 1)) : FS H0 H' F (n + 1) m where
  same := fun b o e => s b o (h.same b o e) (ne_of_none e h.q_d3)
  top := s _ _ h.top (h.k_d3.neT h.top)
  q_d0 := h.q_d0
  q_d1 := h.q_d1
  q_d2 := h.q_d2
  q_d3 := h.q_d3
  q_l4 := h.q_l4
  q_l5 := h.q_l5
  q_l6 := h.q_l6
  k_d0 := (h.k_d0.but s (h.n_d0_d3)).mono (Nat.le_succ n)
  k_d1 := (h.k_d1.but s (h.n_d1_d3)).mono (Nat.le_succ n)
  k_d2 := (h.k_d2.but s (h.n_d2_d3)).mono (Nat.le_succ n)
  k_d3 := k
  k_l4 := (h.k_l4.but s ((h.k_d3.neL h.k_l4).symm)).mono (Nat.le_succ n)
  k_l5 := (h.k_l5.but s ((h.k_d3.neL h.k_l5).symm)).mono (Nat.le_succ n)
  k_l6 := (h.k_l6.but s ((h.k_d3.neM h.k_l6).symm))
  n_d0_d1 := h.n_d0_d1
  n_d0_d2 := h.n_d0_d2
  n_d0_d3 := h.n_d0_d3
  n_d1_d2 := h.n_d1_d2
  n_d1_d3 := h.n_d1_d3
  n_d2_d3 := h.n_d2_d3
  n_l4_l5 := h.n_l4_l5
  n_l4_l6 := h.n_l4_l6
  n_l5_l6 := h.n_l5_l6
theorem FS.l4 {H0 H H' : Hp} {F : Fd} {n m : Nat} (h : FS H0 H F n m) (s : But F.l4 H H') (k : LN H' F.l4 (n + 1)) : FS H0 H' F (n + 1) m where
  same := fun b o e => s b o (h.same b o e) (ne_of_none e h.q_l4)
  top := s _ _ h.top (h.k_l4.neT h.top)
  q_d0 := h.q_d0
  q_d1 := h.q_d1
  q_d2 := h.q_d2
  q_d3 := h.q_d3
  q_l4 := h.q_l4
  q_l5 := h.q_l5
  q_l6 := h.q_l6
  k_d0 := (h.k_d0.but s (h.k_d0.neL h.k_l4)).mono (Nat.le_succ n)
  k_d1 := (h.k_d1.but s (h.k_d1.neL h.k_l4)).mono (Nat.le_succ n)
  k_d2 := (h.k_d2.but s (h.k_d2.neL h.k_l4)).mono (Nat.le_succ n)
  k_d3 := (h.k_d3.but s (h.k_d3.neL h.k_l4)).mono (Nat.le_succ n)
  k_l4 := k
  k_l5 := (h.k_l5.but s (h.n_l4_l5.symm)).mono (Nat.le_succ n)
  k_l6 := (h.k_l6.but s (h.n_l4_l6.symm))
  n_d0_d1 := h.n_d0_d1
  n_d0_d2 := h.n_d0_d2
  n_d0_d3 := h.n_d0_d3
  n_d1_d2 := h.n_d1_d2
  n_d1_d3 := h.n_d1_d3
  n_d2_d3 := h.n_d2_d3
  n_l4_l5 := h.n_l4_l5
  n_l4_l6 := h.n_l4_l6
  n_l5_l6 := h.n_l5_l6
theorem FS.l5 {H0 H H' : Hp} {F : Fd} {n m : Nat} (h : FS H0 H F n m) (s : But F.l5 H H') (k : LN H' F.l5 (n + 1)) : FS H0 H' F (n + 1) m where
  same := fun b o e => s b o (h.same b o e) (ne_of_none e h.q_l5)
  top := s _ _ h.top (h.k_l5.neT h.top)
  q_d0 := h.q_d0
  q_d1 := h.q_d1
  q_d2 := h.q_d2
  q_d3 := h.q_d3
  q_l4 := h.q_l4
  q_l5 := h.q_l5
  q_l6 := h.q_l6
  k_d0 := (h.k_d0.but s (h.k_d0.neL h.k_l5)).mono (Nat.le_succ n)
  k_d1 := (h.k_d1.but s (h.k_d1.neL h.k_l5)).mono (Nat.le_succ n)
  k_d2 := (h.k_d2.but s (h.k_d2.neL h.k_l5)).mono (Nat.le_succ n)
  k_d3 := (h.k_d3.but s (h.k_d3.neL h.k_l5)).mono (Nat.le_succ n)
  k_l4 := (h.k_l4.but s (h.n_l4_l5)).mono (Nat.le_succ n)
  k_l5 := k
  k_l6 := (h.k_l6.but s (h.n_l5_l6.symm))
  n_d0_d1 := h.n_d0_d1
  n_d0_d2 := h.n_d0_d2
  n_d0_d3 := h.n_d0_d3
  n_d1_d2 := h.n_d1_d2
  n_d1_d3 := h.n_d1_d3
  n_d2_d3 := h.n_d2_d3
  n_l4_l5 := h.n_l4_l5
  n_l4_l6 := h.n_l4_l6
  n_l5_l6 := h.n_l5_l6
theorem FS.l6 {H0 H H' : Hp} {F : Fd} {n m m' : Nat} (h : FS H0 H F n m) (s : But F.l6 H H') (k : LM H' F.l6 m') : FS H0 H' F n m' where
  same := fun b o e => s b o (h.same b o e) (ne_of_none e h.q_l6)
  top := s _ _ h.top (h.k_l6.neT h.top)
  q_d0 := h.q_d0
  q_d1 := h.q_d1
  q_d2 := h.q_d2
  q_d3 := h.q_d3
  q_l4 := h.q_l4
  q_l5 := h.q_l5
  q_l6 := h.q_l6
  k_d0 := (h.k_d0.but s (h.k_d0.neM h.k_l6))
  k_d1 := (h.k_d1.but s (h.k_d1.neM h.k_l6))
  k_d2 := (h.k_d2.but s (h.k_d2.neM h.k_l6))
  k_d3 := (h.k_d3.but s (h.k_d3.neM h.k_l6))
  k_l4 := (h.k_l4.but s (h.n_l4_l6))
  k_l5 := (h.k_l5.but s (h.n_l5_l6))
  k_l6 := k
  n_d0_d1 := h.n_d0_d1
  n_d0_d2 := h.n_d0_d2
  n_d0_d3 := h.n_d0_d3
  n_d1_d2 := h.n_d1_d2
  n_d1_d3 := h.n_d1_d3
  n_d2_d3 := h.n_d2_d3
  n_l4_l5 := h.n_l4_l5
  n_l4_l6 := h.n_l4_l6
  n_l5_l6 := h.n_l5_l6
theorem FS.keep {H0 H H' : Hp} {F : Fd} {n m : Nat} (h : FS H0 H F n m) (s : Same H H') : FS H0 H' F n m where
  same := h.same.trans s
  top := s _ _ h.top
  q_d0 := h.q_d0
  q_d1 := h.q_d1
  q_d2 := h.q_d2
  q_d3 := h.q_d3
  q_l4 := h.q_l4
  q_l5 := h.q_l5
  q_l6 := h.q_l6
  k_d0 := let ⟨x, e, r⟩ := h.k_d0; ⟨x, s _ _ e, r⟩
  k_d1 := let ⟨x, e, r⟩ := h.k_d1; ⟨x, s _ _ e, r⟩
  k_d2 := let ⟨x, e, r⟩ := h.k_d2; ⟨x, s _ _ e, r⟩
  k_d3 := let ⟨x, e, r⟩ := h.k_d3; ⟨x, s _ _ e, r⟩
  k_l4 := let ⟨x, e, r⟩ := h.k_l4; ⟨x, s _ _ e, r⟩
  k_l5 := let ⟨x, e, r⟩ := h.k_l5; ⟨x, s _ _ e, r⟩
  k_l6 := let ⟨x, e, r⟩ := h.k_l6; ⟨x, s _ _ e, r⟩
  n_d0_d1 := h.n_d0_d1
  n_d0_d2 := h.n_d0_d2
  n_d0_d3 := h.n_d0_d3
  n_d1_d2 := h.n_d1_d2
  n_d1_d3 := h.n_d1_d3
  n_d2_d3 := h.n_d2_d3
  n_l4_l5 := h.n_l4_l5
  n_l4_l6 := h.n_l4_l6
  n_l5_l6 := h.n_l5_l6
theorem FS.mono {H0 H : Hp} {F : Fd} {n m n' : Nat} (h : FS H0 H F n m) (l : n ≤ n') : FS H0 H F n' m where
  same := h.same
  top := h.top
  q_d0 := h.q_d0
  q_d1 := h.q_d1
  q_d2 := h.q_d2
  q_d3 := h.q_d3
  q_l4 := h.q_l4
  q_l5 := h.q_l5
  q_l6 := h.q_l6
  k_d0 := h.k_d0.mono l
  k_d1 := h.k_d1.mono l
  k_d2 := h.k_d2.mono l
  k_d3 := h.k_d3.mono l
  k_l4 := h.k_l4.mono l
  k_l5 := h.k_l5.mono l
  k_l6 := h.k_l6
  n_d0_d1 := h.n_d0_d1
  n_d0_d2 := h.n_d0_d2
  n_d0_d3 := h.n_d0_d3
  n_d1_d2 := h.n_d1_d2
  n_d1_d3 := h.n_d1_d3
  n_d2_d3 := h.n_d2_d3
  n_l4_l5 := h.n_l4_l5
  n_l4_l6 := h.n_l4_l6
  n_l5_l6 := h.n_l5_l6
end K01

set_option Elab.async false
set_option linter.all false
set_option maxRecDepth 100000
set_option maxHeartbeats 16000000
set_option pp.maxSteps 900
namespace K01
open PySem PySem.Spec PyProof.Rows L2 Lm LmSet
/-! ### parts -/
theorem all_take {α : Type} {p : α → Bool} {l : List α} {i : Nat} {x : α} (h : (l.take i).all p = true) (e : l[i]? = some x) (q : p x = true) : (l.take (i + 1)).all p = true := by
  obtain ⟨hi, rfl⟩ := List.getElem?_eq_some_iff.mp e
  rw [List.take_add_one, e, List.all_append, h]
  simp [q]
theorem all_bad {α : Type} {p : α → Bool} {l : List α} {i : Nat} {x : α} (e : l[i]? = some x) (q : p x = false) : l.all p = false := by
  rw [List.all_eq_false]
  exact ⟨x, List.mem_of_getElem? e, by rw [q]; exact Bool.false_ne_true⟩
theorem nodup_step {α : Type} {l : List α} {x : α} : (l ++ [x]).Nodup ↔ l.Nodup ∧ x ∉ l := by
  rw [List.nodup_append]
  constructor
  · rintro ⟨a, _, c⟩
    exact ⟨a, fun hx => c x hx x (List.mem_singleton.mpr rfl) rfl⟩
  · rintro ⟨a, c⟩
    exact ⟨a, List.nodup_cons.mpr ⟨by simp, List.nodup_nil⟩, fun y hy z hz e => c (by rw [List.mem_singleton.mp hz] at e; rw [← e]; exact hy)⟩
theorem part_shape {d : PyData} (h : partOk d = true) : ∃ v c, d = .tuple [v, c] ∧ (isNon v || isNm v) = true ∧ (isBig c || isNm c) = true := by
  cases d with
  | tuple ds =>
    match ds, h with
    | [v, c], h =>
      have h := Bool.and_eq_true_iff.mp (show ((isNon v || isNm v) && (isBig c || isNm c)) = true from h)
      exact ⟨v, c, rfl, h.1, h.2⟩
    | [], h => cases h
    | [_], h => cases h
    | _ :: _ :: _ :: _, h => cases h
  | _ => cases h
theorem part_false {ds : List PyData} (h : ds.length ≠ 2) : partOk (.tuple ds) = false := by
  match ds, h with
  | [], _ => rfl
  | [_], _ => rfl
  | [_, _], h => exact absurd rfl h
  | _ :: _ :: _ :: _, _ => rfl
/-- the member that a variable is -/
def keyV : PyData → Mb
  | .str s => some s
  | _ => none
theorem DEs.two {N : Addr → Prop} {H : Hp} {es : List PyData} {ys : List V} (h : DEs N H ys es) (l : ys.length = 2) : ∃ v c dv dc, ys = [v, c] ∧ es = [dv, dc] ∧ DE N H v dv ∧ DE N H c dc := by
  cases h with
  | nil => cases l
  | cons h1 h2 =>
    cases h2 with
    | nil => cases l
    | cons h3 h4 =>
      cases h4 with
      | nil => exact ⟨_, _, _, _, rfl, rfl, h1, h3⟩
      | cons h5 h6 => simp at l
theorem okD_mem {ds : List PyData} {i : Nat} {d : PyData} (h : okD (.tuple ds) = true) (e : ds[i]? = some d) : okD d = true := okDs_mem (show okDs ds = true from h) d (List.mem_of_getElem? e)
theorem parts_len {ps : List PyData} (h : (decide (0 < ps.length) && decide (ps.length ≤ 4)) = false) : partsOk (.tuple ps) = false := by
  show ((decide (0 < ps.length) && decide (ps.length ≤ 4)) && (ps.all partOk && decide ((ps.map keyD).Nodup))) = false
  rw [h]
  rfl
theorem parts_bad {ps : List PyData} {i : Nat} {d : PyData} (e : ps[i]? = some d) (h : partOk d = false) : partsOk (.tuple ps) = false := by
  show ((decide (0 < ps.length) && decide (ps.length ≤ 4)) && (ps.all partOk && decide ((ps.map keyD).Nodup))) = false
  rw [all_bad e h, Bool.false_and, Bool.and_false]
section
variable {P : Program} {w : World} {K : PySem.W.Frag} {mg : Str → Option Value} {base : Heap}
def NP : List Str := ["value", "found", "variables", "constants", "part", "variable", "constant", "_"]
theorem scParts : FnScope NP ["value", "found"] (defScope sParts) := ⟨rfl, rfl, rfl, by decide +kernel, rfl, by decide +kernel, by decide +kernel⟩
def spParts : Sp := fun vs H Q _ => ∃ (H0 : Hp) (F : Fd) (n m : Nat) (v : V) (d : PyData), vs = [v, .ref F.fa] ∧ FS H0 H F n m ∧ n ≤ 10000 ∧ DE Any H0 v d ∧ okD d = true ∧
  ∀ H', Same H0 H' → (partsOk d = true → FS H0 H' F (n + 9) m) → Q (.bl (partsOk d)) H'
theorem rd_var {K' : PySem.W.Frag} {σ : L2.St} {H H0 : Hp} {D : Ends} {F : Fd} {n m : Nat} {yv : V} {dv : PyData} (i5 : σ[5]? = some (some yv)) (i2 : σ[2]? = some (some (.ref F.d0))) (f1 : FS H0 H F n m) (hn : n < 100000) (hyv : DE Any H0 yv dv) (okv : okD dv = true)
    (bad : (isNon dv || isNm dv) = false → ∀ H', Same H0 H' → D.rt (.bl false) H') (good : ∀ H2, FS H0 H2 F (n + 1) m → (isNon dv || isNm dv) = true → D.nx σ H2) :
    tIfS (tB (tCB (rIsi K') (tCons (tVar 5) (tCons (tC (V.ty "str")) tNil)))) (tIfS (tAnd (tB (tDNotIn (tVar 5) (tVar 2))) (tNot (tB (tCall spNew [] E0 (tCons (tVar 5) (tCons (tVar 2) tNil)))))) (tRet (tC (V.bl false))) tNext) (tIfS (tB (tNotN (tVar 5))) (tRet (tC (V.bl false))) tNext) D σ H := by
  refine ⟨_, i5, yv, .ty "str", _, .type "str", _, rfl, .ty "str", (hyv.same f1.same).ty, ty_str' dv, _, rfl, ?_⟩
  cases dv with
  | bool _ => cases hyv; exact iteF ⟨_, i5, _, rfl, iteT (bad rfl H f1.same)⟩
  | int _ => cases hyv; exact iteF ⟨_, i5, _, rfl, iteT (bad rfl H f1.same)⟩
  | list _ => cases hyv; exact iteF ⟨_, i5, _, rfl, iteT (bad rfl H f1.same)⟩
  | dict _ => cases hyv; exact iteF ⟨_, i5, _, rfl, iteT (bad rfl H f1.same)⟩
  | tuple _ => cases hyv; exact iteF ⟨_, i5, _, rfl, iteT (bad rfl H f1.same)⟩
  | none => cases hyv; exact iteF ⟨_, i5, _, rfl, iteF (good H (f1.mono (by omega)) rfl)⟩
  | str z =>
    cases hyv
    obtain ⟨kv, hd, hk1, hk⟩ := f1.k_d0
    refine iteT ⟨_, i5, _, i2, F.d0, _, rfl, DGet.k (k := Sum.inr z) hd, _, rfl, ?_⟩
    cases hs : (valV kv (Sum.inr z)).isSome with
    | true => exact iteF (iteF (good H (f1.mono (by omega)) (by show (false || codeNm z) = true; rw [hk z hs]; rfl)))
    | false =>
      refine iteT ⟨_, i5, _, i2, z, F.d0, n, rfl, okv, ⟨kv, hd, hk1, hk⟩, by omega, fun H2 b2 d2 => ⟨_, rfl, ?_⟩⟩
      cases hc : codeNm z with
      | true => exact iteF (good H2 (f1.d0 b2 d2) (by show (false || codeNm z) = true; rw [hc]; rfl))
      | false => exact iteT (bad (by show (false || codeNm z) = false; rw [hc]; rfl) H2 ((f1.d0 b2 d2).same))
theorem isT_ty {K : PySem.W.Frag} (d : PyData) : PySem.W.kitOne K (.type (tyD d)) (.type "tuple") = some (match d with | .tuple _ => true | _ => false) := ty_tuple d
theorem ok_parts {f fn : Addr} {fd fdn : FuncData} (F : Fun K "are_parts" "are_parts" sParts f fd) (T : Txt1 mg) (GW : FnOk P w K mg base CX0 2 fn fdn ["name", "known"] spNew) (bW : Binds K fdn ["name", "known"] []) (mW : mg "is_new" = some (.ref fn)) (kW : PySem.W.keepIn K (.ref fn) = true) :
    FnOk P w K mg base CX0 3 f fd ["value", "found"] spParts := by
  obtain ⟨tp, mpp⟩ := T.mp
  obtain ⟨tg, mgr⟩ := T.gr
  obtain ⟨tl, mle⟩ := T.le
  refine F.ok scParts (fun vs H Q E h => ?_) (fun cdv A outer s H vs Q E hr h => ?_)
  · obtain ⟨H0, F, n, m, v, d, rfl, _⟩ := h
    rfl
  · obtain ⟨H0, F, n, m, v, d, rfl, fs, hn, hv, ok, q⟩ := h
    have hu := hu_of hr
    have hz : sizeLine = 16777216 := sizeLine_eq
    refine ⟨_, (pss_cons (ps_if (PW.pt (pw_or (pt_not (pt_val (pe_callB call_isi (by rfl) T.isi (by decide +kernel) (pa_cons (pv 0) (pa_cons (pe_bltn (v := .ty "tuple") (by rfl) T.tuple_ (by decide +kernel) rfl) pa_nil))))) (pw_or1 (pt_not (pt_chain op_lt op_le pe_int (pe_callB call_len_seq (by rfl) T.len_ PySem.boot_len (pa_cons (pv 0) pa_nil)) (pe_glob (v := .int 4) (by rfl) mpp ⟨_, rfl⟩))))))
        (pss_one (ps_ret pe_bl)) pss_nil)
      (pss_cons (ps_par (i := 2) (j := 3) (by rfl) scParts.nd rfl rfl (by decide) rfl rfl (pa_cons (pe_ix ix_tup (pv 1) pe_int (fun _ _ => rfl)) (pa_cons (pe_ix ix_tup (pv 1) pe_int (fun _ _ => rfl)) pa_nil)) (by rfl))
      (pss_cons (ps_for PassesOwn.never rfl (pi_tup (pv 0)) (pg_name (i := 4) scParts.nd rfl (.inl rfl))
        (pss_cons (ps_if (PW.pt (pw_or (pt_not (pt_val (pe_callB call_isi (by rfl) T.isi (by decide +kernel) (pa_cons (pv 4) (pa_cons (pe_bltn (v := .ty "tuple") (by rfl) T.tuple_ (by decide +kernel) rfl) pa_nil))))) (pw_or1 (pt_cmpR op_ne (pe_callB call_len_seq (by rfl) T.len_ PySem.boot_len (pa_cons (pv 4) pa_nil)) pe_int (nomark _)))))
          (pss_one (ps_ret pe_bl)) pss_nil)
        (pss_cons (ps_asg (pv 4) (pg_tup (by rfl) (pgs_cons (pg_name (i := 5) scParts.nd rfl (.inl rfl)) (pgs_cons (pg_name (i := 6) scParts.nd rfl (.inl rfl)) pgs_nil))))
        (pss_cons (ps_if (pt_val (pe_callB call_isi (by rfl) T.isi (by decide +kernel) (pa_cons (pv 5) (pa_cons (pe_bltn (v := .ty "str") (by rfl) T.str_ (by decide +kernel) rfl) pa_nil))))
          (pss_one (ps_if (PW.pt (pw_and (pt_cmp (pc_dnotin hu (pv 5) (pv 2))) (pw_and1 (pt_not (pt_val (pe_call GW hr (by rfl) mW kW bW .nil pass0 (pa_cons (pv 5) (pa_cons (pv 2) pa_nil))))))))
            (pss_one (ps_ret pe_bl)) pss_nil)) (pss_one (ps_if (pt_cmp (pc_notN (pv 5)))
            (pss_one (ps_ret pe_bl)) pss_nil)))
        (pss_one (ps_if (pt_val (pe_callB call_isi (by rfl) T.isi (by decide +kernel) (pa_cons (pv 6) (pa_cons (pe_bltn (v := .ty "int") (by rfl) T.int_ (by decide +kernel) rfl) pa_nil))))
          (pss_one (ps_if (PW.pt (pw_or (pt_cmpR op_isB (pv 6) pe_bl (nomark _)) (pw_or (pt_cmpR op_isB (pv 6) pe_bl (nomark _)) (pw_or (pt_cmpR op_gt (pv 6) (pe_glob (v := .int hi30) (by rfl) mgr ⟨_, rfl⟩) (nomark _)) (pw_or1 (pt_cmpR op_lt (pv 6) (pe_glob (v := .int lo30) (by rfl) mle ⟨_, rfl⟩) (nomark _)))))))
            (pss_one (ps_ret pe_bl)) pss_nil)) (pss_one (ps_if (PW.pt (pw_or (pt_not (pt_val (pe_callB call_isi (by rfl) T.isi (by decide +kernel) (pa_cons (pv 6) (pa_cons (pe_bltn (v := .ty "str") (by rfl) T.str_ (by decide +kernel) rfl) pa_nil))))) (pw_or1 (PW.pt (pw_and (pt_cmp (pc_dnotin hu (pv 6) (pv 3))) (pw_and1 (pt_not (pt_val (pe_call GW hr (by rfl) mW kW bW .nil pass0 (pa_cons (pv 6) (pa_cons (pv 3) pa_nil)))))))))))
            (pss_one (ps_ret pe_bl)) pss_nil))))))))
      (pss_cons (ps_if (pt_cmpR op_eq (pe_callB call_len_seq (by rfl) T.len_ PySem.boot_len (pa_cons (pv 0) pa_nil)) pe_int (nomark _))
        (pss_one (ps_ret pe_bl)) pss_nil)
      (pss_cons (ps_expr (pe_bm PySem.F.plainAttrs_list PySem.F.slot_list_append PySem.F.type_list_append mt_append (pe_ix ix_tup (pv 1) pe_int (fun _ _ => rfl)) (pa_cons (pv 0) pa_nil)))
      (pss_one (ps_ret (pe_cmpR op_eq (pe_callB call_lenM (by rfl) T.len_ PySem.boot_len (pa_cons (pe_scM (own := [("variable", 5), ("_", 7)]) (g := gTup K 2 (gCons (gName 5) (gCons (gName 7) gNil))) (tt := tYes) rfl scParts.nd (pi_tup (pv 0)) (blkOk_by (N := NP) (sc := defScope sParts) (by decide +kernel)) (fun _ _ _ _ _ => pg_tup (by rfl) (pgs_cons (pg_name (i := 5) scParts.nd rfl (Or.inl rfl)) (pgs_cons (pg_name (i := 7) scParts.nd rfl (Or.inl rfl)) pgs_nil))) (fun _ _ _ _ _ => pts_nil) (fun _ _ _ _ _ => pv 5)) pa_nil)) (pe_callB call_len_seq (by rfl) T.len_ PySem.boot_len (pa_cons (pv 0) pa_nil)) (nomark _))))))))), ?_⟩
    have bad : partsOk d = false → ∀ H', Same H0 H' → Q (.bl false) H' := fun z H' s => by
      have := q H' s (fun y => by rw [z] at y; cases y)
      rw [z] at this
      exact this
    refine ⟨_, rfl, v, .ty "tuple", _, .type "tuple", _, rfl, .ty "tuple", (hv.same fs.same).ty, ty_tuple d, _, rfl, ?_⟩
    cases d with
    | bool _ => exact iteT (bad rfl H fs.same)
    | int _ => exact iteT (bad rfl H fs.same)
    | none => exact iteT (bad rfl H fs.same)
    | str _ => exact iteT (bad rfl H fs.same)
    | list _ => exact iteT (bad rfl H fs.same)
    | dict _ => exact iteT (bad rfl H fs.same)
    | tuple ps =>
    obtain ⟨a, xs, rfl, ha, hxs⟩ := DE.tup_inv hv
    have hl : xs.length = ps.length := DEs.len hxs
    have seq : ∀ {H' : Hp}, Same H0 H' → SqT K H' a xs := fun s => SqT.of (s _ _ ha)
    refine iteF ⟨_, rfl, a, _, rfl, .inr (seq fs.same), _, _, rfl, rfl, _, rfl, ?_⟩
    cases h0 : decide ((0 : Int) < (xs.length : Int)) with
    | false => exact iteF ⟨_, rfl, iteT (bad (parts_len (by have := of_decide_eq_false h0; rw [decide_eq_false (by omega)]; rfl)) H fs.same)⟩
    | true =>
    refine iteT ⟨_, _, rfl, rfl, _, rfl, ?_⟩
    cases h4 : decide ((xs.length : Int) ≤ 4) with
    | false => exact iteT (bad (parts_len (by have := of_decide_eq_false h4; rw [decide_eq_false (p := ps.length ≤ 4) (by omega), Bool.and_false])) H fs.same)
    | true =>
    have h0 := of_decide_eq_true h0
    have h4 := of_decide_eq_true h4
    refine iteF ⟨_, rfl, F.fa, _, _, _, rfl, rfl, SqT.of fs.top, atI_nat (j := 0) rfl, _, rfl, F.fa, _, _, _, rfl, rfl, SqT.of fs.top, atI_nat (j := 1) rfl, ⟨_, _, rfl, ?_⟩⟩
    refine ⟨_, rfl, a, rfl, ⟨_, seq fs.same⟩, for_tup (K := K) (a := a) (xs := xs) (fun i σ H' => ∃ v4 v5 v6, σ = [some (.ref a), some (.ref F.fa), some (.ref F.d0), some (.ref F.d1), v4, v5, v6, none] ∧ FS H0 H' F (n + 2 * i) m ∧ (ps.take i).all partOk = true)
      ⟨_, _, _, rfl, fs, rfl⟩ (fun i σ H' _ ⟨_, _, _, _, f, _⟩ => seq f.same) ?_ ?_⟩
    · rintro i x σ H1 hi ⟨v4, v5, v6, rfl, f1, al⟩
      have i4 : i < 4 := by have := (List.getElem?_eq_some_iff.mp hi).1; omega
      obtain ⟨dd, hdd, hx⟩ := DEs.at_ hxs hi
      have okd := okD_mem ok hdd
      have hx1 := hx.same f1.same
      refine ⟨_, rfl, x, .ty "tuple", _, .type "tuple", _, rfl, .ty "tuple", hx1.ty, ty_tuple dd, _, rfl, ?_⟩
      have badp : partOk dd = false → ∀ H', Same H0 H' → Q (.bl false) H' := fun z => bad (parts_bad hdd z)
      cases dd with
      | bool _ => exact iteT (badp rfl H1 f1.same)
      | int _ => exact iteT (badp rfl H1 f1.same)
      | none => exact iteT (badp rfl H1 f1.same)
      | str _ => exact iteT (badp rfl H1 f1.same)
      | list _ => exact iteT (badp rfl H1 f1.same)
      | dict _ => exact iteT (badp rfl H1 f1.same)
      | tuple es =>
      obtain ⟨b, ys, rfl, hb, hys⟩ := DE.tup_inv hx
      have hly : ys.length = es.length := DEs.len hys
      refine iteF ⟨_, rfl, b, _, rfl, .inr (SqT.of (f1.same _ _ hb)), rfl, _, rfl, ?_⟩
      by_cases h2 : ys.length = 2
      rotate_left
      · exact ifT (by simp; omega) (badp (part_false (by omega)) H1 f1.same)
      obtain ⟨yv, yc, dv, dc, rfl, rfl, hyv, hyc⟩ := DEs.two hys h2
      have okv : okD dv = true := okD_mem (i := 0) okd rfl
      have okc : okD dc = true := okD_mem (i := 1) okd rfl
      refine ifF (by rfl) ⟨_, rfl, b, _, rfl, SqT.of (f1.same _ _ hb), rfl, _, _, rfl, _, _, rfl, rfl, ?_⟩
      have badv : (isNon dv || isNm dv) = false → ∀ H', Same H0 H' → Q (.bl false) H' := fun z => badp (by show ((isNon dv || isNm dv) && (isBig dc || isNm dc)) = false; rw [z]; rfl)
      have badc : (isBig dc || isNm dc) = false → ∀ H', Same H0 H' → Q (.bl false) H' := fun z => badp (by show ((isNon dv || isNm dv) && (isBig dc || isNm dc)) = false; rw [z, Bool.and_false])
      refine rd_var (yv := yv) (dv := dv) rfl rfl f1 (by omega) hyv okv badv (fun H2 f2 okv2 => ?_)
      · refine ⟨_, rfl, yc, .ty "int", _, .type "int", _, rfl, .ty "int", (hyc.same f2.same).ty, ty_int' dc, _, rfl, ?_⟩
        have good : ∀ H3, FS H0 H3 F (n + 2 * (i + 1)) m → (isBig dc || isNm dc) = true → ∃ v4 v5 v6, [some (.ref a), some (.ref F.fa), some (.ref F.d0), some (.ref F.d1), some (.ref b), some yv, some yc, none] = [some (.ref a), some (.ref F.fa), some (.ref F.d0), some (.ref F.d1), v4, v5, v6, none] ∧ FS H0 H3 F (n + 2 * (i + 1)) m ∧ (ps.take (i + 1)).all partOk = true :=
          fun H3 f3 h3 => ⟨_, _, _, rfl, f3, all_take al hdd (by show ((isNon dv || isNm dv) && (isBig dc || isNm dc)) = true; rw [okv2, h3]; rfl)⟩
        cases dc with
        | none => exact iteF ⟨_, rfl, yc, .ty "str", _, .type "str", _, rfl, .ty "str", (hyc.same f2.same).ty, ty_str' _, _, rfl, iteT (badc rfl H2 f2.same)⟩
        | list _ => exact iteF ⟨_, rfl, yc, .ty "str", _, .type "str", _, rfl, .ty "str", (hyc.same f2.same).ty, ty_str' _, _, rfl, iteT (badc rfl H2 f2.same)⟩
        | dict _ => exact iteF ⟨_, rfl, yc, .ty "str", _, .type "str", _, rfl, .ty "str", (hyc.same f2.same).ty, ty_str' _, _, rfl, iteT (badc rfl H2 f2.same)⟩
        | tuple _ => exact iteF ⟨_, rfl, yc, .ty "str", _, .type "str", _, rfl, .ty "str", (hyc.same f2.same).ty, ty_str' _, _, rfl, iteT (badc rfl H2 f2.same)⟩
        | bool z =>
          cases hyc
          cases z with
          | true => exact iteT ⟨_, rfl, true, rfl, _, rfl, iteT (badc rfl H2 f2.same)⟩
          | false => exact iteT ⟨_, rfl, true, rfl, _, rfl, iteF ⟨_, rfl, false, rfl, _, rfl, iteT (badc rfl H2 f2.same)⟩⟩
        | int z =>
          cases hyc
          refine iteT ⟨_, rfl, true, rfl, _, rfl, iteF ⟨_, rfl, false, rfl, _, rfl, iteF ⟨_, rfl, _, _, rfl, rfl, _, rfl, ?_⟩⟩⟩
          have e : (isBig (.int z) || isNm (.int z)) = (decide (lo30 ≤ z) && decide (z ≤ hi30)) := Bool.or_false _
          by_cases g1 : z ≤ hi30
          · refine ifF (decide_eq_false (by omega)) ⟨_, rfl, _, _, rfl, rfl, _, rfl, ?_⟩
            by_cases g2 : lo30 ≤ z
            · exact ifF (decide_eq_false (by omega)) (good H2 (f2.mono (by omega)) (by rw [e, decide_eq_true g1, decide_eq_true g2]; rfl))
            · exact ifT (decide_eq_true (by omega)) (badc (by rw [e, decide_eq_false g2]; rfl) H2 f2.same)
          · exact ifT (decide_eq_true (by omega)) (badc (by rw [e, decide_eq_false g1, Bool.and_false]) H2 f2.same)
        | str z =>
          cases hyc
          refine iteF ⟨_, rfl, _, .ty "str", _, .type "str", _, rfl, .ty "str", (DE.str (N := Any) (H := H2) z).ty, ty_str' _, _, rfl, iteF ?_⟩
          obtain ⟨kv, hd, hk1, hk⟩ := f2.k_d1
          refine ⟨_, rfl, _, rfl, F.d1, _, rfl, DGet.k (k := Sum.inr z) hd, _, rfl, ?_⟩
          cases hs : (valV kv (Sum.inr z)).isSome with
          | true => exact iteF (iteF (good H2 (f2.mono (by omega)) (by show (false || codeNm z) = true; rw [hk z hs]; rfl)))
          | false =>
            refine iteT ⟨_, rfl, _, rfl, z, F.d1, n + 2 * i + 1, rfl, okc, ⟨kv, hd, hk1, hk⟩, by omega, fun H3 b3 d3 => ⟨_, rfl, ?_⟩⟩
            cases hc : codeNm z with
            | true => exact iteF (good H3 ((f2.d1 b3 d3).mono (by omega)) (by show (false || codeNm z) = true; rw [hc]; rfl))
            | false => exact iteT (badc (by show (false || codeNm z) = false; rw [hc]; rfl) H3 ((f2.d1 b3 d3).same))
    · rintro σ H1 ⟨v4, v5, v6, rfl, f1, al⟩
      rw [hl, List.take_length] at al
      have lens : (decide (0 < ps.length) && decide (ps.length ≤ 4)) = true := by rw [decide_eq_true (p := 0 < ps.length) (by omega), decide_eq_true (p := ps.length ≤ 4) (by omega)]; rfl
      have val : partsOk (.tuple ps) = decide ((ps.map keyD).Nodup) := by
        show ((decide (0 < ps.length) && decide (ps.length ≤ 4)) && (ps.all partOk && decide ((ps.map keyD).Nodup))) = _
        rw [lens, al]
        rfl
      refine ⟨_, rfl, a, _, rfl, .inr (seq f1.same), rfl, _, rfl, ?_⟩
      by_cases h1 : ps.length = 1
      · refine ifT (by rw [hl, h1]; rfl) ?_
        obtain ⟨p, rfl⟩ := List.length_eq_one_iff.mp h1
        have e : partsOk (.tuple [p]) = true := by rw [val]; rfl
        rw [e] at q
        exact q H1 f1.same fun _ => f1.mono (by omega)
      · refine ifF (decide_eq_false fun z => h1 (by injection z with z; omega)) ?_
        obtain ⟨l5, h5, z5⟩ := f1.k_l5
        refine ⟨_, rfl, F.fa, _, _, _, rfl, rfl, SqT.of f1.top, atI_nat (j := 5) rfl, .inl ⟨rfl, _, SqL.of h5⟩, _, rfl, F.l5, l5, _, rfl, rfl, h5, by omega, ?_⟩
        have f3 := f1.l5 (H' := upd H1 F.l5 (.lst (l5 ++ [.ref a]))) But.upd ⟨_, upd_same, by rw [List.length_append]; show l5.length + 1 ≤ _; omega⟩
        refine ⟨_, rfl, a, rfl, ⟨_, seq f3.same⟩, fun D nD => sc_tupM (fun i H' => Same (upd H1 F.l5 (.lst (l5 ++ [.ref a]))) H' ∧ ∃ S k, H' D = some (SetM P w D S k) ∧ (∀ x, S x = true ↔ x ∈ (ps.take i).map keyD) ∧ k ≤ i ∧ (k = i ↔ ((ps.take i).map keyD).Nodup))
          ⟨same_new nD, _, _, upd_same, fun x => by simp, Nat.le_refl _, by simp⟩ (fun i H' _ z => seq (f3.same.trans z.1)) (fun i x H' hi z => ?_) (fun H' z => ?_)⟩
        · obtain ⟨z1, S, k, hD, hS, k1, k2⟩ := z
          have i4 : i < 4 := by have := (List.getElem?_eq_some_iff.mp hi).1; omega
          obtain ⟨dd, hdd, hx⟩ := DEs.at_ hxs hi
          obtain ⟨dv, dc, rfl, ov, _⟩ := part_shape (List.all_eq_true.mp al dd (List.mem_of_getElem? hdd))
          obtain ⟨b, ys, rfl, hb, hys⟩ := DE.tup_inv hx
          obtain ⟨yv, yc, _, _, rfl, e2, hyv, hyc⟩ := DEs.two hys (DEs.len hys)
          cases e2
          have hb' := (f3.same.trans z1) _ _ hb
          have key : yv = mV (keyD (.tuple [dv, dc])) := by
            cases dv with
            | none => cases hyv; rfl
            | str s => cases hyv; rfl
            | _ => cases ov
          refine ⟨b, _, rfl, SqT.of hb', rfl, _, _, rfl, _, _, rfl, rfl, rfl, _, rfl, keyD (.tuple [dv, dc]), S, k, key, hD, by have : scanBound = 4096 := rfl; omega, ?_⟩
          have tk : (ps.take (i + 1)).map keyD = (ps.take i).map keyD ++ [keyD (.tuple [dv, dc])] := by
            rw [List.take_add_one, hdd, List.map_append]
            rfl
          refine ⟨fun b u e => by rw [upd_ne (ne_of_none e nD)]; exact z1 _ _ e, _, _, upd_same, fun x => ?_, ?_, ?_⟩
          · rw [tk, List.mem_append, List.mem_singleton, Bool.or_eq_true, decide_eq_true_eq, hS x]
          · split <;> omega
          · rw [tk, nodup_step]
            by_cases hm : keyD (.tuple [dv, dc]) ∈ (ps.take i).map keyD
            · rw [if_pos ((hS _).mpr hm)]
              exact ⟨fun e => by omega, fun e => absurd hm e.2⟩
            · rw [if_neg (fun e => hm ((hS _).mp e))]
              exact ⟨fun e => ⟨k2.mp (by omega), hm⟩, fun e => by rw [k2.mpr e.1]⟩
        · obtain ⟨z1, S, k, hD, _, _, k2⟩ := z
          rw [hl, List.take_length] at k2
          have fin := (f3.keep z1).mono (n' := n + 9) (by omega)
          refine ⟨D, S, k, rfl, hD, _, rfl, a, _, rfl, .inr (seq fin.same), rfl, ?_⟩
          have e : decide (V.int ((k : Nat) : Int) = V.int (xs.length : Int)) = partsOk (.tuple ps) := by
            rw [val]
            exact decide_eq_decide.mpr ⟨fun z => k2.mp (by injection z with z; omega), fun z => by rw [hl, k2.mpr z]⟩
          rw [e]
          exact q H' fin.same fun _ => fin
end
end K01

set_option Elab.async false
set_option linter.all false
set_option maxRecDepth 100000
set_option maxHeartbeats 16000000
set_option pp.maxSteps 900
namespace K01
open PySem PySem.Spec PyProof.Rows L2 Lm LmSet
section
variable {P : Program} {w : World} {K : PySem.W.Frag} {mg : Str → Option Value} {base : Heap}
/-! ### statements of two, of four and five -/
def shortOk (w : Str) (d : PyData) : Bool := (decide (w = "call") || decide (w = "place")) && isNm d
def spShort : Sp := fun vs H Q _ => ∃ (H0 : Hp) (F : Fd) (n m : Nat) (w : Str) (v : V) (d : PyData), vs = [.str w, v, .ref F.fa] ∧ FS H0 H F n m ∧ n ≤ 10000 ∧ DE Any H0 v d ∧ okD d = true ∧
  ∀ H', Same H0 H' → (shortOk w d = true → FS H0 H' F (n + 1) m) → Q (.bl (shortOk w d)) H'
def NS : List Str := ["word", "name", "found"]
theorem scShort : FnScope NS ["word", "name", "found"] (defScope sShort) := ⟨rfl, rfl, rfl, by decide +kernel, rfl, by decide +kernel, by decide +kernel⟩
theorem ok_short {f fn fk : Addr} {fd fdn fdk : FuncData} (F : Fun K "is_short" "is_short" sShort f fd) (GN : FnOk P w K mg base CX0 1 fn fdn ["value"] spName) (bN : Binds K fdn ["value"] []) (mN : mg "is_name" = some (.ref fn)) (kN : PySem.W.keepIn K (.ref fn) = true)
    (GKN : FnOk P w K mg base CX0 3 fk fdk ["name", "known"] spKnown) (bKN : Binds K fdk ["name", "known"] []) (mKN : mg "is_known" = some (.ref fk)) (kKN : PySem.W.keepIn K (.ref fk) = true) : FnOk P w K mg base CX0 4 f fd ["word", "name", "found"] spShort := by
  refine F.ok scShort (fun vs H Q E h => ?_) (fun cdv A outer s H vs Q E hr h => ?_)
  · obtain ⟨H0, F, n, m, w, v, d, rfl, _⟩ := h
    rfl
  · obtain ⟨H0, F, n, m, w, v, d, rfl, fs, hn, hv, ok, q⟩ := h
    have hr1 := hr.mono (show 1 ≤ 3 by decide)
    have hz : sizeLine = 16777216 := sizeLine_eq
    refine ⟨_, (pss_cons (ps_if (pt_cmpR op_eq (pv 0) pe_str (nomark _))
        (pss_one (ps_ret (pe_call GKN hr (by rfl) mKN kKN bKN .nil pass0 (pa_cons (pv 1) (pa_cons (pe_ix ix_tup (pv 2) pe_int (fun _ _ => rfl)) pa_nil))))) pss_nil)
      (pss_cons (ps_if (PW.pt (pw_or (pt_cmpR op_ne (pv 0) pe_str (nomark _)) (pw_or1 (pt_not (pt_val (pe_call GN hr1 (by rfl) mN kN bN .nil pass0 (pa_cons (pv 1) pa_nil)))))))
        (pss_one (ps_ret pe_bl)) pss_nil)
      (pss_cons (ps_expr (pe_bm PySem.F.plainAttrs_list PySem.F.slot_list_append PySem.F.type_list_append mt_append (pe_ix ix_tup (pv 2) pe_int (fun _ _ => rfl)) (pa_cons (pe_tup (pa_cons (pv 0) (pa_cons (pv 1) pa_nil))) pa_nil)))
      (pss_one (ps_ret pe_bl))))), ?_⟩
    refine ⟨_, rfl, rfl, _, rfl, ?_⟩
    by_cases h1 : w = "call"
    · subst h1
      refine ifT (by simp) ?_
      have e : shortOk "call" d = isNm d := rfl
      rw [e] at q
      exact ⟨_, rfl, _, rfl, F.fa, _, _, _, rfl, rfl, SqT.of fs.top, atI_nat (j := 2) rfl, v, d, Any, F.d2, n, rfl, hv.same fs.same, ok, fs.k_d2, by omega, fun H' b k => q H' (fs.d2 b k).same fun _ => fs.d2 b k⟩
    · refine ifF (decide_eq_false fun z => h1 (by injection z)) ⟨_, rfl, rfl, _, rfl, ?_⟩
      by_cases h2 : w = "place"
      · subst h2
        have e : shortOk "place" d = isNm d := rfl
        rw [e] at q
        refine ifF (by simp) ⟨_, rfl, v, d, Any, rfl, hv.same fs.same, ok, _, rfl, ?_⟩
        cases hc : isNm d with
        | false =>
          rw [hc] at q
          exact iteT (q H fs.same fun z => by cases z)
        | true =>
          rw [hc] at q
          obtain ⟨l4, h4, z4⟩ := fs.k_l4
          refine iteF ⟨_, rfl, F.fa, _, _, _, rfl, rfl, SqT.of fs.top, atI_nat (j := 4) rfl, .inl ⟨rfl, _, SqL.of h4⟩, _, rfl, _, rfl, (by show 2 ≤ sizeLine; omega), fun t nt => ⟨F.l4, l4, _, rfl, rfl, same_new nt _ _ h4, by omega, ?_⟩⟩
          have f2 := (fs.keep (same_new (o := .tup [.str "place", v]) nt)).l4 (H' := upd (upd H t (.tup [.str "place", v])) F.l4 (.lst (l4 ++ [.ref t]))) But.upd ⟨_, upd_same, by rw [List.length_append]; show l4.length + 1 ≤ _; omega⟩
          exact q _ f2.same fun _ => f2
      · have e : shortOk w d = false := by
          show ((decide (w = "call") || decide (w = "place")) && isNm d) = false
          rw [decide_eq_false h1, decide_eq_false h2]
          rfl
        rw [e] at q
        exact ifT (by simp [h2]) (q H fs.same fun z => by cases z)
/-- statements of neither two nor three -/
def spLonger : Sp := fun vs H Q _ => ∃ (H0 : Hp) (F : Fd) (n m : Nat) (v : V) (es : List PyData) (inner : PyData → Bool), vs = [v, .ref F.fa] ∧ FS H0 H F n m ∧ n ≤ 10000 ∧ DE Any H0 v (.tuple es) ∧ okD (.tuple es) = true ∧ es.length ≠ 2 ∧ es.length ≠ 3 ∧
  ∀ H', Same H0 H' → (stOk inner (.tuple es) = true → FS H0 H' F (n + 2) m) → Q (.bl (stOk inner (.tuple es))) H'
def NG : List Str := ["statement", "found", "word", "name", "low", "high", "guard", "most", "cost"]
theorem scLonger : FnScope NG ["statement", "found"] (defScope sLonger) := ⟨rfl, rfl, rfl, by decide +kernel, rfl, by decide +kernel, by decide +kernel⟩
theorem stOk_len {inner : PyData → Bool} {es : List PyData} (h2 : es.length ≠ 2) (h3 : es.length ≠ 3) (h4 : es.length ≠ 4) (h5 : es.length ≠ 5) : stOk inner (.tuple es) = false := by
  match es, h2, h3, h4, h5 with
  | [], _, _, _, _ => rfl
  | [_], _, _, _, _ => cases ‹PyData› <;> rfl
  | [_, _], h, _, _, _ => exact absurd rfl h
  | [_, _, _], _, h, _, _ => exact absurd rfl h
  | [_, _, _, _], _, _, h, _ => exact absurd rfl h
  | [_, _, _, _, _], _, _, _, h => exact absurd rfl h
  | x :: _ :: _ :: _ :: _ :: _ :: _, _, _, _, _ => cases x <;> rfl
theorem DEs.four {N : Addr → Prop} {H : Hp} {es : List PyData} {ys : List V} (h : DEs N H ys es) (l : es.length = 4) : ∃ a b c d da db dc dd, ys = [a, b, c, d] ∧ es = [da, db, dc, dd] ∧ DE N H a da ∧ DE N H b db ∧ DE N H c dc ∧ DE N H d dd := by
  match es, l, h with
  | [_, _, _, _], _, .cons h1 (.cons h2 (.cons h3 (.cons h4 .nil))) => exact ⟨_, _, _, _, _, _, _, _, rfl, rfl, h1, h2, h3, h4⟩
theorem DEs.five {N : Addr → Prop} {H : Hp} {es : List PyData} {ys : List V} (h : DEs N H ys es) (l : es.length = 5) : ∃ a b c d e da db dc dd de, ys = [a, b, c, d, e] ∧ es = [da, db, dc, dd, de] ∧ DE N H a da ∧ DE N H b db ∧ DE N H c dc ∧ DE N H d dd ∧ DE N H e de := by
  match es, l, h with
  | [_, _, _, _, _], _, .cons h1 (.cons h2 (.cons h3 (.cons h4 (.cons h5 .nil)))) => exact ⟨_, _, _, _, _, _, _, _, _, _, rfl, rfl, h1, h2, h3, h4, h5⟩
theorem DEs.three {N : Addr → Prop} {H : Hp} {es : List PyData} {ys : List V} (h : DEs N H ys es) (l : es.length = 3) : ∃ a b c da db dc, ys = [a, b, c] ∧ es = [da, db, dc] ∧ DE N H a da ∧ DE N H b db ∧ DE N H c dc := by
  match es, l, h with
  | [_, _, _], _, .cons h1 (.cons h2 (.cons h3 .nil)) => exact ⟨_, _, _, _, _, _, rfl, rfl, h1, h2, h3⟩
theorem ok_longer {f fn fk fr fu fi : Addr} {fd fdn fdk fdr fdu fdi : FuncData} (F : Fun K "is_longer" "is_longer" sLonger f fd) (T : Txt1 mg) (GN : FnOk P w K mg base CX0 1 fn fdn ["value"] spName) (bN : Binds K fdn ["value"] []) (mN : mg "is_name" = some (.ref fn)) (kN : PySem.W.keepIn K (.ref fn) = true)
    (GKN : FnOk P w K mg base CX0 3 fk fdk ["name", "known"] spKnown) (bKN : Binds K fdk ["name", "known"] []) (mKN : mg "is_known" = some (.ref fk)) (kKN : PySem.W.keepIn K (.ref fk) = true)
    (GRG : FnOk P w K mg base CX0 1 fr fdr ["low", "high"] spRange) (bRG : Binds K fdr ["low", "high"] []) (mRG : mg "is_range" = some (.ref fr)) (kRG : PySem.W.keepIn K (.ref fr) = true)
    (GNU : FnOk P w K mg base CX0 1 fu fdu ["value"] spNumber) (bNU : Binds K fdu ["value"] []) (mNU : mg "is_number" = some (.ref fu)) (kNU : PySem.W.keepIn K (.ref fu) = true)
    (GWI : FnOk P w K mg base CX0 1 fi fdi ["value", "low", "high"] spWithin) (bWI : Binds K fdi ["value", "low", "high"] []) (mWI : mg "is_within" = some (.ref fi)) (kWI : PySem.W.keepIn K (.ref fi) = true) : FnOk P w K mg base CX0 4 f fd ["statement", "found"] spLonger := by
  obtain ⟨tg, mgc⟩ := T.gc
  refine F.ok scLonger (fun vs H Q E h => ?_) (fun cdv A outer s H vs Q E hr h => ?_)
  · obtain ⟨H0, F, n, m, v, es, inner, rfl, _⟩ := h
    rfl
  · obtain ⟨H0, F, n, m, v, es, inner, rfl, fs, hn, hv, ok, l2, l3, q⟩ := h
    have hr1 := hr.mono (show 1 ≤ 3 by decide)
    have hz : sizeLine = 16777216 := sizeLine_eq
    have bad : stOk inner (.tuple es) = false → ∀ H', Same H0 H' → Q (.bl false) H' := fun z H' s => by
      have := q H' s (fun y => by rw [z] at y; cases y)
      rw [z] at this
      exact this
    refine ⟨_, (pss_cons (ps_if (pt_cmpR op_eq (pe_callB call_len_seq (by rfl) T.len_ PySem.boot_len (pa_cons (pv 0) pa_nil)) pe_int (nomark _))
        (pss_cons (ps_asg (pv 0) (pg_tup (by rfl) (pgs_cons (pg_name (i := 2) scLonger.nd rfl (.inl rfl)) (pgs_cons (pg_name (i := 3) scLonger.nd rfl (.inl rfl)) (pgs_cons (pg_name (i := 4) scLonger.nd rfl (.inl rfl)) (pgs_cons (pg_name (i := 5) scLonger.nd rfl (.inl rfl)) pgs_nil))))))
        (pss_one (ps_ret (pe_and (pe_callB call_isi (by rfl) T.isi (by decide +kernel) (pa_cons (pv 2) (pa_cons (pe_bltn (v := .ty "str") (by rfl) T.str_ (by decide +kernel) rfl) pa_nil))) (pe_and (pe_cmpR op_eq (pv 2) pe_str (nomark _)) (pe_and (pe_call GKN hr (by rfl) mKN kKN bKN .nil pass0 (pa_cons (pv 3) (pa_cons (pe_ix ix_tup (pv 1) pe_int (fun _ _ => rfl)) pa_nil))) (pe_one (pe_call GRG hr1 (by rfl) mRG kRG bRG .nil pass0 (pa_cons (pv 4) (pa_cons (pv 5) pa_nil)))))))))) pss_nil)
      (pss_cons (ps_if (pt_cmpR op_ne (pe_callB call_len_seq (by rfl) T.len_ PySem.boot_len (pa_cons (pv 0) pa_nil)) pe_int (nomark _))
        (pss_one (ps_ret pe_bl)) pss_nil)
      (pss_cons (ps_asg (pv 0) (pg_tup (by rfl) (pgs_cons (pg_name (i := 2) scLonger.nd rfl (.inl rfl)) (pgs_cons (pg_name (i := 6) scLonger.nd rfl (.inl rfl)) (pgs_cons (pg_name (i := 3) scLonger.nd rfl (.inl rfl)) (pgs_cons (pg_name (i := 7) scLonger.nd rfl (.inl rfl)) (pgs_cons (pg_name (i := 8) scLonger.nd rfl (.inl rfl)) pgs_nil)))))))
      (pss_cons (ps_if (PW.pt (pw_or (pt_not (pt_val (pe_callB call_isi (by rfl) T.isi (by decide +kernel) (pa_cons (pv 2) (pa_cons (pe_bltn (v := .ty "str") (by rfl) T.str_ (by decide +kernel) rfl) pa_nil))))) (pw_or (pt_cmpR op_ne (pv 2) pe_str (nomark _)) (pw_or1 (pt_not (pt_val (pe_call GN hr1 (by rfl) mN kN bN .nil pass0 (pa_cons (pv 6) pa_nil))))))))
        (pss_one (ps_ret pe_bl)) pss_nil)
      (pss_cons (ps_expr (pe_bm PySem.F.plainAttrs_list PySem.F.slot_list_append PySem.F.type_list_append mt_append (pe_ix ix_tup (pv 1) pe_int (fun _ _ => rfl)) (pa_cons (pe_tup (pa_cons (pv 2) (pa_cons (pv 6) pa_nil))) pa_nil)))
      (pss_one (ps_ret (pe_and (pe_call GKN hr (by rfl) mKN kKN bKN .nil pass0 (pa_cons (pv 3) (pa_cons (pe_ix ix_tup (pv 1) pe_int (fun _ _ => rfl)) pa_nil))) (pe_and (pe_call GNU hr1 (by rfl) mNU kNU bNU .nil pass0 (pa_cons (pv 7) pa_nil)) (pe_one (pe_call GWI hr1 (by rfl) mWI kWI bWI .nil pass0 (pa_cons (pv 8) (pa_cons pe_int (pa_cons (pe_glob (v := .int 99) (by rfl) mgc ⟨_, rfl⟩) pa_nil)))))))))))))), ?_⟩
    obtain ⟨a, xs, rfl, ha, hxs⟩ := DE.tup_inv hv
    have hl : xs.length = es.length := DEs.len hxs
    have hT := fs.same _ _ ha
    refine ⟨_, rfl, a, _, rfl, .inr (SqT.of hT), rfl, _, rfl, ?_⟩
    by_cases l4 : es.length = 4
    · obtain ⟨v0, v1, v2, v3, d0, d1, d2, d3, rfl, rfl, h0, h1, h2, h3⟩ := DEs.four hxs l4
      refine ifT rfl ⟨_, rfl, a, _, rfl, SqT.of hT, rfl, _, _, rfl, _, _, rfl, _, _, rfl, _, _, rfl, rfl, ?_⟩
      refine ⟨_, rfl, v0, .ty "str", _, .type "str", _, rfl, .ty "str", (h0.same fs.same).ty, ty_str' d0, _, rfl, ?_⟩
      cases d0 with
      | bool _ => exact iteF (bad rfl H fs.same)
      | int _ => exact iteF (bad rfl H fs.same)
      | none => exact iteF (bad rfl H fs.same)
      | list _ => exact iteF (bad rfl H fs.same)
      | tuple _ => exact iteF (bad rfl H fs.same)
      | dict _ => exact iteF (bad rfl H fs.same)
      | str z =>
        cases h0
        have e : stOk inner (.tuple [.str z, d1, d2, d3]) = (decide (z = "input") && (isNm d1 && isRg d2 d3)) := rfl
        refine iteT ⟨_, rfl, rfl, _, rfl, ?_⟩
        by_cases hz' : z = "input"
        · rw [hz'] at e bad q
          rw [e] at q
          refine ifT (by rw [hz']; simp) ⟨_, rfl, _, rfl, F.fa, _, _, _, rfl, rfl, SqT.of fs.top, atI_nat (j := 0) rfl, v1, d1, Any, F.d0, n, rfl, h1.same fs.same, okD_mem (i := 1) ok rfl, fs.k_d0, by omega, fun H' b k => ⟨_, rfl, ?_⟩⟩
          have f2 := fs.d0 b k
          cases hc : isNm d1 with
          | false => exact iteF (bad (by rw [e, hc]; rfl) H' f2.same)
          | true => 
            rw [hc] at q
            exact iteT ⟨_, rfl, _, rfl, v2, d2, v3, d3, Any, rfl, h2.same f2.same, h3.same f2.same, q H' f2.same fun _ => f2.mono (by omega)⟩
        · exact ifF (decide_eq_false fun y => hz' (by injection y)) (bad (by rw [e, decide_eq_false hz']; rfl) H fs.same)
    · refine ifF (decide_eq_false fun y => l4 (by injection y with y; omega)) ⟨_, rfl, a, _, rfl, .inr (SqT.of hT), rfl, _, rfl, ?_⟩
      by_cases l5 : es.length = 5
      · obtain ⟨v0, v1, v2, v3, v4, d0, d1, d2, d3, d4, rfl, rfl, h0, h1, h2, h3, h4⟩ := DEs.five hxs l5
        refine ifF rfl ⟨_, rfl, a, _, rfl, SqT.of hT, rfl, _, _, rfl, _, _, rfl, _, _, rfl, _, _, rfl, _, _, rfl, rfl, ?_⟩
        refine ⟨_, rfl, v0, .ty "str", _, .type "str", _, rfl, .ty "str", (h0.same fs.same).ty, ty_str' d0, _, rfl, ?_⟩
        cases d0 with
        | bool _ => exact iteT (bad rfl H fs.same)
        | int _ => exact iteT (bad rfl H fs.same)
        | none => exact iteT (bad rfl H fs.same)
        | list _ => exact iteT (bad rfl H fs.same)
        | tuple _ => exact iteT (bad rfl H fs.same)
        | dict _ => exact iteT (bad rfl H fs.same)
        | str z =>
          cases h0
          have e : stOk inner (.tuple [.str z, d1, d2, d3, d4]) = ((decide (z = "guard") && isNm d1) && (isNm d2 && (isBig d3 && isIn 1 99 d4))) := rfl
          refine iteF ⟨_, rfl, rfl, _, rfl, ?_⟩
          by_cases hz' : z = "guard"
          · subst hz'
            refine ifF (by simp) ⟨_, rfl, v1, d1, Any, rfl, h1.same fs.same, okD_mem (i := 1) ok rfl, _, rfl, ?_⟩
            cases hc : isNm d1 with
            | false => exact iteT (bad (by rw [e, hc]; rfl) H fs.same)
            | true =>
              obtain ⟨l4', h4', z4⟩ := fs.k_l4
              refine iteF ⟨_, rfl, F.fa, _, _, _, rfl, rfl, SqT.of fs.top, atI_nat (j := 4) rfl, .inl ⟨rfl, _, SqL.of h4'⟩, _, rfl, _, rfl, (by show 2 ≤ sizeLine; omega), fun t nt => ⟨F.l4, l4', _, rfl, rfl, same_new nt _ _ h4', by omega, ?_⟩⟩
              have f2 := (fs.keep (same_new (o := .tup [.str "guard", v1]) nt)).l4 (H' := upd (upd H t (.tup [.str "guard", v1])) F.l4 (.lst (l4' ++ [.ref t]))) But.upd ⟨_, upd_same, by rw [List.length_append]; show l4'.length + 1 ≤ _; omega⟩
              refine ⟨_, rfl, _, rfl, F.fa, _, _, _, rfl, rfl, SqT.of f2.top, atI_nat (j := 0) rfl, v2, d2, Any, F.d0, n + 1, rfl, h2.same f2.same, okD_mem (i := 2) ok rfl, f2.k_d0, by omega, fun H' b k => ⟨_, rfl, ?_⟩⟩
              have f3 := f2.d0 b k
              cases hd : isNm d2 with
              | false => exact iteF (bad (by rw [e, hd, Bool.false_and, Bool.and_false]) H' f3.same)
              | true =>
                refine iteT ⟨_, rfl, v3, d3, Any, rfl, h3.same f3.same, _, rfl, ?_⟩
                cases hb : isBig d3 with
                | false => exact iteF (bad (by rw [e, hb, Bool.false_and, Bool.and_false, Bool.and_false]) H' f3.same)
                | true =>
                  have e2 : stOk inner (.tuple [.str "guard", d1, d2, d3, d4]) = isIn 1 99 d4 := by rw [e, hc, hd, hb]; rfl
                  rw [e2] at q
                  exact iteT ⟨_, rfl, v4, d4, Any, 1, 99, rfl, h4.same f3.same, q H' f3.same fun _ => f3.mono (by omega)⟩
          · exact ifT (by simp [hz']) (bad (by rw [e, decide_eq_false hz']; rfl) H fs.same)
      · exact ifT (by simp; omega) (bad (stOk_len l2 l3 l4 l5) H fs.same)
end
end K01

set_option Elab.async false
set_option linter.all false
set_option maxRecDepth 100000
set_option maxHeartbeats 16000000
set_option pp.maxSteps 900
namespace K01
open PySem PySem.Spec PyProof.Rows L2 Lm LmSet
/-- a statement of three that is no set -/
def tri (inner : PyData → Bool) (w : Str) (a b : PyData) : Bool := if w = "loop" then isNm a && inner b else if w = "either" then inner a && inner b else decide (w = "read") && (isNm a && isNm b)
def triN (inner : PyData → Nat) (w : Str) (a b : PyData) : Nat := if w = "loop" then inner b else if w = "either" then inner a + inner b else 0
section
variable {P : Program} {w : World} {K : PySem.W.Frag} {mg : Str → Option Value} {base : Heap}
def spBody (L : Nat) : Sp := fun vs H Q _ => ∃ (H0 : Hp) (F : Fd) (n m : Nat) (v : V) (d : PyData) (lv : Int), vs = [v, .int lv, .ref F.fa] ∧ lv = (L : Nat) ∧ FS H0 H F n m ∧ n ≤ 10 * m ∧ m ≤ 40 * (4 - L) ∧ DE Any H0 v d ∧ okD d = true ∧
  ∀ H', Same H0 H' → ((wf L d && decide (m + num L d ≤ 40)) = true → FS H0 H' F (n + 10 * num L d) (m + num L d)) → Q (.bl (wf L d && decide (m + num L d ≤ 40))) H'
def spLong (L : Nat) : Sp := fun vs H Q _ => ∃ (H0 : Hp) (F : Fd) (n m : Nat) (w : Str) (va vb : V) (a b : PyData) (lv : Int), vs = [.str w, va, vb, .int lv, .ref F.fa] ∧ lv = (L : Nat) + 1 ∧ L + 1 ≤ 4 ∧ FS H0 H F n m ∧ n + 10 ≤ 10 * m ∧ m ≤ 40 * (4 - L) ∧ DE Any H0 va a ∧ okD a = true ∧ DE Any H0 vb b ∧ okD b = true ∧
  ∀ (r : Bool) H', Same H0 H' → (r = true → tri (wf L) w a b = true ∧ (triN (num L) w a b = 0 ∨ m + triN (num L) w a b ≤ 40) ∧ FS H0 H' F (n + 2 + 10 * triN (num L) w a b) (m + triN (num L) w a b)) → (r = false → tri (wf L) w a b = false ∨ 40 < m + triN (num L) w a b) → Q (.bl r) H'
def NB : List Str := ["value", "levels", "found", "variables", "statement", "many", "word", "name", "rest"]
theorem scBody : FnScope NB ["value", "levels", "found"] (defScope sBody) := ⟨rfl, rfl, rfl, by decide +kernel, rfl, by decide +kernel, by decide +kernel⟩
def NO : List Str := ["word", "name", "rest", "levels", "found"]
theorem scLong : FnScope NO NO (defScope sLong) := ⟨rfl, rfl, rfl, by decide +kernel, rfl, by decide +kernel, by decide +kernel⟩
theorem ok_long {L k : Nat} {f fn fk fb : Addr} {fd fdn fdk fdb : FuncData} (hk : 3 ≤ k) (F : Fun K "is_long" "is_long" sLong f fd) (GN : FnOk P w K mg base CX0 1 fn fdn ["value"] spName) (bN : Binds K fdn ["value"] []) (mN : mg "is_name" = some (.ref fn)) (kN : PySem.W.keepIn K (.ref fn) = true)
    (GKN : FnOk P w K mg base CX0 3 fk fdk ["name", "known"] spKnown) (bKN : Binds K fdk ["name", "known"] []) (mKN : mg "is_known" = some (.ref fk)) (kKN : PySem.W.keepIn K (.ref fk) = true)
    (GBO : FnOk P w K mg base CX0 k fb fdb ["value", "levels", "found"] (spBody L)) (bBO : Binds K fdb ["value", "levels", "found"] []) (mBO : mg "is_body_with" = some (.ref fb)) (kBO : PySem.W.keepIn K (.ref fb) = true) : FnOk P w K mg base CX0 (k + 1) f fd NO (spLong L) := by
  refine F.ok scLong (fun vs H Q E h => ?_) (fun cdv A outer s H vs Q E hr h => ?_)
  · obtain ⟨H0, F, n, m, w, va, vb, a, b, lv, rfl, _⟩ := h
    rfl
  · obtain ⟨H0, F, n, m, w, va, vb, a, b, lv, rfl, rfl, hL, fs, hn, hm, ha, oka, hb, okb, q⟩ := h
    have hr1 := hr.mono (show 1 ≤ k by omega)
    have hr3 := hr.mono (show 3 ≤ k by omega)
    have hz : sizeLine = 16777216 := sizeLine_eq
    have m160 : m ≤ 160 := by omega
    refine ⟨_, (pss_cons (ps_if (pt_cmpR op_eq (pv 0) pe_str (nomark _))
        (pss_cons (ps_if (pt_not (pt_val (pe_call GN hr1 (by rfl) mN kN bN .nil pass0 (pa_cons (pv 1) pa_nil))))
          (pss_one (ps_ret pe_bl)) pss_nil)
        (pss_cons (ps_expr (pe_bm PySem.F.plainAttrs_list PySem.F.slot_list_append PySem.F.type_list_append mt_append (pe_ix ix_tup (pv 4) pe_int (fun _ _ => rfl)) (pa_cons (pe_tup (pa_cons (pv 0) (pa_cons (pv 1) pa_nil))) pa_nil)))
        (pss_one (ps_ret (pe_call GBO hr (by rfl) mBO kBO bBO .nil pass0 (pa_cons (pv 2) (pa_cons (pe_op op_sub (pv 3) pe_int) (pa_cons (pv 4) pa_nil)))))))) pss_nil)
      (pss_cons (ps_if (pt_cmpR op_eq (pv 0) pe_str (nomark _))
        (pss_one (ps_ret (pe_and (pe_call GBO hr (by rfl) mBO kBO bBO .nil pass0 (pa_cons (pv 1) (pa_cons (pe_op op_sub (pv 3) pe_int) (pa_cons (pv 4) pa_nil)))) (pe_one (pe_call GBO hr (by rfl) mBO kBO bBO .nil pass0 (pa_cons (pv 2) (pa_cons (pe_op op_sub (pv 3) pe_int) (pa_cons (pv 4) pa_nil)))))))) pss_nil)
      (pss_one (ps_ret (pe_and (pe_cmpR op_eq (pv 0) pe_str (nomark _)) (pe_and (pe_call GKN hr3 (by rfl) mKN kKN bKN .nil pass0 (pa_cons (pv 1) (pa_cons (pe_ix ix_tup (pv 4) pe_int (fun _ _ => rfl)) pa_nil))) (pe_one (pe_call GKN hr3 (by rfl) mKN kKN bKN .nil pass0 (pa_cons (pv 2) (pa_cons (pe_ix ix_tup (pv 4) pe_int (fun _ _ => rfl)) pa_nil)))))))))), ?_⟩
    refine ⟨_, rfl, rfl, _, rfl, ?_⟩
    by_cases h1 : w = "loop"
    · subst h1
      refine ifT (by simp) ⟨_, rfl, va, a, Any, rfl, ha.same fs.same, oka, _, rfl, ?_⟩
      have e : tri (wf L) "loop" a b = (isNm a && wf L b) := rfl
      have e2 : triN (num L) "loop" a b = num L b := rfl
      rw [e, e2] at q
      cases hc : isNm a with
      | false =>
        rw [hc] at q
        exact iteT (q false H fs.same (fun z => by cases z) fun _ => .inl rfl)
      | true =>
        rw [hc] at q
        obtain ⟨l4, h4, z4⟩ := fs.k_l4
        refine iteF ⟨_, rfl, F.fa, _, _, _, rfl, rfl, SqT.of fs.top, atI_nat (j := 4) rfl, .inl ⟨rfl, _, SqL.of h4⟩, _, rfl, _, rfl, (by show 2 ≤ sizeLine; omega), fun t nt => ⟨F.l4, l4, _, rfl, rfl, same_new nt _ _ h4, by omega, ?_⟩⟩
        have f2 := (fs.keep (same_new (o := .tup [.str "loop", va]) nt)).l4 (H' := upd (upd H t (.tup [.str "loop", va])) F.l4 (.lst (l4 ++ [.ref t]))) But.upd ⟨_, upd_same, by rw [List.length_append]; show l4.length + 1 ≤ _; omega⟩
        refine ⟨_, rfl, _, rfl, _, _, rfl, rfl, _, rfl, H0, F, n + 1, m, vb, b, _, rfl, (by show ((L : Nat) : Int) + 1 - 1 = _; omega), f2, by omega, hm, hb, okb, fun H' s g => ?_⟩
        refine q _ H' s (fun z => ?_) fun z => ?_
        · have y := Bool.and_eq_true_iff.mp z
          exact ⟨y.1, .inr (of_decide_eq_true y.2), (g z).mono (by omega)⟩
        · rcases Bool.and_eq_false_iff.mp z with y | y
          · exact .inl y
          · exact .inr (by have := of_decide_eq_false y; omega)
    · refine ifF (decide_eq_false fun z => h1 (by injection z)) ⟨_, rfl, rfl, _, rfl, ?_⟩
      by_cases h2 : w = "either"
      · subst h2
        have e : tri (wf L) "either" a b = (wf L a && wf L b) := rfl
        have e2 : triN (num L) "either" a b = num L a + num L b := rfl
        rw [e, e2] at q
        refine ifT (by simp) ⟨_, rfl, _, rfl, _, _, rfl, rfl, _, rfl, H0, F, n, m, va, a, _, rfl, (by show ((L : Nat) : Int) + 1 - 1 = _; omega), fs, by omega, hm, ha, oka, fun H' s g => ⟨_, rfl, ?_⟩⟩
        cases hc : (wf L a && decide (m + num L a ≤ 40)) with
        | false =>
          refine iteF (q false H' s (fun z => by cases z) fun _ => ?_)
          rcases Bool.and_eq_false_iff.mp hc with y | y
          · exact .inl (by rw [y]; rfl)
          · exact .inr (by have := of_decide_eq_false y; omega)
        | true =>
          have f2 := g hc
          have y := Bool.and_eq_true_iff.mp hc
          have y2 := of_decide_eq_true y.2
          refine iteT ⟨_, rfl, _, rfl, _, _, rfl, rfl, _, rfl, H0, F, _, _, vb, b, _, rfl, (by show ((L : Nat) : Int) + 1 - 1 = _; omega), f2, by omega, by omega, hb, okb, fun H'' s' g' => ?_⟩
          refine q _ H'' s' (fun z => ?_) fun z => ?_
          · have x := Bool.and_eq_true_iff.mp z
            have x2 := of_decide_eq_true x.2
            refine ⟨by rw [y.1, x.1]; rfl, .inr (by omega), ?_⟩
            have f3 := (g' z).mono (n' := n + 2 + 10 * (num L a + num L b)) (by omega)
            rw [Nat.add_assoc m] at f3
            exact f3
          · rcases Bool.and_eq_false_iff.mp z with x | x
            · exact .inl (by rw [x, Bool.and_false])
            · exact .inr (by have := of_decide_eq_false x; omega)
      · have e : tri (wf L) w a b = (decide (w = "read") && (isNm a && isNm b)) := by unfold tri; rw [if_neg h1, if_neg h2]
        have e2 : triN (num L) w a b = 0 := by unfold triN; rw [if_neg h1, if_neg h2]
        rw [e, e2] at q
        refine ifF (decide_eq_false fun z => h2 (by injection z)) ⟨_, rfl, rfl, _, rfl, ?_⟩
        by_cases h3 : w = "read"
        · subst h3
          refine ifT (by simp) ⟨_, rfl, _, rfl, F.fa, _, _, _, rfl, rfl, SqT.of fs.top, atI_nat (j := 3) rfl, va, a, Any, F.d3, n, rfl, ha.same fs.same, oka, fs.k_d3, by omega, fun H' b1 k1 => ⟨_, rfl, ?_⟩⟩
          have f2 := fs.d3 b1 k1
          cases hc : isNm a with
          | false =>
            rw [hc] at q
            exact iteF (q false H' f2.same (fun z => by cases z) fun _ => .inl rfl)
          | true =>
            rw [hc] at q
            refine iteT ⟨_, rfl, _, rfl, F.fa, _, _, _, rfl, rfl, SqT.of f2.top, atI_nat (j := 0) rfl, vb, b, Any, F.d0, n + 1, rfl, hb.same f2.same, okb, f2.k_d0, by omega, fun H'' b2 k2 => ?_⟩
            have f3 := f2.d0 b2 k2
            exact q _ H'' f3.same (fun z => ⟨by rw [z]; rfl, .inl rfl, f3⟩) fun z => .inl (by rw [z]; rfl)
        · exact ifF (decide_eq_false fun z => h3 (by injection z)) (q false H fs.same (fun z => by cases z) fun _ => .inl (by rw [decide_eq_false h3]; rfl))
/-! ### bodies -/
theorem num_len (L : Nat) (ds : List PyData) : num (L + 1) (.tuple ds) = ds.length + (ds.map (stN (num L))).sum := by
  show (ds.map fun d => 1 + stN (num L) d).sum = _
  induction ds with
  | nil => rfl
  | cons d ds ih => simp only [List.map_cons, List.sum_cons, List.length_cons, ih]; omega
theorem sum_take {f : PyData → Nat} {ds : List PyData} {i : Nat} {d : PyData} (e : ds[i]? = some d) : ((ds.take (i + 1)).map f).sum = ((ds.take i).map f).sum + f d := by
  rw [List.take_add_one, e, List.map_append, List.sum_append]
  simp
theorem sum_le {f : PyData → Nat} {ds : List PyData} {i : Nat} : ((ds.take i).map f).sum ≤ (ds.map f).sum := by
  have := List.take_append_drop i ds
  conv => rhs; rw [← this, List.map_append, List.sum_append]
  omega
theorem tri_st (inner : PyData → Bool) {w : Str} {a b : PyData} (h : w ≠ "set") : stOk inner (.tuple [.str w, a, b]) = tri inner w a b := by
  show (if w = "set" then _ else _) = _
  rw [if_neg h]
  rfl
theorem ok_body0 {f : Addr} {fd : FuncData} (F : Fun K "is_body_with" "is_body_with" sBody f fd) (T : Txt1 mg) : FnOk P w K mg base CX0 6 f fd ["value", "levels", "found"] (spBody 0) := by
  refine F.ok scBody (fun vs H Q E h => ?_) (fun cdv A outer s H vs Q E hr h => ?_)
  · obtain ⟨H0, F, n, m, v, d, lv, rfl, _⟩ := h
    rfl
  · obtain ⟨H0, F, n, m, v, d, lv, rfl, rfl, fs, hn, hm, hv, ok, q⟩ := h
    obtain ⟨tm, mms⟩ := T.ms
    refine ⟨_, pss_cons (ps_if (PW.pt (pw_or (pt_cmpR op_eq (pv 1) pe_int (nomark _)) (pw_or (pt_not (pt_val (pe_callB call_isi (by rfl) T.isi (by decide +kernel) (pa_cons (pv 0) (pa_cons (pe_bltn (v := .ty "tuple") (by rfl) T.tuple_ (by decide +kernel) rfl) pa_nil))))) (pw_or1 (pt_cmpR op_gt (pe_callB call_len_seq (by rfl) T.len_ PySem.boot_len (pa_cons (pv 0) pa_nil)) (pe_glob (v := .int 40) (by rfl) mms ⟨_, rfl⟩) (nomark _))))))
        (pss_one (ps_ret pe_bl)) pss_nil) (pss_cons ps_never (pss_cons ps_never (pss_cons ps_never (pss_one ps_never)))), ?_⟩
    exact ⟨_, rfl, rfl, _, rfl, iteT (q H fs.same fun z => by cases z)⟩
end
end K01

set_option Elab.async false
set_option linter.all false
set_option maxRecDepth 100000
set_option maxHeartbeats 16000000
set_option pp.maxSteps 900
namespace K01
open PySem PySem.Spec PyProof.Rows L2 Lm LmSet
section
variable {P : Program} {w : World} {K : PySem.W.Frag} {mg : Str → Option Value} {base : Heap}
theorem rd_set {K' : PySem.W.Frag} {σ : L2.St} {H H0 : Hp} {D : Ends} {F : Fd} {n m : Nat} {va vb : V} {a b : PyData} (i0 : σ[7]? = some (some va)) (i1 : σ[8]? = some (some vb)) (i2 : σ[3]? = some (some (.ref F.d0))) (i3 : σ[2]? = some (some (.ref F.fa))) (f1 : FS H0 H F n m) (hn : n ≤ 9999)
    (ha : DE Any H0 va a) (oka : okD a = true) (hb : DE Any H0 vb b) (okb : okD b = true) (bad : (isNm a && partsOk b) = false → ∀ H', Same H0 H' → D.rt (.bl false) H') (good : ∀ H2, FS H0 H2 F (n + 10) m → (isNm a && partsOk b) = true → D.nx σ H2) :
    tSeq (tIfS (tOr (tNot (tB (tCB (rIsi K') (tCons (tVar 7) (tCons (tC (V.ty "str")) tNil))))) (tAnd (tB (tDNotIn (tVar 7) (tVar 3))) (tNot (tB (tCall spNew [] E0 (tCons (tVar 7) (tCons (tVar 3) tNil))))))) (tRet (tC (V.bl false))) tNext)
      (tIfS (tNot (tB (tCall spParts [] E0 (tCons (tVar 8) (tCons (tVar 2) tNil))))) (tRet (tC (V.bl false))) tNext) D σ H := by
  refine ⟨_, i0, va, .ty "str", _, .type "str", _, rfl, .ty "str", (ha.same f1.same).ty, ty_str' a, _, rfl, ?_⟩
  have second : ∀ H2, FS H0 H2 F (n + 1) m → isNm a = true → tIfS (tNot (tB (tCall spParts [] E0 (tCons (tVar 8) (tCons (tVar 2) tNil))))) (tRet (tC (V.bl false))) tNext D σ H2 := by
    intro H2 f2 hc
    rw [hc] at bad good
    refine ⟨_, i1, _, i3, H0, F, n + 1, m, vb, b, rfl, f2, by omega, hb, okb, fun H3 s3 g3 => ⟨_, rfl, ?_⟩⟩
    cases hp : partsOk b with
    | false => exact iteT (bad (by rw [hp]; rfl) H3 s3)
    | true => exact iteF (good H3 ((g3 hp).mono (by omega)) (by rw [hp]; rfl))
  cases a with
  | bool _ => exact iteT (bad rfl H f1.same)
  | int _ => exact iteT (bad rfl H f1.same)
  | list _ => exact iteT (bad rfl H f1.same)
  | dict _ => exact iteT (bad rfl H f1.same)
  | tuple _ => exact iteT (bad rfl H f1.same)
  | none => exact iteT (bad rfl H f1.same)
  | str z =>
    cases ha
    obtain ⟨kv, hd, hk1, hk⟩ := f1.k_d0
    refine iteF ⟨_, i0, _, i2, F.d0, _, rfl, DGet.k (k := Sum.inr z) hd, _, rfl, ?_⟩
    cases hs : (valV kv (Sum.inr z)).isSome with
    | true => exact iteF (iteF (second H (f1.mono (by omega)) (hk z hs)))
    | false =>
      refine iteT ⟨_, i0, _, i2, z, F.d0, n, rfl, oka, ⟨kv, hd, hk1, hk⟩, by omega, fun H2 b2 d2 => ⟨_, rfl, ?_⟩⟩
      cases hc : codeNm z with
      | true => exact iteF (second H2 (f1.d0 b2 d2) hc)
      | false => exact iteT (bad (by show (codeNm z && partsOk b) = false; rw [hc]; rfl) H2 ((f1.d0 b2 d2).same))
theorem ok_bodyS {L k : Nat} {f fw fp fl fs_ fg : Addr} {fd fdw fdp fdl fds fdg : FuncData} (hk : 4 ≤ k) (hL : L + 1 ≤ 4) (F : Fun K "is_body_with" "is_body_with" sBody f fd) (T : Txt1 mg)
    (GW : FnOk P w K mg base CX0 2 fw fdw ["name", "known"] spNew) (bW : Binds K fdw ["name", "known"] []) (mW : mg "is_new" = some (.ref fw)) (kW : PySem.W.keepIn K (.ref fw) = true)
    (GPA : FnOk P w K mg base CX0 3 fp fdp ["value", "found"] spParts) (bPA : Binds K fdp ["value", "found"] []) (mPA : mg "are_parts" = some (.ref fp)) (kPA : PySem.W.keepIn K (.ref fp) = true)
    (GLO : FnOk P w K mg base CX0 k fl fdl NO (spLong L)) (bLO : Binds K fdl NO []) (mLO : mg "is_long" = some (.ref fl)) (kLO : PySem.W.keepIn K (.ref fl) = true)
    (GSH : FnOk P w K mg base CX0 4 fs_ fds ["word", "name", "found"] spShort) (bSH : Binds K fds ["word", "name", "found"] []) (mSH : mg "is_short" = some (.ref fs_)) (kSH : PySem.W.keepIn K (.ref fs_) = true)
    (GLG : FnOk P w K mg base CX0 4 fg fdg ["statement", "found"] spLonger) (bLG : Binds K fdg ["statement", "found"] []) (mLG : mg "is_longer" = some (.ref fg)) (kLG : PySem.W.keepIn K (.ref fg) = true) :
    FnOk P w K mg base CX0 (k + 1) f fd ["value", "levels", "found"] (spBody (L + 1)) := by
  obtain ⟨tm, mms⟩ := T.ms
  refine F.ok scBody (fun vs H Q E h => ?_) (fun cdv A outer s H vs Q E hr h => ?_)
  · obtain ⟨H0, F, n, m, v, d, lv, rfl, _⟩ := h
    rfl
  · obtain ⟨H0, F, n, m, v, d, lv, rfl, rfl, fs, hn, hm, hv, ok, q⟩ := h
    have hu := hu_of hr
    have hr2 := hr.mono (show 2 ≤ k by omega)
    have hr3 := hr.mono (show 3 ≤ k by omega)
    have hr4 := hr.mono (show 4 ≤ k by omega)
    have hz : sizeLine = 16777216 := sizeLine_eq
    have bad : (wf (L + 1) d = false ∨ 40 < m + num (L + 1) d) → ∀ H', Same H0 H' → Q (.bl false) H' := fun z H' s => by
      have e : (wf (L + 1) d && decide (m + num (L + 1) d ≤ 40)) = false := by
        rcases z with z | z
        · rw [z]; rfl
        · rw [decide_eq_false (by omega), Bool.and_false]
      have := q H' s (fun y => by rw [e] at y; cases y)
      rw [e] at this
      exact this
    refine ⟨_, (pss_cons (ps_if (PW.pt (pw_or (pt_cmpR op_eq (pv 1) pe_int (nomark _)) (pw_or (pt_not (pt_val (pe_callB call_isi (by rfl) T.isi (by decide +kernel) (pa_cons (pv 0) (pa_cons (pe_bltn (v := .ty "tuple") (by rfl) T.tuple_ (by decide +kernel) rfl) pa_nil))))) (pw_or1 (pt_cmpR op_gt (pe_callB call_len_seq (by rfl) T.len_ PySem.boot_len (pa_cons (pv 0) pa_nil)) (pe_glob (v := .int 40) (by rfl) mms ⟨_, rfl⟩) (nomark _))))))
        (pss_one (ps_ret pe_bl)) pss_nil)
      (pss_cons (ps_expr (pe_bm PySem.F.plainAttrs_list PySem.F.slot_list_extend PySem.F.type_list_extend mt_extT (pe_ix ix_tup (pv 2) pe_int (fun _ _ => rfl)) (pa_cons (pv 0) pa_nil)))
      (pss_cons (ps_set (i := 3) scBody.nd rfl (.inl rfl) (pe_ix ix_tup (pv 2) pe_int (fun _ _ => rfl)))
      (pss_cons (ps_for PassesOwn.never rfl (pi_tup (pv 0)) (pg_name (i := 4) scBody.nd rfl (.inl rfl))
        (pss_cons (ps_if (pt_not (pt_val (pe_callB call_isi (by rfl) T.isi (by decide +kernel) (pa_cons (pv 4) (pa_cons (pe_bltn (v := .ty "tuple") (by rfl) T.tuple_ (by decide +kernel) rfl) pa_nil)))))
          (pss_one (ps_ret pe_bl)) pss_nil)
        (pss_cons (ps_set (i := 5) scBody.nd rfl (.inl rfl) (pe_callB call_len_seq (by rfl) T.len_ PySem.boot_len (pa_cons (pv 4) pa_nil)))
        (pss_one (ps_if (pt_cmpR op_eq (pv 5) pe_int (nomark _))
          (pss_cons (ps_asg (pv 4) (pg_tup (by rfl) (pgs_cons (pg_name (i := 6) scBody.nd rfl (.inl rfl)) (pgs_cons (pg_name (i := 7) scBody.nd rfl (.inl rfl)) (pgs_cons (pg_name (i := 8) scBody.nd rfl (.inl rfl)) pgs_nil)))))
          (pss_cons (ps_if (pt_not (pt_val (pe_callB call_isi (by rfl) T.isi (by decide +kernel) (pa_cons (pv 6) (pa_cons (pe_bltn (v := .ty "str") (by rfl) T.str_ (by decide +kernel) rfl) pa_nil)))))
            (pss_one (ps_ret pe_bl)) pss_nil)
          (pss_one (ps_if (pt_cmpR op_eq (pv 6) pe_str (nomark _))
            (pss_cons (ps_if (PW.pt (pw_or (pt_not (pt_val (pe_callB call_isi (by rfl) T.isi (by decide +kernel) (pa_cons (pv 7) (pa_cons (pe_bltn (v := .ty "str") (by rfl) T.str_ (by decide +kernel) rfl) pa_nil))))) (pw_or1 (PW.pt (pw_and (pt_cmp (pc_dnotin hu (pv 7) (pv 3))) (pw_and1 (pt_not (pt_val (pe_call GW hr2 (by rfl) mW kW bW .nil pass0 (pa_cons (pv 7) (pa_cons (pv 3) pa_nil)))))))))))
              (pss_one (ps_ret pe_bl)) pss_nil)
            (pss_one (ps_if (pt_not (pt_val (pe_call GPA hr3 (by rfl) mPA kPA bPA .nil pass0 (pa_cons (pv 8) (pa_cons (pv 2) pa_nil)))))
              (pss_one (ps_ret pe_bl)) pss_nil))) (pss_one (ps_if (pt_not (pt_val (pe_call GLO hr (by rfl) mLO kLO bLO .nil pass0 (pa_cons (pv 6) (pa_cons (pv 7) (pa_cons (pv 8) (pa_cons (pv 1) (pa_cons (pv 2) pa_nil))))))))
              (pss_one (ps_ret pe_bl)) pss_nil)))))) (pss_one (ps_if (pt_cmpR op_eq (pv 5) pe_int (nomark _))
            (pss_cons (ps_asg (pv 4) (pg_tup (by rfl) (pgs_cons (pg_name (i := 6) scBody.nd rfl (.inl rfl)) (pgs_cons (pg_name (i := 7) scBody.nd rfl (.inl rfl)) pgs_nil))))
            (pss_one (ps_if (PW.pt (pw_or (pt_not (pt_val (pe_callB call_isi (by rfl) T.isi (by decide +kernel) (pa_cons (pv 6) (pa_cons (pe_bltn (v := .ty "str") (by rfl) T.str_ (by decide +kernel) rfl) pa_nil))))) (pw_or1 (pt_not (pt_val (pe_call GSH hr4 (by rfl) mSH kSH bSH .nil pass0 (pa_cons (pv 6) (pa_cons (pv 7) (pa_cons (pv 2) pa_nil)))))))))
              (pss_one (ps_ret pe_bl)) pss_nil))) (pss_one (ps_if (pt_not (pt_val (pe_call GLG hr4 (by rfl) mLG kLG bLG .nil pass0 (pa_cons (pv 4) (pa_cons (pv 2) pa_nil)))))
              (pss_one (ps_ret pe_bl)) pss_nil)))))))))
      (pss_one (ps_ret (pe_cmpR op_le (pe_callB call_len_seq (by rfl) T.len_ PySem.boot_len (pa_cons (pe_ix ix_tup (pv 2) pe_int (fun _ _ => rfl)) pa_nil)) (pe_glob (v := .int 40) (by rfl) mms ⟨_, rfl⟩) (nomark _)))))))), ?_⟩
    refine ⟨_, rfl, rfl, _, rfl, ?_⟩
    refine ifF (decide_eq_false fun z => by injection z with z; omega) ⟨_, rfl, v, .ty "tuple", _, .type "tuple", _, rfl, .ty "tuple", (hv.same fs.same).ty, ty_tuple d, _, rfl, ?_⟩
    cases d with
    | bool _ => exact iteT (bad (.inl rfl) H fs.same)
    | int _ => exact iteT (bad (.inl rfl) H fs.same)
    | none => exact iteT (bad (.inl rfl) H fs.same)
    | str _ => exact iteT (bad (.inl rfl) H fs.same)
    | list _ => exact iteT (bad (.inl rfl) H fs.same)
    | dict _ => exact iteT (bad (.inl rfl) H fs.same)
    | tuple ds =>
    obtain ⟨a, xs, rfl, ha, hxs⟩ := DE.tup_inv hv
    have hl : xs.length = ds.length := DEs.len hxs
    have seq : ∀ {H' : Hp}, Same H0 H' → SqT K H' a xs := fun s => SqT.of (s _ _ ha)
    have hN := num_len L ds
    refine iteF ⟨_, rfl, a, _, rfl, .inr (seq fs.same), _, _, rfl, rfl, _, rfl, ?_⟩
    by_cases h40 : ds.length ≤ 40
    rotate_left
    · exact ifT (decide_eq_true (by omega)) (bad (.inr (by omega)) H fs.same)
    obtain ⟨l6, h6, z6⟩ := fs.k_l6
    refine ifF (decide_eq_false (by omega)) ⟨_, rfl, F.fa, _, _, _, rfl, rfl, SqT.of fs.top, atI_nat (j := 6) rfl, .inl ⟨rfl, _, SqL.of h6⟩, _, rfl, F.l6, a, l6, xs, rfl, rfl, h6, seq fs.same, by omega, ?_⟩
    have f0 := fs.l6 (m' := m + ds.length) (H' := upd H F.l6 (.lst (l6 ++ xs))) But.upd ⟨_, upd_same, by rw [List.length_append]; omega⟩
    refine ⟨_, rfl, F.fa, _, _, _, rfl, rfl, SqT.of f0.top, atI_nat (j := 0) rfl, ?_⟩
    refine ⟨_, rfl, a, rfl, ⟨_, seq f0.same⟩, for_tup (K := K) (a := a) (xs := xs) (fun i σ H' => ∃ v4 v5 v6 v7 v8, σ = [some (.ref a), some (.int ((L + 1 : Nat) : Int)), some (.ref F.fa), some (.ref F.d0), v4, v5, v6, v7, v8] ∧
        FS H0 H' F (n + 10 * i + 10 * ((ds.take i).map (stN (num L))).sum) (m + ds.length + ((ds.take i).map (stN (num L))).sum) ∧ (ds.take i).all (stOk (wf L)) = true ∧ (i = 0 ∨ m + ds.length + ((ds.take i).map (stN (num L))).sum ≤ 40 ∨ ((ds.take i).map (stN (num L))).sum = 0))
      ⟨_, _, _, _, _, rfl, f0, rfl, .inl rfl⟩ (fun i σ H' _ ⟨_, _, _, _, _, _, f, _⟩ => seq f.same) ?_ ?_⟩
    · rintro i x σ H1 hi ⟨v4, v5, v6, v7, v8, rfl, f1, al, cnt⟩
      have il : i < ds.length := by have := (List.getElem?_eq_some_iff.mp hi).1; omega
      obtain ⟨dd, hdd, hx⟩ := DEs.at_ hxs hi
      have okd := okD_mem ok hdd
      have hs1 := sum_take (f := stN (num L)) hdd
      have hs2 := sum_le (f := stN (num L)) (ds := ds) (i := i + 1)
      generalize hc : ((ds.take i).map (stN (num L))).sum = c at f1 cnt hs1
      have mcur : m + ds.length + c ≤ 40 * (4 - L) := by
        rcases cnt with z | z | z
        · rw [z] at hc
          have : c = 0 := hc.symm
          omega
        · omega
        · omega
      have m200 : m + ds.length + c ≤ 160 := by omega
      have badd : stOk (wf L) dd = false → ∀ H', Same H0 H' → Q (.bl false) H' := fun z => bad (.inl (all_bad hdd z))
      have good : ∀ (H2 : Hp) (v4 v5 v6 v7 v8 : Option V), stOk (wf L) dd = true → FS H0 H2 F (n + 10 * i + 10 * c + 10 + 10 * stN (num L) dd) (m + ds.length + c + stN (num L) dd) → (stN (num L) dd = 0 ∨ m + ds.length + c + stN (num L) dd ≤ 40) → ∃ w4 w5 w6 w7 w8, [some (.ref a), some (.int ((L + 1 : Nat) : Int)), some (.ref F.fa), some (.ref F.d0), v4, v5, v6, v7, v8] = [some (.ref a), some (.int ((L + 1 : Nat) : Int)), some (.ref F.fa), some (.ref F.d0), w4, w5, w6, w7, w8] ∧
          FS H0 H2 F (n + 10 * (i + 1) + 10 * ((ds.take (i + 1)).map (stN (num L))).sum) (m + ds.length + ((ds.take (i + 1)).map (stN (num L))).sum) ∧ (ds.take (i + 1)).all (stOk (wf L)) = true ∧ (i + 1 = 0 ∨ m + ds.length + ((ds.take (i + 1)).map (stN (num L))).sum ≤ 40 ∨ ((ds.take (i + 1)).map (stN (num L))).sum = 0) := by
        intro H2 v4 v5 v6 v7 v8 h2 f2 k2
        refine ⟨_, _, _, _, _, rfl, ?_, all_take al hdd h2, ?_⟩
        · rw [hs1, ← Nat.add_assoc]
          exact f2.mono (by omega)
        · rw [hs1]
          rcases k2 with k2 | k2
          · rcases cnt with z | z | z
            · rw [z] at hc
              have : c = 0 := hc.symm
              exact .inr (.inr (by omega))
            · exact .inr (.inl (by omega))
            · exact .inr (.inr (by omega))
          · exact .inr (.inl (by omega))
      refine ⟨_, rfl, x, .ty "tuple", _, .type "tuple", _, rfl, .ty "tuple", (hx.same f1.same).ty, ty_tuple dd, _, rfl, ?_⟩
      cases dd with
      | bool _ => exact iteT (badd rfl H1 f1.same)
      | int _ => exact iteT (badd rfl H1 f1.same)
      | none => exact iteT (badd rfl H1 f1.same)
      | str _ => exact iteT (badd rfl H1 f1.same)
      | list _ => exact iteT (badd rfl H1 f1.same)
      | dict _ => exact iteT (badd rfl H1 f1.same)
      | tuple es =>
      obtain ⟨b, ys, rfl, hb, hys⟩ := DE.tup_inv hx
      have hly : ys.length = es.length := DEs.len hys
      have hbT := f1.same _ _ hb
      refine iteF ⟨_, rfl, b, _, rfl, .inr (SqT.of hbT), _, rfl, rfl, _, rfl, ?_⟩
      by_cases l3 : es.length = 3
      · obtain ⟨y0, y1, y2, e0, e1, e2, rfl, rfl, h0, h1, h2⟩ := DEs.three hys l3
        refine ifT rfl ⟨_, rfl, b, _, rfl, SqT.of hbT, rfl, _, _, rfl, _, _, rfl, _, _, rfl, rfl, ?_⟩
        refine ⟨_, rfl, y0, .ty "str", _, .type "str", _, rfl, .ty "str", (h0.same f1.same).ty, ty_str' e0, _, rfl, ?_⟩
        cases e0 with
        | bool _ => exact iteT (badd rfl H1 f1.same)
        | int _ => exact iteT (badd rfl H1 f1.same)
        | none => exact iteT (badd rfl H1 f1.same)
        | list _ => exact iteT (badd rfl H1 f1.same)
        | tuple _ => exact iteT (badd rfl H1 f1.same)
        | dict _ => exact iteT (badd rfl H1 f1.same)
        | str z =>
          cases h0
          have ok1 : okD e1 = true := okD_mem (i := 1) okd rfl
          have ok2 : okD e2 = true := okD_mem (i := 2) okd rfl
          refine iteF ⟨_, rfl, rfl, _, rfl, ?_⟩
          by_cases hz' : z = "set"
          · subst hz'
            have e : stOk (wf L) (.tuple [.str "set", e1, e2]) = (isNm e1 && partsOk e2) := rfl
            have eN : stN (num L) (.tuple [.str "set", e1, e2]) = 0 := rfl
            refine ifT (by simp) (rd_set (va := y1) (vb := y2) rfl rfl rfl rfl f1 (by omega) h1 ok1 h2 ok2 (fun y => badd (e.trans y)) fun H2 f2 y => ?_)
            exact good H2 _ _ _ _ _ (e.trans y) (by rw [eN]; exact f2) (.inl eN)
          · have e := tri_st (wf L) (a := e1) (b := e2) hz'
            have eN : stN (num L) (.tuple [.str z, e1, e2]) = triN (num L) z e1 e2 := rfl
            refine ifF (decide_eq_false fun y => hz' (by injection y)) ⟨_, rfl, _, rfl, _, rfl, _, rfl, _, rfl, H0, F, _, _, z, y1, y2, e1, e2, _, rfl, (by show ((L + 1 : Nat) : Int) = _; omega), hL, f1, by omega, mcur, h1, ok1, h2, ok2, fun r H2 s2 g2 n2 => ⟨_, rfl, ?_⟩⟩
            cases r with
            | true =>
              obtain ⟨y, few, f2⟩ := g2 rfl
              exact iteF (good H2 _ _ _ _ _ (e.trans y) (by rw [eN]; exact f2.mono (by omega)) (by rw [eN]; exact few))
            | false =>
              rcases n2 rfl with y | y
              · exact iteT (badd (e.trans y) H2 s2)
              · exact iteT (bad (.inr (by rw [hN]; rw [eN] at hs1; omega)) H2 s2)
      · refine ifF (decide_eq_false fun y => l3 (by injection y with y; omega)) ⟨_, rfl, rfl, _, rfl, ?_⟩
        by_cases l2 : es.length = 2
        · obtain ⟨y0, y1, e0, e1, rfl, rfl, h0, h1⟩ := DEs.two hys (by omega)
          have ok1 : okD e1 = true := okD_mem (i := 1) okd rfl
          refine ifT rfl ⟨_, rfl, b, _, rfl, SqT.of hbT, rfl, _, _, rfl, _, _, rfl, rfl, ?_⟩
          refine ⟨_, rfl, y0, .ty "str", _, .type "str", _, rfl, .ty "str", (h0.same f1.same).ty, ty_str' e0, _, rfl, ?_⟩
          cases e0 with
          | bool _ => exact iteT (badd rfl H1 f1.same)
          | int _ => exact iteT (badd rfl H1 f1.same)
          | none => exact iteT (badd rfl H1 f1.same)
          | list _ => exact iteT (badd rfl H1 f1.same)
          | tuple _ => exact iteT (badd rfl H1 f1.same)
          | dict _ => exact iteT (badd rfl H1 f1.same)
          | str z =>
            cases h0
            have e : stOk (wf L) (.tuple [.str z, e1]) = shortOk z e1 := rfl
            have eN : stN (num L) (.tuple [.str z, e1]) = 0 := rfl
            refine iteF ⟨_, rfl, _, rfl, _, rfl, H0, F, _, _, z, y1, e1, rfl, f1, by omega, h1, ok1, fun H2 s2 g2 => ⟨_, rfl, ?_⟩⟩
            cases hs : shortOk z e1 with
            | true => exact iteF (good H2 _ _ _ _ _ (e.trans hs) (by rw [eN]; exact (g2 hs).mono (by omega)) (.inl eN))
            | false => exact iteT (badd (e.trans hs) H2 s2)
        · have eN : stN (num L) (.tuple es) = 0 := by
            match es, l2, l3 with
            | [], _, _ => rfl
            | [x], _, _ => cases x <;> rfl
            | [_, _], h, _ => exact absurd rfl h
            | [_, _, _], _, h => exact absurd rfl h
            | x :: _ :: _ :: _ :: _, _, _ => cases x <;> rfl
          refine ifF (decide_eq_false fun y => l2 (by injection y with y; omega)) ⟨_, rfl, _, rfl, H0, F, _, _, _, es, wf L, rfl, f1, by omega, hx, okd, l2, l3, fun H2 s2 g2 => ⟨_, rfl, ?_⟩⟩
          cases hs : stOk (wf L) (.tuple es) with
          | true => exact iteF (good H2 _ _ _ _ _ hs (by rw [eN]; exact (g2 hs).mono (by omega)) (.inl eN))
          | false => exact iteT (badd hs H2 s2)
    · rintro σ H1 ⟨v4, v5, v6, v7, v8, rfl, f1, al, _⟩
      rw [hl, List.take_length] at al f1
      obtain ⟨k6, g6, y6⟩ := f1.k_l6
      refine ⟨_, rfl, F.fa, _, _, _, rfl, rfl, SqT.of f1.top, atI_nat (j := 6) rfl, F.l6, _, rfl, .inl (SqL.of g6), _, _, rfl, rfl, ?_⟩
      have e : (wf (L + 1) (.tuple ds) && decide (m + num (L + 1) (.tuple ds) ≤ 40)) = decide ((k6.length : Int) ≤ 40) := by
        show (ds.all (stOk (wf L)) && _) = _
        rw [al, Bool.true_and]
        exact decide_eq_decide.mpr (by omega)
      show Q (V.bl (decide ((k6.length : Int) ≤ 40))) H1
      rw [← e]
      refine q H1 f1.same fun _ => ?_
      rw [hN, ← Nat.add_assoc]
      exact f1.mono (by omega)
/-- a body of four levels -/
theorem ok_body4 {f fn fk fw fp fl fs_ fg : Addr} {fd fdn fdk fdw fdp fdl fds fdg : FuncData} (F : Fun K "is_body_with" "is_body_with" sBody f fd) (bBO : Binds K fd ["value", "levels", "found"] []) (mBO : mg "is_body_with" = some (.ref f)) (kBO : PySem.W.keepIn K (.ref f) = true) (T : Txt1 mg)
    (GN : FnOk P w K mg base CX0 1 fn fdn ["value"] spName) (bN : Binds K fdn ["value"] []) (mN : mg "is_name" = some (.ref fn)) (kN : PySem.W.keepIn K (.ref fn) = true)
    (GKN : FnOk P w K mg base CX0 3 fk fdk ["name", "known"] spKnown) (bKN : Binds K fdk ["name", "known"] []) (mKN : mg "is_known" = some (.ref fk)) (kKN : PySem.W.keepIn K (.ref fk) = true)
    (GW : FnOk P w K mg base CX0 2 fw fdw ["name", "known"] spNew) (bW : Binds K fdw ["name", "known"] []) (mW : mg "is_new" = some (.ref fw)) (kW : PySem.W.keepIn K (.ref fw) = true)
    (GPA : FnOk P w K mg base CX0 3 fp fdp ["value", "found"] spParts) (bPA : Binds K fdp ["value", "found"] []) (mPA : mg "are_parts" = some (.ref fp)) (kPA : PySem.W.keepIn K (.ref fp) = true)
    (FLO : Fun K "is_long" "is_long" sLong fl fdl) (bLO : Binds K fdl NO []) (mLO : mg "is_long" = some (.ref fl)) (kLO : PySem.W.keepIn K (.ref fl) = true)
    (GSH : FnOk P w K mg base CX0 4 fs_ fds ["word", "name", "found"] spShort) (bSH : Binds K fds ["word", "name", "found"] []) (mSH : mg "is_short" = some (.ref fs_)) (kSH : PySem.W.keepIn K (.ref fs_) = true)
    (GLG : FnOk P w K mg base CX0 4 fg fdg ["statement", "found"] spLonger) (bLG : Binds K fdg ["statement", "found"] []) (mLG : mg "is_longer" = some (.ref fg)) (kLG : PySem.W.keepIn K (.ref fg) = true) :
    FnOk P w K mg base CX0 14 f fd ["value", "levels", "found"] (spBody 4) := by
  have step : ∀ (L k : Nat), 4 ≤ k → L + 1 ≤ 4 → FnOk P w K mg base CX0 k f fd ["value", "levels", "found"] (spBody L) → FnOk P w K mg base CX0 (k + 2) f fd ["value", "levels", "found"] (spBody (L + 1)) := fun L k hk hL G =>
    ok_bodyS (k := k + 1) (by omega) hL F T GW bW mW kW GPA bPA mPA kPA (ok_long (k := k) (by omega) FLO GN bN mN kN GKN bKN mKN kKN G bBO mBO kBO) bLO mLO kLO GSH bSH mSH kSH GLG bLG mLG kLG
  exact step 3 12 (by decide) (by decide) (step 2 10 (by decide) (by decide) (step 1 8 (by decide) (by decide) (step 0 6 (by decide) (by decide) (ok_body0 F T))))
/-! ### look_at, is_body -/
theorem fresh_of {H : Hp} {a b : Addr} {o : HO} (h : upd H a o b = none) : H b = none ∧ b ≠ a := by
  have ne : b ≠ a := fun e => by
    rw [e, upd_same] at h
    cases h
  rw [upd_ne ne] at h
  exact ⟨h, ne⟩
def spLook : Sp := fun vs H Q _ => ∃ (v : V) (d : PyData), vs = [v] ∧ DE Any H v d ∧ okD d = true ∧ ∀ u H', Same H H' → (u = .non ↔ bodyOk d = false) → Q u H'
def NK : List Str := ["value", "found"]
theorem scLook : FnScope NK ["value"] (defScope sLook) := ⟨rfl, rfl, rfl, by decide +kernel, rfl, by decide +kernel, by decide +kernel⟩
theorem ok_look {f fb : Addr} {fd fdb : FuncData} (F : Fun K "look_at" "look_at" sLook f fd) (T : Txt1 mg) (GBO : FnOk P w K mg base CX0 14 fb fdb ["value", "levels", "found"] (spBody 4)) (bBO : Binds K fdb ["value", "levels", "found"] []) (mBO : mg "is_body_with" = some (.ref fb)) (kBO : PySem.W.keepIn K (.ref fb) = true) :
    FnOk P w K mg base CX0 15 f fd ["value"] spLook := by
  obtain ⟨tm, mml⟩ := T.ml
  refine F.ok scLook (fun vs H Q E h => ?_) (fun cdv A outer s H vs Q E hr h => ?_)
  · obtain ⟨v, d, rfl, _⟩ := h
    rfl
  · obtain ⟨v, d, rfl, hv, ok, q⟩ := h
    refine ⟨_, (pss_cons (ps_set (i := 1) scLook.nd rfl (.inl rfl) (pe_tup (pa_cons pe_dnewK (pa_cons pe_dnewK (pa_cons pe_dnewK (pa_cons pe_dnewK (pa_cons (pe_lst pa_nil) (pa_cons (pe_lst pa_nil) (pa_cons (pe_lst pa_nil) pa_nil)))))))))
      (pss_one (ps_ret (pe_ifExp (pt_val (pe_call GBO hr (by rfl) mBO kBO bBO .nil pass0 (pa_cons (pv 0) (pa_cons (pe_glob (v := .int 4) (by rfl) mml ⟨_, rfl⟩) (pa_cons (pv 1) pa_nil))))) (pv 1) pe_non)))), ?_⟩
    refine fun d0 n0 => fun d1 n1 => fun d2 n2 => fun d3 n3 => ⟨(by show 0 ≤ sizeLine; decide), fun l4 n4 => ⟨(by show 0 ≤ sizeLine; decide), fun l5 n5 => ⟨(by show 0 ≤ sizeLine; decide), fun l6 n6 => ⟨(by show 7 ≤ sizeLine; decide), fun fa na => ?_⟩⟩⟩⟩
    obtain ⟨a1, e10⟩ := fresh_of n1
    obtain ⟨c2, e21⟩ := fresh_of n2
    obtain ⟨a2, e20⟩ := fresh_of c2
    obtain ⟨c3, e32⟩ := fresh_of n3
    obtain ⟨c3, e31⟩ := fresh_of c3
    obtain ⟨a3, e30⟩ := fresh_of c3
    obtain ⟨c4, _⟩ := fresh_of n4
    obtain ⟨c4, _⟩ := fresh_of c4
    obtain ⟨c4, _⟩ := fresh_of c4
    obtain ⟨a4, _⟩ := fresh_of c4
    obtain ⟨c5, e54⟩ := fresh_of n5
    obtain ⟨c5, _⟩ := fresh_of c5
    obtain ⟨c5, _⟩ := fresh_of c5
    obtain ⟨c5, _⟩ := fresh_of c5
    obtain ⟨a5, _⟩ := fresh_of c5
    obtain ⟨c6, e65⟩ := fresh_of n6
    obtain ⟨c6, e64⟩ := fresh_of c6
    obtain ⟨c6, _⟩ := fresh_of c6
    obtain ⟨c6, _⟩ := fresh_of c6
    obtain ⟨c6, _⟩ := fresh_of c6
    obtain ⟨a6, _⟩ := fresh_of c6
    have s0 := same_new (o := .dK []) n0
    have s1 := same_new (o := .dK []) n1
    have s2 := same_new (o := .dK []) n2
    have s3 := same_new (o := .dK []) n3
    have s4 := same_new (o := .lst []) n4
    have s5 := same_new (o := .lst []) n5
    have s6 := same_new (o := .lst []) n6
    have s7 := same_new (o := .tup [.ref d0, .ref d1, .ref d2, .ref d3, .ref l4, .ref l5, .ref l6]) na
    have dn : ∀ {G : Hp} {x : Addr}, G x = some (.dK []) → DN G x 0 := fun e => ⟨_, e, Nat.le_refl _, fun s h => by cases h⟩
    have u3 := ((s4.trans s5).trans s6).trans s7
    have u2 := s3.trans u3
    have u1 := s2.trans u2
    have u0 := s1.trans u1
    have fs : FS H _ ⟨fa, d0, d1, d2, d3, l4, l5, l6⟩ 0 0 :=
      { same := s0.trans u0, top := upd_same, q_d0 := n0, q_d1 := a1, q_d2 := a2, q_d3 := a3, q_l4 := a4, q_l5 := a5, q_l6 := a6, k_d0 := dn (u0 _ _ upd_same), k_d1 := dn (u1 _ _ upd_same), k_d2 := dn (u2 _ _ upd_same), k_d3 := dn (u3 _ _ upd_same),
        k_l4 := ⟨[], (s5.trans (s6.trans s7)) _ _ upd_same, Nat.le_refl _⟩, k_l5 := ⟨[], (s6.trans s7) _ _ upd_same, Nat.le_refl _⟩, k_l6 := ⟨[], s7 _ _ upd_same, rfl⟩,
        n_d0_d1 := e10.symm, n_d0_d2 := e20.symm, n_d0_d3 := e30.symm, n_d1_d2 := e21.symm, n_d1_d3 := e31.symm, n_d2_d3 := e32.symm, n_l4_l5 := e54.symm, n_l4_l6 := e64.symm, n_l5_l6 := e65.symm }
    refine ⟨_, rfl, _, rfl, H, ⟨fa, d0, d1, d2, d3, l4, l5, l6⟩, 0, 0, v, d, 4, rfl, rfl, fs, Nat.le_refl _, Nat.le_refl _, hv, ok, fun H' s g => ⟨_, rfl, ?_⟩⟩
    have e : (wf 4 d && decide (0 + num 4 d ≤ 40)) = bodyOk d := by rw [Nat.zero_add]; rfl
    rw [e]
    cases hb : bodyOk d with
    | true => exact iteT ⟨_, rfl, q _ H' s ⟨fun z => (by cases z), fun z => (by rw [hb] at z; cases z)⟩⟩
    | false => exact iteF (q _ H' s ⟨fun _ => hb, fun _ => rfl⟩)
def spIsBody : Sp := fun vs H Q _ => ∃ (v : V) (d : PyData), vs = [v] ∧ DE Any H v d ∧ okD d = true ∧ ∀ H', Same H H' → Q (.bl (bodyOk d)) H'
def NI : List Str := ["value"]
theorem scIsBody : FnScope NI ["value"] (defScope sIsBody) := ⟨rfl, rfl, rfl, by decide +kernel, rfl, by decide +kernel, by decide +kernel⟩
theorem ok_isBody {f fb : Addr} {fd fdb : FuncData} (F : Fun K "is_body" "is_body" sIsBody f fd) (GLK : FnOk P w K mg base CX0 15 fb fdb ["value"] spLook) (bLK : Binds K fdb ["value"] []) (mLK : mg "look_at" = some (.ref fb)) (kLK : PySem.W.keepIn K (.ref fb) = true) :
    FnOk P w K mg base CX0 16 f fd ["value"] spIsBody := by
  refine F.ok scIsBody (fun vs H Q E h => ?_) (fun cdv A outer s H vs Q E hr h => ?_)
  · obtain ⟨v, d, rfl, _⟩ := h
    rfl
  · obtain ⟨v, d, rfl, hv, ok, q⟩ := h
    refine ⟨_, (pss_one (ps_ret (pe_cmp (pc_notN (pe_call GLK hr (by rfl) mLK kLK bLK .nil pass0 (pa_cons (pv 0) pa_nil))) rfl))), ?_⟩
    refine ⟨_, rfl, v, d, rfl, hv, ok, fun u H' s e => ?_⟩
    have z : (!decide (u = V.non)) = bodyOk d := by
      by_cases hu : u = .non
      · rw [decide_eq_true hu, e.mp hu]; rfl
      · rw [decide_eq_false hu]
        cases hb : bodyOk d with
        | true => rfl
        | false => exact absurd (e.mpr hb) hu
    show Q (V.bl (!decide (u = V.non))) H'
    rw [z]
    exact q H' s
end
end K01

set_option Elab.async false
set_option linter.all false
set_option maxRecDepth 100000
set_option maxHeartbeats 16000000
set_option pp.maxSteps 900
namespace K01
open PySem PySem.Spec PyProof.Rows L2 Lm LmSet
/-! ### a pool: two numbers from which the law draws -/
def PoolAt (H : Hp) (p : Addr) : Prop := ∃ x y : Int, H p = some (.lst [.int x, .int y]) ∧ 0 ≤ x ∧ 0 ≤ y ∧ y < 2147483647
theorem mod_b (a b : Int) (h : 0 < b) : 0 ≤ a % b ∧ a % b < b := ⟨Int.emod_nonneg a (by omega), Int.emod_lt_of_pos a h⟩
section
variable {P : Program} {w : World} {K : PySem.W.Frag} {mg : Str → Option Value} {base : Heap} 
def spPool (K : PySem.W.Frag) : Sp := fun vs H Q _ => ∃ (sa : Addr) (k : Nat) (ns : List Int), vs = [.ref sa, .int k] ∧ SqL K H sa (ns.map V.int) ∧ k < 64 ∧ ∀ p H', H p = none → PoolAt H' p → Same H H' → Q (.ref p) H'
theorem scPool : FnScope ["_law_script", "_law_k", "_law_cell", "_law_mixed"] ["_law_script", "_law_k"] (defScope sPool) := ⟨rfl, rfl, rfl, by decide +kernel, rfl, by decide +kernel, by decide +kernel⟩
theorem ok_pool {f : Addr} {fd : FuncData} (F : Fun K "_law_pool" "_law_pool" sPool f fd) (T : Txt1 mg) : FnOk P w K mg base CX0 1 f fd ["_law_script", "_law_k"] (spPool K) := by
  refine F.ok scPool (fun vs H Q E h => ?_) (fun cdv A outer s H vs Q E hr h => ?_)
  · obtain ⟨sa, k, ns, rfl, _⟩ := h
    rfl
  · obtain ⟨sa, k, ns, rfl, hS, k1, q⟩ := h
    refine ⟨_, pss_cons (ps_set (i := 2) scPool.nd rfl (.inl rfl) pe_int)
      (pss_cons (ps_if (pt_cmpR op_lt (pv 1) (pe_callB call_len_seq (by rfl) T.len_ PySem.boot_len (pa_cons (pv 0) pa_nil)) (nomark _))
        (pss_one (ps_set (i := 2) scPool.nd rfl (.inl rfl) (pe_callB call_abs (by rfl) T.abs_ (by decide +kernel) (pa_cons (pe_ix ix_list (pv 0) (pv 1) (fun _ _ => rfl)) pa_nil)))) pss_nil)
      (pss_cons (ps_set (i := 3) scPool.nd rfl (.inl rfl) (pe_op op_mod (pe_callTy call_int1 (by rfl) T.int_ (by decide +kernel) (pa_cons (pe_op op_mul
        (pe_op op_add (pe_op op_add (pe_op op_add (pe_op op_mod (pe_callTy call_int1 (by rfl) T.int_ (by decide +kernel) (pa_cons (pv 2) pa_nil)) pe_int) (pe_op op_mul (pe_op op_mul pe_int (pv 1)) (pv 1))) (pe_op op_mul pe_int (pv 1))) pe_int) pe_int) pa_nil)) pe_int))
      (pss_one (ps_ret (pe_lst (pa_cons (pe_op op_mul (pv 2) (pe_callTy call_int1 (by rfl) T.int_ (by decide +kernel) (pa_cons (pe_cmpR op_ge (pv 2) (pe_op op_pow pe_int pe_int) (nomark _)) pa_nil)))
        (pa_cons (pe_op op_mod (pe_callTy call_int1 (by rfl) T.int_ (by decide +kernel) (pa_cons (pe_op op_mul (pv 3) (pv 3)) pa_nil)) pe_int) pa_nil))))))), ?_⟩
    have hk : (k : Int) < 64 := by omega
    refine ⟨_, rfl, _, rfl, sa, _, rfl, .inl hS, _, _, rfl, rfl, _, rfl, ?_⟩
    -- the cell of the script, or nought: it is not negative
    have way : ∀ c : Int, 0 ≤ c → ∃ m x y : Int, m = ((c % 2147483629 + 7919 * k * k + 31 * k + 17) * 48271) % 2147483647 ∧ (0 ≤ m ∧ m < 2147483647) ∧ x = c * (if decide ((10 : Int) ^ (18 : Int).toNat ≤ c) = true then 1 else 0) ∧ 0 ≤ x ∧
        y = (m * m) % 2147483629 ∧ 0 ≤ y ∧ y < 2147483647 := by
      intro c hc
      refine ⟨_, _, _, rfl, mod_b _ _ (by decide), rfl, ?_, rfl, (mod_b _ _ (by decide)).1, ?_⟩
      · split
        · rw [Int.mul_one]
          exact hc
        · rw [Int.mul_zero]
          exact Int.le_refl 0
      · have := (mod_b (((c % 2147483629 + 7919 * k * k + 31 * k + 17) * 48271 % 2147483647) * ((c % 2147483629 + 7919 * k * k + 31 * k + 17) * 48271 % 2147483647)) 2147483629 (by decide)).2
        omega
    refine (fun (fin : ∀ c : Int, 0 ≤ c → (_ : TS) _ [some (.ref sa), some (.int k), some (.int c), none] H) => ite2 (fun c0 => ?_) (fun c0 => fin 0 (by decide))) (fun c hc => ?_)
    · have hlt : k < (ns.map V.int).length := by
        have := of_decide_eq_true c0
        omega
      rw [List.length_map] at hlt
      have hix : (ns.map V.int)[k]? = some (V.int ns[k]) := by rw [List.getElem?_map, List.getElem?_eq_getElem hlt]; rfl
      refine ⟨_, rfl, _, rfl, sa, _, _, _, rfl, rfl, hS, atI_nat hix, _, rfl, ?_⟩
      obtain ⟨c, hc, ec⟩ : ∃ c : Int, 0 ≤ c ∧ V.int c = V.int (if ns[k] < 0 then -ns[k] else ns[k]) := ⟨if ns[k] < 0 then -ns[k] else ns[k], by split <;> omega, rfl⟩
      rw [← ec]
      exact fin c hc
    · obtain ⟨m, x, y, em, hm, ex, hx, ey, hy⟩ := way c hc
      refine ⟨_, rfl, .inl ⟨_, rfl, _, _, rfl, rfl, (by show (0 : Int) < 2147483629; decide), _, rfl, _, _, rfl, rfl, .inl ⟨by decide, by decide⟩, _, rfl, _, _, rfl, rfl, .inl ⟨by omega, by omega⟩, _, _, rfl, rfl, _, rfl, _, _, rfl, rfl, .inl ⟨by decide, by decide⟩, _, _, rfl, rfl,
        _, _, rfl, rfl, _, _, rfl, rfl, .inr ⟨by decide, by decide⟩, .inl ⟨_, rfl, _, _, rfl, rfl, (by show (0 : Int) < 2147483647; decide), ?_⟩⟩⟩
      subst em
      refine ⟨_, rfl, _, rfl, _, _, rfl, rfl, ⟨by decide, by decide, by decide⟩, _, _, rfl, rfl, .inr ⟨_, rfl, _, _, rfl, rfl, .inr (by split <;> exact ⟨by decide, by decide⟩), _, rfl, _, rfl, _, _, rfl, rfl, .inl ⟨Int.lt_of_lt_of_le (by decide) hm.1, Int.lt_trans hm.2 (by decide)⟩, .inl ⟨_, rfl, _, _, rfl, rfl,
        (by show (0 : Int) < 2147483629; decide), (by show 2 ≤ sizeLine; decide), fun p hp => q p _ hp ⟨x, y, ?_, hx, hy⟩ (same_new hp)⟩⟩⟩
      subst ex
      subst ey
      exact upd_same
def spTake : Sp := fun vs H Q _ => ∃ (p : Addr) (m : Int), vs = [.ref p, .int m] ∧ PoolAt H p ∧ 0 < m ∧ m.natAbs < 2 ^ 200 ∧ ∀ r H', 0 ≤ r → r < m → PoolAt H' p → But p H H' → Q (.int r) H'
theorem scTake : FnScope ["_law_pool_here", "_law_many_here", "_law_found"] ["_law_pool_here", "_law_many_here"] (defScope sTake) := ⟨rfl, rfl, rfl, by decide +kernel, rfl, by decide +kernel, by decide +kernel⟩
theorem ok_take {f : Addr} {fd : FuncData} (F : Fun K "_law_take" "_law_take" sTake f fd) (T : Txt1 mg) : FnOk P w K mg base CX0 1 f fd ["_law_pool_here", "_law_many_here"] spTake := by
  refine F.ok scTake (fun vs H Q E h => ?_) (fun cdv A outer s H vs Q E hr h => ?_)
  · obtain ⟨p, m, rfl, _⟩ := h
    rfl
  · obtain ⟨p, m, rfl, ⟨x, y, hp, hx, hy, hy2⟩, m0, mz, k⟩ := h
    refine ⟨_, pss_cons (ps_if (pt_cmpR op_gt (pe_ix ix_list (pv 0) pe_int (fun _ _ => rfl)) pe_int (nomark _))
        (pss_cons (ps_set (i := 2) scTake.nd rfl (.inl rfl) (pe_op op_mod (pe_callTy call_int1 (by rfl) T.int_ (by decide +kernel) (pa_cons (pe_ix ix_list (pv 0) pe_int (fun _ _ => rfl)) pa_nil)) (pv 1)))
        (pss_cons (ps_asg (pe_op op_fdivW (pe_callTy call_int1 (by rfl) T.int_ (by decide +kernel) (pa_cons (pe_ix ix_list (pv 0) pe_int (fun _ _ => rfl)) pa_nil)) (pv 1)) (pg_sub (pv 0) pe_int set_list))
        (pss_one (ps_ret (pv 2))))) pss_nil)
      (pss_cons (ps_asg (pe_op op_mod (pe_callTy call_int1 (by rfl) T.int_ (by decide +kernel) (pa_cons (pe_op op_add (pe_op op_mul (pe_ix ix_list (pv 0) pe_int (fun _ _ => rfl)) pe_int) pe_int) pa_nil)) pe_int) (pg_sub (pv 0) pe_int set_list))
      (pss_one (ps_ret (pe_op op_mod (pe_callTy call_int1 (by rfl) T.int_ (by decide +kernel) (pa_cons (pe_op op_fdiv (pe_op op_mod (pe_callTy call_int1 (by rfl) T.int_ (by decide +kernel)
        (pa_cons (pe_op op_mul (pe_ix ix_list (pv 0) pe_int (fun _ _ => rfl)) (pe_ix ix_list (pv 0) pe_int (fun _ _ => rfl))) pa_nil)) pe_int) pe_int) pa_nil)) (pv 1))))), ?_⟩
    have i0 : ∀ a b : Int, atI [V.int a, V.int b] 0 = some (.int a) := fun a b => atI_nat (j := 0) rfl
    have i1 : ∀ a b : Int, atI [V.int a, V.int b] 1 = some (.int b) := fun a b => atI_nat (j := 1) rfl
    refine ⟨_, rfl, p, _, _, _, rfl, rfl, SqL.of hp, i0 _ _, _, _, rfl, rfl, _, rfl, ?_⟩
    refine ite2 (fun c => ?_) (fun c => ?_)
    · refine ⟨_, rfl, p, _, _, _, rfl, rfl, SqL.of hp, i0 _ _, .inl ⟨_, rfl, _, rfl, _, _, rfl, rfl, m0, ?_⟩⟩
      refine ⟨_, rfl, p, _, _, _, rfl, rfl, SqL.of hp, i0 _ _, .inl ⟨_, rfl, _, rfl, _, _, rfl, rfl, wide_div m0 mz (by decide) (by decide), ?_⟩⟩
      refine ⟨_, rfl, p, _, _, 0, rfl, rfl, hp, rfl, ?_⟩
      obtain ⟨b0, b1⟩ := mod_b x m m0
      exact ⟨_, rfl, k _ _ b0 b1 ⟨_, y, upd_same, Int.ediv_nonneg hx (Int.le_of_lt m0), hy, hy2⟩ But.upd⟩
    · refine ⟨_, rfl, p, _, _, _, rfl, rfl, SqL.of hp, i1 _ _, _, _, rfl, rfl, .inr ⟨by decide, by decide⟩, _, _, rfl, rfl, .inl ⟨_, rfl, _, _, rfl, rfl, (by show (0 : Int) < 2147483647; decide), ?_⟩⟩
      obtain ⟨d0, d1⟩ := mod_b (y * 48271 + 12345) 2147483647 (by decide)
      refine ⟨_, rfl, p, _, _, 1, rfl, rfl, hp, rfl, ?_⟩
      have hq : upd H p (.lst ([V.int x, V.int y].set 1 (.int ((y * 48271 + 12345) % 2147483647)))) p = some (.lst [.int x, .int ((y * 48271 + 12345) % 2147483647)]) := upd_same
      refine ⟨_, rfl, p, _, _, _, rfl, rfl, SqL.of hq, i1 _ _, _, rfl, p, _, _, _, rfl, rfl, SqL.of hq, i1 _ _, _, _, rfl, rfl, .inl ⟨Int.lt_of_lt_of_le (by decide) d0, Int.lt_trans d1 (by decide)⟩,
        .inl ⟨_, rfl, _, _, rfl, rfl, (by show (0 : Int) < 2147483629; decide), _, _, rfl, rfl, ⟨by decide, by decide⟩, .inl ⟨_, rfl, _, rfl, _, _, rfl, rfl, m0, ?_⟩⟩⟩
      exact k _ _ (mod_b _ m m0).1 (mod_b _ m m0).2 ⟨x, _, hq, hx, d0, d1⟩ But.upd

/-! ### what the law looks at by itself -/
theorem lay_all : ∀ ds : List PyData, (∀ d ∈ ds, d.canLay0 = true ∧ d.depth ≤ 5) → PyData.canLayAll0 ds = true ∧ PyData.depthAll ds ≤ 5
  | [], _ => ⟨rfl, by show 0 ≤ 5; decide⟩
  | d :: ds, h => by
    obtain ⟨h1, h2⟩ := h d (List.mem_cons_self ..)
    obtain ⟨h3, h4⟩ := lay_all ds fun x hx => h x (List.mem_cons_of_mem _ hx)
    refine ⟨?_, ?_⟩
    · show (d.canLay0 && PyData.canLayAll0 ds) = true
      rw [h1, h3]
      rfl
    · show max d.depth (PyData.depthAll ds) ≤ 5
      omega
theorem shaped_list {ds : List PyData} (h : ∀ d ∈ ds, d.canLay0 = true ∧ d.depth ≤ 5) : SeqAt.shaped (.list ds) = true := by
  obtain ⟨h1, h2⟩ := lay_all ds h
  show (PyData.canLayAll0 ds && decide (PyData.depthAll ds + 1 ≤ 64)) = true
  rw [h1, decide_eq_true (by omega)]
  rfl
theorem okS_ch {x : Str} (h : okS x = true) {c : Nat} (hc : c ∈ x.cps.toList) : (PyData.str ⟨#[c]⟩).canLay0 = true := by
  obtain ⟨m, hm, e⟩ := List.any_eq_true.mp h
  have := List.all_eq_true.mp (show menu.all (fun s => s.cps.toList.all fun c => (PyData.str ⟨#[c]⟩).canLay0) = true by decide +kernel) m hm
  rw [eq_of_beq e] at this
  exact List.all_eq_true.mp this c hc
theorem dpS {H : Hp} : ∀ l : List Nat, DpAll K H (l.map fun c => V.str ⟨#[c]⟩) (l.map fun c => PyData.str ⟨#[c]⟩)
  | [] => .nil
  | c :: r => .cons (.str _) (dpS r)
def NLN : List Str := ["_law_value", "_law_sign"]
theorem scLName : FnScope NLN ["_law_value"] (defScope sLName) := ⟨rfl, rfl, rfl, by decide +kernel, rfl, by decide +kernel, by decide +kernel⟩
theorem ok_lname {f : Addr} {fd : FuncData} (F : Fun K "_law_is_name" "_law_is_name" sLName f fd) (T : Txt1 mg) : FnOk P w K mg base CX0 1 f fd ["_law_value"] (fun vs H Q _ => ∃ v d N, vs = [v] ∧ DE N H v d ∧ okD d = true ∧ ∀ H', Same H H' → Q (.bl (isNm d)) H') := by
  refine F.ok scLName (fun vs H Q E h => ?_) (fun cdv A outer s H vs Q E hr h => ?_)
  · obtain ⟨v, d, N, rfl, _⟩ := h
    rfl
  · obtain ⟨v, d, N, rfl, hd, ok, k⟩ := h
    have hu : (A.deeper (envOfC "_law_is_name" (defScope sLName) s.heap.objs.size f cdv)).units + 64 < cLine := by have := hr.un; omega
    have hz : sizeLine = 16777216 := sizeLine_eq
    refine ⟨_, (pss_cons (ps_if (PW.pt (pw_or (pt_not (pt_val (pe_callB call_isi (by rfl) T.isi (by decide +kernel) (pa_cons (pv 0) (pa_cons (pe_bltn (v := .ty "str") (by rfl) T.str_ (by decide +kernel) rfl) pa_nil))))) (pw_or1 (pt_not (pt_chain op_le op_le pe_int (pe_callB call_len_str (by rfl) T.len_ PySem.boot_len (pa_cons (pv 0) pa_nil)) pe_int)))))
        (pss_one (ps_ret pe_bl)) pss_nil)
      (pss_one (ps_ret (pe_cmpR (op_eqD hu) (pe_lc (own := [("_law_sign", 1)]) (g := (gName 1)) (by rfl) scLName.nd (pi_str (pv 0)) (blkOk_by (N := NLN) (sc := defScope sLName) (by decide +kernel)) (fun _ _ _ _ _ => pg_name (i := 1) scLName.nd rfl (Or.inl rfl)) (fun _ _ _ _ _ => (pts_one (pt_cmpR (show OpR _ _ (fun x y H Q => ∃ i j, x = .str i ∧ y = .str j ∧ Q (.bl (!(!(Builtin.Str.occurrences j i 0 j.length 1).isEmpty))) H) from op_notIn_str) (pv 1) pe_str (by rfl)))) (fun _ _ _ _ _ => (pv 1))) (pe_lst pa_nil) (nomark _))))), ?_⟩
    refine ⟨_, rfl, v, .ty "str", _, .type "str", _, rfl, .ty "str", hd.ty, ty_str' d, _, rfl, ?_⟩
    have out : isNm d = false → Q (.bl false) H := fun z => by have := k H (Same.refl _); rw [z] at this; exact this
    cases d with
    | bool i => exact iteT (out rfl)
    | int i => exact iteT (out rfl)
    | none => exact iteT (out rfl)
    | list _ => exact iteT (out rfl)
    | tuple _ => exact iteT (out rfl)
    | dict _ => exact iteT (out rfl)
    | str x =>
      cases hd
      have hl := okS_len (s := x) ok
      have e : isNm (.str x) = lawNm x := okS_nm ok
      have e2 : lawNm x = ((decide ((1 : Int) ≤ x.length) && decide ((x.length : Int) ≤ 8)) && x.cps.toList.all inAbc) := rfl
      rw [e] at k out
      refine iteF ⟨_, rfl, x, rfl, by omega, _, _, rfl, rfl, _, rfl, ?_⟩
      cases h1 : decide ((1 : Int) ≤ (x.length : Int)) with
      | false => exact iteF ⟨_, rfl, iteT (out (by rw [e2, h1]; rfl))⟩
      | true =>
      refine iteT ⟨_, _, rfl, rfl, _, rfl, ?_⟩
      cases h8 : decide ((x.length : Int) ≤ 8) with
      | false => exact iteT (out (by rw [e2, h8, Bool.and_false]; rfl))
      | true =>
      refine iteF ?_
      have e3 : lawNm x = x.cps.toList.all inAbc := by rw [e2, h1, h8]; rfl
      have few : x.cps.size ≤ 20 := hl
      refine ⟨_, rfl, x, rfl, fun D nD => lc_it (walk_str (z := x)) (fun i H' => Same H H' ∧ H' D = some (.lst (((x.cps.toList.take i).filter fun c => !inAbc c).map fun c => V.str ⟨#[c]⟩)))
        ⟨same_new nD, upd_same⟩ (fun _ _ _ _ => trivial) (fun i u H1 H2 hi z y => ?_) (fun H' z => ?_)⟩
      · obtain ⟨rfl, c, hc, rfl⟩ := y
        have hc' : x.cps.toList[i]? = some c := by rw [← hc]; simp
        have tk : (x.cps.toList.take (i + 1)).filter (fun c => !inAbc c) = (x.cps.toList.take i).filter (fun c => !inAbc c) ++ (if inAbc c = true then [] else [c]) := by
          rw [List.take_add_one, hc', List.filter_append]
          cases h : inAbc c <;> simp [h]
        refine ⟨rfl, _, rfl, _, _, rfl, rfl, _, rfl, ?_⟩
        show if (!inAbc c) = true then _ else _
        cases h : inAbc c with
        | true =>
          refine iteF ⟨z.1, ?_⟩
          rw [tk, if_pos h, List.append_nil]
          exact z.2
        | false =>
          refine iteT ⟨_, rfl, _, z.2, ?_, fun b o eb => by rw [upd_ne (ne_of_none eb nD)]; exact z.1 _ _ eb, ?_⟩
          · rw [List.length_map]
            have := List.length_filter_le (fun c => !inAbc c) (x.cps.toList.take i)
            rw [List.length_take] at this
            omega
          · rw [upd_same, tk, h]
            simp
      · have full : x.cps.toList.take x.cps.size = x.cps.toList := by rw [← Array.length_toList, List.take_length]
        rw [full] at z
        refine ⟨(by show 0 ≤ sizeLine; omega), fun p np => ⟨.list ((x.cps.toList.filter fun c => !inAbc c).map fun c => PyData.str ⟨#[c]⟩), .list [], .lst (SqL.of (same_new np _ _ z.2)) (dpS _), .lst (SqL.of upd_same) .nil, shaped_list (fun d hd => ?_), by decide +kernel, ?_⟩⟩
        · obtain ⟨c, hc, rfl⟩ := List.mem_map.mp hd
          exact ⟨okS_ch ok (List.mem_filter.mp hc).1, by show 0 ≤ 5; decide⟩
        · have v : PyData.eqv (.list ((x.cps.toList.filter fun c => !inAbc c).map fun c => PyData.str ⟨#[c]⟩)) (.list []) = lawNm x := by
            rw [e3]
            cases hf : x.cps.toList.filter (fun c => !inAbc c) with
            | nil =>
              have : x.cps.toList.all inAbc = true := List.all_eq_true.mpr fun c hc => by
                have := List.filter_eq_nil_iff.mp hf c hc
                simpa using this
              rw [this]
              decide +kernel
            | cons c r =>
              have : x.cps.toList.all inAbc = false := by
                rw [List.all_eq_false]
                have hc : c ∈ x.cps.toList.filter (fun c => !inAbc c) := by rw [hf]; exact List.mem_cons_self
                have := List.mem_filter.mp hc
                exact ⟨c, this.1, by simpa using this.2⟩
              rw [this]
              rfl
          rw [v]
          exact k _ (z.1.trans (same_new np))
end
end K01

set_option Elab.async false
set_option linter.all false
set_option maxRecDepth 100000
set_option maxHeartbeats 16000000
set_option pp.maxSteps 900
namespace K01
open PySem PySem.Spec PyProof.Rows L2 Lm LmSet
section
variable {P : Program} {w : World} {K : PySem.W.Frag} {mg : Str → Option Value} {base : Heap}
def NLI : List Str := ["_law_value", "_law_low", "_law_high"]
theorem scLInt : FnScope NLI NLI (defScope sLInt) := ⟨rfl, rfl, rfl, by decide +kernel, rfl, by decide +kernel, by decide +kernel⟩
theorem ok_lint {f : Addr} {fd : FuncData} (F : Fun K "_law_is_int" "_law_is_int" sLInt f fd) (T : Txt1 mg) : FnOk P w K mg base CX0 1 f fd NLI spWithin := by
  refine F.ok scLInt (fun vs H Q E h => ?_) (fun cdv A outer s H vs Q E hr h => ?_)
  · obtain ⟨v, d, N, lo, hi, rfl, _⟩ := h
    rfl
  · obtain ⟨v, d, N, lo, hi, rfl, hd, k⟩ := h
    refine ⟨_, (pss_one (ps_ret (pe_and (pe_callB call_isi (by rfl) T.isi (by decide +kernel) (pa_cons (pv 0) (pa_cons (pe_bltn (v := .ty "int") (by rfl) T.int_ (by decide +kernel) rfl) pa_nil))) (pe_and (pe_not (pe_callB call_isi (by rfl) T.isi (by decide +kernel) (pa_cons (pv 0) (pa_cons (pe_bltn (v := .ty "bool") (by rfl) T.bool_ (by decide +kernel) rfl) pa_nil)))) (pe_one (pe_chain op_le op_le (pv 1) (pv 0) (pv 2))))))), ?_⟩
    refine ⟨_, rfl, v, .ty "int", _, .type "int", _, rfl, .ty "int", hd.ty, ty_int d, _, rfl, ?_⟩
    cases d with
    | int i =>
      cases hd
      refine iteT ⟨_, rfl, _, .ty "bool", _, .type "bool", _, rfl, .ty "bool", (DE.int (N := N) i).ty, ty_bool _, _, rfl, _, rfl, iteT ?_⟩
      refine ⟨_, rfl, _, rfl, _, _, rfl, rfl, _, rfl, ?_⟩
      have e : isIn lo hi (.int i) = (decide (lo ≤ i) && decide (i ≤ hi)) := rfl
      rw [e] at k
      cases h1 : decide (lo ≤ i) with
      | true =>
        rw [h1] at k
        exact iteT ⟨_, rfl, _, _, rfl, rfl, k⟩
      | false =>
        rw [h1] at k
        exact iteF k
    | bool i => exact iteT ⟨_, rfl, v, .ty "bool", _, .type "bool", _, rfl, .ty "bool", hd.ty, ty_bool _, _, rfl, _, rfl, iteF k⟩
    | none => exact iteF k
    | str _ => exact iteF k
    | list _ => exact iteF k
    | tuple _ => exact iteF k
    | dict _ => exact iteF k
def NLB : List Str := ["_law_value"]
theorem scLBig : FnScope NLB NLB (defScope sLBig) := ⟨rfl, rfl, rfl, by decide +kernel, rfl, by decide +kernel, by decide +kernel⟩
theorem big_in (d : PyData) : isIn ((0 : Int) - (10 : Int) ^ (30 : Int).toNat) ((10 : Int) ^ (30 : Int).toNat) d = isBig d := by
  cases d with
  | int n => show (decide (_ ≤ n) && decide (n ≤ _)) = (decide (lo30 ≤ n) && decide (n ≤ hi30)); rw [Int.zero_sub]; rfl
  | _ => rfl
theorem ok_lbig {f fi : Addr} {fd fdi : FuncData} (F : Fun K "_law_is_big" "_law_is_big" sLBig f fd) (GLI : FnOk P w K mg base CX0 1 fi fdi NLI spWithin) (bLI : Binds K fdi NLI []) (mLI : mg "_law_is_int" = some (.ref fi)) (kLI : PySem.W.keepIn K (.ref fi) = true) : FnOk P w K mg base CX0 2 f fd NLB spNumber := by
  refine F.ok scLBig (fun vs H Q E h => ?_) (fun cdv A outer s H vs Q E hr h => ?_)
  · obtain ⟨v, d, N, rfl, _⟩ := h
    rfl
  · obtain ⟨v, d, N, rfl, hd, k⟩ := h
    refine ⟨_, (pss_one (ps_ret (pe_call GLI hr (by rfl) mLI kLI bLI .nil pass0 (pa_cons (pv 0) (pa_cons (pe_op op_sub pe_int (pe_op op_pow pe_int pe_int)) (pa_cons (pe_op op_pow pe_int pe_int) pa_nil)))))), ?_⟩
    rw [← big_in] at k
    exact ⟨_, rfl, _, _, rfl, rfl, ⟨by decide, by decide, by decide⟩, _, _, rfl, rfl, _, _, rfl, rfl, ⟨by decide, by decide, by decide⟩, v, d, N, _, _, rfl, hd, k⟩
/-! ### parts, as the law looks at them -/
def NLA : List Str := ["_law_value", "_law_names", "_law_part"]
theorem scLParts : FnScope NLA ["_law_value"] (defScope sLParts) := ⟨rfl, rfl, rfl, by decide +kernel, rfl, by decide +kernel, by decide +kernel⟩
def spLName : Sp := fun vs H Q _ => ∃ v d N, vs = [v] ∧ DE N H v d ∧ okD d = true ∧ ∀ H', Same H H' → Q (.bl (isNm d)) H'
def spLParts : Sp := fun vs H Q _ => ∃ v d, vs = [v] ∧ DE Any H v d ∧ okD d = true ∧ ∀ H', Same H H' → Q (.bl (partsOk d)) H'
theorem inV_mV {k : Mb} : ∀ ks : List Mb, inV (mV k) (ks.map mV) = decide (k ∈ ks)
  | [] => rfl
  | x :: ks => by
    have ih := inV_mV (k := k) ks
    have e : inV (mV k) ((x :: ks).map mV) = (eqV (mV x) (mV k) || inV (mV k) (ks.map mV)) := rfl
    have e2 : eqV (mV x) (mV k) = decide (k = x) := by
      cases x with
      | none => cases k <;> rfl
      | some s =>
        cases k with
        | none => rfl
        | some t =>
          show (s == t) = _
          by_cases h : s = t
          · subst h; simp
          · rw [decide_eq_false (fun z => h (by injection z with z; exact z.symm))]
            exact beq_eq_false_iff_ne.mpr h
    rw [e, e2, ih]
    by_cases h : k = x
    · subst h; simp
    · rw [decide_eq_false h, Bool.false_or]
      exact decide_eq_decide.mpr ⟨fun z => List.mem_cons_of_mem _ z, fun z => (List.mem_cons.mp z).resolve_left h⟩
theorem flat_mV : ∀ ks : List Mb, (ks.map mV).all flatV = true
  | [] => rfl
  | x :: ks => by
    show (flatV (mV x) && (ks.map mV).all flatV) = true
    rw [flat_mV ks]
    cases x <;> rfl
theorem flat_1 (k : Mb) : flatV (mV k) = true := by cases k <;> rfl
theorem nodup_take {α : Type} [DecidableEq α] {l : List α} {i : Nat} {x : α} (e : l[i]? = some x) (h : x ∈ l.take i) : ¬ l.Nodup := fun n => by
  obtain ⟨hi, rfl⟩ := List.getElem?_eq_some_iff.mp e
  have tk : l.take (i + 1) = l.take i ++ [l[i]] := by
    rw [List.take_add_one, e]
    rfl
  have := (n.sublist (List.take_sublist (i + 1) l))
  rw [tk, nodup_step] at this
  exact this.2 h
theorem rd_rest {K' : PySem.W.Frag} {σ : L2.St} {H1 : Hp} {D : Ends} {b n : Addr} {yv yc : V} {dc : PyData} {ks : List Mb} {k : Mb} (i2 : σ[2]? = some (some (.ref b))) (i1 : σ[1]? = some (some (.ref n))) (hb : H1 b = some (.tup [yv, yc])) (hn : H1 n = some (.lst (ks.map mV))) (few : ks.length ≤ 10)
    (hyc : DE Any H1 yc dc) (okc : okD dc = true) (key : yv = mV k) (bad : ((isBig dc || isNm dc) = false ∨ k ∈ ks) → ∀ H', Same H1 H' → D.rt (.bl false) H')
    (good : ∀ H', Same H1 H' → (isBig dc || isNm dc) = true → k ∉ ks → D.nx σ (upd H' n (.lst (ks.map mV ++ [mV k])))) :
    tSeq (tIfS (tOr (tAnd (tNot (tB (tCall spNumber [] E0 (tCons (tOp (rIxT K') (tVar 2) (tC (V.int 1))) tNil)))) (tNot (tB (tCall spLName [] E0 (tCons (tOp (rIxT K') (tVar 2) (tC (V.int 1))) tNil))))) (tTest (tOp (rIn K' false) (tOp (rIxT K') (tVar 2) (tC (V.int 0))) (tVar 1)))) (tRet (tC (V.bl false))) tNext)
      (tDrop (tBM K' "list" rAppend (tVar 1) (tCons (tOp (rIxT K') (tVar 2) (tC (V.int 0))) tNil))) D σ H1 := by
  have hz : sizeLine = 16777216 := sizeLine_eq
  subst key
  have inT : ∀ H', Same H1 H' → (isBig dc || isNm dc) = true → tTest (tOp (rIn K' false) (tOp (rIxT K') (tVar 2) (tC (V.int 0))) (tVar 1)) σ H' (fun c H2 => if c = true then D.rt (.bl false) H2 else tDrop (tBM K' "list" rAppend (tVar 1) (tCons (tOp (rIxT K') (tVar 2) (tC (V.int 0))) tNil)) D σ H2) := by
    intro H' s okk
    refine ⟨_, i2, b, _, _, _, rfl, rfl, SqT.of (s _ _ hb), atI_nat (j := 0) rfl, _, i1, n, _, rfl, .inl (SqL.of (s _ _ hn)), flat_1 k, flat_mV ks, _, rfl, ?_⟩
    show if inV (mV k) (ks.map mV) = true then _ else _
    rw [inV_mV]
    by_cases hk : k ∈ ks
    · exact ifT (decide_eq_true hk) (bad (.inr hk) H' s)
    · exact ifF (decide_eq_false hk) ⟨_, i1, .inl ⟨rfl, _, SqL.of (s _ _ hn)⟩, _, i2, b, _, _, _, rfl, rfl, SqT.of (s _ _ hb), atI_nat (j := 0) rfl, n, _, _, rfl, rfl, s _ _ hn, by rw [List.length_map]; omega, good H' s okk hk⟩
  refine ⟨_, i2, b, _, _, _, rfl, rfl, SqT.of hb, atI_nat (j := 1) rfl, yc, dc, Any, rfl, hyc, _, rfl, ?_⟩
  cases h1 : isBig dc with
  | true =>
    exact inT H1 (Same.refl _) (by rw [h1]; rfl)
  | false =>
    refine iteT ⟨_, i2, b, _, _, _, rfl, rfl, SqT.of hb, atI_nat (j := 1) rfl, yc, dc, Any, rfl, hyc, okc, fun H' s => ⟨_, rfl, ?_⟩⟩
    cases h2 : isNm dc with
    | true =>
      exact inT H' s (by rw [h1, h2]; rfl)
    | false => exact iteT (iteT (bad (.inl (by rw [h1, h2]; rfl)) H' s))
theorem ok_lparts {f fn fb : Addr} {fd fdn fdb : FuncData} (F : Fun K "_law_are_parts" "_law_are_parts" sLParts f fd) (T : Txt1 mg) (GLN : FnOk P w K mg base CX0 1 fn fdn ["_law_value"] spLName) (bLN : Binds K fdn ["_law_value"] []) (mLN : mg "_law_is_name" = some (.ref fn)) (kLN : PySem.W.keepIn K (.ref fn) = true)
    (GLB : FnOk P w K mg base CX0 2 fb fdb NLB spNumber) (bLB : Binds K fdb NLB []) (mLB : mg "_law_is_big" = some (.ref fb)) (kLB : PySem.W.keepIn K (.ref fb) = true) : FnOk P w K mg base CX0 3 f fd ["_law_value"] spLParts := by
  refine F.ok scLParts (fun vs H Q E h => ?_) (fun cdv A outer s H vs Q E hr h => ?_)
  · obtain ⟨v, d, rfl, _⟩ := h
    rfl
  · obtain ⟨v, d, rfl, hv, ok, q⟩ := h
    have hr1 := hr.mono (show 1 ≤ 2 by decide)
    have hr2 := hr.mono (show 2 ≤ 2 by decide)
    have hz : sizeLine = 16777216 := sizeLine_eq
    refine ⟨_, (pss_cons (ps_if (PW.pt (pw_or (pt_not (pt_val (pe_callB call_isi (by rfl) T.isi (by decide +kernel) (pa_cons (pv 0) (pa_cons (pe_bltn (v := .ty "tuple") (by rfl) T.tuple_ (by decide +kernel) rfl) pa_nil))))) (pw_or1 (pt_not (pt_chain op_le op_le pe_int (pe_callB call_len_seq (by rfl) T.len_ PySem.boot_len (pa_cons (pv 0) pa_nil)) pe_int)))))
        (pss_one (ps_ret pe_bl)) pss_nil)
      (pss_cons (ps_set (i := 1) scLParts.nd rfl (.inl rfl) (pe_lst pa_nil))
      (pss_cons (ps_for PassesOwn.never rfl (pi_tup (pv 0)) (pg_name (i := 2) scLParts.nd rfl (.inl rfl))
        (pss_cons (ps_if (PW.pt (pw_or (pt_not (pt_val (pe_callB call_isi (by rfl) T.isi (by decide +kernel) (pa_cons (pv 2) (pa_cons (pe_bltn (v := .ty "tuple") (by rfl) T.tuple_ (by decide +kernel) rfl) pa_nil))))) (pw_or (pt_cmpR op_ne (pe_callB call_len_seq (by rfl) T.len_ PySem.boot_len (pa_cons (pv 2) pa_nil)) pe_int (nomark _)) (pw_or1 (PW.pt (pw_and (pt_cmp (pc_notN (pe_ix ix_tup (pv 2) pe_int (fun _ _ => rfl)))) (pw_and1 (pt_not (pt_val (pe_call GLN hr1 (by rfl) mLN kLN bLN .nil pass0 (pa_cons (pe_ix ix_tup (pv 2) pe_int (fun _ _ => rfl)) pa_nil)))))))))))
          (pss_one (ps_ret pe_bl)) pss_nil)
        (pss_cons (ps_if (PW.pt (pw_or (PW.pt (pw_and (pt_not (pt_val (pe_call GLB hr2 (by rfl) mLB kLB bLB .nil pass0 (pa_cons (pe_ix ix_tup (pv 2) pe_int (fun _ _ => rfl)) pa_nil)))) (pw_and1 (pt_not (pt_val (pe_call GLN hr1 (by rfl) mLN kLN bLN .nil pass0 (pa_cons (pe_ix ix_tup (pv 2) pe_int (fun _ _ => rfl)) pa_nil))))))) (pw_or1 (pt_cmpR op_in_seq (pe_ix ix_tup (pv 2) pe_int (fun _ _ => rfl)) (pv 1) (by rfl)))))
          (pss_one (ps_ret pe_bl)) pss_nil)
        (pss_one (ps_expr (pe_bm PySem.F.plainAttrs_list PySem.F.slot_list_append PySem.F.type_list_append mt_append (pv 1) (pa_cons (pe_ix ix_tup (pv 2) pe_int (fun _ _ => rfl)) pa_nil)))))))
      (pss_one (ps_ret pe_bl))))), ?_⟩
    have bad : partsOk d = false → ∀ H', Same H H' → Q (.bl false) H' := fun z H' s => by
      have := q H' s
      rw [z] at this
      exact this
    refine ⟨_, rfl, v, .ty "tuple", _, .type "tuple", _, rfl, .ty "tuple", hv.ty, ty_tuple d, _, rfl, ?_⟩
    cases d with
    | bool _ => exact iteT (bad rfl H (Same.refl _))
    | int _ => exact iteT (bad rfl H (Same.refl _))
    | none => exact iteT (bad rfl H (Same.refl _))
    | str _ => exact iteT (bad rfl H (Same.refl _))
    | list _ => exact iteT (bad rfl H (Same.refl _))
    | dict _ => exact iteT (bad rfl H (Same.refl _))
    | tuple ps =>
    obtain ⟨a, xs, rfl, ha, hxs⟩ := DE.tup_inv hv
    have hl : xs.length = ps.length := DEs.len hxs
    have seq : ∀ {H' : Hp}, Same H H' → SqT K H' a xs := fun s => SqT.of (s _ _ ha)
    refine iteF ⟨_, rfl, a, _, rfl, .inr (seq (Same.refl _)), _, _, rfl, rfl, _, rfl, ?_⟩
    cases h0 : decide ((1 : Int) ≤ (xs.length : Int)) with
    | false => exact iteF ⟨_, rfl, iteT (bad (parts_len (by have := of_decide_eq_false h0; rw [decide_eq_false (by omega)]; rfl)) H (Same.refl _))⟩
    | true =>
    refine iteT ⟨_, _, rfl, rfl, _, rfl, ?_⟩
    cases h4 : decide ((xs.length : Int) ≤ 4) with
    | false => exact iteT (bad (parts_len (by have := of_decide_eq_false h4; rw [decide_eq_false (p := ps.length ≤ 4) (by omega), Bool.and_false])) H (Same.refl _))
    | true =>
    have h0 := of_decide_eq_true h0
    have h4 := of_decide_eq_true h4
    have lens : (decide (0 < ps.length) && decide (ps.length ≤ 4)) = true := by rw [decide_eq_true (p := 0 < ps.length) (by omega), decide_eq_true (p := ps.length ≤ 4) (by omega)]; rfl
    refine iteF ⟨(by show 0 ≤ sizeLine; omega), fun n nn => ?_⟩
    have sn : Same H (upd H n (.lst [])) := same_new nn
    refine ⟨_, rfl, a, rfl, ⟨_, seq sn⟩, for_tup (K := K) (a := a) (xs := xs) (fun i σ H' => ∃ v2, σ = [some (.ref a), some (.ref n), v2] ∧ Same H H' ∧ H' n = some (.lst (((ps.take i).map keyD).map mV)) ∧ (ps.take i).all partOk = true ∧ ((ps.take i).map keyD).Nodup)
      ⟨_, rfl, sn, upd_same, rfl, List.nodup_nil⟩ (fun i σ H' _ ⟨_, _, z, _⟩ => seq z) ?_ ?_⟩
    · rintro i x σ H1 hi ⟨v2, rfl, s1, hn, al, nd⟩
      have i4 : i < 4 := by have := (List.getElem?_eq_some_iff.mp hi).1; omega
      obtain ⟨dd, hdd, hx⟩ := DEs.at_ hxs hi
      have okd := okD_mem ok hdd
      refine ⟨_, rfl, x, .ty "tuple", _, .type "tuple", _, rfl, .ty "tuple", (hx.same s1).ty, ty_tuple dd, _, rfl, ?_⟩
      have badp : partOk dd = false → ∀ H', Same H H' → Q (.bl false) H' := fun z => bad (parts_bad hdd z)
      cases dd with
      | bool _ => exact iteT (badp rfl H1 s1)
      | int _ => exact iteT (badp rfl H1 s1)
      | none => exact iteT (badp rfl H1 s1)
      | str _ => exact iteT (badp rfl H1 s1)
      | list _ => exact iteT (badp rfl H1 s1)
      | dict _ => exact iteT (badp rfl H1 s1)
      | tuple es =>
      obtain ⟨b, ys, rfl, hb, hys⟩ := DE.tup_inv hx
      have hly : ys.length = es.length := DEs.len hys
      refine iteF ⟨_, rfl, b, _, rfl, .inr (SqT.of (s1 _ _ hb)), rfl, _, rfl, ?_⟩
      by_cases h2 : ys.length = 2
      rotate_left
      · exact ifT (by simp; omega) (badp (part_false (by omega)) H1 s1)
      obtain ⟨yv, yc, dv, dc, rfl, rfl, hyv, hyc⟩ := DEs.two hys h2
      have okv : okD dv = true := okD_mem (i := 0) okd rfl
      have okc : okD dc = true := okD_mem (i := 1) okd rfl
      have e0 : partOk (.tuple [dv, dc]) = ((isNon dv || isNm dv) && (isBig dc || isNm dc)) := rfl
      refine ifF (by rfl) ⟨_, rfl, b, _, _, _, rfl, rfl, SqT.of (s1 _ _ hb), atI_nat (j := 0) rfl, _, rfl, ?_⟩
      have key : (isNon dv || isNm dv) = true → yv = mV (keyD (.tuple [dv, dc])) := fun ov => by
        cases dv with
        | none => cases hyv; rfl
        | str s => cases hyv; rfl
        | _ => cases ov
      have tk : (ps.take (i + 1)).map keyD = (ps.take i).map keyD ++ [keyD (.tuple [dv, dc])] := by
        rw [List.take_add_one, hdd, List.map_append]
        rfl
      have twice : keyD (.tuple [dv, dc]) ∈ (ps.take i).map keyD → partsOk (.tuple ps) = false := fun z => by
        show ((decide (0 < ps.length) && decide (ps.length ≤ 4)) && (ps.all partOk && decide ((ps.map keyD).Nodup))) = false
        rw [decide_eq_false (nodup_take (i := i) (x := keyD (.tuple [dv, dc])) (by rw [List.getElem?_map, hdd]; rfl) (by rw [← List.map_take]; exact z)), Bool.and_false, Bool.and_false]
      have badr : ∀ H2, Same H1 H2 → ((isBig dc || isNm dc) = false ∨ keyD (.tuple [dv, dc]) ∈ (ps.take i).map keyD) → ∀ H', Same H2 H' → Q (.bl false) H' := fun H2 s2 z H' s => by
        rcases z with z | z
        · exact badp (by rw [e0, z, Bool.and_false]) H' ((s1.trans s2).trans s)
        · exact bad (twice z) H' ((s1.trans s2).trans s)
      have goodr : ∀ H2, Same H1 H2 → (isNon dv || isNm dv) = true → ∀ H', Same H2 H' → (isBig dc || isNm dc) = true → keyD (.tuple [dv, dc]) ∉ (ps.take i).map keyD → ∃ v2, [some (.ref a), some (.ref n), some (.ref b)] = [some (V.ref a), some (.ref n), v2] ∧ Same H (upd H' n (.lst (((ps.take i).map keyD).map mV ++ [mV (keyD (.tuple [dv, dc]))]))) ∧
          upd H' n (.lst (((ps.take i).map keyD).map mV ++ [mV (keyD (.tuple [dv, dc]))])) n = some (.lst (((ps.take (i + 1)).map keyD).map mV)) ∧ (ps.take (i + 1)).all partOk = true ∧ ((ps.take (i + 1)).map keyD).Nodup := fun H2 s2 ov H' s oc nk =>
        ⟨_, rfl, fun b o e => by rw [upd_ne (ne_of_none e nn)]; exact ((s1.trans s2).trans s) _ _ e, by rw [upd_same, tk, List.map_append]; rfl, all_take al hdd (by rw [e0, ov, oc]; rfl), by rw [tk, nodup_step]; exact ⟨nd, nk⟩⟩
      by_cases hn0 : yv = .non
      · have ov : (isNon dv || isNm dv) = true := by
          rw [hn0] at hyv
          cases hyv
          rfl
        exact ifF (by simp [hn0]) (iteF (rd_rest (b := b) (n := n) (yv := yv) (yc := yc) (dc := dc) (ks := (ps.take i).map keyD) (k := keyD (.tuple [dv, dc])) rfl rfl (s1 _ _ hb) hn (by rw [List.length_map, List.length_take]; omega) (hyc.same s1) okc (key ov) (badr H1 (Same.refl _)) (goodr H1 (Same.refl _) ov)))
      · refine ifT (by simp [hn0]) ⟨_, rfl, b, _, _, _, rfl, rfl, SqT.of (s1 _ _ hb), atI_nat (j := 0) rfl, yv, dv, Any, rfl, hyv.same s1, okv, fun H2 s2 => ⟨_, rfl, ?_⟩⟩
        have nv : isNon dv = false := by
          cases dv with
          | none => cases hyv; exact absurd rfl hn0
          | _ => rfl
        cases hc : isNm dv with
        | false => exact iteT (badp (by rw [e0, nv, hc]; rfl) H2 (s1.trans s2))
        | true =>
          have ov : (isNon dv || isNm dv) = true := by rw [hc, Bool.or_true]
          exact iteF (rd_rest (b := b) (n := n) (yv := yv) (yc := yc) (dc := dc) (ks := (ps.take i).map keyD) (k := keyD (.tuple [dv, dc])) rfl rfl (s2 _ _ (s1 _ _ hb)) (s2 _ _ hn) (by rw [List.length_map, List.length_take]; omega) ((hyc.same s1).same s2) okc (key ov) (badr H2 s2) (goodr H2 s2 ov))
    · rintro σ H1 ⟨v2, rfl, s1, hn, al, nd⟩
      rw [hl, List.take_length] at al nd
      have e : partsOk (.tuple ps) = true := by
        show ((decide (0 < ps.length) && decide (ps.length ≤ 4)) && (ps.all partOk && decide ((ps.map keyD).Nodup))) = true
        rw [lens, al, decide_eq_true nd]
        rfl
      rw [e] at q
      exact q H1 s1
end
end K01

set_option Elab.async false
set_option linter.all false
set_option maxRecDepth 100000
set_option maxHeartbeats 8000000
namespace Lm
open PySem PySem.Spec PyProof.Rows L2
/-- a list == [], whatever is in it -/
def rEqE : R2 := fun x y H Q => ∃ a b xs, x = .ref a ∧ y = .ref b ∧ H a = some (.lst xs) ∧ H b = some (.lst []) ∧ Q (.bl xs.isEmpty) H
theorem op_eqE {X : Cx} (hu : X.A.units + 64 < cLine) : OpR X (compareOp .Eq) rEqE := by
  intro pins s σ H x y v u Q I rx ry h
  obtain ⟨a, b, xs, rfl, rfl, ha, hb, q⟩ := h
  obtain rfl : v = Value.ref a := rx
  obtain rfl : u = Value.ref b := ry
  obtain ⟨_, us, n, r1, n1, e1⟩ := I.lstM ha
  obtain ⟨_, ws, m, r2, n2, e2⟩ := I.lstM hb
  have w0 : ws = [] := List.eq_nil_of_length_eq_zero (by simpa using n2.symm)
  subst w0
  have ta : s.TypeIs (.ref a) "list" := ⟨_, e1, rfl⟩
  have tb : s.TypeIs (.ref b) "list" := ⟨_, e2, rfl⟩
  show wpAny _ _ (richCompare .Eq (.ref a) (.ref b)) _ _ _
  cases xs with
  | nil =>
    have u0 : us = [] := List.eq_nil_of_length_eq_zero (by simpa using n1.symm)
    subst u0
    refine SeqAt.rcP_lists (e := fun _ => true) ⟨_, e1, rfl, n, rfl⟩ ⟨_, e2, rfl, m, rfl⟩ rfl (by omega) (fun j h1 _ => absurd h1 (by simp)) _ _ ⟨.bl true, H, I, rfl, q⟩
  | cons z zs =>
    have differ : (us.toArray.size != ([] : List Value).toArray.size) = true := by
      simp only [List.size_toArray, List.length_nil]
      rw [← n1]
      rfl
    exact wpAny_richCompare_same_room (op := .Eq) ta tb PySem.F.slot_list_eq (call_meets PySem.F.slot_list_eq ta PySem.F.entry_list_eq (PySem.F.args_list_eq_2 _ _) (AutoSeq1.list___eq___list_list_0 a us.toArray n b _ m differ)
      ⟨e1, e2, show Value.bool false ≠ Value.notImplemented ∧ _ from ⟨(fun x => nomatch x), .bl false, H, I, rfl, q⟩⟩) (by omega)
end Lm

set_option Elab.async false
set_option linter.all false
set_option maxRecDepth 100000
set_option maxHeartbeats 8000000
namespace Lm
open PySem PySem.Spec PyProof.Rows L2
/-- a tuple == (), whatever is in it -/
def rEqTE (K : PySem.W.Frag) : R2 := fun x y H Q => ∃ a b xs, x = .ref a ∧ y = .ref b ∧ SqT K H a xs ∧ SqT K H b [] ∧ Q (.bl xs.isEmpty) H
theorem op_eqTE {X : Cx} (hu : X.A.units + 64 < cLine) : OpR X (compareOp .Eq) (rEqTE X.K) := by
  intro pins s σ H x y v u Q I rx ry h
  obtain ⟨a, b, xs, rfl, rfl, ha, hb, q⟩ := h
  obtain rfl : v = Value.ref a := rx
  obtain rfl : u = Value.ref b := ry
  obtain ⟨us, r1, ⟨⟨c1, dd1, dt1, sl1⟩, e1, k1, n, g1⟩, n1⟩ := I.tuple ha
  obtain ⟨ws, r2, ⟨⟨c2, dd2, dt2, sl2⟩, e2, k2, m, g2⟩, n2⟩ := I.tuple hb
  simp only at k1 g1 k2 g2
  subst k1 g1 k2 g2
  have l1 : xs.length = us.length := Vals.length r1
  have w0 : ws = [] := List.eq_nil_of_length_eq_zero (Vals.length r2).symm
  subst w0
  have ta : s.TypeIs (.ref a) "tuple" := ⟨_, e1, rfl⟩
  have tb : s.TypeIs (.ref b) "tuple" := ⟨_, e2, rfl⟩
  show wpAny _ _ (richCompare .Eq (.ref a) (.ref b)) _ _ _
  have em : (us.toArray.size == ([] : List Value).toArray.size) = xs.isEmpty := by
    cases xs with
    | nil =>
      have u0 : us = [] := List.eq_nil_of_length_eq_zero (by simpa using l1.symm)
      subst u0; rfl
    | cons z zs => cases us with
      | nil => simp at l1
      | cons y ys => rfl
  refine wpAny_richCompare_same_room (op := .Eq) ta tb PySem.F.slot_tuple_eq (call_meets PySem.F.slot_tuple_eq ta PySem.F.entry_tuple_eq (PySem.F.args_tuple_eq_2 _ _) (PySem.SeqAt.tuple_eqAt a b us.toArray ([] : List Value).toArray n m dd1 dd2 sl1 sl2 (fun _ => true))
      ⟨e1, e2, fun j _ h2 => absurd h2 (by simp), show Value.bool _ ≠ Value.notImplemented ∧ _ from ⟨(fun x => nomatch x), .bl xs.isEmpty, H, I, ?_, q⟩⟩) (by omega)
  show Value.bool _ = Value.bool _
  congr 1
  simpa using em
end Lm

set_option Elab.async false
set_option linter.all false
set_option maxRecDepth 100000
set_option maxHeartbeats 16000000
set_option pp.maxSteps 900
namespace K01
open PySem PySem.Spec PyProof.Rows L2 Lm LmSet
theorem fit_len {inner : PyData → Bool} {w : Str} : ∀ {es : List PyData}, stOk inner (.tuple (.str w :: es)) = true →
    (es.length = 1 ∧ (w = "call" ∨ w = "place")) ∨ (es.length = 2 ∧ (w = "set" ∨ w = "loop" ∨ w = "either" ∨ w = "read")) ∨ (es.length = 3 ∧ w = "input") ∨ (es.length = 4 ∧ w = "guard")
  | [], h => by cases h
  | [a], h => by
    have h := Bool.and_eq_true_iff.mp (show ((decide (w = "call") || decide (w = "place")) && isNm a) = true from h)
    have h := Bool.or_eq_true_iff.mp h.1
    exact .inl ⟨rfl, h.imp of_decide_eq_true of_decide_eq_true⟩
  | [a, b], h => by
    refine .inr (.inl ⟨rfl, ?_⟩)
    have h : (if w = "set" then isNm a && partsOk b else if w = "loop" then isNm a && inner b else if w = "either" then inner a && inner b else decide (w = "read") && (isNm a && isNm b)) = true := h
    by_cases h1 : w = "set"
    · exact .inl h1
    by_cases h2 : w = "loop"
    · exact .inr (.inl h2)
    by_cases h3 : w = "either"
    · exact .inr (.inr (.inl h3))
    rw [if_neg h1, if_neg h2, if_neg h3] at h
    exact .inr (.inr (.inr (of_decide_eq_true (Bool.and_eq_true_iff.mp h).1)))
  | [a, b, c], h => by
    have h := Bool.and_eq_true_iff.mp (show (decide (w = "input") && (isNm a && isRg b c)) = true from h)
    exact .inr (.inr (.inl ⟨rfl, of_decide_eq_true h.1⟩))
  | [a, b, c, d], h => by
    have h := Bool.and_eq_true_iff.mp (show ((decide (w = "guard") && isNm a) && (isNm b && (isBig c && isIn 1 99 d))) = true from h)
    exact .inr (.inr (.inr ⟨rfl, of_decide_eq_true (Bool.and_eq_true_iff.mp h.1).1⟩))
  | _ :: _ :: _ :: _ :: _ :: _, h => by cases h
theorem cut1 (x : V) (ys : List V) : cutV (x :: ys) (some 1) none = ys := by
  have e : HT.sIx (x :: ys).length 0 (some 1) = 1 := by
    have := HT.sIx_nat (x :: ys).length 0 1
    rw [show ((1 : Nat) : Int) = 1 from rfl] at this
    rw [this, List.length_cons]
    omega
  unfold cutV
  rw [e, HT.sIx_none, List.length_cons]
  simp
theorem cut1_no (x : V) (ys : List V) : ¬ (HT.sIx (x :: ys).length 0 (some 1) = 0 ∧ HT.sIx (x :: ys).length (x :: ys).length none = (x :: ys).length) := by
  intro z
  have := HT.sIx_nat (x :: ys).length 0 1
  rw [show ((1 : Nat) : Int) = 1 from rfl, z.1, List.length_cons] at this
  omega
theorem Rg_big {a b : PyData} (h : isBig a = false ∨ isBig b = false) : isRg a b = false := by
  cases a with
  | int x => cases b with
    | int y =>
      show (decide (lo30 ≤ x) && (decide (x ≤ y) && decide (y ≤ hi30))) = false
      cases z : (decide (lo30 ≤ x) && (decide (x ≤ y) && decide (y ≤ hi30))) with
      | false => rfl
      | true =>
        have z1 := Bool.and_eq_true_iff.mp z
        have z2 := Bool.and_eq_true_iff.mp z1.2
        have y1 := of_decide_eq_true z1.1
        have y2 := of_decide_eq_true z2.1
        have y3 := of_decide_eq_true z2.2
        rcases h with h | h
        · have : (decide (lo30 ≤ x) && decide (x ≤ hi30)) = false := h
          rw [decide_eq_true y1, decide_eq_true (Int.le_trans y2 y3)] at this
          cases this
        · have : (decide (lo30 ≤ y) && decide (y ≤ hi30)) = false := h
          rw [decide_eq_true y3, decide_eq_true (Int.le_trans y1 y2)] at this
          cases this
    | _ => rfl
  | _ => rfl
theorem big_int {a : PyData} (h : isBig a = true) : ∃ x, a = .int x ∧ lo30 ≤ x ∧ x ≤ hi30 := by
  cases a with
  | int x =>
    have z := Bool.and_eq_true_iff.mp (show (decide (lo30 ≤ x) && decide (x ≤ hi30)) = true from h)
    exact ⟨x, rfl, of_decide_eq_true z.1, of_decide_eq_true z.2⟩
  | _ => cases h
theorem DEs.one {N : Addr → Prop} {H : Hp} {es : List PyData} {ys : List V} (h : DEs N H ys es) (l : es.length = 1) : ∃ v dv, ys = [v] ∧ es = [dv] ∧ DE N H v dv := by
  match es, l, h with
  | [_], _, .cons h1 .nil => exact ⟨_, _, rfl, rfl, h1⟩
section
variable {P : Program} {w : World} {K : PySem.W.Frag} {mg : Str → Option Value} {base : Heap}
def spInner (L : Nat) : Sp := fun vs H Q _ => ∃ (v : V) (d : PyData) (dep : Int), vs = [v, .int dep] ∧ dep = 5 - (L : Int) ∧ DE Any H v d ∧ okD d = true ∧ ∀ H', Same H H' → Q (.bl (wf L d)) H'
def spFits (L : Nat) : Sp := fun vs H Q _ => ∃ (v : V) (ww : Str) (es : List PyData) (dep : Int), vs = [v, .int dep] ∧ dep = 4 - (L : Int) ∧ DE Any H v (.tuple (.str ww :: es)) ∧ okD (.tuple (.str ww :: es)) = true ∧ ∀ H', Same H H' → Q (.bl (stOk (wf L) (.tuple (.str ww :: es)))) H'
def NLF : List Str := ["_law_value", "_law_depth", "_law_word", "_law_rest", "_law_one"]
def NLFp : List Str := ["_law_value", "_law_depth"]
theorem scLFits : FnScope NLF NLFp (defScope sLFits) := ⟨rfl, rfl, rfl, by decide +kernel, rfl, by decide +kernel, by decide +kernel⟩
theorem ok_lfits {L k : Nat} {f fn fi fb fp fr : Addr} {fd fdn fdi fdb fdp fdr : FuncData} (hk : 3 ≤ k) (F : Fun K "_law_fits" "_law_fits" sLFits f fd) (T : Txt1 mg)
    (GLN : FnOk P w K mg base CX0 1 fn fdn ["_law_value"] spLName) (bLN : Binds K fdn ["_law_value"] []) (mLN : mg "_law_is_name" = some (.ref fn)) (kLN : PySem.W.keepIn K (.ref fn) = true)
    (GLI : FnOk P w K mg base CX0 1 fi fdi NLI spWithin) (bLI : Binds K fdi NLI []) (mLI : mg "_law_is_int" = some (.ref fi)) (kLI : PySem.W.keepIn K (.ref fi) = true)
    (GLB : FnOk P w K mg base CX0 2 fb fdb NLB spNumber) (bLB : Binds K fdb NLB []) (mLB : mg "_law_is_big" = some (.ref fb)) (kLB : PySem.W.keepIn K (.ref fb) = true)
    (GLA : FnOk P w K mg base CX0 3 fp fdp ["_law_value"] spLParts) (bLA : Binds K fdp ["_law_value"] []) (mLA : mg "_law_are_parts" = some (.ref fp)) (kLA : PySem.W.keepIn K (.ref fp) = true)
    (GIN : FnOk P w K mg base CX0 k fr fdr NLFp (spInner L)) (bIN : Binds K fdr NLFp []) (mIN : mg "_law_is_inner" = some (.ref fr)) (kIN : PySem.W.keepIn K (.ref fr) = true) :
    FnOk P w K mg base CX0 (k + 1) f fd NLFp (spFits L) := by
  refine F.ok scLFits (fun vs H Q E h => ?_) (fun cdv A outer s H vs Q E hr h => ?_)
  · obtain ⟨v, ww, es, dep, rfl, _⟩ := h
    rfl
  · obtain ⟨v, ww, es, dep, rfl, rfl, hv, ok, q⟩ := h
    have hu : (A.deeper (envOfC "_law_fits" (defScope sLFits) s.heap.objs.size f cdv)).units + 64 < cLine := by have := hr.un; omega
    have hr1 := hr.mono (show 1 ≤ k by omega)
    have hr2 := hr.mono (show 2 ≤ k by omega)
    have hr3 := hr.mono (show 3 ≤ k by omega)
    have hz : sizeLine = 16777216 := sizeLine_eq
    refine ⟨_, (pss_cons (ps_par (i := 2) (j := 3) (by rfl) scLFits.nd rfl rfl (by decide) rfl rfl (pa_cons (pe_ix ix_tup (pv 0) pe_int (fun _ _ => rfl)) (pa_cons (pe_slice sl_tupA (pv 0) (po_some pe_int) po_none) pa_nil)) (by rfl))
      (pss_cons (ps_if (PW.pt (pw_and (pt_cmpR op_in_seq (pv 2) (pe_tup (pa_cons pe_str (pa_cons pe_str pa_nil))) (by rfl)) (pw_and1 (pt_val (pe_callB call_isi (by rfl) T.isi (by decide +kernel) (pa_cons (pv 2) (pa_cons (pe_bltn (v := .ty "str") (by rfl) T.str_ (by decide +kernel) rfl) pa_nil)))))))
        (pss_one (ps_ret (pe_and (pe_cmpR op_eq (pe_callB call_len_seq (by rfl) T.len_ PySem.boot_len (pa_cons (pv 3) pa_nil)) pe_int (nomark _)) (pe_one (pe_call GLN hr1 (by rfl) mLN kLN bLN .nil pass0 (pa_cons (pe_ix ix_tup (pv 3) pe_int (fun _ _ => rfl)) pa_nil)))))) pss_nil)
      (pss_cons (ps_if (pt_cmpR op_eq (pv 2) pe_str (nomark _))
        (pss_one (ps_ret (pe_and (pe_cmpR op_eq (pe_callB call_len_seq (by rfl) T.len_ PySem.boot_len (pa_cons (pv 3) pa_nil)) pe_int (nomark _)) (pe_and (pe_call GLN hr1 (by rfl) mLN kLN bLN .nil pass0 (pa_cons (pe_ix ix_tup (pv 3) pe_int (fun _ _ => rfl)) pa_nil)) (pe_one (pe_call GLN hr1 (by rfl) mLN kLN bLN .nil pass0 (pa_cons (pe_ix ix_tup (pv 3) pe_int (fun _ _ => rfl)) pa_nil))))))) pss_nil)
      (pss_cons (ps_if (pt_cmpR op_eq (pv 2) pe_str (nomark _))
        (pss_one (ps_ret (pe_and (pe_cmpR op_eq (pe_callB call_len_seq (by rfl) T.len_ PySem.boot_len (pa_cons (pv 3) pa_nil)) pe_int (nomark _)) (pe_and (pe_call GLN hr1 (by rfl) mLN kLN bLN .nil pass0 (pa_cons (pe_ix ix_tup (pv 3) pe_int (fun _ _ => rfl)) pa_nil)) (pe_one (pe_call GLA hr3 (by rfl) mLA kLA bLA .nil pass0 (pa_cons (pe_ix ix_tup (pv 3) pe_int (fun _ _ => rfl)) pa_nil))))))) pss_nil)
      (pss_cons (ps_if (pt_cmpR op_eq (pv 2) pe_str (nomark _))
        (pss_cons (ps_if (PW.pt (pw_or (pt_cmpR op_ne (pe_callB call_len_seq (by rfl) T.len_ PySem.boot_len (pa_cons (pv 3) pa_nil)) pe_int (nomark _)) (pw_or (pt_not (pt_val (pe_call GLB hr2 (by rfl) mLB kLB bLB .nil pass0 (pa_cons (pe_ix ix_tup (pv 3) pe_int (fun _ _ => rfl)) pa_nil)))) (pw_or1 (pt_not (pt_val (pe_call GLB hr2 (by rfl) mLB kLB bLB .nil pass0 (pa_cons (pe_ix ix_tup (pv 3) pe_int (fun _ _ => rfl)) pa_nil))))))))
          (pss_one (ps_ret pe_bl)) pss_nil)
        (pss_one (ps_ret (pe_and (pe_call GLN hr1 (by rfl) mLN kLN bLN .nil pass0 (pa_cons (pe_ix ix_tup (pv 3) pe_int (fun _ _ => rfl)) pa_nil)) (pe_one (pe_cmpR op_le (pe_ix ix_tup (pv 3) pe_int (fun _ _ => rfl)) (pe_ix ix_tup (pv 3) pe_int (fun _ _ => rfl)) (nomark _))))))) pss_nil)
      (pss_cons (ps_if (pt_cmpR op_eq (pv 2) pe_str (nomark _))
        (pss_cons (ps_if (PW.pt (pw_or (pt_cmpR op_ne (pe_callB call_len_seq (by rfl) T.len_ PySem.boot_len (pa_cons (pv 3) pa_nil)) pe_int (nomark _)) (pw_or (pt_not (pt_val (pe_call GLN hr1 (by rfl) mLN kLN bLN .nil pass0 (pa_cons (pe_ix ix_tup (pv 3) pe_int (fun _ _ => rfl)) pa_nil)))) (pw_or1 (pt_not (pt_val (pe_call GLN hr1 (by rfl) mLN kLN bLN .nil pass0 (pa_cons (pe_ix ix_tup (pv 3) pe_int (fun _ _ => rfl)) pa_nil))))))))
          (pss_one (ps_ret pe_bl)) pss_nil)
        (pss_one (ps_ret (pe_and (pe_call GLB hr2 (by rfl) mLB kLB bLB .nil pass0 (pa_cons (pe_ix ix_tup (pv 3) pe_int (fun _ _ => rfl)) pa_nil)) (pe_one (pe_call GLI hr1 (by rfl) mLI kLI bLI .nil pass0 (pa_cons (pe_ix ix_tup (pv 3) pe_int (fun _ _ => rfl)) (pa_cons pe_int (pa_cons pe_int pa_nil))))))))) pss_nil)
      (pss_cons (ps_if (pt_cmpR op_eq (pv 2) pe_str (nomark _))
        (pss_one (ps_ret (pe_and (pe_cmpR op_eq (pe_callB call_len_seq (by rfl) T.len_ PySem.boot_len (pa_cons (pv 3) pa_nil)) pe_int (nomark _)) (pe_one (pe_cmpR (op_eqE hu) (pe_lc (own := [("_law_one", 4)]) (g := (gName 4)) (by rfl) scLFits.nd (pi_tup (pv 3)) (blkOk_by (N := NLF) (sc := defScope sLFits) (by decide +kernel)) (fun _ _ _ _ _ => pg_name (i := 4) scLFits.nd rfl (Or.inl rfl)) (fun _ _ _ _ _ => (pts_one (pt_not (pt_val (pe_call GIN hr (by rfl) mIN kIN bIN .nil pass0 (pa_cons (pv 4) (pa_cons (pe_op op_add (pv 1) pe_int) pa_nil))))))) (fun _ _ _ _ _ => (pv 4))) (pe_lst pa_nil) (nomark _)))))) pss_nil)
      (pss_one (ps_ret (pe_and (pe_cmpR op_eq (pv 2) pe_str (nomark _)) (pe_and (pe_cmpR op_eq (pe_callB call_len_seq (by rfl) T.len_ PySem.boot_len (pa_cons (pv 3) pa_nil)) pe_int (nomark _)) (pe_and (pe_call GLN hr1 (by rfl) mLN kLN bLN .nil pass0 (pa_cons (pe_ix ix_tup (pv 3) pe_int (fun _ _ => rfl)) pa_nil)) (pe_one (pe_call GIN hr (by rfl) mIN kIN bIN .nil pass0 (pa_cons (pe_ix ix_tup (pv 3) pe_int (fun _ _ => rfl)) (pa_cons (pe_op op_add (pv 1) pe_int) pa_nil)))))))))))))))), ?_⟩
    obtain ⟨a, xs, rfl, ha, hxs⟩ := DE.tup_inv hv
    match xs, hxs with
    | _ :: ys, .cons h0 hys =>
    cases h0
    have hly : ys.length = es.length := DEs.len hys
    refine ⟨_, rfl, a, _, _, _, rfl, rfl, SqT.of ha, atI_nat (j := 0) rfl, ⟨_, rfl, 1, rfl, a, _, rfl, SqT.of ha, fun z => absurd z (cut1_no _ _), fun _ p np => ⟨_, _, rfl, ?_⟩⟩⟩
    rw [cut1]
    have s1 : Same H (upd H p (.tup ys)) := same_new np
    have hp : upd H p (.tup ys) p = some (.tup ys) := upd_same
    generalize upd H p (.tup ys) = H1 at s1 hp ⊢
    have bad : stOk (wf L) (.tuple (.str ww :: es)) = false → ∀ H', Same H H' → Q (.bl false) H' := fun z H' s => by
      have := q H' s
      rw [z] at this
      exact this
    have nope : (stOk (wf L) (.tuple (.str ww :: es)) = true → False) → ∀ H', Same H H' → Q (.bl false) H' := fun z => bad (Bool.eq_false_iff.mpr z)
    have oke : ∀ {i : Nat} {d : PyData}, es[i]? = some d → okD d = true := fun {i} {d} e => okD_mem (i := i + 1) ok e
    refine ⟨_, rfl, (by show 2 ≤ sizeLine; omega), fun t nt => ⟨t, _, rfl, .inr (SqT.of upd_same), rfl, rfl, _, rfl, ?_⟩⟩
    have s2 : Same H (upd H1 t (.tup [.str "call", .str "place"])) := s1.trans (same_new nt)
    have hp2 := same_new (o := .tup [.str "call", .str "place"]) nt _ _ hp
    generalize upd H1 t (.tup [.str "call", .str "place"]) = H2 at s2 hp2 ⊢
    clear hp s1 nt
    have hys2 : DEs Any H2 ys es := DEs.same s2 hys
    have eIn : inV (.str ww) [.str "call", .str "place"] = (decide (ww = "call") || decide (ww = "place")) := by
      have e1 : ∀ a b : Str, eqV (.str a) (.str b) = decide (b = a) := fun a b => by
        show (a == b) = _
        by_cases h : a = b
        · subst h; simp
        · rw [decide_eq_false (fun z => h z.symm)]
          exact beq_eq_false_iff_ne.mpr h
      show (eqV (.str "call") (.str ww) || (eqV (.str "place") (.str ww) || false)) = _
      rw [e1, e1, Bool.or_false]
    show if inV (.str ww) [.str "call", .str "place"] = true then _ else _
    rw [eIn]
    by_cases hc : ww = "call" ∨ ww = "place"
    · refine ifT (by rcases hc with rfl | rfl <;> simp) ⟨_, rfl, .str ww, .ty "str", _, .type "str", _, rfl, .ty "str", (DE.str (N := Any) ww).ty, ty_str' (.str ww), _, rfl, iteT ⟨_, rfl, p, _, rfl, .inr (SqT.of hp2), rfl, _, rfl, ?_⟩⟩
      by_cases l : es.length = 1
      · obtain ⟨v1, d1, rfl, rfl, h1⟩ := DEs.one hys2 (by omega)
        have e : stOk (wf L) (.tuple [.str ww, d1]) = isNm d1 := by
          show ((decide (ww = "call") || decide (ww = "place")) && isNm d1) = isNm d1
          rcases hc with rfl | rfl <;> simp
        rw [e] at q
        exact iteT ⟨_, rfl, p, _, _, _, rfl, rfl, SqT.of hp2, atI_nat (j := 0) rfl, v1, d1, Any, rfl, h1, oke (i := 0) rfl, fun H' s => q H' (s2.trans s)⟩
      · refine ifF (decide_eq_false fun y => l (by injection y with y; omega)) (nope (fun z => ?_) H2 s2)
        rcases fit_len z with ⟨y, _⟩ | ⟨_, y⟩ | ⟨_, y⟩ | ⟨_, y⟩
        · exact l y
        · rcases hc with rfl | rfl <;> revert y <;> decide
        · rcases hc with rfl | rfl <;> revert y <;> decide
        · rcases hc with rfl | rfl <;> revert y <;> decide
    refine ifF (by rw [decide_eq_false fun y => hc (.inl y), decide_eq_false fun y => hc (.inr y)]; rfl) ⟨_, rfl, rfl, _, rfl, ?_⟩
    by_cases hread : ww = "read"
    · subst hread
      refine ifT (by simp) ⟨_, rfl, p, _, rfl, .inr (SqT.of hp2), rfl, _, rfl, ?_⟩
      by_cases l : es.length = 2
      · obtain ⟨v1, v2, d1, d2, rfl, rfl, h1, h2⟩ := DEs.two hys2 (by omega)
        have e : stOk (wf L) (.tuple [.str "read", d1, d2]) = (isNm d1 && isNm d2) := rfl
        rw [e] at q bad
        refine iteT ⟨_, rfl, p, _, _, _, rfl, rfl, SqT.of hp2, atI_nat (j := 0) rfl, v1, d1, Any, rfl, h1, oke (i := 0) rfl, fun H' s => ⟨_, rfl, ?_⟩⟩
        cases hn : isNm d1 with
        | false => exact iteF (bad (by rw [hn]; rfl) H' (s2.trans s))
        | true =>
          rw [hn] at q
          exact iteT ⟨_, rfl, p, _, _, _, rfl, rfl, SqT.of (s _ _ hp2), atI_nat (j := 1) rfl, v2, d2, Any, rfl, h2.same s, oke (i := 1) rfl, fun H'' s' => q H'' ((s2.trans s).trans s')⟩
      · refine ifF (decide_eq_false fun y => l (by injection y with y; omega)) (nope (fun z => ?_) H2 s2)
        rcases fit_len z with ⟨_, y⟩ | ⟨y, _⟩ | ⟨_, y⟩ | ⟨_, y⟩
        · revert y; decide
        · exact l y
        · revert y; decide
        · revert y; decide
    refine ifF (decide_eq_false fun z => hread (by injection z)) ⟨_, rfl, rfl, _, rfl, ?_⟩
    by_cases hset : ww = "set"
    · subst hset
      refine ifT (by simp) ⟨_, rfl, p, _, rfl, .inr (SqT.of hp2), rfl, _, rfl, ?_⟩
      by_cases l : es.length = 2
      · obtain ⟨v1, v2, d1, d2, rfl, rfl, h1, h2⟩ := DEs.two hys2 (by omega)
        have e : stOk (wf L) (.tuple [.str "set", d1, d2]) = (isNm d1 && partsOk d2) := rfl
        rw [e] at q bad
        refine iteT ⟨_, rfl, p, _, _, _, rfl, rfl, SqT.of hp2, atI_nat (j := 0) rfl, v1, d1, Any, rfl, h1, oke (i := 0) rfl, fun H' s => ⟨_, rfl, ?_⟩⟩
        cases hn : isNm d1 with
        | false => exact iteF (bad (by rw [hn]; rfl) H' (s2.trans s))
        | true =>
          rw [hn] at q
          exact iteT ⟨_, rfl, p, _, _, _, rfl, rfl, SqT.of (s _ _ hp2), atI_nat (j := 1) rfl, v2, d2, rfl, h2.same s, oke (i := 1) rfl, fun H'' s' => q H'' ((s2.trans s).trans s')⟩
      · refine ifF (decide_eq_false fun y => l (by injection y with y; omega)) (nope (fun z => ?_) H2 s2)
        rcases fit_len z with ⟨_, y⟩ | ⟨y, _⟩ | ⟨_, y⟩ | ⟨_, y⟩
        · revert y; decide
        · exact l y
        · revert y; decide
        · revert y; decide
    refine ifF (decide_eq_false fun z => hset (by injection z)) ⟨_, rfl, rfl, _, rfl, ?_⟩
    by_cases hinp : ww = "input"
    · subst hinp
      refine ifT (by simp) ⟨_, rfl, p, _, rfl, .inr (SqT.of hp2), rfl, _, rfl, ?_⟩
      by_cases l : es.length = 3
      · obtain ⟨v1, v2, v3, d1, d2, d3, rfl, rfl, h1, h2, h3⟩ := DEs.three hys2 (by omega)
        have e : stOk (wf L) (.tuple [.str "input", d1, d2, d3]) = (isNm d1 && isRg d2 d3) := rfl
        rw [e] at q bad
        refine iteF ⟨_, rfl, p, _, _, _, rfl, rfl, SqT.of hp2, atI_nat (j := 1) rfl, v2, d2, Any, rfl, h2, _, rfl, ?_⟩
        cases b2 : isBig d2 with
        | false => exact iteT (bad (by rw [Rg_big (.inl b2), Bool.and_false]) H2 s2)
        | true =>
        refine iteF ⟨_, rfl, p, _, _, _, rfl, rfl, SqT.of hp2, atI_nat (j := 2) rfl, v3, d3, Any, rfl, h3, _, rfl, ?_⟩
        cases b3 : isBig d3 with
        | false => exact iteT (bad (by rw [Rg_big (.inr b3), Bool.and_false]) H2 s2)
        | true =>
        refine iteF ⟨_, rfl, p, _, _, _, rfl, rfl, SqT.of hp2, atI_nat (j := 0) rfl, v1, d1, Any, rfl, h1, oke (i := 0) rfl, fun H' s => ⟨_, rfl, ?_⟩⟩
        cases hn : isNm d1 with
        | false => exact iteF (bad (by rw [hn]; rfl) H' (s2.trans s))
        | true =>
          rw [hn] at q
          obtain ⟨x, rfl, c1, c2⟩ := big_int b2
          obtain ⟨y, rfl, c3, c4⟩ := big_int b3
          cases h2
          cases h3
          have e2 : isRg (.int x) (.int y) = decide (x ≤ y) := by
            show (decide (lo30 ≤ x) && (decide (x ≤ y) && decide (y ≤ hi30))) = _
            rw [decide_eq_true c1, decide_eq_true c4, Bool.true_and, Bool.and_true]
          rw [e2] at q
          exact iteT ⟨_, rfl, p, _, _, _, rfl, rfl, SqT.of (s _ _ hp2), atI_nat (j := 1) rfl, _, rfl, p, _, _, _, rfl, rfl, SqT.of (s _ _ hp2), atI_nat (j := 2) rfl, _, _, rfl, rfl, q H' (s2.trans s)⟩
      · refine ifT (by simp; omega) (nope (fun z => ?_) H2 s2)
        rcases fit_len z with ⟨_, y⟩ | ⟨_, y⟩ | ⟨y, _⟩ | ⟨_, y⟩
        · revert y; decide
        · revert y; decide
        · exact l y
        · revert y; decide
    refine ifF (decide_eq_false fun z => hinp (by injection z)) ⟨_, rfl, rfl, _, rfl, ?_⟩
    by_cases hgua : ww = "guard"
    · subst hgua
      refine ifT (by simp) ⟨_, rfl, p, _, rfl, .inr (SqT.of hp2), rfl, _, rfl, ?_⟩
      by_cases l : es.length = 4
      · obtain ⟨v1, v2, v3, v4, d1, d2, d3, d4, rfl, rfl, h1, h2, h3, h4⟩ := DEs.four hys2 (by omega)
        have e : stOk (wf L) (.tuple [.str "guard", d1, d2, d3, d4]) = (isNm d1 && (isNm d2 && (isBig d3 && isIn 1 99 d4))) := rfl
        rw [e] at q bad
        refine iteF ⟨_, rfl, p, _, _, _, rfl, rfl, SqT.of hp2, atI_nat (j := 0) rfl, v1, d1, Any, rfl, h1, oke (i := 0) rfl, fun H' s => ⟨_, rfl, ?_⟩⟩
        cases n1 : isNm d1 with
        | false => exact iteT (bad (by rw [n1]; rfl) H' (s2.trans s))
        | true =>
        refine iteF ⟨_, rfl, p, _, _, _, rfl, rfl, SqT.of (s _ _ hp2), atI_nat (j := 1) rfl, v2, d2, Any, rfl, h2.same s, oke (i := 1) rfl, fun H'' s' => ⟨_, rfl, ?_⟩⟩
        have s3 := (s2.trans s).trans s'
        cases n2 : isNm d2 with
        | false => exact iteT (bad (by rw [n2, Bool.false_and, Bool.and_false]) H'' s3)
        | true =>
        refine iteF ⟨_, rfl, p, _, _, _, rfl, rfl, SqT.of ((s.trans s') _ _ hp2), atI_nat (j := 2) rfl, v3, d3, Any, rfl, h3.same (s.trans s'), _, rfl, ?_⟩
        cases b3 : isBig d3 with
        | false => exact iteF (bad (by rw [b3, Bool.false_and, Bool.and_false, Bool.and_false]) H'' s3)
        | true =>
          rw [n1, n2, b3] at q
          exact iteT ⟨_, rfl, p, _, _, _, rfl, rfl, SqT.of ((s.trans s') _ _ hp2), atI_nat (j := 3) rfl, v4, d4, Any, 1, 99, rfl, h4.same (s.trans s'), q H'' s3⟩
      · refine ifT (by simp; omega) (nope (fun z => ?_) H2 s2)
        rcases fit_len z with ⟨_, y⟩ | ⟨_, y⟩ | ⟨_, y⟩ | ⟨y, _⟩
        · revert y; decide
        · revert y; decide
        · revert y; decide
        · exact l y
    refine ifF (decide_eq_false fun z => hgua (by injection z)) ⟨_, rfl, rfl, _, rfl, ?_⟩
    by_cases heit : ww = "either"
    · subst heit
      refine ifT (by simp) ⟨_, rfl, p, _, rfl, .inr (SqT.of hp2), rfl, _, rfl, ?_⟩
      by_cases l : es.length = 2
      · refine ifT (decide_eq_true (by rw [hly, l]; rfl)) ⟨_, rfl, p, rfl, ⟨_, SqT.of hp2⟩, fun D nD => lc_fmT (K := K) ((ys.zip es).map fun z => if wf L z.2 = true then none else some z.1) (SqT.of hp2) nD (by simp [hly]) (by simp; omega) ?_ (fun H' s' hD => ?_)⟩
        · intro i x o H' Qy Qn hx ho s' yes no
          obtain ⟨d, hd, hxd⟩ := DEs.at_ hys2 hx
          have eo : o = if wf L d = true then none else some x := by
            rw [List.getElem?_map, (List.getElem?_zip_eq_some (z := (x, d))).mpr ⟨hx, hd⟩] at ho
            exact (Option.some.inj ho).symm
          refine ⟨rfl, _, rfl, _, rfl, _, _, rfl, rfl, x, d, _, rfl, (by omega), hxd.same s', oke hd, fun H4 s4 => ⟨_, rfl, ?_⟩⟩
          cases hw : wf L d with
          | true =>
            rw [hw, if_pos rfl] at eo
            exact iteF (no eo H4 s4)
          | false =>
            rw [hw, if_neg (by decide)] at eo
            exact iteT ⟨_, rfl, yes x eo H4 s4⟩
        · obtain ⟨v1, v2, d1, d2, rfl, rfl, h1, h2⟩ := DEs.two hys2 (by omega)
          have e : stOk (wf L) (.tuple [.str "either", d1, d2]) = (wf L d1 && wf L d2) := rfl
          rw [e] at q
          have e2 : (List.filterMap id (([v1, v2].zip [d1, d2]).map fun z => if wf L z.2 = true then none else some z.1)).isEmpty = (wf L d1 && wf L d2) := by
            cases w1 : wf L d1 <;> cases w2 : wf L d2 <;> simp [w1, w2]
          refine ⟨(by show 0 ≤ sizeLine; omega), fun l nl => ⟨D, l, _, rfl, rfl, same_new nl _ _ hD, upd_same, ?_⟩⟩
          rw [e2]
          exact q _ ((s2.trans s').trans (same_new nl))
      · refine ifF (decide_eq_false fun y => l (by injection y with y; omega)) (nope (fun z => ?_) H2 s2)
        rcases fit_len z with ⟨_, y⟩ | ⟨y, _⟩ | ⟨_, y⟩ | ⟨_, y⟩
        · revert y; decide
        · exact l y
        · revert y; decide
        · revert y; decide
    refine ifF (decide_eq_false fun z => heit (by injection z)) ⟨_, rfl, rfl, _, rfl, ?_⟩
    by_cases hloo : ww = "loop"
    · subst hloo
      refine ifT (by simp) ⟨_, rfl, p, _, rfl, .inr (SqT.of hp2), rfl, _, rfl, ?_⟩
      by_cases l : es.length = 2
      · obtain ⟨v1, v2, d1, d2, rfl, rfl, h1, h2⟩ := DEs.two hys2 (by omega)
        have e : stOk (wf L) (.tuple [.str "loop", d1, d2]) = (isNm d1 && wf L d2) := rfl
        rw [e] at q bad
        refine iteT ⟨_, rfl, p, _, _, _, rfl, rfl, SqT.of hp2, atI_nat (j := 0) rfl, v1, d1, Any, rfl, h1, oke (i := 0) rfl, fun H' s => ⟨_, rfl, ?_⟩⟩
        cases hn : isNm d1 with
        | false => exact iteF (bad (by rw [hn]; rfl) H' (s2.trans s))
        | true =>
          rw [hn] at q
          exact iteT ⟨_, rfl, p, _, _, _, rfl, rfl, SqT.of (s _ _ hp2), atI_nat (j := 1) rfl, _, rfl, _, _, rfl, rfl, v2, d2, _, rfl, (by omega), h2.same s, oke (i := 1) rfl, fun H'' s' => q H'' ((s2.trans s).trans s')⟩
      · refine ifF (decide_eq_false fun y => l (by injection y with y; omega)) (nope (fun z => ?_) H2 s2)
        rcases fit_len z with ⟨_, y⟩ | ⟨y, _⟩ | ⟨_, y⟩ | ⟨_, y⟩
        · revert y; decide
        · exact l y
        · revert y; decide
        · revert y; decide
    refine ifF (decide_eq_false fun z => hloo (by injection z)) (nope (fun z => ?_) H2 s2)
    rcases fit_len z with ⟨_, y⟩ | ⟨_, y | y | y | y⟩ | ⟨_, y⟩ | ⟨_, y⟩
    · exact hc y
    · exact hset y
    · exact hloo y
    · exact heit y
    · exact hread y
    · exact hinp y
    · exact hgua y
end
end K01

set_option Elab.async false
set_option linter.all false
set_option maxRecDepth 100000
set_option maxHeartbeats 16000000
set_option pp.maxSteps 900
namespace K01
open PySem PySem.Spec PyProof.Rows L2 Lm LmSet
theorem st_head {inner : PyData → Bool} {e0 : PyData} (h : ∀ w, e0 ≠ .str w) : ∀ {es : List PyData}, stOk inner (.tuple (e0 :: es)) = false := by
  intro es
  cases e0 with
  | str w => exact absurd rfl (h w)
  | _ => match es with
    | [] => rfl
    | [_] => rfl
    | [_, _] => rfl
    | [_, _, _] => rfl
    | [_, _, _, _] => rfl
    | _ :: _ :: _ :: _ :: _ :: _ => rfl
section
variable {P : Program} {w : World} {K : PySem.W.Frag} {mg : Str → Option Value} {base : Heap}
def NLW : List Str := ["_law_value", "_law_depth", "_law_one"]
theorem scLInner : FnScope NLW NLFp (defScope sLInner) := ⟨rfl, rfl, rfl, by decide +kernel, rfl, by decide +kernel, by decide +kernel⟩
theorem ok_linner0 {f : Addr} {fd : FuncData} (F : Fun K "_law_is_inner" "_law_is_inner" sLInner f fd) (T : Txt1 mg) : FnOk P w K mg base CX0 3 f fd NLFp (spInner 0) := by
  refine F.ok scLInner (fun vs H Q E h => ?_) (fun cdv A outer s H vs Q E hr h => ?_)
  · obtain ⟨v, d, dep, rfl, _⟩ := h
    rfl
  · obtain ⟨v, d, dep, rfl, rfl, hv, ok, q⟩ := h
    refine ⟨_, pss_cons (ps_if (PW.pt (pw_or (pt_cmpR op_gt (pv 1) pe_int (nomark _)) (pw_or1 (pt_not (pt_val (pe_callB call_isi (by rfl) T.isi (by decide +kernel) (pa_cons (pv 0) (pa_cons (pe_bltn (v := .ty "tuple") (by rfl) T.tuple_ (by decide +kernel) rfl) pa_nil))))))))
        (pss_one (ps_ret pe_bl)) pss_nil) (pss_cons ps_never (pss_one ps_never)), ?_⟩
    exact ⟨_, rfl, _, _, rfl, rfl, _, rfl, ifT (decide_eq_true (by decide)) (q H (Same.refl _))⟩
theorem ok_linnerS {L k : Nat} {f fl : Addr} {fd fdl : FuncData} (hL : L ≤ 3) (F : Fun K "_law_is_inner" "_law_is_inner" sLInner f fd) (T : Txt1 mg)
    (GLF : FnOk P w K mg base CX0 k fl fdl NLFp (spFits L)) (bLF : Binds K fdl NLFp []) (mLF : mg "_law_fits" = some (.ref fl)) (kLF : PySem.W.keepIn K (.ref fl) = true) : FnOk P w K mg base CX0 (k + 1) f fd NLFp (spInner (L + 1)) := by
  refine F.ok scLInner (fun vs H Q E h => ?_) (fun cdv A outer s H vs Q E hr h => ?_)
  · obtain ⟨v, d, dep, rfl, _⟩ := h
    rfl
  · obtain ⟨v, d, dep, rfl, rfl, hv, ok, q⟩ := h
    have hu : (A.deeper (envOfC "_law_is_inner" (defScope sLInner) s.heap.objs.size f cdv)).units + 64 < cLine := by have := hr.un; omega
    have hz : sizeLine = 16777216 := sizeLine_eq
    have bad : wf (L + 1) d = false → ∀ H', Same H H' → Q (.bl false) H' := fun z H' s => by
      have := q H' s
      rw [z] at this
      exact this
    refine ⟨_, (pss_cons (ps_if (PW.pt (pw_or (pt_cmpR op_gt (pv 1) pe_int (nomark _)) (pw_or1 (pt_not (pt_val (pe_callB call_isi (by rfl) T.isi (by decide +kernel) (pa_cons (pv 0) (pa_cons (pe_bltn (v := .ty "tuple") (by rfl) T.tuple_ (by decide +kernel) rfl) pa_nil))))))))
        (pss_one (ps_ret pe_bl)) pss_nil)
      (pss_cons (ps_for PassesOwn.never rfl (pi_tup (pv 0)) (pg_name (i := 2) scLInner.nd rfl (.inl rfl))
        (pss_one (ps_if (PW.pt (pw_or (pt_not (pt_val (pe_callB call_isi (by rfl) T.isi (by decide +kernel) (pa_cons (pv 2) (pa_cons (pe_bltn (v := .ty "tuple") (by rfl) T.tuple_ (by decide +kernel) rfl) pa_nil))))) (pw_or (pt_cmpR (op_eqTE hu) (pv 2) (pe_tup pa_nil) (nomark _)) (pw_or (pt_not (pt_val (pe_callB call_isi (by rfl) T.isi (by decide +kernel) (pa_cons (pe_ix ix_tup (pv 2) pe_int (fun _ _ => rfl)) (pa_cons (pe_bltn (v := .ty "str") (by rfl) T.str_ (by decide +kernel) rfl) pa_nil))))) (pw_or1 (pt_not (pt_val (pe_call GLF hr (by rfl) mLF kLF bLF .nil pass0 (pa_cons (pv 2) (pa_cons (pv 1) pa_nil))))))))))
          (pss_one (ps_ret pe_bl)) pss_nil)))
      (pss_one (ps_ret pe_bl)))), ?_⟩
    refine ⟨_, rfl, _, _, rfl, rfl, _, rfl, ifF (decide_eq_false (by omega)) ?_⟩
    refine ⟨_, rfl, v, .ty "tuple", _, .type "tuple", _, rfl, .ty "tuple", hv.ty, ty_tuple d, _, rfl, ?_⟩
    cases d with
    | bool _ => exact iteT (bad rfl H (Same.refl _))
    | int _ => exact iteT (bad rfl H (Same.refl _))
    | none => exact iteT (bad rfl H (Same.refl _))
    | str _ => exact iteT (bad rfl H (Same.refl _))
    | list _ => exact iteT (bad rfl H (Same.refl _))
    | dict _ => exact iteT (bad rfl H (Same.refl _))
    | tuple ds =>
    obtain ⟨a, xs, rfl, ha, hxs⟩ := DE.tup_inv hv
    have hl : xs.length = ds.length := DEs.len hxs
    have seq : ∀ {H' : Hp}, Same H H' → SqT K H' a xs := fun s => SqT.of (s _ _ ha)
    refine iteF ⟨_, rfl, a, rfl, ⟨_, seq (Same.refl _)⟩, for_tup (K := K) (a := a) (xs := xs) (fun i σ H' => ∃ v2, σ = [some (.ref a), some (.int (5 - ((L + 1 : Nat) : Int))), v2] ∧ Same H H' ∧ (ds.take i).all (stOk (wf L)) = true)
      ⟨_, rfl, Same.refl _, rfl⟩ (fun i σ H' _ ⟨_, _, z, _⟩ => seq z) ?_ ?_⟩
    · rintro i x σ H1 hi ⟨v2, rfl, s1, al⟩
      obtain ⟨dd, hdd, hx⟩ := DEs.at_ hxs hi
      have okd := okD_mem ok hdd
      have badd : stOk (wf L) dd = false → ∀ H', Same H H' → Q (.bl false) H' := fun z => bad (all_bad hdd z)
      refine ⟨_, rfl, x, .ty "tuple", _, .type "tuple", _, rfl, .ty "tuple", (hx.same s1).ty, ty_tuple dd, _, rfl, ?_⟩
      cases dd with
      | bool _ => exact iteT (badd rfl H1 s1)
      | int _ => exact iteT (badd rfl H1 s1)
      | none => exact iteT (badd rfl H1 s1)
      | str _ => exact iteT (badd rfl H1 s1)
      | list _ => exact iteT (badd rfl H1 s1)
      | dict _ => exact iteT (badd rfl H1 s1)
      | tuple es =>
      have hx1 := hx
      obtain ⟨b, ys, rfl, hb, hys⟩ := DE.tup_inv hx1
      refine iteF ⟨_, rfl, (by show 0 ≤ sizeLine; omega), fun t nt => ⟨b, t, ys, rfl, rfl, SqT.of (same_new nt _ _ (s1 _ _ hb)), SqT.of upd_same, _, rfl, ?_⟩⟩
      have s2 : Same H (upd H1 t (.tup [])) := s1.trans (same_new nt)
      generalize upd H1 t (.tup []) = H2 at s2 ⊢
      match ys, es, hys, hb with
      | _, [], .nil, hb => exact iteT (badd rfl H2 s2)
      | y0 :: ys, e0 :: es, .cons h0 hys, hb =>
      refine iteF ⟨_, rfl, b, _, _, _, rfl, rfl, SqT.of (s2 _ _ hb), atI_nat (j := 0) rfl, y0, .ty "str", _, .type "str", _, rfl, .ty "str", (h0.same s2).ty, ty_str' e0, _, rfl, ?_⟩
      cases e0 with
      | bool _ => exact iteT (badd (st_head fun w z => by cases z) H2 s2)
      | int _ => exact iteT (badd (st_head fun w z => by cases z) H2 s2)
      | none => exact iteT (badd (st_head fun w z => by cases z) H2 s2)
      | tuple _ => exact iteT (badd (st_head fun w z => by cases z) H2 s2)
      | list _ => exact iteT (badd (st_head fun w z => by cases z) H2 s2)
      | dict _ => exact iteT (badd (st_head fun w z => by cases z) H2 s2)
      | str z =>
      refine iteF ⟨_, rfl, _, rfl, .ref b, z, es, _, rfl, (by omega), hx.same s2, okd, fun H3 s3 => ⟨_, rfl, ?_⟩⟩
      cases hs : stOk (wf L) (.tuple (.str z :: es)) with
      | true => exact iteF ⟨_, rfl, s2.trans s3, all_take al hdd hs⟩
      | false => exact iteT (badd hs H3 (s2.trans s3))
    · rintro σ H1 ⟨v2, rfl, s1, al⟩
      rw [hl, List.take_length] at al
      have e : wf (L + 1) (.tuple ds) = true := al
      rw [e] at q
      exact q H1 s1
/-! ### how many statements -/
def spMany (L : Nat) : Sp := fun vs H Q _ => ∃ (v : V) (d : PyData), vs = [v] ∧ DE Any H v d ∧ wf L d = true ∧ ∀ H', Same H H' → Q (.int (num L d : Nat)) H'
def NLM : List Str := ["_law_body", "_law_found", "_law_one"]
theorem scLMany : FnScope NLM ["_law_body"] (defScope sLMany) := ⟨rfl, rfl, rfl, by decide +kernel, rfl, by decide +kernel, by decide +kernel⟩
theorem ok_many0 {f : Addr} {fd : FuncData} (F : Fun K "_law_many" "_law_many" sLMany f fd) : FnOk P w K mg base CX0 1 f fd ["_law_body"] (spMany 0) := by
  refine F.ok scLMany (fun vs H Q E h => ?_) (fun cdv A outer s H vs Q E hr h => ?_)
  · obtain ⟨v, d, rfl, _⟩ := h
    rfl
  · obtain ⟨v, d, rfl, hv, z, q⟩ := h
    cases z
/-- what a statement that fits is -/
theorem st_inv {inner : PyData → Bool} {d : PyData} (h : stOk inner d = true) : ∃ (w : Str) (es : List PyData), d = .tuple (.str w :: es) ∧ (w = "either" → ∃ a b, es = [a, b] ∧ inner a = true ∧ inner b = true) ∧ (w = "loop" → ∃ a b, es = [a, b] ∧ inner b = true) := by
  cases d with
  | tuple es => cases es with
    | nil => cases h
    | cons e0 es =>
      cases e0 with
      | str w =>
        refine ⟨w, es, rfl, fun e => ?_, fun e => ?_⟩
        · subst e
          rcases fit_len h with ⟨_, y⟩ | ⟨y, _⟩ | ⟨_, y⟩ | ⟨_, y⟩
          · exact absurd y (by decide)
          · match es, y, h with
            | [a, b], _, h =>
              have h := Bool.and_eq_true_iff.mp (show (inner a && inner b) = true from h)
              exact ⟨a, b, rfl, h.1, h.2⟩
          · exact absurd y (by decide)
          · exact absurd y (by decide)
        · subst e
          rcases fit_len h with ⟨_, y⟩ | ⟨y, _⟩ | ⟨_, y⟩ | ⟨_, y⟩
          · exact absurd y (by decide)
          · match es, y, h with
            | [a, b], _, h =>
              have h := Bool.and_eq_true_iff.mp (show (isNm a && inner b) = true from h)
              exact ⟨a, b, rfl, h.2⟩
          · exact absurd y (by decide)
          · exact absurd y (by decide)
      | _ =>
        rw [st_head fun w z => by cases z] at h
        cases h
  | _ => cases h
theorem stN_no {inner : PyData → Nat} {w : Str} {es : List PyData} (h1 : w ≠ "either") (h2 : w ≠ "loop") : stN inner (.tuple (.str w :: es)) = 0 := by
  match es with
  | [] => rfl
  | [_] => rfl
  | [a, b] =>
    show (if w = "loop" then inner b else if w = "either" then inner a + inner b else 0) = 0
    rw [if_neg h2, if_neg h1]
  | _ :: _ :: _ :: _ => rfl
theorem ok_manyS {L k : Nat} {f : Addr} {fd : FuncData} (F : Fun K "_law_many" "_law_many" sLMany f fd) (T : Txt1 mg)
    (GMA : FnOk P w K mg base CX0 k f fd ["_law_body"] (spMany L)) (bMA : Binds K fd ["_law_body"] []) (mMA : mg "_law_many" = some (.ref f)) (kMA : PySem.W.keepIn K (.ref f) = true) : FnOk P w K mg base CX0 (k + 1) f fd ["_law_body"] (spMany (L + 1)) := by
  refine F.ok scLMany (fun vs H Q E h => ?_) (fun cdv A outer s H vs Q E hr h => ?_)
  · obtain ⟨v, d, rfl, _⟩ := h
    rfl
  · obtain ⟨v, d, rfl, hv, z, q⟩ := h
    refine ⟨_, (pss_cons (ps_set (i := 1) scLMany.nd rfl (.inl rfl) pe_int)
      (pss_cons (ps_for PassesOwn.never rfl (pi_tup (pv 0)) (pg_name (i := 2) scLMany.nd rfl (.inl rfl))
        (pss_cons (ps_set (i := 1) scLMany.nd rfl (.inl rfl) (pe_op op_add (pv 1) pe_int))
        (pss_cons (ps_if (pt_cmpR op_eq (pe_ix ix_tup (pv 2) pe_int (fun _ _ => rfl)) pe_str (nomark _))
          (pss_one (ps_set (i := 1) scLMany.nd rfl (.inl rfl) (pe_op op_add (pe_op op_add (pv 1) (pe_call GMA hr (by rfl) mMA kMA bMA .nil pass0 (pa_cons (pe_ix ix_tup (pv 2) pe_int (fun _ _ => rfl)) pa_nil))) (pe_call GMA hr (by rfl) mMA kMA bMA .nil pass0 (pa_cons (pe_ix ix_tup (pv 2) pe_int (fun _ _ => rfl)) pa_nil))))) pss_nil)
        (pss_one (ps_if (pt_cmpR op_eq (pe_ix ix_tup (pv 2) pe_int (fun _ _ => rfl)) pe_str (nomark _))
          (pss_one (ps_set (i := 1) scLMany.nd rfl (.inl rfl) (pe_op op_add (pv 1) (pe_call GMA hr (by rfl) mMA kMA bMA .nil pass0 (pa_cons (pe_ix ix_tup (pv 2) pe_int (fun _ _ => rfl)) pa_nil))))) pss_nil)))))
      (pss_one (ps_ret (pv 1))))), ?_⟩
    cases d with
    | tuple ds =>
      obtain ⟨a, xs, rfl, ha, hxs⟩ := DE.tup_inv hv
      have hl : xs.length = ds.length := DEs.len hxs
      have seq : ∀ {H' : Hp}, Same H H' → SqT K H' a xs := fun s => SqT.of (s _ _ ha)
      refine ⟨_, rfl, a, rfl, ⟨_, seq (Same.refl _)⟩, for_tup (K := K) (a := a) (xs := xs) (fun i σ H' => ∃ v2, σ = [some (.ref a), some (.int (((ds.take i).map fun d => 1 + stN (num L) d).sum : Nat)), v2] ∧ Same H H')
        ⟨_, rfl, Same.refl _⟩ (fun i σ H' _ ⟨_, _, z⟩ => seq z) ?_ ?_⟩
      · rintro i x σ H1 hi ⟨v2, rfl, s1⟩
        obtain ⟨dd, hdd, hx⟩ := DEs.at_ hxs hi
        have hs := sum_take (f := fun d => 1 + stN (num L) d) hdd
        have st : stOk (wf L) dd = true := List.all_eq_true.mp (show ds.all (stOk (wf L)) = true from z) dd (List.mem_of_getElem? hdd)
        generalize ((ds.take i).map fun d => 1 + stN (num L) d).sum = m at hs
        obtain ⟨ww, es, rfl, ei, lo⟩ := st_inv st
        obtain ⟨b, ys, rfl, hb, hys⟩ := DE.tup_inv hx
        match ys, hys, hb with
        | _ :: ys, .cons h0 hys2, hb =>
        cases h0
        refine ⟨_, rfl, _, _, rfl, rfl, _, rfl, b, _, _, _, rfl, rfl, SqT.of (s1 _ _ hb), atI_nat (j := 0) rfl, rfl, _, rfl, ?_⟩
        by_cases h1 : ww = "either"
        · subst h1
          obtain ⟨a1, b1, rfl, w1, w2⟩ := ei rfl
          obtain ⟨v1, v3, _, _, rfl, e, hv1, hv3⟩ := DEs.two hys2 (DEs.len hys2)
          injection e with e1 e
          injection e with e2 e
          subst e1
          subst e2
          have eI : ((m : Nat) : Int) + 1 + ((num L a1 : Nat) : Int) + ((num L b1 : Nat) : Int) = ((((ds.take (i + 1)).map fun d => 1 + stN (num L) d).sum : Nat) : Int) := by
            rw [hs]
            show _ = ((m + (1 + (num L a1 + num L b1)) : Nat) : Int)
            omega
          refine ifT (by simp) ⟨_, rfl, _, rfl, b, _, _, _, rfl, rfl, SqT.of (s1 _ _ hb), atI_nat (j := 1) rfl, v1, a1, rfl, hv1.same s1, w1, fun H2 s2 => ⟨_, _, rfl, rfl, _, rfl, b, _, _, _, rfl, rfl, SqT.of ((s1.trans s2) _ _ hb), atI_nat (j := 2) rfl, v3, b1, rfl, hv3.same (s1.trans s2), w2, fun H3 s3 => ⟨_, _, rfl, rfl, ?_⟩⟩⟩
          have s4 := (s1.trans s2).trans s3
          refine ⟨_, rfl, b, _, _, _, rfl, rfl, SqT.of (s4 _ _ hb), atI_nat (j := 0) rfl, rfl, _, rfl, ifF (decide_eq_false fun z => absurd z (by decide)) ⟨some (.ref b), ?_, s4⟩⟩
          rw [← eI]
          rfl
        refine ifF (decide_eq_false fun z => h1 (by injection z)) ⟨_, rfl, b, _, _, _, rfl, rfl, SqT.of (s1 _ _ hb), atI_nat (j := 0) rfl, rfl, _, rfl, ?_⟩
        by_cases h2 : ww = "loop"
        · subst h2
          obtain ⟨a1, b1, rfl, w2⟩ := lo rfl
          obtain ⟨v1, v3, _, _, rfl, e, hv1, hv3⟩ := DEs.two hys2 (DEs.len hys2)
          injection e with e1 e
          injection e with e2 e
          subst e1
          subst e2
          have eI : ((m : Nat) : Int) + 1 + ((num L b1 : Nat) : Int) = ((((ds.take (i + 1)).map fun d => 1 + stN (num L) d).sum : Nat) : Int) := by
            rw [hs]
            show _ = ((m + (1 + num L b1) : Nat) : Int)
            omega
          refine ifT (by simp) ⟨_, rfl, _, rfl, b, _, _, _, rfl, rfl, SqT.of (s1 _ _ hb), atI_nat (j := 2) rfl, v3, b1, rfl, hv3.same s1, w2, fun H2 s2 => ⟨_, _, rfl, rfl, some (.ref b), ?_, s1.trans s2⟩⟩
          rw [← eI]
          rfl
        · refine ifF (decide_eq_false fun z => h2 (by injection z)) ⟨some (.ref b), ?_, s1⟩
          rw [hs, stN_no h1 h2]
          rfl
      · rintro σ H1 ⟨v2, rfl, s1⟩
        rw [hl, List.take_length]
        exact ⟨_, rfl, q H1 s1⟩
    | _ => cases z
/-! ### bodies, as the law looks at them -/
def spLBody : Sp := fun vs H Q _ => ∃ (v : V) (d : PyData), vs = [v] ∧ DE Any H v d ∧ okD d = true ∧ ∀ H', Same H H' → Q (.bl (bodyOk d)) H'
def NLD : List Str := ["_law_value"]
theorem scLBody : FnScope NLD ["_law_value"] (defScope sLBody) := ⟨rfl, rfl, rfl, by decide +kernel, rfl, by decide +kernel, by decide +kernel⟩
theorem ok_lbody {f fi fm : Addr} {fd fdi fdm : FuncData} (F : Fun K "_law_is_body" "_law_is_body" sLBody f fd)
    (GIN : FnOk P w K mg base CX0 11 fi fdi NLFp (spInner 4)) (bIN : Binds K fdi NLFp []) (mIN : mg "_law_is_inner" = some (.ref fi)) (kIN : PySem.W.keepIn K (.ref fi) = true)
    (GMA : FnOk P w K mg base CX0 5 fm fdm ["_law_body"] (spMany 4)) (bMA : Binds K fdm ["_law_body"] []) (mMA : mg "_law_many" = some (.ref fm)) (kMA : PySem.W.keepIn K (.ref fm) = true) : FnOk P w K mg base CX0 12 f fd ["_law_value"] spLBody := by
  refine F.ok scLBody (fun vs H Q E h => ?_) (fun cdv A outer s H vs Q E hr h => ?_)
  · obtain ⟨v, d, rfl, _⟩ := h
    rfl
  · obtain ⟨v, d, rfl, hv, ok, q⟩ := h
    have hrI := hr.mono (show 11 ≤ 11 by decide)
    have hrM := hr.mono (show 5 ≤ 11 by decide)
    refine ⟨_, (pss_one (ps_ret (pe_and (pe_call GIN hrI (by rfl) mIN kIN bIN .nil pass0 (pa_cons (pv 0) (pa_cons pe_int pa_nil))) (pe_one (pe_cmpR op_le (pe_call GMA hrM (by rfl) mMA kMA bMA .nil pass0 (pa_cons (pv 0) pa_nil)) pe_int (nomark _)))))), ?_⟩
    refine ⟨_, rfl, v, d, 1, rfl, rfl, hv, ok, fun H' s => ⟨_, rfl, ?_⟩⟩
    cases hw : wf 4 d with
    | false =>
      have e : bodyOk d = false := by show (wf 4 d && _) = false; rw [hw]; rfl
      rw [e] at q
      exact iteF (q H' s)
    | true =>
      have e : bodyOk d = decide (((num 4 d : Nat) : Int) ≤ 40) := by
        show (wf 4 d && decide (num 4 d ≤ 40)) = _
        rw [hw, Bool.true_and]
        exact decide_eq_decide.mpr (by omega)
      rw [e] at q
      exact iteT ⟨_, rfl, v, d, rfl, hv.same s, hw, fun H'' s' => ⟨_, _, rfl, rfl, q H'' (s.trans s')⟩⟩
/-- a body of four levels, as the law looks at it -/
theorem ok_linner4 {f fn fi fb fp ff : Addr} {fd fdn fdi fdb fdp fdf : FuncData} (T : Txt1 mg) (FI : Fun K "_law_is_inner" "_law_is_inner" sLInner f fd) (bIN : Binds K fd NLFp []) (mIN : mg "_law_is_inner" = some (.ref f)) (kIN : PySem.W.keepIn K (.ref f) = true)
    (FF : Fun K "_law_fits" "_law_fits" sLFits ff fdf) (bLF : Binds K fdf NLFp []) (mLF : mg "_law_fits" = some (.ref ff)) (kLF : PySem.W.keepIn K (.ref ff) = true)
    (GLN : FnOk P w K mg base CX0 1 fn fdn ["_law_value"] spLName) (bLN : Binds K fdn ["_law_value"] []) (mLN : mg "_law_is_name" = some (.ref fn)) (kLN : PySem.W.keepIn K (.ref fn) = true)
    (GLI : FnOk P w K mg base CX0 1 fi fdi NLI spWithin) (bLI : Binds K fdi NLI []) (mLI : mg "_law_is_int" = some (.ref fi)) (kLI : PySem.W.keepIn K (.ref fi) = true)
    (GLB : FnOk P w K mg base CX0 2 fb fdb NLB spNumber) (bLB : Binds K fdb NLB []) (mLB : mg "_law_is_big" = some (.ref fb)) (kLB : PySem.W.keepIn K (.ref fb) = true)
    (GLA : FnOk P w K mg base CX0 3 fp fdp ["_law_value"] spLParts) (bLA : Binds K fdp ["_law_value"] []) (mLA : mg "_law_are_parts" = some (.ref fp)) (kLA : PySem.W.keepIn K (.ref fp) = true) :
    FnOk P w K mg base CX0 11 f fd NLFp (spInner 4) := by
  have step : ∀ (L k : Nat), 3 ≤ k → L ≤ 3 → FnOk P w K mg base CX0 k f fd NLFp (spInner L) → FnOk P w K mg base CX0 (k + 2) f fd NLFp (spInner (L + 1)) := fun L k hk hL G =>
    ok_linnerS (k := k + 1) hL FI T (ok_lfits hk FF T GLN bLN mLN kLN GLI bLI mLI kLI GLB bLB mLB kLB GLA bLA mLA kLA G bIN mIN kIN) bLF mLF kLF
  exact step 3 9 (by decide) (by decide) (step 2 7 (by decide) (by decide) (step 1 5 (by decide) (by decide) (step 0 3 (by decide) (by decide) (ok_linner0 FI T))))
theorem ok_many4 {f : Addr} {fd : FuncData} (T : Txt1 mg) (F : Fun K "_law_many" "_law_many" sLMany f fd) (bMA : Binds K fd ["_law_body"] []) (mMA : mg "_law_many" = some (.ref f)) (kMA : PySem.W.keepIn K (.ref f) = true) : FnOk P w K mg base CX0 5 f fd ["_law_body"] (spMany 4) :=
  have step : ∀ (L k : Nat), FnOk P w K mg base CX0 k f fd ["_law_body"] (spMany L) → FnOk P w K mg base CX0 (k + 1) f fd ["_law_body"] (spMany (L + 1)) := fun L k G => ok_manyS F T G bMA mMA kMA
  step 3 4 (step 2 3 (step 1 2 (step 0 1 (ok_many0 F))))
end
end K01

set_option Elab.async false
set_option linter.all false
set_option maxRecDepth 100000
set_option maxHeartbeats 16000000
set_option pp.maxSteps 900
namespace K01
open PySem PySem.Spec PyProof.Rows L2 Lm LmSet
/-- no lists in it -/
abbrev NoL : Addr → Prop := fun _ => False
/-- all that is no list stands -/
def Kp (H H' : Hp) : Prop := ∀ b o, H b = some o → (∀ xs, o ≠ .lst xs) → H' b = some o
theorem Kp.same {H H' : Hp} (s : Same H H') : Kp H H' := fun b o e _ => s b o e
theorem Kp.trans {H H1 H2 : Hp} (a : Kp H H1) (b : Kp H1 H2) : Kp H H2 := fun c o e n => b c o (a c o e n) n
theorem Kp.but {p : Addr} {xs : List V} {H H' : Hp} (e : H p = some (.lst xs)) (b : But p H H') : Kp H H' := fun c o h n => b c o h fun z => by
  rw [z, e] at h
  injection h with h
  exact n xs h.symm
mutual
theorem DE.kp {H H' : Hp} (s : Kp H H') : ∀ {d : PyData} {v : V}, DE NoL H v d → DE NoL H' v d
  | .none, _, h => by cases h; exact .non
  | .bool b, _, h => by cases h; exact .bl b
  | .int i, _, h => by cases h; exact .int i
  | .str x, _, h => by cases h; exact .str x
  | .list ds, _, h => by cases h with | lst n e q => exact n.elim
  | .tuple ds, _, h => by cases h with | tup e q => exact .tup (s _ _ e fun xs z => by cases z) (DEs.kp s q)
  | .dict [], _, h => by cases h with | emp e => exact .emp (s _ _ e fun xs z => by cases z)
  | .dict (_ :: _), _, h => by cases h
theorem DEs.kp {H H' : Hp} (s : Kp H H') : ∀ {ds : List PyData} {vs : List V}, DEs NoL H vs ds → DEs NoL H' vs ds
  | [], _, h => by cases h; exact .nil
  | d :: ds, _, h => by cases h with | cons h1 h2 => exact .cons (DE.kp s h1) (DEs.kp s h2)
end
theorem DEs.take {N : Addr → Prop} {H : Hp} : ∀ {ds : List PyData} {vs : List V} (n : Nat), DEs N H vs ds → DEs N H (vs.take n) (ds.take n)
  | _, _, 0, _ => .nil
  | [], _, n + 1, h => by cases h; exact .nil
  | d :: ds, _, n + 1, h => by cases h with | cons h1 h2 => exact .cons h1 (DEs.take n h2)
theorem DEs.drop {N : Addr → Prop} {H : Hp} : ∀ {ds : List PyData} {vs : List V} (n : Nat), DEs N H vs ds → DEs N H (vs.drop n) (ds.drop n)
  | _, _, 0, h => h
  | [], _, n + 1, h => by cases h; exact .nil
  | d :: ds, _, n + 1, h => by cases h with | cons h1 h2 => exact DEs.drop n h2
theorem DEs.app {N : Addr → Prop} {H : Hp} {es : List PyData} {us : List V} (g : DEs N H us es) : ∀ {ds : List PyData} {vs : List V}, DEs N H vs ds → DEs N H (vs ++ us) (ds ++ es)
  | [], _, h => by cases h; exact g
  | d :: ds, _, h => by cases h with | cons h1 h2 => exact .cons h1 (DEs.app g h2)
theorem DEs.cut {N : Addr → Prop} {H : Hp} {ds : List PyData} {vs : List V} (lo hi : Option Int) (h : DEs N H vs ds) : ∃ es, DEs N H (cutV vs lo hi) es ∧ (okDs ds = true → okDs es = true) :=
  ⟨(ds.drop (HT.sIx vs.length 0 lo)).take (HT.sIx vs.length vs.length hi - HT.sIx vs.length 0 lo), DEs.take _ (DEs.drop _ h), fun o => okDs_of fun d hd => okDs_mem o d (List.mem_of_mem_drop (List.mem_of_mem_take hd))⟩
theorem okDs_app {ds es : List PyData} (h : okDs ds = true) (g : okDs es = true) : okDs (ds ++ es) = true := okDs_of fun d hd => by
  rcases List.mem_append.mp hd with hd | hd
  · exact okDs_mem h d hd
  · exact okDs_mem g d hd
theorem okDs_take {ds : List PyData} {n : Nat} (h : okDs ds = true) : okDs (ds.take n) = true := okDs_of fun d hd => okDs_mem h d (List.mem_of_mem_take hd)
theorem okDs_drop {ds : List PyData} {n : Nat} (h : okDs ds = true) : okDs (ds.drop n) = true := okDs_of fun d hd => okDs_mem h d (List.mem_of_mem_drop hd)
/-! ### displays of tuples whose texts are the law's -/
def tOk (c : L2.St → Prop) : TE := fun σ H Q => c σ ∧ ∀ v d H', Same H H' → DE NoL H' v d → okD d = true → Q v H'
def tOks (c : L2.St → Prop) (n : Nat) : TA := fun σ H Q => c σ ∧ ∀ vs ds H', Same H H' → DEs NoL H' vs ds → okDs ds = true → ds.length = n → Q vs H'
section
variable {X : Cx} {e : Expr} {es : List Expr} {t t' : TE} {pos : Pos} {c : L2.St → Prop} {n : Nat}
theorem okc_str {x j} (h : okS x = true) : PE X (.Constant (.str x) j pos) (tOk c) := pe_weak pe_str fun σ H Q q => q.2 _ _ _ (Same.refl _) (.str x) h
theorem okc_int {i j} : PE X (.Constant (.int i) j pos) (tOk c) := pe_weak pe_int fun σ H Q q => q.2 _ _ _ (Same.refl _) (.int i) rfl
theorem okc_of (h : PE X e t) (w : ∀ σ H (Q : VK), c σ → (∀ i : Int, Q (.int i) H) → t σ H Q) : PE X e (tOk c) := pe_weak h fun σ H Q q => w σ H Q q.1 fun i => q.2 _ _ _ (Same.refl _) (.int i) rfl
theorem okc_neg {i j pos'} : PE X (.UnaryOp .USub (.Constant (.int i) j pos') pos) (tOk c) := okc_of (pe_un un_neg pe_int) fun σ H Q _ q => ⟨_, rfl, q _⟩
theorem okc_var {i : Nat} (h : PE X e (tVar i)) (w : ∀ σ, c σ → ∃ s, σ[i]? = some (some (.str s)) ∧ okS s = true) : PE X e (tOk c) := pe_weak h fun σ H Q q => by
  obtain ⟨s, e, o⟩ := w σ q.1
  exact ⟨_, e, q.2 _ _ _ (Same.refl _) (.str s) o⟩
theorem okcs_nil : PA X [] (tOks c 0) := pa_weak pa_nil fun σ H Q q => q.2 _ _ _ (Same.refl _) .nil rfl rfl
theorem okcs_cons (h : PE X e (tOk c)) (hs : PA X es (tOks c n)) (he : starEach (e :: es) X.env = (false, eval e X.env) :: starEach es X.env := by rfl) : PA X (e :: es) (tOks c (n + 1)) := pa_weak (pa_cons h hs he) fun σ H Q q =>
  ⟨q.1, fun v d H1 s1 h1 o1 => ⟨q.1, fun vs ds H2 s2 h2 o2 l => q.2 _ (d :: ds) _ (s1.trans s2) (.cons (h1.same s2) h2) (by show (okD d && okDs ds) = true; rw [o1, o2]; rfl) (by rw [List.length_cons, l])⟩⟩
theorem okc_tup {x1} (h : PA X es (tOks c n)) (hn : n ≤ 1000) : PE X (.Tuple es x1 pos) (tOk c) := pe_weak (pe_tup h) fun σ H Q q =>
  ⟨q.1, fun vs ds H' s hd o l => ⟨by rw [DEs.len hd, l, sizeLine_eq]; exact Nat.le_trans hn (by decide), fun p hp => q.2 _ (.tuple ds) _ (s.trans (same_new hp)) (.tup upd_same (hd.same (same_new hp))) o⟩⟩
end
/-- a slice of a tuple -/
def rSlD : V → Option Int → Option Int → Hp → VK → Prop := fun x lo hi H Q => ∃ a xs, x = .ref a ∧ H a = some (.tup xs) ∧ ∀ b H', Same H H' → H' b = some (.tup (cutV xs lo hi)) → Q (.ref b) H'
theorem cut_whole {xs : List V} {lo hi : Option Int} (h : HT.sIx xs.length 0 lo = 0 ∧ HT.sIx xs.length xs.length hi = xs.length) : cutV xs lo hi = xs := by
  unfold cutV
  rw [h.1, h.2]
  simp
/-- two tuples, one behind the other -/
def rCatD : R2 := fun x y H Q => ∃ a b xs ys, x = .ref a ∧ y = .ref b ∧ H a = some (.tup xs) ∧ H b = some (.tup ys) ∧ xs.length + ys.length ≤ sizeLine ∧ ∀ c H', Same H H' → H' c = some (.tup (xs ++ ys)) → Q (.ref c) H'
section
variable {X : Cx}
theorem sl_dat : SlR X rSlD := by
  intro pins s σ H x v vl vu lo hi sl Q I rx hs pl pu h
  obtain ⟨a, xs, rfl, h, q⟩ := h
  exact sl_tupA pins s σ H _ v vl vu lo hi sl Q I rx hs pl pu ⟨a, xs, rfl, SqT.of h, fun e => q a H (Same.refl _) (by rw [cut_whole e]; exact h), fun _ p np => q p _ (same_new np) upd_same⟩
theorem op_catD : OpR X (binaryOp .Add) rCatD := by
  intro pins s σ H x y v u Q I rx ry h
  obtain ⟨a, b, xs, ys, rfl, rfl, ha, hb, hz, q⟩ := h
  exact op_catA pins s σ H _ _ v u Q I rx ry ⟨a, b, xs, ys, rfl, rfl, SqT.of ha, SqT.of hb, hz, fun e => q b H (Same.refl _) (by rw [e]; exact hb), fun _ e => q a H (Same.refl _) (by rw [e, List.append_nil]; exact ha), fun _ _ p np => q p _ (same_new np) upd_same⟩
end
/-- two ways that come to the same rest -/
theorem fork {α : Type} {G : Prop} {M C : α → Hp → Prop} (h : (∀ r H', C r H' → M r H') → G) (t : ∀ r H', C r H' → M r H') : G := h t
/-! ### bodies that are drawn -/
/-- all that stood stands, but for the pool and what is left -/
def But2 (p l : Addr) (H H' : Hp) : Prop := ∀ b o, H b = some o → b ≠ p → b ≠ l → H' b = some o
theorem But2.trans {p l : Addr} {H H1 H2 : Hp} (a : But2 p l H H1) (b : But2 p l H1 H2) : But2 p l H H2 := fun c o e n m => b c o (a c o e n m) n m
theorem But2.kp {p l : Addr} {xs ys : List V} {H H' : Hp} (e : H p = some (.lst xs)) (g : H l = some (.lst ys)) (b : But2 p l H H') : Kp H H' := fun c o h n => b c o h
  (fun z => by rw [z, e] at h; injection h with h; exact n xs h.symm) (fun z => by rw [z, g] at h; injection h with h; exact n ys h.symm)
theorem PoolAt.lst {H : Hp} {p : Addr} (h : PoolAt H p) : ∃ xs, H p = some (.lst xs) ∧ xs.length = 2 := let ⟨x, y, e, _⟩ := h; ⟨_, e, rfl⟩
theorem PoolAt.same {H H' : Hp} {p : Addr} (h : PoolAt H p) (s : Same H H') : PoolAt H' p := let ⟨x, y, e, q⟩ := h; ⟨x, y, s _ _ e, q⟩
/-- the heap within a drawing -/
structure Dst (H0 H : Hp) (p l f : Addr) (vs : List V) (ds : List PyData) (c : Int) : Prop where
  but : But2 p l H0 H
  pool : PoolAt H p
  left : H l = some (.lst [.int c])
  fnd : H f = some (.lst vs)
  items : DEs NoL H vs ds
  ok : okDs ds = true
  fresh : H0 f = none
  ne1 : f ≠ p
  ne2 : f ≠ l
  ne3 : p ≠ l
section
variable {H0 H H' : Hp} {p l f : Addr} {vs : List V} {ds : List PyData} {c : Int}
theorem Dst.same (D : Dst H0 H p l f vs ds c) (s : Same H H') : Dst H0 H' p l f vs ds c :=
  { D with but := fun b o e n m => s _ _ (D.but b o e n m), pool := D.pool.same s, left := s _ _ D.left, fnd := s _ _ D.fnd, items := DEs.same s D.items }
theorem Dst.take (D : Dst H0 H p l f vs ds c) (b : But p H H') (k : PoolAt H' p) : Dst H0 H' p l f vs ds c :=
  { D with but := fun x o e n m => b _ _ (D.but x o e n m) n, pool := k, left := b _ _ D.left D.ne3.symm, fnd := b _ _ D.fnd D.ne1, items := let ⟨_, e, _⟩ := D.pool.lst; DEs.kp (Kp.but e b) D.items }
theorem Dst.put (D : Dst H0 H p l f vs ds c) (c' : Int) : Dst H0 (upd H l (.lst [.int c'])) p l f vs ds c' :=
  { D with but := fun x o e n m => by rw [upd_ne m]; exact D.but x o e n m, pool := let ⟨x, y, e, q⟩ := D.pool; ⟨x, y, by rw [upd_ne D.ne3]; exact e, q⟩, left := upd_same, fnd := by rw [upd_ne D.ne2]; exact D.fnd, items := DEs.kp (Kp.but D.left But.upd) D.items }
theorem Dst.add (D : Dst H0 H p l f vs ds c) {v : V} {d : PyData} (hv : DE NoL H v d) (o : okD d = true) : Dst H0 (upd H f (.lst (vs ++ [v]))) p l f (vs ++ [v]) (ds ++ [d]) c :=
  have k : Kp H (upd H f (.lst (vs ++ [v]))) := Kp.but D.fnd But.upd
  { D with but := fun x o e n m => by rw [upd_ne (ne_of_none e D.fresh)]; exact D.but x o e n m, pool := let ⟨x, y, e, q⟩ := D.pool; ⟨x, y, by rw [upd_ne D.ne1.symm]; exact e, q⟩, left := by rw [upd_ne D.ne2.symm]; exact D.left, fnd := upd_same, items := DEs.app (.cons (DE.kp k hv) .nil) (DEs.kp k D.items), ok := okDs_app D.ok (by show (okD d && true) = true; rw [o]; rfl) }
theorem Dst.deep (D : Dst H0 H p l f vs ds c) (b : But2 p l H H') (k : PoolAt H' p) {c' : Int} (e : H' l = some (.lst [.int c'])) : Dst H0 H' p l f vs ds c' :=
  { D with but := D.but.trans b, pool := k, left := e, fnd := b _ _ D.fnd D.ne1 D.ne2, items := let ⟨_, e, _⟩ := D.pool.lst; DEs.kp (But2.kp e D.left b) D.items }
theorem Dst.len (D : Dst H0 H p l f vs ds c) : vs.length = ds.length := DEs.len D.items
end
/-- the name that is drawn -/
def cN : L2.St → Prop := fun σ => ∃ s, σ[6]? = some (some (.str s)) ∧ okS s = true
section
variable {P : Program} {w : World} {K : PySem.W.Frag} {mg : Str → Option Value} {base : Heap}
def spDrawn (R : Nat) : Sp := fun vs H Q _ => ∃ (p l : Addr) (c dep : Int), vs = [.ref p, .ref l, .int dep] ∧ dep = 4 - (R : Int) ∧ PoolAt H p ∧ H l = some (.lst [.int c]) ∧
  ∀ t ds H', But2 p l H H' → PoolAt H' p → (∃ c' : Int, H' l = some (.lst [.int c'])) → DE NoL H' t (.tuple ds) → okDs ds = true → ds.length ≤ 4 → Q t H'
def NLR : List Str := ["_law_pool_here", "_law_left", "_law_depth", "_law_found", "_law_turn", "_law_kind", "_law_name", "_law_parts", "_law_some", "_law_one"]
def NLRp : List Str := ["_law_pool_here", "_law_left", "_law_depth"]
theorem scDrawn : FnScope NLR NLRp (defScope sDrawn) := ⟨rfl, rfl, rfl, by decide +kernel, rfl, by decide +kernel, by decide +kernel⟩
theorem ok_drawnR {R k : Nat} {sp : Sp} (hR : R = 0 ∨ (R ≤ 3 ∧ sp = spDrawn (R - 1))) (hk : 1 ≤ k) {f ft : Addr} {fd fdt : FuncData} (F : Fun K "_law_drawn" "_law_drawn" sDrawn f fd) (T : Txt1 mg)
    (GLT : FnOk P w K mg base CX0 1 ft fdt ["_law_pool_here", "_law_many_here"] spTake) (bLT : Binds K fdt ["_law_pool_here", "_law_many_here"] []) (mLT : mg "_law_take" = some (.ref ft)) (kLT : PySem.W.keepIn K (.ref ft) = true)
    (GDR : FnOk P w K mg base CX0 k f fd NLRp sp) (bDR : Binds K fd NLRp []) (mDR : mg "_law_drawn" = some (.ref f)) (kDR : PySem.W.keepIn K (.ref f) = true) : FnOk P w K mg base CX0 (k + 1) f fd NLRp (spDrawn R) := by
  refine F.ok scDrawn (fun vs H Q E h => ?_) (fun cdv A outer s H vs Q E hr h => ?_)
  · obtain ⟨p, l, c, dep, rfl, _⟩ := h
    rfl
  · obtain ⟨p, l, c, dep, rfl, rfl, hp, hl, q⟩ := h
    have hr1 := hr.mono (show 1 ≤ k from hk)
    have hz : sizeLine = 16777216 := sizeLine_eq
    refine ⟨_, (pss_cons (ps_set (i := 3) scDrawn.nd rfl (.inl rfl) (pe_lst pa_nil))
      (pss_cons (ps_for PassesOwn.never rfl (pi_range1 (by rfl) T.rng (pa_cons (pe_op op_add pe_int (pe_call GLT hr1 (by rfl) mLT kLT bLT .nil pass0 (pa_cons (pv 0) (pa_cons pe_int pa_nil)))) pa_nil)) (pg_name (i := 4) scDrawn.nd rfl (.inl rfl))
        (pss_cons (ps_set (i := 5) scDrawn.nd rfl (.inl rfl) (pe_call GLT hr1 (by rfl) mLT kLT bLT .nil pass0 (pa_cons (pv 0) (pa_cons (pe_ifExp (pt_cmpR op_lt (pv 2) pe_int (nomark _)) pe_int pe_int) pa_nil))))
        (pss_cons (ps_asg (pe_op op_sub (pe_ix ix_list (pv 1) pe_int (fun _ _ => rfl)) pe_int) (pg_sub (pv 1) pe_int set_list))
        (pss_cons (ps_if (pt_cmpR op_lt (pe_ix ix_list (pv 1) pe_int (fun _ _ => rfl)) pe_int (nomark _))
          (pss_one ps_break) pss_nil)
        (pss_cons (ps_set (i := 6) scDrawn.nd rfl (.inl rfl) (pe_ix ix_list (pe_lst (pa_cons pe_str (pa_cons pe_str (pa_cons pe_str pa_nil)))) (pe_call GLT hr1 (by rfl) mLT kLT bLT .nil pass0 (pa_cons (pv 0) (pa_cons pe_int pa_nil))) (fun _ _ => rfl)))
        (pss_cons (ps_set (i := 7) scDrawn.nd rfl (.inl rfl) (pe_tup (pa_cons (pe_tup (pa_cons pe_non (pa_cons (pe_op op_sub (pe_call GLT hr1 (by rfl) mLT kLT bLT .nil pass0 (pa_cons (pv 0) (pa_cons pe_int pa_nil))) pe_int) pa_nil))) (okcs_cons (c := cN) (okc_tup (okcs_cons (okc_var (pv 6) fun _ z => z) (okcs_cons (okc_str (by decide +kernel)) okcs_nil)) (by decide)) (okcs_cons (okc_tup (okcs_cons (okc_str (by decide +kernel)) (okcs_cons (okc_of (pe_op op_sub pe_int (pe_op op_pow pe_int pe_int)) fun _ _ _ _ q => ⟨_, _, rfl, rfl, ⟨by decide, by decide, by decide⟩, _, _, rfl, rfl, q _⟩) okcs_nil)) (by decide)) (okcs_cons (okc_tup (okcs_cons (okc_str (by decide +kernel)) (okcs_cons (okc_of (pe_op op_pow pe_int pe_int) fun _ _ _ _ q => ⟨_, _, rfl, rfl, ⟨by decide, by decide, by decide⟩, q _⟩) okcs_nil)) (by decide)) okcs_nil))))))
        (pss_cons (ps_set (i := 8) scDrawn.nd rfl (.inl rfl) (pe_lst (pa_cons (pe_tup (pa_cons pe_str (pa_cons pe_str (pa_cons (pe_slice sl_dat (pv 7) po_none (po_some (pe_op op_add pe_int (pe_call GLT hr1 (by rfl) mLT kLT bLT .nil pass0 (pa_cons (pv 0) (pa_cons pe_int pa_nil)))))) pa_nil)))) (okcs_cons (c := cN) (okc_tup (okcs_cons (okc_str (by decide +kernel)) (okcs_cons (okc_var (pv 6) fun _ z => z) (okcs_cons (okc_tup (okcs_cons (okc_tup (okcs_cons (okc_var (pv 6) fun _ z => z) (okcs_cons okc_int okcs_nil)) (by decide)) okcs_nil) (by decide)) okcs_nil))) (by decide)) (okcs_cons (okc_tup (okcs_cons (okc_str (by decide +kernel)) (okcs_cons (okc_var (pv 6) fun _ z => z) (okcs_cons okc_neg (okcs_cons okc_int okcs_nil)))) (by decide)) okcs_nil)))))
        (pss_cons (ps_set (i := 8) scDrawn.nd rfl (.inl rfl) (pe_op op_cat (pv 8) (pe_lst (okcs_cons (c := cN) (okc_tup (okcs_cons (okc_str (by decide +kernel)) (okcs_cons (okc_var (pv 6) fun _ z => z) okcs_nil)) (by decide)) (okcs_cons (okc_tup (okcs_cons (okc_str (by decide +kernel)) (okcs_cons (okc_var (pv 6) fun _ z => z) okcs_nil)) (by decide)) (okcs_cons (okc_tup (okcs_cons (okc_str (by decide +kernel)) (okcs_cons (okc_var (pv 6) fun _ z => z) (okcs_cons (okc_str (by decide +kernel)) okcs_nil))) (by decide)) (okcs_cons (okc_tup (okcs_cons (okc_str (by decide +kernel)) (okcs_cons (okc_str (by decide +kernel)) (okcs_cons (okc_var (pv 6) fun _ z => z) (okcs_cons okc_int (okcs_cons okc_int okcs_nil))))) (by decide)) okcs_nil)))))))
        (pss_one (ps_if (pt_cmpR op_lt (pv 5) pe_int (nomark _))
          (pss_one (ps_expr (pe_bm PySem.F.plainAttrs_list PySem.F.slot_list_append PySem.F.type_list_append mt_append (pv 3) (pa_cons (pe_ix ix_list (pv 8) (pv 5) (fun _ _ => rfl)) pa_nil)))) (pss_one (ps_if (pt_cmpR op_eq (pv 5) pe_int (nomark _))
            (pss_cons (ps_set (i := 9) scDrawn.nd rfl (.inl rfl) (pe_call GDR hr (by rfl) mDR kDR bDR .nil pass0 (pa_cons (pv 0) (pa_cons (pv 1) (pa_cons (pe_op op_add (pv 2) pe_int) pa_nil)))))
            (pss_one (ps_expr (pe_bm PySem.F.plainAttrs_list PySem.F.slot_list_append PySem.F.type_list_append mt_append (pv 3) (pa_cons (pe_tup (pa_cons pe_str (pa_cons (pv 9) (pa_cons (pe_call GDR hr (by rfl) mDR kDR bDR .nil pass0 (pa_cons (pv 0) (pa_cons (pv 1) (pa_cons (pe_op op_add (pv 2) pe_int) pa_nil)))) pa_nil)))) pa_nil))))) (pss_one (ps_expr (pe_bm PySem.F.plainAttrs_list PySem.F.slot_list_append PySem.F.type_list_append mt_append (pv 3) (pa_cons (pe_tup (pa_cons pe_str (pa_cons (pv 6) (pa_cons (pe_call GDR hr (by rfl) mDR kDR bDR .nil pass0 (pa_cons (pv 0) (pa_cons (pv 1) (pa_cons (pe_op op_add (pv 2) pe_int) pa_nil)))) pa_nil)))) pa_nil))))))))))))))))
      (pss_one (ps_ret (pe_callTy call_tuple_of (by rfl) T.tuple_ (by decide +kernel) (pa_cons (pv 3) pa_nil)))))), ?_⟩
    refine ⟨(by show 0 ≤ sizeLine; omega), fun f0 nf => ?_⟩
    have D0 : Dst H (upd H f0 (.lst [])) p l f0 [] [] c := by
      have sf := same_new (o := .lst []) nf
      obtain ⟨xs, ep, e2⟩ := hp.lst
      exact { but := fun b o e _ _ => sf _ _ e, pool := hp.same sf, left := sf _ _ hl, fnd := upd_same, items := .nil, ok := rfl, fresh := nf, ne1 := (ne_of_none ep nf).symm, ne2 := (ne_of_none hl nf).symm, ne3 := fun e => by rw [e, hl] at ep; injection ep with ep; injection ep with ep; rw [← ep] at e2; cases e2 }
    generalize upd H f0 (.lst []) = H1 at D0 ⊢
    refine ⟨_, rfl, p, 4, rfl, D0.pool, by decide, by decide, fun r H2 r0 r1 pa bp => ?_⟩
    have D2 := D0.take bp pa
    have fin : ∀ {H' : Hp} {vs : List V} {ds : List PyData} {c : Int}, Dst H H' p l f0 vs ds c → ds.length ≤ 4 → ∀ t, H' t = none → Q (.ref t) (upd H' t (.tup vs)) := by
      intro H' vs ds c D hl t nt
      have D' := D.same (same_new (o := .tup vs) nt)
      exact q (.ref t) ds _ D'.but D'.pool ⟨c, D'.left⟩ (.tup upd_same D'.items) D'.ok hl
    refine ⟨_, _, rfl, rfl, 1 + r, rfl, by omega, by omega, for_range (lo := 0)
      (fun i σ H' => ∃ v4 v5 v6 v7 v8 v9, σ = [some (.ref p), some (.ref l), some (.int (4 - (R : Int))), some (.ref f0), v4, v5, v6, v7, v8, v9] ∧ ∃ vs ds c, Dst H H' p l f0 vs ds c ∧ ds.length ≤ i)
      ⟨none, none, none, none, none, none, rfl, [], [], c, D2, Nat.le_refl _⟩ ?_ ?_⟩
    rotate_left
    · rintro σ H3 ⟨v4, v5, v6, v7, v8, v9, rfl, vs, ds, c2, D3, hlen⟩
      exact ⟨_, rfl, f0, _, rfl, .inl ⟨SqL.of D3.fnd, fin D3 (by omega)⟩⟩
    rintro i σ H3 hi ⟨v4, v5, v6, v7, v8, v9, rfl, vs, ds, c2, D3, hlen⟩
    have i3 : i ≤ 3 := by omega
    refine fork (C := fun (r : Int) H' => 0 ≤ r ∧ (r < 7 ∨ (r < 9 ∧ 1 ≤ R)) ∧ PoolAt H' p ∧ But p H3 H') (fun turn => ⟨_, rfl, _, rfl, _, _, rfl, rfl, _, rfl,
      ite2 (fun y => ⟨p, 9, rfl, D3.pool, by decide, by decide, fun r H' r0 r1 pa bp => turn r H' ⟨r0, .inr ⟨r1, by have := of_decide_eq_true y; omega⟩, pa, bp⟩⟩) (fun _ => ⟨p, 7, rfl, D3.pool, by decide, by decide, fun r H' r0 r1 pa bp => turn r H' ⟨r0, .inl r1, pa, bp⟩⟩)⟩) ?_
    rintro kd H4 ⟨k0, k1, pa4, bp4⟩
    have D4 := D3.take bp4 pa4
    clear D3 bp4 pa4
    refine ⟨_, rfl, l, _, _, _, rfl, rfl, SqL.of D4.left, atI_nat (j := 0) rfl, _, _, rfl, rfl, _, rfl, l, _, _, 0, rfl, rfl, D4.left, rfl, ?_⟩
    have D5 : Dst H (upd H4 l (.lst ([V.int c2].set 0 (.int (c2 - 1))))) p l f0 vs ds (c2 - 1) := D4.put (c2 - 1)
    generalize upd H4 l (.lst ([V.int c2].set 0 (.int (c2 - 1)))) = H5 at D5 ⊢
    clear D4
    refine ⟨_, rfl, l, _, _, _, rfl, rfl, SqL.of D5.left, atI_nat (j := 0) rfl, _, _, rfl, rfl, _, rfl, ?_⟩
    refine ite2 (fun _ => ⟨_, rfl, f0, _, rfl, .inl ⟨SqL.of D5.fnd, fin D5 (by omega)⟩⟩) (fun _ => ?_)
    refine ⟨(by show 3 ≤ sizeLine; omega), fun t1 nt1 => ⟨_, rfl, p, 3, rfl, (D5.same (same_new nt1)).pool, by decide, by decide, fun nm H7 n0 n1 pa7 bp7 => ?_⟩⟩
    have D7 := (D5.same (same_new nt1)).take bp7 pa7
    have t1p : t1 ≠ p := by
      obtain ⟨_, e, _⟩ := D5.pool.lst
      exact (ne_of_none e nt1).symm
    have h71 : H7 t1 = some (.lst [.str "x", .str "abcdefgh", .str "go"]) := bp7 _ _ upd_same t1p
    clear D5 pa7 bp7 t1p
    obtain ⟨s, hs, oks⟩ : ∃ s, atI [V.str "x", .str "abcdefgh", .str "go"] nm = some (.str s) ∧ okS s = true := by
      have n3 : nm = 0 ∨ nm = 1 ∨ nm = 2 := by omega
      rcases n3 with rfl | rfl | rfl
      · exact ⟨_, atI_nat (j := 0) rfl, by decide +kernel⟩
      · exact ⟨_, atI_nat (j := 1) rfl, by decide +kernel⟩
      · exact ⟨_, atI_nat (j := 2) rfl, by decide +kernel⟩
    refine ⟨t1, _, _, _, rfl, rfl, SqL.of h71, hs, ?_⟩
    refine ⟨_, rfl, p, 9, rfl, D7.pool, by decide, by decide, fun a H8 a0 a1 pa8 bp8 => ⟨_, _, rfl, rfl, (by show 2 ≤ sizeLine; omega), fun t2 nt2 => ⟨⟨s, rfl, oks⟩, fun us es H9 s9 hus oes les => ⟨(by rw [List.length_cons, DEs.len hus, les]; omega), fun t3 nt3 => ?_⟩⟩⟩⟩
    have D9 := ((D7.take bp8 pa8).same (same_new (o := .tup [.non, .int (a - 4)]) nt2)).same s9
    have D10 := D9.same (same_new (o := .tup (.ref t2 :: us)) nt3)
    have t3p : t3 ≠ p := by
      obtain ⟨_, e, _⟩ := D9.pool.lst
      exact (ne_of_none e nt3).symm
    have hT : upd H9 t3 (.tup (.ref t2 :: us)) t3 = some (.tup (.ref t2 :: us)) := upd_same
    have hI : DEs NoL (upd H9 t3 (.tup (.ref t2 :: us))) (.ref t2 :: us) (.tuple [.none, .int (a - 4)] :: es) := DEs.same (same_new nt3) (.cons (.tup (s9 _ _ upd_same) (.cons .non (.cons (.int _) .nil))) hus)
    have hO : okDs (.tuple [.none, .int (a - 4)] :: es) = true := by
      show (okD (.tuple [.none, .int (a - 4)]) && okDs es) = true
      rw [oes]
      rfl
    generalize upd H9 t3 (.tup (.ref t2 :: us)) = H10 at D10 hT hI ⊢
    clear D9 D7 bp8 pa8 h71 nt3 hus
    refine ⟨_, rfl, _, rfl, p, 4, rfl, D10.pool, by decide, by decide, fun b H11 b0 b1 pa11 bp11 => ?_⟩
    have D11 := D10.take bp11 pa11
    have hT11 := bp11 _ _ hT t3p
    have hI11 := DEs.kp (let ⟨_, e, _⟩ := D10.pool.lst; Kp.but e bp11) hI
    obtain ⟨es', cu1, cu2⟩ := DEs.cut none (some (1 + b)) hI11
    refine ⟨_, _, rfl, rfl, _, rfl, t3, _, rfl, hT11, fun t5 H12 s12 h12 => ?_⟩
    have hv11 : DE NoL H12 (.ref t5) (.tuple es') := .tup h12 (DEs.same s12 cu1)
    have ok11 : okD (.tuple es') = true := cu2 hO
    generalize PyData.tuple es' = d11 at hv11 ok11
    generalize V.ref t5 = v11 at hv11 ⊢
    have D12 := D11.same s12
    clear D10 D11 hT hI bp11 pa11 hT11 hI11
    refine ⟨(by show 3 ≤ sizeLine; omega), fun t4 nt4 => ⟨⟨s, rfl, oks⟩, fun us2 es2 H13 s13 hus2 oes2 les2 => ⟨(by rw [List.length_cons, DEs.len hus2, les2]; omega), fun q1 nq1 => ?_⟩⟩⟩
    have D14 := ((D12.same (same_new (o := .tup [.str "set", .str "x", v11]) nt4)).same s13).same (same_new (o := .lst (.ref t4 :: us2)) nq1)
    have hL14 : upd H13 q1 (.lst (.ref t4 :: us2)) q1 = some (.lst (.ref t4 :: us2)) := upd_same
    have hI14 : DEs NoL (upd H13 q1 (.lst (.ref t4 :: us2))) (.ref t4 :: us2) (.tuple [.str "set", .str "x", d11] :: es2) :=
      DEs.same (same_new nq1) (.cons (.tup (s13 _ _ upd_same) (.cons (.str _) (.cons (.str _) (.cons ((hv11.same (same_new nt4)).same s13) .nil)))) hus2)
    have hO14 : okDs (.tuple [.str "set", .str "x", d11] :: es2) = true := by
      show ((okS "set" && (okS "x" && (okD d11 && true))) && okDs es2) = true
      rw [oes2, ok11]
      decide +kernel
    generalize upd H13 q1 (.lst (.ref t4 :: us2)) = H14 at D14 hL14 hI14 ⊢
    clear D12 nq1 nt4 hus2 hv11 s13 s12
    refine ⟨_, rfl, ⟨s, rfl, oks⟩, fun us3 es3 H15 s15 hus3 oes3 les3 => ⟨(by rw [DEs.len hus3, les3]; omega), fun q2 nq2 => ⟨q1, q2, _, _, rfl, rfl, (same_new nq2) _ _ (s15 _ _ hL14), upd_same, (by rw [List.length_cons, DEs.len hus3, les3, DEs.len (DEs.same s15 hI14 |> fun z => (by cases z with | cons _ z => exact z)), les2]; omega), fun q3 nq3 => ?_⟩⟩⟩
    have D17 := ((D14.same s15).same (same_new (o := .lst us3) nq2)).same (same_new (o := .lst ((.ref t4 :: us2) ++ us3)) nq3)
    have hL17 : upd (upd H15 q2 (.lst us3)) q3 (.lst ((.ref t4 :: us2) ++ us3)) q3 = some (.lst ((.ref t4 :: us2) ++ us3)) := upd_same
    have hI17 : DEs NoL (upd (upd H15 q2 (.lst us3)) q3 (.lst ((.ref t4 :: us2) ++ us3))) ((.ref t4 :: us2) ++ us3) ((.tuple [.str "set", .str "x", d11] :: es2) ++ es3) :=
      DEs.same (same_new nq3) (DEs.same (same_new nq2) (DEs.app hus3 (DEs.same s15 hI14)))
    have hO17 := okDs_app hO14 oes3
    have hN17 : ((.tuple [.str "set", .str "x", d11] :: es2) ++ es3).length = 7 := by rw [List.length_append, List.length_cons, les2, les3]
    generalize upd (upd H15 q2 (.lst us3)) q3 (.lst ((.ref t4 :: us2) ++ us3)) = H17 at D17 hL17 hI17 ⊢
    generalize (V.ref t4 :: us2) ++ us3 = all at hL17 hI17 ⊢
    generalize (PyData.tuple [.str "set", .str "x", d11] :: es2) ++ es3 = alld at hI17 hO17 hN17
    clear D14 hL14 hI14 hO14 hus3 nq2 nq3 s15
    have sz : vs.length < sizeLine := by rw [D17.len]; omega
    refine ⟨_, rfl, _, _, rfl, rfl, _, rfl, ?_⟩
    by_cases hk7 : kd < 7
    · obtain ⟨kn, rfl⟩ : ∃ n : Nat, kd = n := ⟨kd.toNat, by omega⟩
      have hlt : kn < all.length := by rw [DEs.len hI17, hN17]; omega
      obtain ⟨d, hd, hv⟩ := DEs.at_ hI17 (List.getElem?_eq_getElem hlt)
      exact ifT (decide_eq_true hk7) ⟨_, rfl, .inl ⟨rfl, _, SqL.of D17.fnd⟩, _, rfl, _, rfl, q3, _, _, _, rfl, rfl, SqL.of hL17, atI_nat (List.getElem?_eq_getElem hlt), f0, _, _, rfl, rfl, D17.fnd, sz,
        _, _, _, _, _, _, rfl, _, _, _, D17.add hv (okDs_mem hO17 d (List.mem_of_getElem? hd)), by rw [List.length_append]; exact Nat.succ_le_succ hlen⟩
    · obtain ⟨k9, hR1⟩ : kd < 9 ∧ 1 ≤ R := k1.resolve_left hk7
      obtain ⟨R', rfl⟩ : ∃ n, R = n + 1 := ⟨R - 1, by omega⟩
      obtain ⟨hR3, rfl⟩ := hR.resolve_left (by omega)
      refine ifF (decide_eq_false hk7) ⟨_, rfl, rfl, _, rfl, ?_⟩
      by_cases h7 : kd = 7
      · refine ifT (by rw [h7]; simp) ⟨_, rfl, _, rfl, _, rfl, _, _, rfl, rfl, p, l, _, _, rfl, (by omega), D17.pool, D17.left, fun v5 ds5 H18 b18 pa18 l18 h18 o18 n18 => ?_⟩
        obtain ⟨c18, l18⟩ := l18
        have D18 := D17.deep b18 pa18 l18
        refine ⟨_, rfl, .inl ⟨rfl, _, SqL.of D18.fnd⟩, _, rfl, _, rfl, _, rfl, _, rfl, _, _, rfl, rfl, p, l, _, _, rfl, (by omega), D18.pool, D18.left, fun v6 ds6 H19 b19 pa19 l19 h19 o19 n19 => ⟨(by show 3 ≤ sizeLine; omega), fun t7 nt7 => ?_⟩⟩
        obtain ⟨c19, l19⟩ := l19
        have D19 := (D18.deep b19 pa19 l19).same (same_new (o := .tup [.str "either", v5, v6]) nt7)
        have h18' := (DE.kp (let ⟨_, e, _⟩ := D18.pool.lst; But2.kp e D18.left b19) h18).same (same_new (o := .tup [.str "either", v5, v6]) nt7)
        refine ⟨f0, _, _, rfl, rfl, D19.fnd, sz, _, _, _, _, _, _, rfl, _, _, _, D19.add (d := .tuple [.str "either", .tuple ds5, .tuple ds6]) (.tup upd_same (.cons (.str _) (.cons h18' (.cons (h19.same (same_new nt7)) .nil)))) ?_, by rw [List.length_append]; exact Nat.succ_le_succ hlen⟩
        show (okS "either" && (okDs ds5 && (okDs ds6 && true))) = true
        rw [o18, o19]
        decide +kernel
      · refine ifF (decide_eq_false fun z => h7 (by injection z)) ⟨_, rfl, .inl ⟨rfl, _, SqL.of D17.fnd⟩, _, rfl, _, rfl, _, rfl, _, rfl, _, _, rfl, rfl, p, l, _, _, rfl, (by omega), D17.pool, D17.left, fun v5 ds5 H18 b18 pa18 l18 h18 o18 n18 => ⟨(by show 3 ≤ sizeLine; omega), fun t7 nt7 => ?_⟩⟩
        obtain ⟨c18, l18⟩ := l18
        have D18 := (D17.deep b18 pa18 l18).same (same_new (o := .tup [.str "loop", .str s, v5]) nt7)
        refine ⟨f0, _, _, rfl, rfl, D18.fnd, sz, _, _, _, _, _, _, rfl, _, _, _, D18.add (d := .tuple [.str "loop", .str s, .tuple ds5]) (.tup upd_same (.cons (.str _) (.cons (.str _) (.cons (h18.same (same_new nt7)) .nil)))) ?_, by rw [List.length_append]; exact Nat.succ_le_succ hlen⟩
        show (okS "loop" && (okS s && (okDs ds5 && true))) = true
        rw [o18, oks]
        decide +kernel
end
end K01

set_option Elab.async false
set_option linter.all false
set_option maxRecDepth 100000
set_option maxHeartbeats 16000000
set_option pp.maxSteps 900
namespace K01
open PySem PySem.Spec PyProof.Rows L2 Lm LmSet
/-! ### displays of any data whose texts are the law's, off the pool -/
abbrev Np (p : Addr) : Addr → Prop := fun a => a ≠ p
mutual
theorem DE.bp {N : Addr → Prop} {p : Addr} {xs : List V} {H H' : Hp} (hN : ∀ a, N a → a ≠ p) (e : H p = some (.lst xs)) (s : But p H H') : ∀ {d : PyData} {v : V}, DE N H v d → DE N H' v d
  | .none, _, h => by cases h; exact .non
  | .bool b, _, h => by cases h; exact .bl b
  | .int i, _, h => by cases h; exact .int i
  | .str x, _, h => by cases h; exact .str x
  | .list ds, _, h => by cases h with | lst n g q => exact .lst n (s _ _ g (hN _ n)) (DEs.bp hN e s q)
  | .tuple ds, _, h => by cases h with | tup g q => exact .tup (s _ _ g fun z => by rw [z, e] at g; cases g) (DEs.bp hN e s q)
  | .dict [], _, h => by cases h with | emp g => exact .emp (s _ _ g fun z => by rw [z, e] at g; cases g)
  | .dict (_ :: _), _, h => by cases h
theorem DEs.bp {N : Addr → Prop} {p : Addr} {xs : List V} {H H' : Hp} (hN : ∀ a, N a → a ≠ p) (e : H p = some (.lst xs)) (s : But p H H') : ∀ {ds : List PyData} {vs : List V}, DEs N H vs ds → DEs N H' vs ds
  | [], _, h => by cases h; exact .nil
  | d :: ds, _, h => by cases h with | cons h1 h2 => exact .cons (DE.bp hN e s h1) (DEs.bp hN e s h2)
end
mutual
/-- lists that stand are at other addresses than what is new -/
theorem DE.mono {N N' : Addr → Prop} {H : Hp} (hN : ∀ a xs, H a = some (.lst xs) → N a → N' a) : ∀ {d : PyData} {v : V}, DE N H v d → DE N' H v d
  | .none, _, h => by cases h; exact .non
  | .bool b, _, h => by cases h; exact .bl b
  | .int i, _, h => by cases h; exact .int i
  | .str x, _, h => by cases h; exact .str x
  | .list ds, _, h => by cases h with | lst n g q => exact .lst (hN _ _ g n) g (DEs.mono hN q)
  | .tuple ds, _, h => by cases h with | tup g q => exact .tup g (DEs.mono hN q)
  | .dict [], _, h => by cases h with | emp g => exact .emp g
  | .dict (_ :: _), _, h => by cases h
theorem DEs.mono {N N' : Addr → Prop} {H : Hp} (hN : ∀ a xs, H a = some (.lst xs) → N a → N' a) : ∀ {ds : List PyData} {vs : List V}, DEs N H vs ds → DEs N' H vs ds
  | [], _, h => by cases h; exact .nil
  | d :: ds, _, h => by cases h with | cons h1 h2 => exact .cons (DE.mono hN h1) (DEs.mono hN h2)
end
/-- off the pool and off one more -/
abbrev Nq (p q : Addr) : Addr → Prop := fun a => a ≠ p ∧ a ≠ q
theorem DEs.new {p q : Addr} {H : Hp} {vs : List V} {ds : List PyData} (n : H q = none) (h : DEs (Np p) H vs ds) : DEs (Nq p q) H vs ds := DEs.mono (fun a xs e k => ⟨k, ne_of_none e n⟩) h
theorem DEs.old {p q : Addr} {H : Hp} {vs : List V} {ds : List PyData} (h : DEs (Nq p q) H vs ds) : DEs (Np p) H vs ds := DEs.mono (fun a xs e k => k.1) h
def tOa (p : Addr) : TE := fun σ H Q => PoolAt H p ∧ ∀ v d H', Same H H' → DE (Np p) H' v d → okD d = true → Q v H'
def tOas (p : Addr) (n : Nat) : TA := fun σ H Q => PoolAt H p ∧ ∀ vs ds H', Same H H' → DEs (Np p) H' vs ds → okDs ds = true → ds.length = n → Q vs H'
/-- a list of such data -/
structure OL (p : Addr) (H : Hp) (q : Addr) (n : Nat) : Prop where
  pool : PoolAt H p
  ne : q ≠ p
  ex : ∃ vs ds, H q = some (.lst vs) ∧ DEs (Nq p q) H vs ds ∧ okDs ds = true ∧ ds.length = n
theorem OL.same {p : Addr} {H H' : Hp} {q : Addr} {n : Nat} (o : OL p H q n) (s : Same H H') : OL p H' q n := ⟨o.pool.same s, o.ne, let ⟨vs, ds, e, d, k, l⟩ := o.ex; ⟨vs, ds, s _ _ e, DEs.same s d, k, l⟩⟩
def tOl (p : Addr) (n : Nat) : TE := fun σ H Q => PoolAt H p ∧ ∀ q H', Same H H' → OL p H' q n → Q (.ref q) H'
def tCatV (p : Addr) (m n : Nat) : TE := fun σ H Q => ∃ q, σ[1]? = some (some (.ref q)) ∧ OL p H q m ∧ ∀ q H', Same H H' → OL p H' q n → Q (.ref q) H'
def tCatN (p : Addr) (m n : Nat) : TE := fun σ H Q => ∃ q, σ[1]? = some (some (.ref q)) ∧ OL p H q m ∧ ∀ q H', H q = none → Same H H' → OL p H' q n → Q (.ref q) H'
theorem none_of {H H' : Hp} {a : Addr} (s : Same H H') (n : H' a = none) : H a = none := by
  cases e : H a with
  | none => rfl
  | some o => rw [s _ _ e] at n; cases n
theorem PoolAt.ne {H : Hp} {p a : Addr} (h : PoolAt H p) (n : H a = none) : a ≠ p := by
  obtain ⟨_, e, _⟩ := h.lst
  exact (ne_of_none e n).symm
section
variable {X : Cx} {e : Expr} {es : List Expr} {t t' : TE} {pos : Pos} {p : Addr} {m n k : Nat}
theorem oka_str {x j} (h : okS x = true) : PE X (.Constant (.str x) j pos) (tOa p) := pe_weak pe_str fun σ H Q q => q.2 _ _ _ (Same.refl _) (.str x) h
theorem oka_int {i j} : PE X (.Constant (.int i) j pos) (tOa p) := pe_weak pe_int fun σ H Q q => q.2 _ _ _ (Same.refl _) (.int i) rfl
theorem oka_bl {b j} : PE X (.Constant (.bool b) j pos) (tOa p) := pe_weak pe_bl fun σ H Q q => q.2 _ _ _ (Same.refl _) (.bl b) rfl
theorem oka_non {j} : PE X (.Constant .none j pos) (tOa p) := pe_weak pe_non fun σ H Q q => q.2 _ _ _ (Same.refl _) .non rfl
theorem oka_emp : PE X (.Dict [] [] pos) (tOa p) := pe_weak pe_dnewK fun σ H Q q d nd => q.2 _ _ _ (same_new nd) (.emp upd_same) rfl
theorem oka_of (h : PE X e t) (w : ∀ σ H (Q : VK), (∀ i : Int, Q (.int i) H) → t σ H Q) : PE X e (tOa p) := pe_weak h fun σ H Q q => w σ H Q fun i => q.2 _ _ _ (Same.refl _) (.int i) rfl
theorem okas_nil : PA X [] (tOas p 0) := pa_weak pa_nil fun σ H Q q => q.2 _ _ _ (Same.refl _) .nil rfl rfl
theorem okas_cons (h : PE X e (tOa p)) (hs : PA X es (tOas p n)) (he : starEach (e :: es) X.env = (false, eval e X.env) :: starEach es X.env := by rfl) : PA X (e :: es) (tOas p (n + 1)) := pa_weak (pa_cons h hs he) fun σ H Q q =>
  ⟨q.1, fun v d H1 s1 h1 o1 => ⟨q.1.same s1, fun vs ds H2 s2 h2 o2 l => q.2 _ (d :: ds) _ (s1.trans s2) (.cons (h1.same s2) h2) (by show (okD d && okDs ds) = true; rw [o1, o2]; rfl) (by rw [List.length_cons, l])⟩⟩
theorem oka_tup {x1} (h : PA X es (tOas p n)) (hn : n ≤ 1000) : PE X (.Tuple es x1 pos) (tOa p) := pe_weak (pe_tup h) fun σ H Q q =>
  ⟨q.1, fun vs ds H' s hd o l => ⟨by rw [DEs.len hd, l, sizeLine_eq]; exact Nat.le_trans hn (by decide), fun a ha => q.2 _ (.tuple ds) _ (s.trans (same_new ha)) (.tup upd_same (hd.same (same_new ha))) o⟩⟩
theorem okl_lst (h : PA X es (tOas p n)) (hn : n ≤ 1000) : PE X (.List es pos) (tOl p n) := pe_weak (pe_lst h) fun σ H Q q =>
  ⟨q.1, fun vs ds H' s hd o l => ⟨by rw [DEs.len hd, l, sizeLine_eq]; exact Nat.le_trans hn (by decide), fun a ha => q.2 _ _ (s.trans (same_new ha)) ⟨(q.1.same s).same (same_new ha), (q.1.same s).ne ha, vs, ds, upd_same, (DEs.new ha hd).same (same_new ha), o, l⟩⟩⟩
theorem oka_lst (h : PA X es (tOas p n)) (hn : n ≤ 1000) : PE X (.List es pos) (tOa p) := pe_weak (okl_lst h hn) fun σ H Q q =>
  ⟨q.1, fun a H' s z => let ⟨_, ds, e, hd, o, _⟩ := z.ex; q.2 _ (.list ds) _ s (.lst z.ne e (DEs.old hd)) o⟩
theorem cat_var (h : PE X e (tVar 1)) : PE X e (tCatV p m m) := pe_weak h fun σ H Q q => by
  obtain ⟨a, e, o, q⟩ := q
  exact ⟨_, e, q a H (Same.refl _) o⟩
theorem cat_wk (h : PE X e (tCatN p m n)) : PE X e (tCatV p m n) := pe_weak h fun σ H Q q => by
  obtain ⟨a, e, o, q⟩ := q
  exact ⟨a, e, o, fun b H' _ => q b H'⟩
theorem cat_add {e2 : Expr} (h : PE X e (tCatV p m n)) (h2 : PE X e2 (tOl p k)) (hz : n + k ≤ 1000) : PE X (.BinOp e .Add e2 pos) (tCatN p m (n + k)) := pe_weak (pe_op op_cat h h2) fun σ H Q q => by
  obtain ⟨a, e, o, q⟩ := q
  refine ⟨a, e, o, fun q1 H1 s1 o1 => ⟨o1.pool, fun q2 H2 s2 o2 => ?_⟩⟩
  obtain ⟨vs, ds, e1, d1, k1, l1⟩ := (o1.same s2).ex
  obtain ⟨us, es, e2, d2, k2, l2⟩ := o2.ex
  refine ⟨q1, q2, vs, us, rfl, rfl, e1, e2, ?_, fun q3 nq3 => q q3 _ (none_of (s1.trans s2) nq3) ((s1.trans s2).trans (same_new nq3)) ⟨o2.pool.same (same_new nq3), o2.pool.ne nq3, vs ++ us, ds ++ es, upd_same, DEs.same (same_new nq3) (DEs.new nq3 (DEs.app (DEs.old d2) (DEs.old d1))), okDs_app k1 k2, by rw [List.length_append, l1, l2]⟩⟩
  rw [DEs.len d1, DEs.len d2, l1, l2, sizeLine_eq]
  exact Nat.le_trans hz (by decide)
end
section
variable {P : Program} {w : World} {K : PySem.W.Frag} {mg : Str → Option Value} {base : Heap}
def spOdd : Sp := fun vs H Q _ => ∃ (p : Addr), vs = [.ref p] ∧ PoolAt H p ∧ ∀ v d H', But p H H' → PoolAt H' p → DE (Np p) H' v d → okD d = true → Q v H'
def NLQ : List Str := ["_law_pool_here", "_law_odd_here", "_law_name"]
theorem scOdd : FnScope NLQ ["_law_pool_here"] (defScope sOdd) := ⟨rfl, rfl, rfl, by decide +kernel, rfl, by decide +kernel, by decide +kernel⟩
theorem ok_odd {f ft : Addr} {fd fdt : FuncData} (F : Fun K "_law_odd" "_law_odd" sOdd f fd) (T : Txt1 mg)
    (GLT : FnOk P w K mg base CX0 1 ft fdt ["_law_pool_here", "_law_many_here"] spTake) (bLT : Binds K fdt ["_law_pool_here", "_law_many_here"] []) (mLT : mg "_law_take" = some (.ref ft)) (kLT : PySem.W.keepIn K (.ref ft) = true) : FnOk P w K mg base CX0 2 f fd ["_law_pool_here"] spOdd := by
  refine F.ok scOdd (fun vs H Q E h => ?_) (fun cdv A outer s H vs Q E hr h => ?_)
  · obtain ⟨p, rfl, _⟩ := h
    rfl
  · obtain ⟨p, rfl, hp, q⟩ := h
    have hz : sizeLine = 16777216 := sizeLine_eq
    refine ⟨_, (pss_cons (ps_set (i := 1) scOdd.nd rfl (.inl rfl) (okl_lst (p := p) (okas_cons (oka_tup (okas_cons (oka_str (by decide +kernel)) (okas_cons (oka_str (by decide +kernel)) (okas_cons (oka_tup okas_nil (by decide)) okas_nil))) (by decide)) (okas_cons (oka_tup (okas_cons (oka_str (by decide +kernel)) (okas_cons (oka_str (by decide +kernel)) (okas_cons (oka_tup (okas_cons (oka_tup (okas_cons (oka_str (by decide +kernel)) (okas_cons oka_int okas_nil)) (by decide)) (okas_cons (oka_tup (okas_cons (oka_str (by decide +kernel)) (okas_cons oka_int okas_nil)) (by decide)) okas_nil)) (by decide)) okas_nil))) (by decide)) (okas_cons (oka_tup (okas_cons (oka_str (by decide +kernel)) (okas_cons (oka_str (by decide +kernel)) (okas_cons (oka_tup (okas_cons (oka_tup (okas_cons oka_non (okas_cons oka_int okas_nil)) (by decide)) (okas_cons (oka_tup (okas_cons oka_non (okas_cons oka_int okas_nil)) (by decide)) okas_nil)) (by decide)) okas_nil))) (by decide)) (okas_cons (oka_tup (okas_cons (oka_str (by decide +kernel)) (okas_cons (oka_str (by decide +kernel)) okas_nil)) (by decide)) (okas_cons (oka_tup okas_nil (by decide)) okas_nil))))) (by decide)))
      (pss_cons (ps_set (i := 1) scOdd.nd rfl (.inl rfl) (cat_add (cat_var (p := p) (m := 5) (pv 1)) (okl_lst (p := p) (okas_cons (oka_tup (okas_cons (oka_str (by decide +kernel)) (okas_cons (oka_str (by decide +kernel)) (okas_cons (oka_tup (okas_cons (oka_tup (okas_cons (oka_str (by decide +kernel)) (okas_cons oka_int (okas_cons oka_int okas_nil))) (by decide)) okas_nil) (by decide)) okas_nil))) (by decide)) (okas_cons (oka_tup (okas_cons (oka_str (by decide +kernel)) (okas_cons (oka_str (by decide +kernel)) (okas_cons (oka_lst (okas_cons (oka_tup (okas_cons (oka_str (by decide +kernel)) (okas_cons oka_int okas_nil)) (by decide)) okas_nil) (by decide)) okas_nil))) (by decide)) (okas_cons (oka_tup (okas_cons (oka_str (by decide +kernel)) (okas_cons (oka_str (by decide +kernel)) (okas_cons (oka_tup (okas_cons (oka_lst (okas_cons (oka_str (by decide +kernel)) (okas_cons oka_int okas_nil)) (by decide)) okas_nil) (by decide)) okas_nil))) (by decide)) okas_nil))) (by decide)) (by decide)))
      (pss_cons (ps_set (i := 1) scOdd.nd rfl (.inl rfl) (cat_add (cat_var (p := p) (m := 8) (pv 1)) (okl_lst (p := p) (okas_cons (oka_tup (okas_cons (oka_str (by decide +kernel)) (okas_cons oka_int (okas_cons (oka_tup (okas_cons (oka_tup (okas_cons (oka_str (by decide +kernel)) (okas_cons oka_int okas_nil)) (by decide)) okas_nil) (by decide)) okas_nil))) (by decide)) okas_nil) (by decide)) (by decide)))
      (pss_cons (ps_set (i := 1) scOdd.nd rfl (.inl rfl) (cat_add (cat_var (p := p) (m := 9) (pv 1)) (okl_lst (p := p) (okas_cons (oka_tup (okas_cons (oka_str (by decide +kernel)) (okas_cons (oka_str (by decide +kernel)) (okas_cons (oka_tup (okas_cons (oka_tup (okas_cons (oka_str (by decide +kernel)) (okas_cons oka_bl okas_nil)) (by decide)) okas_nil) (by decide)) okas_nil))) (by decide)) (okas_cons (oka_tup (okas_cons (oka_str (by decide +kernel)) (okas_cons (oka_str (by decide +kernel)) (okas_cons (oka_tup (okas_cons (oka_tup (okas_cons (oka_str (by decide +kernel)) (okas_cons oka_non okas_nil)) (by decide)) okas_nil) (by decide)) okas_nil))) (by decide)) (okas_cons (oka_tup (okas_cons (oka_str (by decide +kernel)) (okas_cons (oka_str (by decide +kernel)) (okas_cons (oka_tup (okas_cons (oka_tup (okas_cons (oka_str (by decide +kernel)) (okas_cons oka_int okas_nil)) (by decide)) okas_nil) (by decide)) okas_nil))) (by decide)) (okas_cons oka_non okas_nil)))) (by decide)) (by decide)))
      (pss_cons (ps_set (i := 1) scOdd.nd rfl (.inl rfl) (cat_add (cat_var (p := p) (m := 13) (pv 1)) (okl_lst (p := p) (okas_cons oka_int (okas_cons (oka_str (by decide +kernel)) okas_nil)) (by decide)) (by decide)))
      (pss_cons (ps_set (i := 1) scOdd.nd rfl (.inl rfl) (cat_add (cat_var (p := p) (m := 15) (pv 1)) (okl_lst (p := p) (okas_cons (oka_tup (okas_cons (oka_str (by decide +kernel)) (okas_cons (oka_str (by decide +kernel)) (okas_cons (oka_tup (okas_cons (oka_tup (okas_cons (oka_str (by decide +kernel)) (okas_cons (oka_of (pe_op op_add (pe_op op_pow pe_int pe_int) pe_int) fun _ _ _ q => ⟨_, _, rfl, rfl, ⟨by decide, by decide, by decide⟩, _, _, rfl, rfl, q _⟩) okas_nil)) (by decide)) okas_nil) (by decide)) okas_nil))) (by decide)) (okas_cons (oka_tup (okas_cons (oka_str (by decide +kernel)) (okas_cons (oka_str (by decide +kernel)) (okas_cons (oka_tup (okas_cons (oka_tup (okas_cons (oka_str (by decide +kernel)) (okas_cons (oka_of (pe_op op_sub (pe_op op_sub pe_int (pe_op op_pow pe_int pe_int)) pe_int) fun _ _ _ q => ⟨_, _, rfl, rfl, ⟨by decide, by decide, by decide⟩, _, _, rfl, rfl, _, _, rfl, rfl, q _⟩) okas_nil)) (by decide)) okas_nil) (by decide)) okas_nil))) (by decide)) (okas_cons (oka_tup (okas_cons (oka_str (by decide +kernel)) okas_nil) (by decide)) okas_nil))) (by decide)) (by decide)))
      (pss_cons (ps_expr (pe_bm PySem.F.plainAttrs_list PySem.F.slot_list_append PySem.F.type_list_append mt_append (pv 1) (pa_cons (pe_tup (pa_cons pe_str (pa_cons pe_str (pa_cons (pe_callTy call_tuple_of (by rfl) T.tuple_ (by decide +kernel) (pa_cons (pe_lc (own := [("_law_name", 2)]) (g := (gName 2)) (tt := tYes) (by rfl) scOdd.nd (pi_str pe_str) (blkOk_by (N := NLQ) (sc := defScope sOdd) (by decide +kernel)) (fun _ _ _ _ _ => pg_name (i := 2) scOdd.nd rfl (Or.inl rfl)) (fun _ _ _ _ _ => pts_nil) (fun _ _ _ _ _ => (pe_tup (pa_cons (pv 2) (pa_cons pe_int pa_nil))))) pa_nil)) pa_nil)))) pa_nil)))
      (pss_cons (ps_set (i := 1) scOdd.nd rfl (.inl rfl) (cat_add (cat_var (p := p) (m := 19) (pv 1)) (okl_lst (p := p) (okas_cons (oka_tup (okas_cons (oka_str (by decide +kernel)) (okas_cons (oka_str (by decide +kernel)) (okas_cons oka_int (okas_cons oka_int okas_nil)))) (by decide)) (okas_cons (oka_tup (okas_cons (oka_str (by decide +kernel)) (okas_cons (oka_str (by decide +kernel)) (okas_cons oka_int okas_nil))) (by decide)) (okas_cons (oka_tup (okas_cons (oka_str (by decide +kernel)) (okas_cons (oka_str (by decide +kernel)) (okas_cons oka_int (okas_cons (oka_of (pe_op op_add (pe_op op_pow pe_int pe_int) pe_int) fun _ _ _ q => ⟨_, _, rfl, rfl, ⟨by decide, by decide, by decide⟩, _, _, rfl, rfl, q _⟩) okas_nil)))) (by decide)) (okas_cons (oka_tup (okas_cons (oka_str (by decide +kernel)) (okas_cons (oka_str (by decide +kernel)) (okas_cons (oka_str (by decide +kernel)) (okas_cons oka_int okas_nil)))) (by decide)) okas_nil)))) (by decide)) (by decide)))
      (pss_cons (ps_set (i := 1) scOdd.nd rfl (.inl rfl) (cat_add (cat_wk (cat_add (cat_var (p := p) (m := 23) (pv 1)) (okl_lst (p := p) (okas_cons (oka_tup (okas_cons (oka_str (by decide +kernel)) (okas_cons (oka_tup okas_nil (by decide)) okas_nil)) (by decide)) (okas_cons (oka_tup (okas_cons (oka_str (by decide +kernel)) (okas_cons (oka_tup okas_nil (by decide)) (okas_cons (oka_lst okas_nil (by decide)) okas_nil))) (by decide)) okas_nil)) (by decide)) (by decide))) (okl_lst (p := p) (okas_cons (oka_tup (okas_cons (oka_str (by decide +kernel)) (okas_cons (oka_str (by decide +kernel)) (okas_cons oka_non okas_nil))) (by decide)) (okas_cons (oka_tup (okas_cons (oka_str (by decide +kernel)) (okas_cons (oka_str (by decide +kernel)) (okas_cons (oka_tup okas_nil (by decide)) okas_nil))) (by decide)) (okas_cons (oka_tup (okas_cons (oka_str (by decide +kernel)) (okas_cons (oka_str (by decide +kernel)) okas_nil)) (by decide)) okas_nil))) (by decide)) (by decide)))
      (pss_cons (ps_set (i := 1) scOdd.nd rfl (.inl rfl) (cat_add (cat_var (p := p) (m := 28) (pv 1)) (okl_lst (p := p) (okas_cons (oka_tup (okas_cons (oka_str (by decide +kernel)) (okas_cons (oka_tup (okas_cons (oka_str (by decide +kernel)) okas_nil) (by decide)) okas_nil)) (by decide)) (okas_cons (oka_tup (okas_cons (oka_str (by decide +kernel)) okas_nil) (by decide)) (okas_cons (oka_tup (okas_cons (oka_str (by decide +kernel)) (okas_cons (oka_str (by decide +kernel)) (okas_cons (oka_str (by decide +kernel)) okas_nil))) (by decide)) (okas_cons (oka_tup (okas_cons (oka_str (by decide +kernel)) (okas_cons (oka_str (by decide +kernel)) okas_nil)) (by decide)) (okas_cons (oka_tup (okas_cons (oka_str (by decide +kernel)) (okas_cons (oka_str (by decide +kernel)) (okas_cons oka_int okas_nil))) (by decide)) (okas_cons (oka_tup (okas_cons (oka_lst (okas_cons (oka_str (by decide +kernel)) okas_nil) (by decide)) (okas_cons oka_int (okas_cons oka_int okas_nil))) (by decide)) okas_nil)))))) (by decide)) (by decide)))
      (pss_cons (ps_set (i := 1) scOdd.nd rfl (.inl rfl) (cat_add (cat_var (p := p) (m := 34) (pv 1)) (okl_lst (p := p) (okas_cons (oka_tup (okas_cons (oka_str (by decide +kernel)) (okas_cons (oka_str (by decide +kernel)) (okas_cons (oka_str (by decide +kernel)) (okas_cons oka_int (okas_cons oka_int okas_nil))))) (by decide)) (okas_cons (oka_tup (okas_cons (oka_str (by decide +kernel)) (okas_cons (oka_str (by decide +kernel)) (okas_cons (oka_str (by decide +kernel)) (okas_cons oka_int (okas_cons oka_int okas_nil))))) (by decide)) (okas_cons (oka_tup (okas_cons (oka_str (by decide +kernel)) (okas_cons (oka_str (by decide +kernel)) (okas_cons (oka_str (by decide +kernel)) (okas_cons oka_non (okas_cons oka_int okas_nil))))) (by decide)) (okas_cons (oka_tup (okas_cons (oka_str (by decide +kernel)) okas_nil) (by decide)) okas_nil)))) (by decide)) (by decide)))
      (pss_cons (ps_set (i := 1) scOdd.nd rfl (.inl rfl) (cat_add (cat_var (p := p) (m := 38) (pv 1)) (okl_lst (p := p) (okas_cons (oka_lst (okas_cons (oka_str (by decide +kernel)) (okas_cons (oka_str (by decide +kernel)) okas_nil)) (by decide)) (okas_cons (oka_tup (okas_cons (oka_str (by decide +kernel)) (okas_cons (oka_tup (okas_cons (oka_tup (okas_cons (oka_str (by decide +kernel)) (okas_cons oka_int okas_nil)) (by decide)) okas_nil) (by decide)) (okas_cons (oka_tup okas_nil (by decide)) okas_nil))) (by decide)) (okas_cons (oka_tup (okas_cons (oka_str (by decide +kernel)) (okas_cons (oka_str (by decide +kernel)) (okas_cons (oka_tup (okas_cons (oka_tup okas_nil (by decide)) okas_nil) (by decide)) okas_nil))) (by decide)) (okas_cons (oka_tup (okas_cons (oka_str (by decide +kernel)) (okas_cons (oka_str (by decide +kernel)) okas_nil)) (by decide)) (okas_cons (oka_tup (okas_cons oka_emp (okas_cons oka_int okas_nil)) (by decide)) okas_nil))))) (by decide)) (by decide)))
      (pss_one (ps_ret (pe_ix ix_list (pv 1) (pe_call GLT hr (by rfl) mLT kLT bLT .nil pass0 (pa_cons (pv 0) (pa_cons (pe_callB call_len_seq (by rfl) T.len_ PySem.boot_len (pa_cons (pv 1) pa_nil)) pa_nil))) (fun _ _ => rfl)))))))))))))))), ?_⟩
    refine ⟨hp, fun q0 H0 s0 o0 => ?_⟩
    refine ⟨q0, rfl, o0, fun q1 H1 n1 s1 o1 => ?_⟩
    refine ⟨q1, rfl, o1, fun q2 H2 n2 s2 o2 => ?_⟩
    refine ⟨q2, rfl, o2, fun q3 H3 n3 s3 o3 => ?_⟩
    refine ⟨q3, rfl, o3, fun q4 H4 n4 s4 o4 => ?_⟩
    refine ⟨q4, rfl, o4, fun q5 H5 n5 s5 o5 => ?_⟩
    have s05 := ((((s0.trans s1).trans s2).trans s3).trans s4).trans s5
    obtain ⟨vs5, ds5, e5, d5, k5, l5⟩ := o5.ex
    have sz5 : vs5.length < sizeLine := by rw [DEs.len d5, l5]; omega
    have oks : ∀ c ∈ (("abcde" : Str)).cps.toList, okS ⟨#[c]⟩ = true := by decide +kernel
    refine ⟨_, rfl, .inl ⟨rfl, _, SqL.of e5⟩, "abcde", rfl, fun D nD => lc_it (walk_str (z := "abcde")) (fun i H' => Same H5 H' ∧ ∃ vs ds, H' D = some (.lst vs) ∧ DEs NoL H' vs ds ∧ okDs ds = true ∧ ds.length = i)
      ⟨same_new nD, [], [], upd_same, .nil, rfl, rfl⟩ (fun _ _ _ _ => trivial) (fun i u H1 H2 hi z y => ?_) (fun H' z => ?_)⟩
    · obtain ⟨rfl, c, hc, rfl⟩ := y
      obtain ⟨z1, vs, ds, hD, hI, hO, hL⟩ := z
      have i5 : i < 5 := hi
      have hc' : c ∈ (("abcde" : Str)).cps.toList := by
        have : (("abcde" : Str)).cps.toList[i]? = some c := by rw [← hc]; simp
        exact List.mem_of_getElem? this
      refine ⟨rfl, _, rfl, (by show 2 ≤ sizeLine; omega), fun t nt => ⟨vs, same_new nt _ _ hD, by rw [DEs.len hI, hL]; omega, fun b o eb => ?_, vs ++ [.ref t], ds ++ [.tuple [.str ⟨#[c]⟩, .int 1]], upd_same, ?_, ?_, by rw [List.length_append, hL]; rfl⟩⟩
      · rw [upd_ne (ne_of_none eb nD)]
        exact same_new nt _ _ (z1 _ _ eb)
      · exact DEs.kp (Kp.but (same_new nt _ _ hD) But.upd) (DEs.app (.cons (.tup upd_same (.cons (.str _) (.cons (.int _) .nil))) .nil) (DEs.same (same_new nt) hI))
      · refine okDs_app hO ?_
        show ((okS ⟨#[c]⟩ && true) && true) = true
        rw [oks c hc']
        rfl
    · obtain ⟨z1, vs, ds, hD, hI, hO, hL⟩ := z
      refine ⟨D, _, rfl, .inl ⟨SqL.of hD, fun t nt => ⟨(by show 3 ≤ sizeLine; omega), fun t2 nt2 => ?_⟩⟩⟩
      have st := (same_new (o := .tup vs) nt).trans (same_new (o := .tup [.str "set", .str "x", .ref t]) nt2)
      have o6 := (o5.same z1).same st
      have hv : DE (Nq p q5) (upd (upd H' t (.tup vs)) t2 (.tup [.str "set", .str "x", .ref t])) (.ref t2) (.tuple [.str "set", .str "x", .tuple ds]) :=
        .tup upd_same (.cons (.str _) (.cons (.str _) (.cons (.tup (same_new nt2 _ _ upd_same) (DEs.mono (fun a xs e k => k.elim) (DEs.same st hI))) .nil)))
      have s06 := (s05.trans z1).trans st
      have e6 := st _ _ (z1 _ _ e5)
      have d6 := DEs.same st (DEs.same z1 d5)
      generalize upd (upd H' t (.tup vs)) t2 (.tup [.str "set", .str "x", .ref t]) = H6 at o6 hv s06 e6 d6 ⊢
      have nq5 : H q5 = none := none_of ((((s0.trans s1).trans s2).trans s3).trans s4) n5
      refine ⟨q5, _, _, rfl, rfl, e6, sz5, ?_⟩
      have b7 : But q5 H6 (upd H6 q5 (.lst (vs5 ++ [.ref t2]))) := But.upd
      have o7 : OL p (upd H6 q5 (.lst (vs5 ++ [.ref t2]))) q5 19 := ⟨let ⟨x, y, e, k⟩ := o6.pool; ⟨x, y, by rw [upd_ne o6.ne.symm]; exact e, k⟩, o6.ne, _, _, upd_same,
        DEs.app (.cons (DE.bp (fun a k => k.2) e6 b7 hv) .nil) (DEs.bp (fun a k => k.2) e6 b7 d6), okDs_app k5 (by show ((okS "set" && (okS "x" && (okDs ds && true))) && true) = true; rw [hO]; decide +kernel), by rw [List.length_append, l5]; rfl⟩
      generalize upd H6 q5 (.lst (vs5 ++ [.ref t2])) = H7 at o7 b7 ⊢
      have b07 : Same H H7 := fun b o e => b7 _ _ (s06 _ _ e) (ne_of_none e nq5)
      refine ⟨q5, rfl, o7, fun q8 H8 n8 s8 o8 => ?_⟩
      refine ⟨q8, rfl, o8, fun q9 H9 n9 s9 o9 => ?_⟩
      refine ⟨q9, rfl, o9, fun q10 H10 n10 s10 o10 => ?_⟩
      refine ⟨q10, rfl, o10, fun q11 H11 n11 s11 o11 => ?_⟩
      refine ⟨q11, rfl, o11, fun q12 H12 n12 s12 o12 => ?_⟩
      have b12 : Same H H12 := ((((b07.trans s8).trans s9).trans s10).trans s11).trans s12
      obtain ⟨vs, ds, e12, d12, k12, l12⟩ := o12.ex
      have hlen : vs.length = 43 := by rw [DEs.len d12, l12]
      refine ⟨_, rfl, _, rfl, _, rfl, q12, _, rfl, .inl (SqL.of e12), p, _, rfl, o12.pool, by rw [hlen]; decide, by rw [hlen]; decide, fun r H13 r0 r1 pa bp => ?_⟩
      obtain ⟨_, ep, _⟩ := o12.pool.lst
      obtain ⟨rn, rfl⟩ : ∃ n : Nat, r = n := ⟨r.toNat, by omega⟩
      have hlt : rn < vs.length := by omega
      have d13 := DEs.bp (fun a k => k.1) ep bp d12
      obtain ⟨d, hd, hv⟩ := DEs.at_ d13 (List.getElem?_eq_getElem hlt)
      refine ⟨q12, _, _, _, rfl, rfl, SqL.of (bp _ _ e12 o12.ne), atI_nat (List.getElem?_eq_getElem hlt), ?_⟩
      exact q _ d H13 (fun b o e n => bp _ _ (b12 _ _ e) n) pa (DE.mono (fun a xs e k => k.1) hv) (okDs_mem k12 d (List.mem_of_getElem? hd))
end
end K01

set_option Elab.async false
set_option linter.all false
set_option maxRecDepth 100000
set_option maxHeartbeats 16000000
set_option pp.maxSteps 900
namespace K01
open PySem PySem.Spec PyProof.Rows L2 Lm LmSet
theorem call_reprB {X : Cx} : CallR X (.builtin "repr") (fun xs H Q => ∃ b, xs = [.bl b] ∧ Q (.str (PyData.bool b).shown) H) := by
  intro pins s σ H xs us Q I r h
  obtain ⟨b, rfl, q⟩ := h
  obtain ⟨u, rfl, ru⟩ := vals1 r
  obtain rfl : u = Value.bool b := ru
  exact PySem.P.repr_of_bool ⟨.str _, H, I.tok _, ⟨_, rfl⟩, q⟩
/-! ### what is known by hand -/
def deepD : PyData := .tuple [.str "loop", .str "l", .tuple [.tuple [.str "either", .tuple [.tuple [.str "loop", .str "m", .tuple [.tuple [.str "place", .str "p"]]]], .tuple []]]]
def rowsD (k : Nat) : PyData := .tuple ((List.replicate k [PyData.tuple [.str "place", .str "p"]]).flatten ++ [deepD])
theorem rows_ok : ∀ i < 5, okD (rowsD (34 + i)) = true ∧ bodyOk (rowsD (34 + i)) = decide (38 + i ≤ 40) := by decide +kernel
theorem deep_ok : okD (.tuple [deepD]) = true ∧ bodyOk (.tuple [deepD]) = true := by decide +kernel
theorem more_ok : okD (.tuple [.tuple [.str "loop", .str "k", .tuple [deepD]]]) = true ∧ bodyOk (.tuple [.tuple [.str "loop", .str "k", .tuple [deepD]]]) = false := by decide +kernel
theorem none_ok : bodyOk (.tuple []) = true := by decide +kernel
theorem DEs.rep {N : Addr → Prop} {H : Hp} {v : V} {d : PyData} (h : DE N H v d) : ∀ k : Nat, DEs N H (List.replicate k [v]).flatten (List.replicate k [d]).flatten
  | 0 => .nil
  | k + 1 => by
    rw [List.replicate_succ, List.replicate_succ]
    exact .cons h (DEs.rep h k)
section
variable {P : Program} {w : World} {K : PySem.W.Frag} {mg : Str → Option Value} {base : Heap}
theorem ok_drawn3 {f ft : Addr} {fd fdt : FuncData} (F : Fun K "_law_drawn" "_law_drawn" sDrawn f fd) (T : Txt1 mg)
    (GLT : FnOk P w K mg base CX0 1 ft fdt ["_law_pool_here", "_law_many_here"] spTake) (bLT : Binds K fdt ["_law_pool_here", "_law_many_here"] []) (mLT : mg "_law_take" = some (.ref ft)) (kLT : PySem.W.keepIn K (.ref ft) = true)
    (bDR : Binds K fd NLRp []) (mDR : mg "_law_drawn" = some (.ref f)) (kDR : PySem.W.keepIn K (.ref f) = true) : FnOk P w K mg base CX0 5 f fd NLRp (spDrawn 3) := by
  have no : FnOk P w K mg base CX0 1 f fd NLRp (fun _ _ _ _ => False) := F.ok scDrawn (fun vs H Q E h => h.elim) (fun cdv A outer s H vs Q E hr h => h.elim)
  have step : ∀ (R k : Nat), R + 1 ≤ 3 → 1 ≤ k → FnOk P w K mg base CX0 k f fd NLRp (spDrawn R) → FnOk P w K mg base CX0 (k + 1) f fd NLRp (spDrawn (R + 1)) := fun R k hR hk G => ok_drawnR (.inr ⟨hR, rfl⟩) hk F T GLT bLT mLT kLT G bDR mDR kDR
  exact step 2 4 (by decide) (by decide) (step 1 3 (by decide) (by decide) (step 0 2 (by decide) (by decide) (ok_drawnR (.inl rfl) (by decide) F T GLT bLT mLT kLT no bDR mDR kDR)))
def spRight : Sp := fun vs H Q _ => vs = [] ∧ ∀ H', Same H H' → Q (.bl true) H'
def NLZ : List Str := ["_law_deep", "_law_many_here", "_law_rows", "_law_more"]
theorem scRight : FnScope NLZ [] (defScope sRight) := ⟨rfl, rfl, rfl, by decide +kernel, rfl, by decide +kernel, by decide +kernel⟩
theorem ok_right {f fb : Addr} {fd fdb : FuncData} (F : Fun K "_law_known_right" "_law_known_right" sRight f fd) (T : Txt1 mg)
    (GIB : FnOk P w K mg base CX0 16 fb fdb ["value"] spIsBody) (bIB : Binds K fdb ["value"] []) (mIB : mg "is_body" = some (.ref fb)) (kIB : PySem.W.keepIn K (.ref fb) = true) : FnOk P w K mg base CX0 17 f fd [] spRight := by
  refine F.ok scRight (fun vs H Q E h => ?_) (fun cdv A outer s H vs Q E hr h => ?_)
  · obtain ⟨rfl, _⟩ := h
    rfl
  · obtain ⟨rfl, q⟩ := h
    have hz : sizeLine = 16777216 := sizeLine_eq
    refine ⟨_, (pss_cons (ps_set (i := 0) scRight.nd rfl (.inl rfl) (dat_tup (dats_cons dat_str (dats_cons dat_str (dats_cons (dat_tup (dats_cons (dat_tup (dats_cons dat_str (dats_cons (dat_tup (dats_cons (dat_tup (dats_cons dat_str (dats_cons dat_str (dats_cons (dat_tup (dats_cons (dat_tup (dats_cons dat_str (dats_cons dat_str dats_nil))) dats_nil)) dats_nil)))) dats_nil)) (dats_cons (dat_tup dats_nil) dats_nil)))) dats_nil)) dats_nil)))))
      (pss_cons (ps_for PassesOwn.never rfl (pi_range2 (by rfl) T.rng (pa_cons pe_int (pa_cons pe_int pa_nil))) (pg_name (i := 1) scRight.nd rfl (.inl rfl))
        (pss_cons (ps_set (i := 2) scRight.nd rfl (.inl rfl) (pe_op op_catD (pe_op op_repT (dat_tup (dats_cons (dat_tup (dats_cons dat_str (dats_cons dat_str dats_nil))) dats_nil)) (pe_op op_sub (pv 1) pe_int)) (pe_tup (pa_cons (pv 0) pa_nil))))
        (pss_one (ps_if (pt_cmpR op_ne (pe_callB call_reprB (by rfl) T.rep (by decide +kernel) (pa_cons (pe_call GIB hr (by rfl) mIB kIB bIB .nil pass0 (pa_cons (pv 2) pa_nil)) pa_nil)) (pe_callB call_reprB (by rfl) T.rep (by decide +kernel) (pa_cons (pe_cmpR op_le (pv 1) pe_int (nomark _)) pa_nil)) (nomark _))
          (pss_one (ps_ret pe_bl)) pss_nil))))
      (pss_cons (ps_set (i := 3) scRight.nd rfl (.inl rfl) (pe_tup (pa_cons (pe_tup (pa_cons pe_str (pa_cons pe_str (pa_cons (pe_tup (pa_cons (pv 0) pa_nil)) pa_nil)))) pa_nil)))
      (pss_one (ps_ret (pe_and (pe_cmpR op_is_bl (pe_call GIB hr (by rfl) mIB kIB bIB .nil pass0 (pa_cons (pe_tup (pa_cons (pv 0) pa_nil)) pa_nil)) pe_bl (nomark _)) (pe_and (pe_cmpR op_is_bl (pe_call GIB hr (by rfl) mIB kIB bIB .nil pass0 (pa_cons (pv 3) pa_nil)) pe_bl (nomark _)) (pe_one (pe_cmpR op_is_bl (pe_call GIB hr (by rfl) mIB kIB bIB .nil pass0 (pa_cons (pe_tup pa_nil) pa_nil)) pe_bl (nomark _)))))))))), ?_⟩
    refine ⟨by decide +kernel, fun v H1 s1 hv => ?_⟩
    have hv : DE Any H1 v deepD := DE.any hv
    refine ⟨_, _, rfl, ⟨by decide, by decide, by decide, by decide⟩, for_range (lo := 38) (n := 5) (fun i σ H' => ∃ v1 v2 v3, σ = [some v, v1, v2, v3] ∧ Same H1 H') ⟨_, _, _, rfl, Same.refl _⟩ ?_ ?_⟩
    · rintro i σ H2 hi ⟨v1, v2, v3, rfl, s2⟩
      refine ⟨by decide +kernel, fun vp H3 s3 hp => ?_⟩
      obtain ⟨a, xs, rfl, ha, hxs⟩ := DE.tup_inv hp
      obtain ⟨x, _, rfl, e, hx⟩ := DEs.one hxs rfl
      injection e with e
      subst e
      refine ⟨_, rfl, _, _, rfl, rfl, a, _, _, rfl, rfl, SqT.of ha, by simp, by omega, by omega, by show 1 ≤ 1000; decide, fun p np => ⟨_, rfl, (by show 1 ≤ sizeLine; omega), fun t nt => ?_⟩⟩
      refine ⟨p, t, _, _, rfl, rfl, same_new nt _ _ upd_same, upd_same, by simp; omega, fun c H4 s4 h4 => ?_⟩
      have eN : (38 + (i : Int) - 4).toNat = 34 + i := by omega
      rw [eN] at h4
      have s34 : Same H3 H4 := ((same_new np).trans (same_new nt)).trans s4
      have hrows : DE Any H4 (.ref c) (rowsD (34 + i)) := .tup h4 (DEs.same s34 (DEs.app (.cons (hv.same (s2.trans s3)) .nil) (DEs.rep (DE.any hx) _)))
      obtain ⟨ro, rb⟩ := rows_ok i hi
      have e : bodyOk (rowsD (34 + i)) = decide ((38 + (i : Int)) ≤ 40) := rb.trans (decide_eq_decide.mpr (by omega))
      refine ⟨_, rfl, .ref c, _, rfl, hrows, ro, fun H5 s5 => ⟨_, rfl, _, rfl, _, _, rfl, rfl, _, rfl, rfl, _, rfl, ?_⟩⟩
      rw [e]
      exact ifF (by simp) ⟨_, _, _, rfl, ((s2.trans s3).trans s34).trans s5⟩
    · rintro σ H2 ⟨v1, v2, v3, rfl, s2⟩
      refine ⟨_, rfl, (by show 1 ≤ sizeLine; omega), fun t1 n1 => ⟨(by show 3 ≤ sizeLine; omega), fun t2 n2 => ⟨(by show 1 ≤ sizeLine; omega), fun t3 n3 => ?_⟩⟩⟩
      have s6 := ((same_new (o := .tup [v]) n1).trans (same_new (o := .tup [.str "loop", .str "k", .ref t1]) n2)).trans (same_new (o := .tup [.ref t2]) n3)
      have hm : DE Any (upd (upd (upd H2 t1 (.tup [v])) t2 (.tup [.str "loop", .str "k", .ref t1])) t3 (.tup [.ref t2])) (.ref t3) (.tuple [.tuple [.str "loop", .str "k", .tuple [deepD]]]) :=
        .tup upd_same (.cons (.tup (same_new n3 _ _ upd_same) (.cons (.str _) (.cons (.str _) (.cons (.tup (same_new n3 _ _ (same_new n2 _ _ upd_same)) (.cons (hv.same (s2.trans s6)) .nil)) .nil)))) .nil)
      have s7 := s2.trans s6
      generalize upd (upd (upd H2 t1 (.tup [v])) t2 (.tup [.str "loop", .str "k", .ref t1])) t3 (.tup [.ref t2]) = H3 at hm s7 ⊢
      refine ⟨_, rfl, (by show 1 ≤ sizeLine; omega), fun t4 n4 => ⟨.ref t4, _, rfl, .tup upd_same (.cons (hv.same (s7.trans (same_new n4))) .nil), deep_ok.1, fun H5 s5 => ⟨_, _, rfl, rfl, _, rfl, ?_⟩⟩⟩
      have s8 := (same_new (o := .tup [v]) n4).trans s5
      rw [deep_ok.2]
      refine iteT ⟨_, rfl, .ref t3, _, rfl, hm.same s8, more_ok.1, fun H6 s9 => ⟨_, _, rfl, rfl, _, rfl, ?_⟩⟩
      rw [more_ok.2]
      refine iteT ⟨(by show 0 ≤ sizeLine; omega), fun t5 n5 => ⟨.ref t5, .tuple [], rfl, .tup upd_same .nil, rfl, fun H7 s10 => ⟨_, _, rfl, rfl, ?_⟩⟩⟩
      rw [none_ok]
      exact q H7 (((((s1.trans s7).trans s8).trans s9).trans (same_new n5)).trans s10)
end
end K01

set_option Elab.async false
set_option linter.all false
set_option maxRecDepth 100000
set_option maxHeartbeats 16000000
set_option pp.maxSteps 900
namespace K01
open PySem PySem.Spec PyProof.Rows L2 Lm LmSet
def firstD : List PyData := [.none, .int 5, .list [], .str "", .dict [], .list [.str "place", .str "a"], .tuple [.none], .tuple [.str "place", .str "a"], .list [.tuple [.str "place", .str "a"]]]
theorem first_ok : ∀ d ∈ firstD, okD d = true ∧ bodyOk d = false := by decide +kernel
section
variable {P : Program} {w : World} {K : PySem.W.Frag} {mg : Str → Option Value} {base : Heap}
def spLaw (K : PySem.W.Frag) : Sp := fun vs H Q _ => ∃ (sa : Addr) (ns : List Int), vs = [.ref sa] ∧ SqL K H sa (ns.map V.int) ∧ ns.length ≤ 63 ∧ ∀ H', Q (.bl true) H'
def NL : List Str := ["_law_script", "_law_value", "_law_k", "_law_pool_here", "_law_turn", "_law_body", "_law_at", "_law_odd_here", "_law_inner"]
theorem scLaw : FnScope NL ["_law_script"] (defScope sLaw) := ⟨rfl, rfl, rfl, by decide +kernel, rfl, by decide +kernel, by decide +kernel⟩
theorem ok_law {f fLP fLT fDR fOD fIB fBD fKR : Addr} {fd dLP dLT dDR dOD dIB dBD dKR : FuncData} (F : Fun K "law" "law" sLaw f fd) (T : Txt1 mg)
    (GLP : FnOk P w K mg base CX0 1 fLP dLP ["_law_script", "_law_k"] (spPool K)) (bLP : Binds K dLP ["_law_script", "_law_k"] []) (mLP : mg "_law_pool" = some (.ref fLP)) (kLP : PySem.W.keepIn K (.ref fLP) = true)
    (GLT : FnOk P w K mg base CX0 1 fLT dLT ["_law_pool_here", "_law_many_here"] spTake) (bLT : Binds K dLT ["_law_pool_here", "_law_many_here"] []) (mLT : mg "_law_take" = some (.ref fLT)) (kLT : PySem.W.keepIn K (.ref fLT) = true)
    (GDR : FnOk P w K mg base CX0 5 fDR dDR NLRp (spDrawn 3)) (bDR : Binds K dDR NLRp []) (mDR : mg "_law_drawn" = some (.ref fDR)) (kDR : PySem.W.keepIn K (.ref fDR) = true)
    (GOD : FnOk P w K mg base CX0 2 fOD dOD ["_law_pool_here"] spOdd) (bOD : Binds K dOD ["_law_pool_here"] []) (mOD : mg "_law_odd" = some (.ref fOD)) (kOD : PySem.W.keepIn K (.ref fOD) = true)
    (GIB : FnOk P w K mg base CX0 16 fIB dIB ["value"] spIsBody) (bIB : Binds K dIB ["value"] []) (mIB : mg "is_body" = some (.ref fIB)) (kIB : PySem.W.keepIn K (.ref fIB) = true)
    (GBD : FnOk P w K mg base CX0 12 fBD dBD ["_law_value"] spLBody) (bBD : Binds K dBD ["_law_value"] []) (mBD : mg "_law_is_body" = some (.ref fBD)) (kBD : PySem.W.keepIn K (.ref fBD) = true)
    (GKR : FnOk P w K mg base CX0 17 fKR dKR [] spRight) (bKR : Binds K dKR [] []) (mKR : mg "_law_known_right" = some (.ref fKR)) (kKR : PySem.W.keepIn K (.ref fKR) = true) : FnG P w K mg base CX0 18 f fd ["_law_script"] (spLaw K) := by
  refine FnG.ok F scLaw (fun vs H Q E h => ?_) (fun cdv A outer s H vs Q E hgA hr h => ?_)
  · obtain ⟨sa, ns, rfl, _⟩ := h
    rfl
  · obtain ⟨sa, ns, rfl, hS, hlen, kk⟩ := h
    have hr1 := hr.mono (show 1 ≤ 17 by decide)
    have hr2 := hr.mono (show 2 ≤ 17 by decide)
    have hr5 := hr.mono (show 5 ≤ 17 by decide)
    have hr12 := hr.mono (show 12 ≤ 17 by decide)
    have hr16 := hr.mono (show 16 ≤ 17 by decide)
    have hz : sizeLine = 16777216 := sizeLine_eq
    refine ⟨_, (pss_cons (ps_for PassesOwn.never rfl (pi_list (dat_lst (dats_cons dat_non (dats_cons dat_int (dats_cons (dat_lst dats_nil) (dats_cons dat_str (dats_cons dat_emp (dats_cons (dat_lst (dats_cons dat_str (dats_cons dat_str dats_nil))) (dats_cons (dat_tup (dats_cons dat_non dats_nil)) (dats_cons (dat_tup (dats_cons dat_str (dats_cons dat_str dats_nil))) (dats_cons (dat_lst (dats_cons (dat_tup (dats_cons dat_str (dats_cons dat_str dats_nil))) dats_nil)) dats_nil))))))))))) (pg_name (i := 1) scLaw.nd rfl (.inl rfl))
        (pss_one (ps_if (pt_cmpR op_isnot_bl (pe_call GIB hr16 (by rfl) mIB kIB bIB .nil pass0 (pa_cons (pv 1) pa_nil)) pe_bl (nomark _))
          (pss_one (ps_ret pe_bl)) pss_nil)))
      (pss_cons (ps_for PassesOwn.never rfl (pi_range1 (by rfl) T.rng (pa_cons (pe_callB (call_max2 rfl) (by rfl) T.max_ (by decide +kernel) (pa_cons pe_int (pa_cons (pe_callB (call_min2 rfl) (by rfl) T.min_ (by decide +kernel) (pa_cons pe_int (pa_cons (pe_callB call_len_seq (by rfl) T.len_ PySem.boot_len (pa_cons (pv 0) pa_nil)) pa_nil))) pa_nil))) pa_nil)) (pg_name (i := 2) scLaw.nd rfl (.inl rfl))
        (pss_cons (ps_set (i := 3) scLaw.nd rfl (.inl rfl) (pe_call GLP hr1 (by rfl) mLP kLP bLP .nil pass0 (pa_cons (pv 0) (pa_cons (pv 2) pa_nil))))
        (pss_one (ps_for PassesOwn.never rfl (pi_range1 (by rfl) T.rng (pa_cons pe_int pa_nil)) (pg_name (i := 4) scLaw.nd rfl (.inl rfl))
          (pss_cons (ps_set (i := 5) scLaw.nd rfl (.inl rfl) (pe_call GDR hr5 (by rfl) mDR kDR bDR .nil pass0 (pa_cons (pv 3) (pa_cons (pe_lst (pa_cons (pe_op op_add pe_int (pe_call GLT hr1 (by rfl) mLT kLT bLT .nil pass0 (pa_cons (pv 3) (pa_cons pe_int pa_nil)))) pa_nil)) (pa_cons pe_int pa_nil)))))
          (pss_cons (ps_set (i := 6) scLaw.nd rfl (.inl rfl) (pe_call GLT hr1 (by rfl) mLT kLT bLT .nil pass0 (pa_cons (pv 3) (pa_cons (pe_op op_add (pe_callB call_len_seq (by rfl) T.len_ PySem.boot_len (pa_cons (pv 5) pa_nil)) pe_int) pa_nil))))
          (pss_cons (ps_set (i := 7) scLaw.nd rfl (.inl rfl) (pe_call GOD hr2 (by rfl) mOD kOD bOD .nil pass0 (pa_cons (pv 3) pa_nil)))
          (pss_cons (ps_set (i := 8) scLaw.nd rfl (.inl rfl) (pe_tup (pa_cons (pe_tup (pa_cons pe_str (pa_cons pe_str (pa_cons (pe_tup (pa_cons (pv 7) pa_nil)) pa_nil)))) pa_nil)))
          (pss_one (ps_for PassesOwn.never rfl (pi_list (pe_lst (pa_cons (pv 5) (pa_cons (pe_callTy call_list_of (by rfl) T.list_ (by decide +kernel) (pa_cons (pv 5) pa_nil)) (pa_cons (pe_op op_catD (pe_op op_catD (pe_slice sl_dat (pv 5) po_none (po_some (pv 6))) (pe_tup (pa_cons (pv 7) pa_nil))) (pe_slice sl_dat (pv 5) (po_some (pv 6)) po_none)) (pa_cons (pe_op op_catD (pv 5) (pv 8)) (pa_cons (pe_tup (pa_cons (pe_tup (pa_cons pe_str (pa_cons (pe_tup pa_nil) (pa_cons (pv 5) pa_nil)))) pa_nil)) pa_nil))))))) (pg_name (i := 1) scLaw.nd rfl (.inl rfl))
            (pss_one (ps_if (pt_cmpR op_ne (pe_callB call_reprB (by rfl) T.rep (by decide +kernel) (pa_cons (pe_call GIB hr16 (by rfl) mIB kIB bIB .nil pass0 (pa_cons (pv 1) pa_nil)) pa_nil)) (pe_callB call_reprB (by rfl) T.rep (by decide +kernel) (pa_cons (pe_call GBD hr12 (by rfl) mBD kBD bBD .nil pass0 (pa_cons (pv 1) pa_nil)) pa_nil)) (nomark _))
              (pss_one (ps_ret pe_bl)) pss_nil))))))))))))
      (pss_one (ps_ret (pe_call0 GKR hr (by rfl) mKR kKR bKR .nil pass0))))), ?_⟩
    refine ⟨by decide +kernel, fun v0 H0 z0 hv0 => ?_⟩
    cases hv0 with
    | @lst L0 xs0 _ off e0 q0 =>
    refine ⟨L0, rfl, ⟨_, SqL.of e0⟩, for_list (K := K) (a := L0) (xs := xs0) (fun i σ H' => ∃ v1 v2 v3 v4 v5 v6 v7 v8, σ = [some (.ref sa), v1, v2, v3, v4, v5, v6, v7, v8] ∧ Same H0 H')
      ⟨_, _, _, _, _, _, _, _, rfl, Same.refl _⟩ (fun i σ H' _ ⟨_, _, _, _, _, _, _, _, _, z⟩ => SqL.of (z _ _ e0)) ?_ ?_⟩
    · rintro i x σ H1 hi ⟨v1, v2, v3, v4, v5, v6, v7, v8, rfl, s1⟩
      obtain ⟨d, hd, hx⟩ := DEs.at_ q0 hi
      obtain ⟨od, bd⟩ := first_ok d (List.mem_of_getElem? hd)
      refine ⟨_, rfl, x, d, rfl, DE.any (hx.same s1), od, fun H2 s2 => ⟨_, _, rfl, rfl, _, rfl, ?_⟩⟩
      rw [bd]
      exact ifF (by simp) ⟨_, _, _, _, _, _, _, _, rfl, s1.trans s2⟩
    rintro σ H1 ⟨v1, v2, v3, v4, v5, v6, v7, v8, rfl, s1⟩
    have z1 := z0.trans s1
    clear s1 q0 e0 off z0
    refine ⟨_, rfl, sa, _, rfl, .inl (z1.seq hS), _, _, rfl, _, _, rfl, _, rfl, (by split <;> (try split) <;> omega), (by split <;> (try split) <;> omega), for_range (lo := 0)
      (fun i σ H' => ∃ v1 v2 v3 v4 v5 v6 v7 v8, σ = [some (.ref sa), v1, v2, v3, v4, v5, v6, v7, v8] ∧ Same H H') ⟨_, _, _, _, _, _, _, _, rfl, z1⟩ ?_ ?_⟩
    rotate_left
    · rintro σ H' ⟨v1, v2, v3, v4, v5, v6, v7, v8, rfl, _⟩
      exact ⟨rfl, fun H'' _ => kk H''⟩
    rintro ki σ Ho hki ⟨v1, v2, v3, v4, v5, v6, v7, v8, rfl, zo⟩
    have hki : ki < 64 := by
      revert hki
      split <;> (try split) <;> omega
    refine ⟨_, rfl, _, rfl, sa, ki, ns, (by show [V.ref sa, V.int (0 + (ki : Int))] = _; rw [Int.zero_add]), zo.seq hS, hki, fun p Hp np pp sp => ?_⟩
    refine ⟨12, rfl, by decide, by decide, for_range (lo := 0) (n := 12)
      (fun i σ H' => ∃ v1 v2 v4 v5 v6 v7 v8, σ = [some (.ref sa), v1, v2, some (.ref p), v4, v5, v6, v7, v8] ∧ But p Ho H' ∧ PoolAt H' p) ⟨_, _, _, _, _, _, _, rfl, But.same sp, pp⟩ ?_ ?_⟩
    rotate_left
    · rintro σ H' ⟨v1, v2, v4, v5, v6, v7, v8, rfl, bo, _⟩
      exact ⟨_, _, _, _, _, _, _, _, rfl, fun b o e => bo b o (zo b o e) (ne_of_none (zo b o e) np)⟩
    rintro ti σ Ht _ ⟨v1, v2, v4, v5, v6, v7, v8, rfl, bo, pt⟩
    refine ⟨_, rfl, _, rfl, p, 20, rfl, pt, by decide, by decide, fun r H1 r0 r1 pa1 b1 => ⟨_, _, rfl, rfl, (by show 1 ≤ sizeLine; omega), fun l nl => ⟨p, l, _, 1, rfl, rfl, pa1.same (same_new nl), upd_same, fun t ds H2 b2 pa2 l2 hv o n4 => ?_⟩⟩⟩
    have bo2 : But p Ho H2 := fun b u e n => b2 _ _ (same_new nl _ _ (b1 _ _ (bo b u e n) n)) n (ne_of_none (b1 _ _ (bo b u e n) n) nl)
    obtain ⟨a, xs, rfl, ha, hxs⟩ := DE.tup_inv hv
    have hl : xs.length = ds.length := DEs.len hxs
    clear hv b2 b1 bo l2 pa1 nl
    refine ⟨_, rfl, _, rfl, a, _, rfl, .inr (SqT.of ha), _, _, rfl, rfl, p, _, rfl, pa2, by omega, Nat.lt_of_le_of_lt (show ((xs.length : Int) + 1).natAbs ≤ 5 by omega) (by decide), fun at_ H3 a0 a1 pa3 b3 => ?_⟩
    have ha3 := (let ⟨_, e, _⟩ := pa2.lst; Kp.but e b3) _ _ ha (fun xs z => by cases z)
    have hx3 := DEs.kp (let ⟨_, e, _⟩ := pa2.lst; Kp.but e b3) hxs
    have bo3 := bo2.trans b3
    refine ⟨_, rfl, p, rfl, pa3, fun vo dO H4 b4 pa4 ho oo => ?_⟩
    have ha4 := (let ⟨_, e, _⟩ := pa3.lst; Kp.but e b4) _ _ ha3 (fun xs z => by cases z)
    have hx4 := DEs.any (DEs.kp (let ⟨_, e, _⟩ := pa3.lst; Kp.but e b4) hx3)
    have bo4 := bo3.trans b4
    have ho := DE.any ho
    clear ha3 hx3 bo3 b3 b4 pa3 bo2 ha hxs pa2
    refine ⟨_, rfl, (by show 1 ≤ sizeLine; omega), fun i1 m1 => ⟨(by show 3 ≤ sizeLine; omega), fun i2 m2 => ⟨(by show 1 ≤ sizeLine; omega), fun i3 m3 => ?_⟩⟩⟩
    have s5 := ((same_new (o := .tup [vo]) m1).trans (same_new (o := .tup [.str "loop", .str "l", .ref i1]) m2)).trans (same_new (o := .tup [.ref i2]) m3)
    have hi3 : upd (upd (upd H4 i1 (.tup [vo])) i2 (.tup [.str "loop", .str "l", .ref i1])) i3 (.tup [.ref i2]) i3 = some (.tup [.ref i2]) := upd_same
    have hi2 : DE Any (upd (upd (upd H4 i1 (.tup [vo])) i2 (.tup [.str "loop", .str "l", .ref i1])) i3 (.tup [.ref i2])) (.ref i2) (.tuple [.str "loop", .str "l", .tuple [dO]]) :=
      .tup (same_new m3 _ _ upd_same) (.cons (.str _) (.cons (.str _) (.cons (.tup (same_new m3 _ _ (same_new m2 _ _ upd_same)) (.cons (ho.same s5) .nil)) .nil)))
    generalize upd (upd (upd H4 i1 (.tup [vo])) i2 (.tup [.str "loop", .str "l", .ref i1])) i3 (.tup [.ref i2]) = H5 at s5 hi3 hi2 ⊢
    clear m1 m2 m3
    have ha5 := s5 _ _ ha4
    refine ⟨_, rfl, _, rfl, a, _, rfl, .inr (SqT.of ha5), fun L nL => ?_⟩
    have s6 : Same H5 (upd H5 L (.lst xs)) := same_new nL
    have hL : upd H5 L (.lst xs) L = some (.lst xs) := upd_same
    generalize upd H5 L (.lst xs) = H6 at s6 hL ⊢
    have cl : ∀ lo hi, (cutV xs lo hi).length ≤ 4 := fun lo hi => Nat.le_trans (cutV_length _ _ _) (by omega)
    refine ⟨_, rfl, _, rfl, _, rfl, a, xs, rfl, s6 _ _ ha5, fun c1 H7 s7 h7 => ⟨_, rfl, (by show 1 ≤ sizeLine; omega), fun t1 n1 => ⟨c1, t1, _, _, rfl, rfl, same_new n1 _ _ h7, upd_same, (by have := cl none (some at_); show _ + 1 ≤ _; omega), fun c2 H8 s8 h8 => ?_⟩⟩⟩
    have s68 : Same H6 H8 := (s7.trans (same_new n1)).trans s8
    refine ⟨_, rfl, _, rfl, _, rfl, a, xs, rfl, s68 _ _ (s6 _ _ ha5), fun c3 H9 s9 h9 => ⟨c2, c3, _, _, rfl, rfl, s9 _ _ h8, h9, (by have := cl none (some at_); have := cl (some at_) none; rw [List.length_append]; show _ + 1 + _ ≤ _; omega), fun c4 H10 s10 h10 => ?_⟩⟩
    have s610 : Same H6 H10 := (s68.trans s9).trans s10
    refine ⟨_, rfl, _, rfl, a, i3, _, _, rfl, rfl, s610 _ _ (s6 _ _ ha5), s610 _ _ (s6 _ _ hi3), (by show _ + 1 ≤ _; omega), fun c5 H11 s11 h11 => ?_⟩
    refine ⟨(by show 0 ≤ sizeLine; omega), fun u0 k0 => ⟨_, rfl, (by show 3 ≤ sizeLine; omega), fun u1 k1 => ⟨(by show 1 ≤ sizeLine; omega), fun u2 k2 => ⟨(by show 5 ≤ sizeLine; omega), fun LL kL => ?_⟩⟩⟩⟩
    have s12 := ((same_new (o := .tup []) k0).trans (same_new (o := .tup [.str "either", .ref u0, .ref a]) k1)).trans (same_new (o := .tup [.ref u1]) k2)
    have f0 := same_new (o := .tup [.ref u1]) k2 _ _ (same_new (o := .tup [.str "either", .ref u0, .ref a]) k1 _ _ (upd_same (H := H11) (a := u0) (o := .tup [])))
    have f1 := same_new (o := .tup [.ref u1]) k2 _ _ (upd_same (H := upd H11 u0 (.tup [])) (a := u1) (o := .tup [.str "either", .ref u0, .ref a]))
    have f2 := upd_same (H := upd (upd H11 u0 (.tup [])) u1 (.tup [.str "either", .ref u0, .ref a])) (a := u2) (o := .tup [.ref u1])
    generalize upd (upd (upd H11 u0 (.tup [])) u1 (.tup [.str "either", .ref u0, .ref a])) u2 (.tup [.ref u1]) = H12 at s12 f0 f1 f2 kL ⊢
    have sL : Same H12 (upd H12 LL (.lst [.ref a, .ref L, .ref c4, .ref c5, .ref u2])) := same_new kL
    have hLL : upd H12 LL (.lst [.ref a, .ref L, .ref c4, .ref c5, .ref u2]) LL = some (.lst [.ref a, .ref L, .ref c4, .ref c5, .ref u2]) := upd_same
    generalize upd H12 LL (.lst [.ref a, .ref L, .ref c4, .ref c5, .ref u2]) = H13 at sL hLL ⊢
    have t11 : Same H11 H13 := s12.trans sL
    have t10 : Same H10 H13 := s11.trans t11
    have t6 : Same H6 H13 := s610.trans t10
    have t5 : Same H5 H13 := s6.trans t6
    have t4 : Same H4 H13 := s5.trans t5
    have hx := DEs.same t4 hx4
    obtain ⟨ea, ga, oa⟩ := DEs.cut none (some at_) hx
    obtain ⟨eb, gb, ob⟩ := DEs.cut (some at_) none hx
    have w1 : DE Any H13 (.ref a) (.tuple ds) := .tup (t4 _ _ ha4) hx
    have w2 : DE Any H13 (.ref L) (.list ds) := .lst trivial (t6 _ _ hL) hx
    have w3 : DE Any H13 (.ref c4) (.tuple ((ea ++ [dO]) ++ eb)) := .tup (t10 _ _ h10) (DEs.app gb (DEs.app (.cons (ho.same t4) .nil) ga))
    have w4 : DE Any H13 (.ref c5) (.tuple (ds ++ [.tuple [.str "loop", .str "l", .tuple [dO]]])) := .tup (t11 _ _ h11) (DEs.app (.cons (hi2.same t5) .nil) hx)
    have w5 : DE Any H13 (.ref u2) (.tuple [.tuple [.str "either", .tuple [], .tuple ds]]) := .tup (sL _ _ f2) (.cons (.tup (sL _ _ f1) (.cons (.str _) (.cons (.tup (sL _ _ f0) .nil) (.cons w1 .nil)))) .nil)
    have wd : DEs Any H13 [.ref a, .ref L, .ref c4, .ref c5, .ref u2] [.tuple ds, .list ds, .tuple ((ea ++ [dO]) ++ eb), .tuple (ds ++ [.tuple [.str "loop", .str "l", .tuple [dO]]]), .tuple [.tuple [.str "either", .tuple [], .tuple ds]]] :=
      .cons w1 (.cons w2 (.cons w3 (.cons w4 (.cons w5 .nil))))
    have one : ∀ d, okD d = true → okDs [d] = true := fun d h => by show (okD d && true) = true; rw [h]; rfl
    have x3 : okDs ((ea ++ [dO]) ++ eb) = true := okDs_app (okDs_app (oa o) (one _ oo)) (ob o)
    have x4 : okDs (ds ++ [.tuple [.str "loop", .str "l", .tuple [dO]]]) = true := okDs_app o (one _ (by show (okS "loop" && (okS "l" && ((okD dO && true) && true))) = true; rw [oo]; decide +kernel))
    have x5 : okDs [.tuple [.str "either", .tuple [], .tuple ds]] = true := one _ (by show (okS "either" && (true && (okDs ds && true))) = true; rw [o]; decide +kernel)
    have wo : okDs [.tuple ds, .list ds, .tuple ((ea ++ [dO]) ++ eb), .tuple (ds ++ [.tuple [.str "loop", .str "l", .tuple [dO]]]), .tuple [.tuple [.str "either", .tuple [], .tuple ds]]] = true := by
      show (okDs ds && (okDs ds && (okDs ((ea ++ [dO]) ++ eb) && (okDs (ds ++ [.tuple [.str "loop", .str "l", .tuple [dO]]]) && (okDs [.tuple [.str "either", .tuple [], .tuple ds]] && true))))) = true
      rw [o, x3, x4, x5]
      rfl
    have bo13 : But p Ho H13 := bo4.trans (But.same t4)
    have pa13 := pa4.same t4
    generalize [PyData.tuple ds, .list ds, .tuple ((ea ++ [dO]) ++ eb), .tuple (ds ++ [.tuple [.str "loop", .str "l", .tuple [dO]]]), .tuple [.tuple [.str "either", .tuple [], .tuple ds]]] = DS at wd wo
    generalize [V.ref a, .ref L, .ref c4, .ref c5, .ref u2] = VS at wd hLL
    refine ⟨LL, rfl, ⟨_, SqL.of hLL⟩, for_list (K := K) (a := LL) (xs := VS) (fun i σ H' => ∃ v1 v2 v4 v5 v6 v7 v8, σ = [some (.ref sa), v1, v2, some (.ref p), v4, v5, v6, v7, v8] ∧ Same H13 H')
      ⟨_, _, _, _, _, _, _, rfl, Same.refl _⟩ (fun i σ H' _ ⟨_, _, _, _, _, _, _, _, z⟩ => SqL.of (z _ _ hLL)) ?_ ?_⟩
    · rintro i x σ H14 hi ⟨v1, v2, v4, v5, v6, v7, v8, rfl, s14⟩
      obtain ⟨d, hd, hx⟩ := DEs.at_ wd hi
      have od := okDs_mem wo d (List.mem_of_getElem? hd)
      refine ⟨_, rfl, x, d, rfl, hx.same s14, od, fun H15 s15 => ⟨_, rfl, _, rfl, x, d, rfl, hx.same (s14.trans s15), od, fun H16 s16 => ⟨_, rfl, rfl, _, rfl, ?_⟩⟩⟩
      exact ifF (by simp) ⟨_, _, _, _, _, _, _, rfl, (s14.trans s15).trans s16⟩
    · rintro σ H14 ⟨v1, v2, v4, v5, v6, v7, v8, rfl, s14⟩
      exact ⟨_, _, _, _, _, _, _, rfl, bo13.trans (But.same s14), pa13.same s14⟩
end
end K01

set_option Elab.async false
set_option linter.all false
set_option maxRecDepth 100000
set_option maxHeartbeats 32000000
namespace K01
open PySem PySem.Spec PyProof.Rows L2 Lm LmSet
theorem all_mk {l : PySem.W.OpenLaw} {w : World} {K : PySem.W.Frag} {h : Heap} {mg : Str → Option Value} {fa fWI fNU fRG fN fW fKN fPA fSH fLG fLO fBO fLK fIB fLP fLT fLN fLI fLB fLA fLF fIN fMA fBD fDR fOD fKR fL : Addr} {tgr tle tln tms tml tmp tgc : Tok} (Y : K.In h) (G : h.Ns mainGlobals mg) (hfa : mg "law" = some (.ref fa))
    {odWI anWI : Option Addr} {slWI : Array (Option Value)} {ocWI kVWI dcWI pmWI cdWI ctWI : Value}
    {odNU anNU : Option Addr} {slNU : Array (Option Value)} {ocNU kVNU dcNU pmNU cdNU ctNU : Value}
    {odRG anRG : Option Addr} {slRG : Array (Option Value)} {ocRG kVRG dcRG pmRG cdRG ctRG : Value}
    {odN anN : Option Addr} {slN : Array (Option Value)} {ocN kVN dcN pmN cdN ctN : Value}
    {odW anW : Option Addr} {slW : Array (Option Value)} {ocW kVW dcW pmW cdW ctW : Value}
    {odKN anKN : Option Addr} {slKN : Array (Option Value)} {ocKN kVKN dcKN pmKN cdKN ctKN : Value}
    {odPA anPA : Option Addr} {slPA : Array (Option Value)} {ocPA kVPA dcPA pmPA cdPA ctPA : Value}
    {odSH anSH : Option Addr} {slSH : Array (Option Value)} {ocSH kVSH dcSH pmSH cdSH ctSH : Value}
    {odLG anLG : Option Addr} {slLG : Array (Option Value)} {ocLG kVLG dcLG pmLG cdLG ctLG : Value}
    {odLO anLO : Option Addr} {slLO : Array (Option Value)} {ocLO kVLO dcLO pmLO cdLO ctLO : Value}
    {odBO anBO : Option Addr} {slBO : Array (Option Value)} {ocBO kVBO dcBO pmBO cdBO ctBO : Value}
    {odLK anLK : Option Addr} {slLK : Array (Option Value)} {ocLK kVLK dcLK pmLK cdLK ctLK : Value}
    {odIB anIB : Option Addr} {slIB : Array (Option Value)} {ocIB kVIB dcIB pmIB cdIB ctIB : Value}
    {odLP anLP : Option Addr} {slLP : Array (Option Value)} {ocLP kVLP dcLP pmLP cdLP ctLP : Value}
    {odLT anLT : Option Addr} {slLT : Array (Option Value)} {ocLT kVLT dcLT pmLT cdLT ctLT : Value}
    {odLN anLN : Option Addr} {slLN : Array (Option Value)} {ocLN kVLN dcLN pmLN cdLN ctLN : Value}
    {odLI anLI : Option Addr} {slLI : Array (Option Value)} {ocLI kVLI dcLI pmLI cdLI ctLI : Value}
    {odLB anLB : Option Addr} {slLB : Array (Option Value)} {ocLB kVLB dcLB pmLB cdLB ctLB : Value}
    {odLA anLA : Option Addr} {slLA : Array (Option Value)} {ocLA kVLA dcLA pmLA cdLA ctLA : Value}
    {odLF anLF : Option Addr} {slLF : Array (Option Value)} {ocLF kVLF dcLF pmLF cdLF ctLF : Value}
    {odIN anIN : Option Addr} {slIN : Array (Option Value)} {ocIN kVIN dcIN pmIN cdIN ctIN : Value}
    {odMA anMA : Option Addr} {slMA : Array (Option Value)} {ocMA kVMA dcMA pmMA cdMA ctMA : Value}
    {odBD anBD : Option Addr} {slBD : Array (Option Value)} {ocBD kVBD dcBD pmBD cdBD ctBD : Value}
    {odDR anDR : Option Addr} {slDR : Array (Option Value)} {ocDR kVDR dcDR pmDR cdDR ctDR : Value}
    {odOD anOD : Option Addr} {slOD : Array (Option Value)} {ocOD kVOD dcOD pmOD cdOD ctOD : Value}
    {odKR anKR : Option Addr} {slKR : Array (Option Value)} {ocKR kVKR dcKR pmKR cdKR ctKR : Value}
    {odL anL : Option Addr} {slL : Array (Option Value)} {ocL kVL dcL pmL cdL ctL : Value}
    (aWI : PySem.W.nsIn K mainGlobals "is_within" = some (some (.ref fWI)))
    (lWI : K.lookup fWI = some ⟨ocWI, odWI, .func (PySem.W.fnOf "is_within" "is_within" (defArgs sWithin) (defBody sWithin) (defScope sWithin) .none kVWI dcWI pmWI anWI cdWI ctWI), slWI⟩)
    (cWI : PySem.W.codeIn K cdWI "is_within" = true)
    (kWI : PySem.W.keepIn K (.ref fWI) = true)
    (aNU : PySem.W.nsIn K mainGlobals "is_number" = some (some (.ref fNU)))
    (lNU : K.lookup fNU = some ⟨ocNU, odNU, .func (PySem.W.fnOf "is_number" "is_number" (defArgs sNumber) (defBody sNumber) (defScope sNumber) .none kVNU dcNU pmNU anNU cdNU ctNU), slNU⟩)
    (cNU : PySem.W.codeIn K cdNU "is_number" = true)
    (kNU : PySem.W.keepIn K (.ref fNU) = true)
    (aRG : PySem.W.nsIn K mainGlobals "is_range" = some (some (.ref fRG)))
    (lRG : K.lookup fRG = some ⟨ocRG, odRG, .func (PySem.W.fnOf "is_range" "is_range" (defArgs sRange) (defBody sRange) (defScope sRange) .none kVRG dcRG pmRG anRG cdRG ctRG), slRG⟩)
    (cRG : PySem.W.codeIn K cdRG "is_range" = true)
    (kRG : PySem.W.keepIn K (.ref fRG) = true)
    (aN : PySem.W.nsIn K mainGlobals "is_name" = some (some (.ref fN)))
    (lN : K.lookup fN = some ⟨ocN, odN, .func (PySem.W.fnOf "is_name" "is_name" (defArgs sName) (defBody sName) (defScope sName) .none kVN dcN pmN anN cdN ctN), slN⟩)
    (cN : PySem.W.codeIn K cdN "is_name" = true)
    (kN : PySem.W.keepIn K (.ref fN) = true)
    (aW : PySem.W.nsIn K mainGlobals "is_new" = some (some (.ref fW)))
    (lW : K.lookup fW = some ⟨ocW, odW, .func (PySem.W.fnOf "is_new" "is_new" (defArgs sNew) (defBody sNew) (defScope sNew) .none kVW dcW pmW anW cdW ctW), slW⟩)
    (cW : PySem.W.codeIn K cdW "is_new" = true)
    (kW : PySem.W.keepIn K (.ref fW) = true)
    (aKN : PySem.W.nsIn K mainGlobals "is_known" = some (some (.ref fKN)))
    (lKN : K.lookup fKN = some ⟨ocKN, odKN, .func (PySem.W.fnOf "is_known" "is_known" (defArgs sKnown) (defBody sKnown) (defScope sKnown) .none kVKN dcKN pmKN anKN cdKN ctKN), slKN⟩)
    (cKN : PySem.W.codeIn K cdKN "is_known" = true)
    (kKN : PySem.W.keepIn K (.ref fKN) = true)
    (aPA : PySem.W.nsIn K mainGlobals "are_parts" = some (some (.ref fPA)))
    (lPA : K.lookup fPA = some ⟨ocPA, odPA, .func (PySem.W.fnOf "are_parts" "are_parts" (defArgs sParts) (defBody sParts) (defScope sParts) .none kVPA dcPA pmPA anPA cdPA ctPA), slPA⟩)
    (cPA : PySem.W.codeIn K cdPA "are_parts" = true)
    (kPA : PySem.W.keepIn K (.ref fPA) = true)
    (aSH : PySem.W.nsIn K mainGlobals "is_short" = some (some (.ref fSH)))
    (lSH : K.lookup fSH = some ⟨ocSH, odSH, .func (PySem.W.fnOf "is_short" "is_short" (defArgs sShort) (defBody sShort) (defScope sShort) .none kVSH dcSH pmSH anSH cdSH ctSH), slSH⟩)
    (cSH : PySem.W.codeIn K cdSH "is_short" = true)
    (kSH : PySem.W.keepIn K (.ref fSH) = true)
    (aLG : PySem.W.nsIn K mainGlobals "is_longer" = some (some (.ref fLG)))
    (lLG : K.lookup fLG = some ⟨ocLG, odLG, .func (PySem.W.fnOf "is_longer" "is_longer" (defArgs sLonger) (defBody sLonger) (defScope sLonger) .none kVLG dcLG pmLG anLG cdLG ctLG), slLG⟩)
    (cLG : PySem.W.codeIn K cdLG "is_longer" = true)
    (kLG : PySem.W.keepIn K (.ref fLG) = true)
    (aLO : PySem.W.nsIn K mainGlobals "is_long" = some (some (.ref fLO)))
    (lLO : K.lookup fLO = some ⟨ocLO, odLO, .func (PySem.W.fnOf "is_long" "is_long" (defArgs sLong) (defBody sLong) (defScope sLong) .none kVLO dcLO pmLO anLO cdLO ctLO), slLO⟩)
    (cLO : PySem.W.codeIn K cdLO "is_long" = true)
    (kLO : PySem.W.keepIn K (.ref fLO) = true)
    (aBO : PySem.W.nsIn K mainGlobals "is_body_with" = some (some (.ref fBO)))
    (lBO : K.lookup fBO = some ⟨ocBO, odBO, .func (PySem.W.fnOf "is_body_with" "is_body_with" (defArgs sBody) (defBody sBody) (defScope sBody) .none kVBO dcBO pmBO anBO cdBO ctBO), slBO⟩)
    (cBO : PySem.W.codeIn K cdBO "is_body_with" = true)
    (kBO : PySem.W.keepIn K (.ref fBO) = true)
    (aLK : PySem.W.nsIn K mainGlobals "look_at" = some (some (.ref fLK)))
    (lLK : K.lookup fLK = some ⟨ocLK, odLK, .func (PySem.W.fnOf "look_at" "look_at" (defArgs sLook) (defBody sLook) (defScope sLook) .none kVLK dcLK pmLK anLK cdLK ctLK), slLK⟩)
    (cLK : PySem.W.codeIn K cdLK "look_at" = true)
    (kLK : PySem.W.keepIn K (.ref fLK) = true)
    (aIB : PySem.W.nsIn K mainGlobals "is_body" = some (some (.ref fIB)))
    (lIB : K.lookup fIB = some ⟨ocIB, odIB, .func (PySem.W.fnOf "is_body" "is_body" (defArgs sIsBody) (defBody sIsBody) (defScope sIsBody) .none kVIB dcIB pmIB anIB cdIB ctIB), slIB⟩)
    (cIB : PySem.W.codeIn K cdIB "is_body" = true)
    (kIB : PySem.W.keepIn K (.ref fIB) = true)
    (aLP : PySem.W.nsIn K mainGlobals "_law_pool" = some (some (.ref fLP)))
    (lLP : K.lookup fLP = some ⟨ocLP, odLP, .func (PySem.W.fnOf "_law_pool" "_law_pool" (defArgs sPool) (defBody sPool) (defScope sPool) .none kVLP dcLP pmLP anLP cdLP ctLP), slLP⟩)
    (cLP : PySem.W.codeIn K cdLP "_law_pool" = true)
    (kLP : PySem.W.keepIn K (.ref fLP) = true)
    (aLT : PySem.W.nsIn K mainGlobals "_law_take" = some (some (.ref fLT)))
    (lLT : K.lookup fLT = some ⟨ocLT, odLT, .func (PySem.W.fnOf "_law_take" "_law_take" (defArgs sTake) (defBody sTake) (defScope sTake) .none kVLT dcLT pmLT anLT cdLT ctLT), slLT⟩)
    (cLT : PySem.W.codeIn K cdLT "_law_take" = true)
    (kLT : PySem.W.keepIn K (.ref fLT) = true)
    (aLN : PySem.W.nsIn K mainGlobals "_law_is_name" = some (some (.ref fLN)))
    (lLN : K.lookup fLN = some ⟨ocLN, odLN, .func (PySem.W.fnOf "_law_is_name" "_law_is_name" (defArgs sLName) (defBody sLName) (defScope sLName) .none kVLN dcLN pmLN anLN cdLN ctLN), slLN⟩)
    (cLN : PySem.W.codeIn K cdLN "_law_is_name" = true)
    (kLN : PySem.W.keepIn K (.ref fLN) = true)
    (aLI : PySem.W.nsIn K mainGlobals "_law_is_int" = some (some (.ref fLI)))
    (lLI : K.lookup fLI = some ⟨ocLI, odLI, .func (PySem.W.fnOf "_law_is_int" "_law_is_int" (defArgs sLInt) (defBody sLInt) (defScope sLInt) .none kVLI dcLI pmLI anLI cdLI ctLI), slLI⟩)
    (cLI : PySem.W.codeIn K cdLI "_law_is_int" = true)
    (kLI : PySem.W.keepIn K (.ref fLI) = true)
    (aLB : PySem.W.nsIn K mainGlobals "_law_is_big" = some (some (.ref fLB)))
    (lLB : K.lookup fLB = some ⟨ocLB, odLB, .func (PySem.W.fnOf "_law_is_big" "_law_is_big" (defArgs sLBig) (defBody sLBig) (defScope sLBig) .none kVLB dcLB pmLB anLB cdLB ctLB), slLB⟩)
    (cLB : PySem.W.codeIn K cdLB "_law_is_big" = true)
    (kLB : PySem.W.keepIn K (.ref fLB) = true)
    (aLA : PySem.W.nsIn K mainGlobals "_law_are_parts" = some (some (.ref fLA)))
    (lLA : K.lookup fLA = some ⟨ocLA, odLA, .func (PySem.W.fnOf "_law_are_parts" "_law_are_parts" (defArgs sLParts) (defBody sLParts) (defScope sLParts) .none kVLA dcLA pmLA anLA cdLA ctLA), slLA⟩)
    (cLA : PySem.W.codeIn K cdLA "_law_are_parts" = true)
    (kLA : PySem.W.keepIn K (.ref fLA) = true)
    (aLF : PySem.W.nsIn K mainGlobals "_law_fits" = some (some (.ref fLF)))
    (lLF : K.lookup fLF = some ⟨ocLF, odLF, .func (PySem.W.fnOf "_law_fits" "_law_fits" (defArgs sLFits) (defBody sLFits) (defScope sLFits) .none kVLF dcLF pmLF anLF cdLF ctLF), slLF⟩)
    (cLF : PySem.W.codeIn K cdLF "_law_fits" = true)
    (kLF : PySem.W.keepIn K (.ref fLF) = true)
    (aIN : PySem.W.nsIn K mainGlobals "_law_is_inner" = some (some (.ref fIN)))
    (lIN : K.lookup fIN = some ⟨ocIN, odIN, .func (PySem.W.fnOf "_law_is_inner" "_law_is_inner" (defArgs sLInner) (defBody sLInner) (defScope sLInner) .none kVIN dcIN pmIN anIN cdIN ctIN), slIN⟩)
    (cIN : PySem.W.codeIn K cdIN "_law_is_inner" = true)
    (kIN : PySem.W.keepIn K (.ref fIN) = true)
    (aMA : PySem.W.nsIn K mainGlobals "_law_many" = some (some (.ref fMA)))
    (lMA : K.lookup fMA = some ⟨ocMA, odMA, .func (PySem.W.fnOf "_law_many" "_law_many" (defArgs sLMany) (defBody sLMany) (defScope sLMany) .none kVMA dcMA pmMA anMA cdMA ctMA), slMA⟩)
    (cMA : PySem.W.codeIn K cdMA "_law_many" = true)
    (kMA : PySem.W.keepIn K (.ref fMA) = true)
    (aBD : PySem.W.nsIn K mainGlobals "_law_is_body" = some (some (.ref fBD)))
    (lBD : K.lookup fBD = some ⟨ocBD, odBD, .func (PySem.W.fnOf "_law_is_body" "_law_is_body" (defArgs sLBody) (defBody sLBody) (defScope sLBody) .none kVBD dcBD pmBD anBD cdBD ctBD), slBD⟩)
    (cBD : PySem.W.codeIn K cdBD "_law_is_body" = true)
    (kBD : PySem.W.keepIn K (.ref fBD) = true)
    (aDR : PySem.W.nsIn K mainGlobals "_law_drawn" = some (some (.ref fDR)))
    (lDR : K.lookup fDR = some ⟨ocDR, odDR, .func (PySem.W.fnOf "_law_drawn" "_law_drawn" (defArgs sDrawn) (defBody sDrawn) (defScope sDrawn) .none kVDR dcDR pmDR anDR cdDR ctDR), slDR⟩)
    (cDR : PySem.W.codeIn K cdDR "_law_drawn" = true)
    (kDR : PySem.W.keepIn K (.ref fDR) = true)
    (aOD : PySem.W.nsIn K mainGlobals "_law_odd" = some (some (.ref fOD)))
    (lOD : K.lookup fOD = some ⟨ocOD, odOD, .func (PySem.W.fnOf "_law_odd" "_law_odd" (defArgs sOdd) (defBody sOdd) (defScope sOdd) .none kVOD dcOD pmOD anOD cdOD ctOD), slOD⟩)
    (cOD : PySem.W.codeIn K cdOD "_law_odd" = true)
    (kOD : PySem.W.keepIn K (.ref fOD) = true)
    (aKR : PySem.W.nsIn K mainGlobals "_law_known_right" = some (some (.ref fKR)))
    (lKR : K.lookup fKR = some ⟨ocKR, odKR, .func (PySem.W.fnOf "_law_known_right" "_law_known_right" (defArgs sRight) (defBody sRight) (defScope sRight) .none kVKR dcKR pmKR anKR cdKR ctKR), slKR⟩)
    (cKR : PySem.W.codeIn K cdKR "_law_known_right" = true)
    (kKR : PySem.W.keepIn K (.ref fKR) = true)
    (aL : PySem.W.nsIn K mainGlobals "law" = some (some (.ref fL)))
    (lL : K.lookup fL = some ⟨ocL, odL, .func (PySem.W.fnOf "law" "law" (defArgs sLaw) (defBody sLaw) (defScope sLaw) .none kVL dcL pmL anL cdL ctL), slL⟩)
    (cL : PySem.W.codeIn K cdL "law" = true)
    (kL : PySem.W.keepIn K (.ref fL) = true)
    (z0 : PySem.W.nsIn K mainGlobals "isinstance" = some none)
    (z1 : PySem.W.nsIn K mainGlobals "int" = some none)
    (z2 : PySem.W.nsIn K mainGlobals "bool" = some none)
    (z3 : PySem.W.nsIn K mainGlobals "str" = some none)
    (z4 : PySem.W.nsIn K mainGlobals "list" = some none)
    (z5 : PySem.W.nsIn K mainGlobals "tuple" = some none)
    (z6 : PySem.W.nsIn K mainGlobals "min" = some none)
    (z7 : PySem.W.nsIn K mainGlobals "max" = some none)
    (z8 : PySem.W.nsIn K mainGlobals "abs" = some none)
    (z9 : PySem.W.nsIn K mainGlobals "len" = some none)
    (z10 : PySem.W.nsIn K mainGlobals "repr" = some none)
    (z11 : PySem.W.nsIn K mainGlobals "range" = some none)
    (ggr : PySem.W.nsIn K mainGlobals "GREATEST" = some (some (.int hi30 tgr)))
    (gle : PySem.W.nsIn K mainGlobals "LEAST" = some (some (.int lo30 tle)))
    (gln : PySem.W.nsIn K mainGlobals "LONGEST_NAME" = some (some (.int 8 tln)))
    (gms : PySem.W.nsIn K mainGlobals "MOST_STATEMENTS" = some (some (.int 40 tms)))
    (gml : PySem.W.nsIn K mainGlobals "MOST_LEVELS" = some (some (.int 4 tml)))
    (gmp : PySem.W.nsIn K mainGlobals "MOST_PARTS" = some (some (.int 4 tmp)))
    (ggc : PySem.W.nsIn K mainGlobals "GREATEST_COST" = some (some (.int 99 tgc)))
    : ∃ fd : FuncData, (∀ (s : Shared) (u : Value), BindsTo s fd ⟨[u], []⟩ [("_law_script", u)]) ∧ ∀ base : Heap, K.In base → base.Ns mainGlobals mg → FnG l.prog w K mg base CX0 18 fa fd ["_law_script"] (spLaw K) := by
  have e := hfa.symm.trans (PySem.W.mg_of Y G aL)
  cases e
  have T : Txt1 mg := { isi := PySem.W.mg_none_of Y G z0, int_ := PySem.W.mg_none_of Y G z1, bool_ := PySem.W.mg_none_of Y G z2, str_ := PySem.W.mg_none_of Y G z3, list_ := PySem.W.mg_none_of Y G z4, tuple_ := PySem.W.mg_none_of Y G z5, min_ := PySem.W.mg_none_of Y G z6, max_ := PySem.W.mg_none_of Y G z7, abs_ := PySem.W.mg_none_of Y G z8, len_ := PySem.W.mg_none_of Y G z9, rep := PySem.W.mg_none_of Y G z10, rng := PySem.W.mg_none_of Y G z11, gr := ⟨_, PySem.W.mg_of Y G ggr⟩, le := ⟨_, PySem.W.mg_of Y G gle⟩, ln := ⟨_, PySem.W.mg_of Y G gln⟩, ms := ⟨_, PySem.W.mg_of Y G gms⟩, ml := ⟨_, PySem.W.mg_of Y G gml⟩, mp := ⟨_, PySem.W.mg_of Y G gmp⟩, gc := ⟨_, PySem.W.mg_of Y G ggc⟩ }
  have FWI := fun_mk (st := sWithin) lWI cWI kWI
  have bWI := FWI.binds (ps := ["value", "low", "high"]) fun _ _ _ _ _ _ us hl => match us, hl with | [_, _, _], _ => rfl
  have mWI := PySem.W.mg_of Y G aWI
  have FNU := fun_mk (st := sNumber) lNU cNU kNU
  have bNU := FNU.binds (ps := ["value"]) fun _ _ _ _ _ _ us hl => match us, hl with | [_], _ => rfl
  have mNU := PySem.W.mg_of Y G aNU
  have FRG := fun_mk (st := sRange) lRG cRG kRG
  have bRG := FRG.binds (ps := ["low", "high"]) fun _ _ _ _ _ _ us hl => match us, hl with | [_, _], _ => rfl
  have mRG := PySem.W.mg_of Y G aRG
  have FN := fun_mk (st := sName) lN cN kN
  have bN := FN.binds (ps := ["value"]) fun _ _ _ _ _ _ us hl => match us, hl with | [_], _ => rfl
  have mN := PySem.W.mg_of Y G aN
  have FW := fun_mk (st := sNew) lW cW kW
  have bW := FW.binds (ps := ["name", "known"]) fun _ _ _ _ _ _ us hl => match us, hl with | [_, _], _ => rfl
  have mW := PySem.W.mg_of Y G aW
  have FKN := fun_mk (st := sKnown) lKN cKN kKN
  have bKN := FKN.binds (ps := ["name", "known"]) fun _ _ _ _ _ _ us hl => match us, hl with | [_, _], _ => rfl
  have mKN := PySem.W.mg_of Y G aKN
  have FPA := fun_mk (st := sParts) lPA cPA kPA
  have bPA := FPA.binds (ps := ["value", "found"]) fun _ _ _ _ _ _ us hl => match us, hl with | [_, _], _ => rfl
  have mPA := PySem.W.mg_of Y G aPA
  have FSH := fun_mk (st := sShort) lSH cSH kSH
  have bSH := FSH.binds (ps := ["word", "name", "found"]) fun _ _ _ _ _ _ us hl => match us, hl with | [_, _, _], _ => rfl
  have mSH := PySem.W.mg_of Y G aSH
  have FLG := fun_mk (st := sLonger) lLG cLG kLG
  have bLG := FLG.binds (ps := ["statement", "found"]) fun _ _ _ _ _ _ us hl => match us, hl with | [_, _], _ => rfl
  have mLG := PySem.W.mg_of Y G aLG
  have FLO := fun_mk (st := sLong) lLO cLO kLO
  have bLO := FLO.binds (ps := NO) fun _ _ _ _ _ _ us hl => match us, hl with | [_, _, _, _, _], _ => rfl
  have mLO := PySem.W.mg_of Y G aLO
  have FBO := fun_mk (st := sBody) lBO cBO kBO
  have bBO := FBO.binds (ps := ["value", "levels", "found"]) fun _ _ _ _ _ _ us hl => match us, hl with | [_, _, _], _ => rfl
  have mBO := PySem.W.mg_of Y G aBO
  have FLK := fun_mk (st := sLook) lLK cLK kLK
  have bLK := FLK.binds (ps := ["value"]) fun _ _ _ _ _ _ us hl => match us, hl with | [_], _ => rfl
  have mLK := PySem.W.mg_of Y G aLK
  have FIB := fun_mk (st := sIsBody) lIB cIB kIB
  have bIB := FIB.binds (ps := ["value"]) fun _ _ _ _ _ _ us hl => match us, hl with | [_], _ => rfl
  have mIB := PySem.W.mg_of Y G aIB
  have FLP := fun_mk (st := sPool) lLP cLP kLP
  have bLP := FLP.binds (ps := ["_law_script", "_law_k"]) fun _ _ _ _ _ _ us hl => match us, hl with | [_, _], _ => rfl
  have mLP := PySem.W.mg_of Y G aLP
  have FLT := fun_mk (st := sTake) lLT cLT kLT
  have bLT := FLT.binds (ps := ["_law_pool_here", "_law_many_here"]) fun _ _ _ _ _ _ us hl => match us, hl with | [_, _], _ => rfl
  have mLT := PySem.W.mg_of Y G aLT
  have FLN := fun_mk (st := sLName) lLN cLN kLN
  have bLN := FLN.binds (ps := ["_law_value"]) fun _ _ _ _ _ _ us hl => match us, hl with | [_], _ => rfl
  have mLN := PySem.W.mg_of Y G aLN
  have FLI := fun_mk (st := sLInt) lLI cLI kLI
  have bLI := FLI.binds (ps := NLI) fun _ _ _ _ _ _ us hl => match us, hl with | [_, _, _], _ => rfl
  have mLI := PySem.W.mg_of Y G aLI
  have FLB := fun_mk (st := sLBig) lLB cLB kLB
  have bLB := FLB.binds (ps := NLB) fun _ _ _ _ _ _ us hl => match us, hl with | [_], _ => rfl
  have mLB := PySem.W.mg_of Y G aLB
  have FLA := fun_mk (st := sLParts) lLA cLA kLA
  have bLA := FLA.binds (ps := ["_law_value"]) fun _ _ _ _ _ _ us hl => match us, hl with | [_], _ => rfl
  have mLA := PySem.W.mg_of Y G aLA
  have FLF := fun_mk (st := sLFits) lLF cLF kLF
  have bLF := FLF.binds (ps := NLFp) fun _ _ _ _ _ _ us hl => match us, hl with | [_, _], _ => rfl
  have mLF := PySem.W.mg_of Y G aLF
  have FIN := fun_mk (st := sLInner) lIN cIN kIN
  have bIN := FIN.binds (ps := NLFp) fun _ _ _ _ _ _ us hl => match us, hl with | [_, _], _ => rfl
  have mIN := PySem.W.mg_of Y G aIN
  have FMA := fun_mk (st := sLMany) lMA cMA kMA
  have bMA := FMA.binds (ps := ["_law_body"]) fun _ _ _ _ _ _ us hl => match us, hl with | [_], _ => rfl
  have mMA := PySem.W.mg_of Y G aMA
  have FBD := fun_mk (st := sLBody) lBD cBD kBD
  have bBD := FBD.binds (ps := ["_law_value"]) fun _ _ _ _ _ _ us hl => match us, hl with | [_], _ => rfl
  have mBD := PySem.W.mg_of Y G aBD
  have FDR := fun_mk (st := sDrawn) lDR cDR kDR
  have bDR := FDR.binds (ps := NLRp) fun _ _ _ _ _ _ us hl => match us, hl with | [_, _, _], _ => rfl
  have mDR := PySem.W.mg_of Y G aDR
  have FOD := fun_mk (st := sOdd) lOD cOD kOD
  have bOD := FOD.binds (ps := ["_law_pool_here"]) fun _ _ _ _ _ _ us hl => match us, hl with | [_], _ => rfl
  have mOD := PySem.W.mg_of Y G aOD
  have FKR := fun_mk (st := sRight) lKR cKR kKR
  have bKR := FKR.binds (ps := []) fun _ _ _ _ _ _ us hl => match us, hl with | [], _ => rfl
  have mKR := PySem.W.mg_of Y G aKR
  have FL := fun_mk (st := sLaw) lL cL kL
  have bL := FL.binds (ps := ["_law_script"]) fun _ _ _ _ _ _ us hl => match us, hl with | [_], _ => rfl
  have mL := PySem.W.mg_of Y G aL
  refine ⟨PySem.W.fnOf "law" "law" (defArgs sLaw) (defBody sLaw) (defScope sLaw) .none kVL dcL pmL anL cdL ctL, fun s u => .of_eq rfl, fun base _ _ => ?_⟩
  have GWI : FnOk l.prog w K mg base CX0 1 fWI _ ["value", "low", "high"] spWithin := ok_within FWI T
  have GNU : FnOk l.prog w K mg base CX0 1 fNU _ ["value"] spNumber := ok_number FNU T
  have GRG : FnOk l.prog w K mg base CX0 1 fRG _ ["low", "high"] spRange := ok_range FRG T
  have GN : FnOk l.prog w K mg base CX0 1 fN _ ["value"] spName := ok_name FN T
  have GW : FnOk l.prog w K mg base CX0 2 fW _ ["name", "known"] spNew := ok_new FW GN bN mN kN
  have GKN : FnOk l.prog w K mg base CX0 3 fKN _ ["name", "known"] spKnown := ok_known FKN T GW bW mW kW
  have GPA : FnOk l.prog w K mg base CX0 3 fPA _ ["value", "found"] spParts := ok_parts FPA T GW bW mW kW
  have GSH : FnOk l.prog w K mg base CX0 4 fSH _ ["word", "name", "found"] spShort := ok_short FSH GN bN mN kN GKN bKN mKN kKN
  have GLG : FnOk l.prog w K mg base CX0 4 fLG _ ["statement", "found"] spLonger := ok_longer FLG T GN bN mN kN GKN bKN mKN kKN GRG bRG mRG kRG GNU bNU mNU kNU GWI bWI mWI kWI
  have GBO : FnOk l.prog w K mg base CX0 14 fBO _ ["value", "levels", "found"] (spBody 4) := ok_body4 FBO bBO mBO kBO T GN bN mN kN GKN bKN mKN kKN GW bW mW kW GPA bPA mPA kPA FLO bLO mLO kLO GSH bSH mSH kSH GLG bLG mLG kLG
  have GLK : FnOk l.prog w K mg base CX0 15 fLK _ ["value"] spLook := ok_look FLK T GBO bBO mBO kBO
  have GIB : FnOk l.prog w K mg base CX0 16 fIB _ ["value"] spIsBody := ok_isBody FIB GLK bLK mLK kLK
  have GLP : FnOk l.prog w K mg base CX0 1 fLP _ ["_law_script", "_law_k"] (spPool K) := ok_pool FLP T
  have GLT : FnOk l.prog w K mg base CX0 1 fLT _ ["_law_pool_here", "_law_many_here"] spTake := ok_take FLT T
  have GLN : FnOk l.prog w K mg base CX0 1 fLN _ ["_law_value"] spLName := ok_lname FLN T
  have GLI : FnOk l.prog w K mg base CX0 1 fLI _ NLI spWithin := ok_lint FLI T
  have GLB : FnOk l.prog w K mg base CX0 2 fLB _ NLB spNumber := ok_lbig FLB GLI bLI mLI kLI
  have GLA : FnOk l.prog w K mg base CX0 3 fLA _ ["_law_value"] spLParts := ok_lparts FLA T GLN bLN mLN kLN GLB bLB mLB kLB
  have GIN : FnOk l.prog w K mg base CX0 11 fIN _ NLFp (spInner 4) := ok_linner4 T FIN bIN mIN kIN FLF bLF mLF kLF GLN bLN mLN kLN GLI bLI mLI kLI GLB bLB mLB kLB GLA bLA mLA kLA
  have GMA : FnOk l.prog w K mg base CX0 5 fMA _ ["_law_body"] (spMany 4) := ok_many4 T FMA bMA mMA kMA
  have GBD : FnOk l.prog w K mg base CX0 12 fBD _ ["_law_value"] spLBody := ok_lbody FBD GIN bIN mIN kIN GMA bMA mMA kMA
  have GDR : FnOk l.prog w K mg base CX0 5 fDR _ NLRp (spDrawn 3) := ok_drawn3 FDR T GLT bLT mLT kLT bDR mDR kDR
  have GOD : FnOk l.prog w K mg base CX0 2 fOD _ ["_law_pool_here"] spOdd := ok_odd FOD T GLT bLT mLT kLT
  have GKR : FnOk l.prog w K mg base CX0 17 fKR _ [] spRight := ok_right FKR T GIB bIB mIB kIB
  exact ok_law FL T GLP bLP mLP kLP GLT bLT mLT kLT GDR bDR mDR kDR GOD bOD mOD kOD GIB bIB mIB kIB GBD bBD mBD kBD GKR bKR mKR kKR
theorem walk {l : PySem.W.OpenLaw} {q : Program} {loose : List Str} {XP : (Str → Option Value) → Heap → Prop} {YP : World → Heap → Prop} {d : DefRec} {K : Params → PySem.W.Frag} (hn : l.most = some 63) (hdf : d.params.defaults = [])
    (hY : ∀ (w : World) (h : Heap), YP w h → (K w.params).In h)
    (F : ∀ (w : World) (mg : Str → Option Value) (fa : Addr) (h : Heap), (K w.params).In h → h.Ns mainGlobals mg → mg d.name = some (.ref fa) →
      ∃ fd : FuncData, (∀ (s : Shared) (u : Value), BindsTo s fd ⟨[u], []⟩ [("_law_script", u)]) ∧ ∀ base : Heap, (K w.params).In base → base.Ns mainGlobals mg → FnG l.prog w (K w.params) mg base CX0 18 fa fd ["_law_script"] (spLaw (K w.params))) :
    PySem.W.WalkO q loose XP YP l.row.toRowW d [] (fun f vs => PySem.call f vs) :=
  walk_ofG (n := 63) (k := 18) (x := "_law_script") (CX := fun _ => CX0) (sp := fun w => spLaw (K w.params)) hn (by decide) hdf ⟨rfl, by decide, by decide⟩ rfl hY F (fun _ _ a ns hl _ hS => ⟨a, ns, rfl, hS, hl, fun _ => rfl⟩) fun _ _ _ _ _ z => z
end K01

set_option Elab.async false
open PySem PySem.W PyProof.Rows
set_option maxRecDepth 100000 in
set_option maxHeartbeats 0 in
theorem PySem.Challenge.cw_safeupto_k01_bodies_recognized_holds : PySem.Challenge.rw_safeupto_k01_bodies_recognized.Holds := by
  w_on; o_law; k_head; (case hw => w_witness2)
  k_fill
  refine K01.walk (l := PySem.Challenge.rw_safeupto_k01_bodies_recognized) rfl rfl (fun w h Y => PySem.W.kIn_of Y) ?F
  case F =>
    intro w mg fa h KX G hmg
    refine' K01.all_mk KX G hmg ?aWI ?lWI ?cWI ?kWI ?aNU ?lNU ?cNU ?kNU ?aRG ?lRG ?cRG ?kRG ?aN ?lN ?cN ?kN ?aW ?lW ?cW ?kW ?aKN ?lKN ?cKN ?kKN ?aPA ?lPA ?cPA ?kPA ?aSH ?lSH ?cSH ?kSH ?aLG ?lLG ?cLG ?kLG ?aLO ?lLO ?cLO ?kLO ?aBO ?lBO ?cBO ?kBO ?aLK ?lLK ?cLK ?kLK ?aIB ?lIB ?cIB ?kIB ?aLP ?lLP ?cLP ?kLP ?aLT ?lLT ?cLT ?kLT ?aLN ?lLN ?cLN ?kLN ?aLI ?lLI ?cLI ?kLI ?aLB ?lLB ?cLB ?kLB ?aLA ?lLA ?cLA ?kLA ?aLF ?lLF ?cLF ?kLF ?aIN ?lIN ?cIN ?kIN ?aMA ?lMA ?cMA ?kMA ?aBD ?lBD ?cBD ?kBD ?aDR ?lDR ?cDR ?kDR ?aOD ?lOD ?cOD ?kOD ?aKR ?lKR ?cKR ?kKR ?aL ?lL ?cL ?kL ?z0 ?z1 ?z2 ?z3 ?z4 ?z5 ?z6 ?z7 ?z8 ?z9 ?z10 ?z11 ?ggr ?gle ?gln ?gms ?gml ?gmp ?ggc
    (case aWI => first | k_is | rfl | kernel_rfl)
    (case lWI => first | k_is | rfl | kernel_rfl)
    (case cWI => first | k_is | rfl | kernel_rfl)
    (case kWI => first | k_is | rfl | kernel_rfl)
    (case aNU => first | k_is | rfl | kernel_rfl)
    (case lNU => first | k_is | rfl | kernel_rfl)
    (case cNU => first | k_is | rfl | kernel_rfl)
    (case kNU => first | k_is | rfl | kernel_rfl)
    (case aRG => first | k_is | rfl | kernel_rfl)
    (case lRG => first | k_is | rfl | kernel_rfl)
    (case cRG => first | k_is | rfl | kernel_rfl)
    (case kRG => first | k_is | rfl | kernel_rfl)
    (case aN => first | k_is | rfl | kernel_rfl)
    (case lN => first | k_is | rfl | kernel_rfl)
    (case cN => first | k_is | rfl | kernel_rfl)
    (case kN => first | k_is | rfl | kernel_rfl)
    (case aW => first | k_is | rfl | kernel_rfl)
    (case lW => first | k_is | rfl | kernel_rfl)
    (case cW => first | k_is | rfl | kernel_rfl)
    (case kW => first | k_is | rfl | kernel_rfl)
    (case aKN => first | k_is | rfl | kernel_rfl)
    (case lKN => first | k_is | rfl | kernel_rfl)
    (case cKN => first | k_is | rfl | kernel_rfl)
    (case kKN => first | k_is | rfl | kernel_rfl)
    (case aPA => first | k_is | rfl | kernel_rfl)
    (case lPA => first | k_is | rfl | kernel_rfl)
    (case cPA => first | k_is | rfl | kernel_rfl)
    (case kPA => first | k_is | rfl | kernel_rfl)
    (case aSH => first | k_is | rfl | kernel_rfl)
    (case lSH => first | k_is | rfl | kernel_rfl)
    (case cSH => first | k_is | rfl | kernel_rfl)
    (case kSH => first | k_is | rfl | kernel_rfl)
    (case aLG => first | k_is | rfl | kernel_rfl)
    (case lLG => first | k_is | rfl | kernel_rfl)
    (case cLG => first | k_is | rfl | kernel_rfl)
    (case kLG => first | k_is | rfl | kernel_rfl)
    (case aLO => first | k_is | rfl | kernel_rfl)
    (case lLO => first | k_is | rfl | kernel_rfl)
    (case cLO => first | k_is | rfl | kernel_rfl)
    (case kLO => first | k_is | rfl | kernel_rfl)
    (case aBO => first | k_is | rfl | kernel_rfl)
    (case lBO => first | k_is | rfl | kernel_rfl)
    (case cBO => first | k_is | rfl | kernel_rfl)
    (case kBO => first | k_is | rfl | kernel_rfl)
    (case aLK => first | k_is | rfl | kernel_rfl)
    (case lLK => first | k_is | rfl | kernel_rfl)
    (case cLK => first | k_is | rfl | kernel_rfl)
    (case kLK => first | k_is | rfl | kernel_rfl)
    (case aIB => first | k_is | rfl | kernel_rfl)
    (case lIB => first | k_is | rfl | kernel_rfl)
    (case cIB => first | k_is | rfl | kernel_rfl)
    (case kIB => first | k_is | rfl | kernel_rfl)
    (case aLP => first | k_is | rfl | kernel_rfl)
    (case lLP => first | k_is | rfl | kernel_rfl)
    (case cLP => first | k_is | rfl | kernel_rfl)
    (case kLP => first | k_is | rfl | kernel_rfl)
    (case aLT => first | k_is | rfl | kernel_rfl)
    (case lLT => first | k_is | rfl | kernel_rfl)
    (case cLT => first | k_is | rfl | kernel_rfl)
    (case kLT => first | k_is | rfl | kernel_rfl)
    (case aLN => first | k_is | rfl | kernel_rfl)
    (case lLN => first | k_is | rfl | kernel_rfl)
    (case cLN => first | k_is | rfl | kernel_rfl)
    (case kLN => first | k_is | rfl | kernel_rfl)
    (case aLI => first | k_is | rfl | kernel_rfl)
    (case lLI => first | k_is | rfl | kernel_rfl)
    (case cLI => first | k_is | rfl | kernel_rfl)
    (case kLI => first | k_is | rfl | kernel_rfl)
    (case aLB => first | k_is | rfl | kernel_rfl)
    (case lLB => first | k_is | rfl | kernel_rfl)
    (case cLB => first | k_is | rfl | kernel_rfl)
    (case kLB => first | k_is | rfl | kernel_rfl)
    (case aLA => first | k_is | rfl | kernel_rfl)
    (case lLA => first | k_is | rfl | kernel_rfl)
    (case cLA => first | k_is | rfl | kernel_rfl)
    (case kLA => first | k_is | rfl | kernel_rfl)
    (case aLF => first | k_is | rfl | kernel_rfl)
    (case lLF => first | k_is | rfl | kernel_rfl)
    (case cLF => first | k_is | rfl | kernel_rfl)
    (case kLF => first | k_is | rfl | kernel_rfl)
    (case aIN => first | k_is | rfl | kernel_rfl)
    (case lIN => first | k_is | rfl | kernel_rfl)
    (case cIN => first | k_is | rfl | kernel_rfl)
    (case kIN => first | k_is | rfl | kernel_rfl)
    (case aMA => first | k_is | rfl | kernel_rfl)
    (case lMA => first | k_is | rfl | kernel_rfl)
    (case cMA => first | k_is | rfl | kernel_rfl)
    (case kMA => first | k_is | rfl | kernel_rfl)
    (case aBD => first | k_is | rfl | kernel_rfl)
    (case lBD => first | k_is | rfl | kernel_rfl)
    (case cBD => first | k_is | rfl | kernel_rfl)
    (case kBD => first | k_is | rfl | kernel_rfl)
    (case aDR => first | k_is | rfl | kernel_rfl)
    (case lDR => first | k_is | rfl | kernel_rfl)
    (case cDR => first | k_is | rfl | kernel_rfl)
    (case kDR => first | k_is | rfl | kernel_rfl)
    (case aOD => first | k_is | rfl | kernel_rfl)
    (case lOD => first | k_is | rfl | kernel_rfl)
    (case cOD => first | k_is | rfl | kernel_rfl)
    (case kOD => first | k_is | rfl | kernel_rfl)
    (case aKR => first | k_is | rfl | kernel_rfl)
    (case lKR => first | k_is | rfl | kernel_rfl)
    (case cKR => first | k_is | rfl | kernel_rfl)
    (case kKR => first | k_is | rfl | kernel_rfl)
    (case aL => first | k_is | rfl | kernel_rfl)
    (case lL => first | k_is | rfl | kernel_rfl)
    (case cL => first | k_is | rfl | kernel_rfl)
    (case kL => first | k_is | rfl | kernel_rfl)
    (case z0 => first | k_is | rfl | kernel_rfl)
    (case z1 => first | k_is | rfl | kernel_rfl)
    (case z2 => first | k_is | rfl | kernel_rfl)
    (case z3 => first | k_is | rfl | kernel_rfl)
    (case z4 => first | k_is | rfl | kernel_rfl)
    (case z5 => first | k_is | rfl | kernel_rfl)
    (case z6 => first | k_is | rfl | kernel_rfl)
    (case z7 => first | k_is | rfl | kernel_rfl)
    (case z8 => first | k_is | rfl | kernel_rfl)
    (case z9 => first | k_is | rfl | kernel_rfl)
    (case z10 => first | k_is | rfl | kernel_rfl)
    (case z11 => first | k_is | rfl | kernel_rfl)
    (case ggr => first | k_is | rfl | kernel_rfl)
    (case gle => first | k_is | rfl | kernel_rfl)
    (case gln => first | k_is | rfl | kernel_rfl)
    (case gms => first | k_is | rfl | kernel_rfl)
    (case gml => first | k_is | rfl | kernel_rfl)
    (case gmp => first | k_is | rfl | kernel_rfl)
    (case ggc => first | k_is | rfl | kernel_rfl)
