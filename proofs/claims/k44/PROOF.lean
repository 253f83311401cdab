import PyProof.Rows.All
import Wide.All
import OpenK.AllK
import Wide.FinOn
import PyProof.EqAt
import PyProof.EqKinds
import PyProof.TupleCall
import HandS.ForMost
import HandS.ForExc
import HandS.IsInst
import HandS.NoneIn
import HandS.Defaults
import HandS.MakeKw
import HandS.OwnEq
import HandS.Walk
import HandS.Rev
import HandS.FStr
import HandS.More
import KE.KCallOwn
import HandS.Conv
import KE.KStateDown
import HandS.Base
import HandS.Call
import HandS.Ends
import HandS.Exc
import HandS.Words
import HandS.WordsExc
import HandS.Head0
import HandS.Head1
import HandS.Head2
import HandS.HeadEnd
import HandS.HeadHook1
import HandS.HeadHook2
import HandS.HeadHook3
import HandS.HeadHook4
import KE.KExcLine
import HandS.ExcIs
import PyProof.NeKinds
import HandS.TupAny
import HandS.Zip
import HandS.Zip0
import KE.GoesZip
import KE.GoesMore
import HandS.Replace
import HandS.TupMul
import HandS.Small
import HandS.Style
import HandS.RevRange
import PyProof.Rows.EqNone
import HandS.Records
import HandS.ExcInit
import HandS.ExcField
import HandS.ExcOwn
import KE.KExcIs
import KE.KExcInit
import PyProof.ExcBaseAll.OverflowError
import HandS.HotCalls
import HandS.ExcInitHot
import HandS.Strs
import HandS.Dict
import HandS.MakeKwOnly
import HandS.AnyAll
import PySem.Challenge.RW_judgeslip_k44_small
set_option Elab.async false
set_option linter.all false
set_option maxRecDepth 100000
set_option maxHeartbeats 2000000
/-! rules of our own: len, str, ==, != of an instance by its class's defs; x in a list of such -/
namespace JsLow
open PySem PySem.Spec PyProof.Rows PySem.W
section
variable {prog : Program} {w : World} {A : Around} {E : Value → Shared → Prop} {s : Shared} {K : Frag} {x C f : Addr} {ox : Obj} {od : Option Obj} {y tb : Value}
theorem ifBound_ne {M : Model} {args : List Value} {Q : Option Value → Shared → Prop} (X : K.In s.heap) (I : InstAt s.heap x ox C od) (hs : findIn K (.ref C) "__ne__" = some (some (.builtin "object.__ne__")))
    (h : wpAny M A (call (.builtin "object.__ne__") (.ref x :: args)) (fun v => Q (some v)) E s) : wpAny M A (callSpecialIfBound? (.ref x) "__ne__" args) Q E s := by
  simp only [callSpecialIfBound?, bindSpecialIfBound?]
  refine wpAny_holding (wpAny_bind (wpAny_bind (wpAny_bind (I.type.here ((looks_findIn X hs).here ?_)))))
  refine wpAny_bind (wpAny_askSetting (wpAny_ite ?_))
  have fin : wpAny M A (call (.builtin "object.__ne__") ([.ref x] ++ args) >>= fun v => pure (some v)) Q E s := wpAny_bind (wpAny_mono h (fun v s' h' => wpAny_pure h') fun _ _ h' => h')
  split
  · exact wpAny_bind (wpAny_of_eq (F.cmp_object.ne.bind _) (wpAny_pure (by exact fin)))
  · exact wpAny_tryCatch (wpAny_bind (wpAny_of_eq (F.cmp_object.ne.bind _) (wpAny_pure (by exact fin))))
theorem objNe_K {Q : Fin → Shared → Prop} (hu : A.units < cLine) (X : K.In s.heap) (I : InstAt s.heap x ox C od) (he : findIn K (.ref C) "__eq__" = some (some (.ref f))) (hf : isFn K (.ref f) = true)
    (hcall : wpAny (model prog w) A (call (.ref f) [.ref x, y]) (fun v s' => ∃ b, v = .bool b ∧ Q (.done (.ret (.bool (!b)))) s') E s) :
    wpAny (model prog w) A (Builtin.«object.__ne__» ⟨[.ref x, y], []⟩) Q E s := by
  unfold Builtin.«object.__ne__»
  repeat (first
    | with_reducible refine wpAny_cRoomFor hu ?_
    | (refine wpAny_bind (m := callSpecialIfBound? (.ref x) (Str.ofString "__eq__") [y])
        (ifBound_K X I he hf (wpAny_mono hcall (fun r s' hr => by
          obtain ⟨b, rfl, hq⟩ := hr
          repeat (first | exact hq | exact wpAny_pure hq | exact wpAny_truthy_bool hq | (refine wpAny_bind (m := truthy (.bool _)) (wpAny_truthy_bool ?_)) | wp_step)) fun _ _ e => e)))
    | wp_step)
/-- x != y by the class's __eq__ -/
theorem ne_K {Q : Value → Shared → Prop} (hu : A.units + 1 < cLine) (X : K.In s.heap) (I : InstAt s.heap x ox C od) (hb : Looks (model prog w) s.heap (typeOf y) tb) (hn : notFirst K C tb = true)
    (hm : mroIn K C (.type "object") = some true) (hne : findIn K (.ref C) "__ne__" = some (some (.builtin "object.__ne__"))) (he : findIn K (.ref C) "__eq__" = some (some (.ref f))) (hf : isFn K (.ref f) = true)
    (h : wpAny (model prog w) A.in1 (call (.ref f) [.ref x, y]) (fun v s' => ∃ b, v = .bool b ∧ Q (.bool (!b)) s') E s) : wpAny (model prog w) A (richCompare .NotEq (.ref x) y) Q E s := by
  have hu1 : A.in1.units < cLine := by show A.units + 1 < cLine; exact hu
  have one : wpAny (model prog w) A (tryCompare (.ref x) "__ne__" y) (fun r s' => ∃ v, r = some v ∧ Q v s') E s := by
    unfold tryCompare
    refine wpAny_bind (ifBound_ne X I hne ?_)
    refine wpAny_call (codeAny_call_builtin F.cmp_object.ne.plain F.cmpEntry_ne (check_slot F.cmpKind_ne F.cmpSplit_ne (I.type.andThen (looks_mroIn X hm)) (F.cmpArgs_ne _ _) (objNe_K (A := A.in1) hu1 X I he hf (wpAny_mono h (fun v s' hv => ?_) fun _ _ e => e))))
    obtain ⟨b, rfl, hq⟩ := hv
    first | exact ⟨b, rfl, wpAny_pure ⟨_, rfl, hq⟩⟩ | exact ⟨b, rfl, ⟨_, rfl, hq⟩⟩
  have hu0 : A.units < cLine := Nat.lt_of_succ_lt hu
  unfold richCompare
  simp only [oneThing_ref]
  refine wpAny_holding (wpAny_bind (wpAny_cRoomFor hu0 ?_))
  rw [cmpInfo_NotEq]
  dsimp only
  refine wpAny_bind (I.type.here (wpAny_bind (hb.here ?_)))
  split
  · rename_i q
    have e : subIn K tb (.ref C) = some false := by
      rcases Bool.or_eq_true_iff.mp hn with e | e
      · rw [beq_iff_eq.mp e] at q; simp at q
      · exact beq_iff_eq.mp e
    refine wpAny_bind ((looks_subIn X e).here ?_)
    simp only [Bool.false_eq_true, if_false]
    refine wpAny_bind (wpAny_mono one (fun r s' z => ?_) fun _ _ e => e)
    obtain ⟨v, rfl, hq⟩ := z
    exact wpAny_pure hq
  · refine wpAny_bind (wpAny_pure ?_)
    simp only [Bool.false_eq_true, if_false]
    refine wpAny_bind (wpAny_mono one (fun r s' z => ?_) fun _ _ e => e)
    obtain ⟨v, rfl, hq⟩ := z
    exact wpAny_pure hq
end
end JsLow

namespace L2
open PySem PySem.Spec PyProof.Rows
section
variable {X : Cx} {CX : CXT} {n : Nat} {C f : Addr} {fd : FuncData} {ps : List Str} {sp : Sp} {E : XK} {pins : List (Addr × Obj)} {σ : St} {H : Hp} {s : Shared}
/-- the callee runs somewhere below the body -/
theorem run_fnA {A : Around} {Q : VK} {us : List Value} {vs : List V} (F : FnOk X.prog X.w X.K X.mg X.base CX n f fd ps sp) (hr : Room n A) (e0 : Env0 X.prog X.w X.K X.mg X.base A X.stack s H) (hb : Binds X.K fd ps []) (hx : Passes CX X E)
    (I : Inv X pins σ H s) (r : Vals vs us) (h : sp vs H Q E) : wpAny (model X.prog X.w) A (call (.ref f) us) (EP X pins σ Q) X.xe s := by
  have hl : (us ++ []).length = ps.length := by rw [List.append_nil, ← r.length]; exact F.len _ _ _ _ h
  have hb' := hb s us I.kIn hl
  rw [List.append_nil] at hb'
  refine wpAny_call (codeAny_mono (F.run A X.stack s H ⟨us, []⟩ us vs Q E hr e0 hb' r h) fun r s' hq => ?_)
  cases r with
  | error e => exact hx pins σ H s e s' I hq
  | ok fl =>
    cases fl with
    | ret u => exact I.after hq
    | next => exact False.elim hq
    | brk => exact False.elim hq
    | cont => exact False.elim hq
theorem inst_of {a dx : Addr} {fs : List (Str × V)} (I : Inv X pins σ H s) (ha : H a = some (.ins C dx fs)) : ∃ od, PySem.W.InstAt s.heap a (PySem.W.instObj C dx) C (some od) := by
  obtain ⟨mA, J, _⟩ := ins_get I.hok ha
  obtain ⟨od, J, _⟩ := J.look
  exact ⟨od, J⟩
/-- what the text says of a class with a special def of its own -/
structure Own (K : PySem.W.Frag) (C : Addr) (name : Str) (f : Addr) : Prop where
  at_ : PySem.W.findIn K (.ref C) name = some (some (.ref f))
  fn : PySem.W.isFn K (.ref f) = true
/-- len(x) -/
def rLenOwn (C : Addr) (sp : Sp) (E : XK) : List V → Hp → VK → Prop := fun xs H Q => ∃ a dx fs, xs = [V.ref a] ∧ H a = some (.ins C dx fs) ∧ sp [.ref a] H (fun z H' => ∃ i : Int, z = .int i ∧ (0 ≤ i ∧ i < 2 ^ 63) ∧ Q (.int i) H') E
theorem call_lenOwn (o : Own X.K C "__len__" f) (F : FnOk X.prog X.w X.K X.mg X.base CX n f fd ps sp) (hb : Binds X.K fd ps []) (hr : Room (n + 1) X.A) (hx : Passes CX X E) : CallR X (.builtin "len") (rLenOwn C sp E) := by
  intro pins s σ H xs us Q I r h
  obtain ⟨a, dx, fs, rfl, ha, q⟩ := h
  obtain ⟨u, rfl, ru⟩ := vals1 r
  cases (show u = Value.ref a from ru)
  obtain ⟨od, J⟩ := inst_of I ha
  obtain ⟨m, hF⟩ := I.fr
  refine PySem.W.len_K hF I.ok.mod.kin J o.at_ o.fn (wpAny_mono (run_fnA (us := [.ref a]) (vs := [.ref a]) F hr.in1 I.env0.in1 hb hx I (.cons rfl .nil) q) (fun w s' z => ?_) fun _ _ x => x)
  obtain ⟨z', H', I', rz, i, ei, hi, qz⟩ := z
  subst ei
  obtain ⟨t, e⟩ := (show ∃ t, w = Value.int i t from rz)
  cases e
  exact ⟨hi, .int i, H', I'.tok _, ⟨_, rfl⟩, qz⟩
/-- str(x) -/
def rStrOwn (C : Addr) (sp : Sp) (E : XK) : List V → Hp → VK → Prop := fun xs H Q => ∃ a dx fs, xs = [V.ref a] ∧ H a = some (.ins C dx fs) ∧ sp [.ref a] H (fun z H' => ∃ i : Str, z = .str i ∧ Q (.str i) H') E
theorem call_strOwn (o : Own X.K C "__str__" f) (F : FnOk X.prog X.w X.K X.mg X.base CX n f fd ps sp) (hb : Binds X.K fd ps []) (hr : Room (n + 2) X.A) (hx : Passes CX X E) : CallR X (.type "str") (rStrOwn C sp E) := by
  intro pins s σ H xs us Q I r h
  obtain ⟨a, dx, fs, rfl, ha, q⟩ := h
  obtain ⟨u, rfl, ru⟩ := vals1 r
  cases (show u = Value.ref a from ru)
  obtain ⟨od, J⟩ := inst_of I ha
  have hr2 : Room n X.A.in1.in1 := (show Room (n + 1) X.A.in1 from Room.in1 hr).in1
  refine PySem.W.kso_call hr2.units0 I.kIn J o.at_ o.fn (wpAny_mono (run_fnA (us := [.ref a]) (vs := [.ref a]) F hr2 I.env0.in1.in1 hb hx I (.cons rfl .nil) q) (fun w s' z => ?_) fun _ _ x => x)
  obtain ⟨z', H', I', rz, i, ei, qz⟩ := z
  subst ei
  obtain ⟨t, e⟩ := (show ∃ t, w = Value.str i t from rz)
  cases e
  exact ⟨.str i, H', I', ⟨_, rfl⟩, qz⟩
/-- repr(x) -/
theorem call_reprOwn (o : Own X.K C "__repr__" f) (F : FnOk X.prog X.w X.K X.mg X.base CX n f fd ps sp) (hb : Binds X.K fd ps []) (hr : Room (n + 1) X.A) (hx : Passes CX X E) : CallR X (.builtin "repr") (rStrOwn C sp E) := by
  intro pins s σ H xs us Q I r h
  obtain ⟨a, dx, fs, rfl, ha, q⟩ := h
  obtain ⟨u, rfl, ru⟩ := vals1 r
  cases (show u = Value.ref a from ru)
  obtain ⟨od, J⟩ := inst_of I ha
  obtain ⟨m, hF⟩ := I.fr
  have hr2 : Room n X.A.in1 := Room.in1 hr
  refine PySem.W.repr_K hr2.units0 hF I.ok.mod.kin J o.at_ o.fn (wpAny_mono (run_fnA (us := [.ref a]) (vs := [.ref a]) F hr2 I.env0.in1 hb hx I (.cons rfl .nil) q) (fun w s' z => ?_) fun _ _ x => x)
  obtain ⟨z', H', I', rz, i, ei, qz⟩ := z
  subst ei
  obtain ⟨t, e⟩ := (show ∃ t, w = Value.str i t from rz)
  cases e
  exact ⟨.str i, H', I', ⟨_, rfl⟩, qz⟩
/-- x == y, both of the class at C, by its __eq__ -/
def rEqOwn (C : Addr) (sp : Sp) (E : XK) : R2 := fun x y H Q => ∃ a dx fs b dy gs, x = .ref a ∧ y = .ref b ∧ H a = some (.ins C dx fs) ∧ H b = some (.ins C dy gs) ∧ sp [x, y] H (fun z H' => ∃ b, z = .bl b ∧ Q (.bl b) H') E
def rNeOwn (C : Addr) (sp : Sp) (E : XK) : R2 := fun x y H Q => ∃ a dx fs b dy gs, x = .ref a ∧ y = .ref b ∧ H a = some (.ins C dx fs) ∧ H b = some (.ins C dy gs) ∧ sp [x, y] H (fun z H' => ∃ b, z = .bl b ∧ Q (.bl (!b)) H') E
/-- == of two of the class at A, below the body -/
theorem rc_own {A : Around} {Q : Bool → Hp → Prop} {a b dx dy : Addr} {fs gs : List (Str × V)} (o : Own X.K C "__eq__" f) (F : FnOk X.prog X.w X.K X.mg X.base CX n f fd ps sp) (hb : Binds X.K fd ps []) (hr : Room n A) (e0 : Env0 X.prog X.w X.K X.mg X.base A X.stack s H) (hx : Passes CX X E)
    (I : Inv X pins σ H s) (ha : H a = some (.ins C dx fs)) (hb' : H b = some (.ins C dy gs)) (q : sp [.ref a, .ref b] H (fun z H' => ∃ b, z = .bl b ∧ Q b H') E) :
    wpAny (model X.prog X.w) A (richCompare .Eq (.ref a) (.ref b)) (fun v s' => ∃ r, v = .bool r ∧ ∃ H', Inv X pins σ H' s' ∧ Q r H') X.xe s := by
  obtain ⟨od, J⟩ := inst_of I ha
  obtain ⟨od', J'⟩ := inst_of I hb'
  obtain ⟨m, hF⟩ := I.fr
  refine PySem.W.cmp_K (op := .Eq) (tb := .ref C) hr.units0 hF I.ok.mod.kin J J'.type (by simp [PySem.W.notFirst]) o.at_ o.fn (wpAny_mono (run_fnA (us := [.ref a, .ref b]) (vs := [.ref a, .ref b]) F hr e0 hb hx I (.cons rfl (.cons rfl .nil)) q) (fun w s' z => ?_) fun _ _ x => x)
  obtain ⟨z', H', I', rz, i, ei, qz⟩ := z
  subst ei
  cases (show w = Value.bool i from rz)
  exact ⟨i, rfl, H', I', qz⟩
theorem op_eqOwn (o : Own X.K C "__eq__" f) (F : FnOk X.prog X.w X.K X.mg X.base CX n f fd ps sp) (hb : Binds X.K fd ps []) (hr : Room n X.A) (hx : Passes CX X E) : OpR X (compareOp .Eq) (rEqOwn C sp E) := by
  intro pins s σ H x y v u Q I rx ry h
  obtain ⟨a, dx, fs, b, dy, gs, rfl, rfl, ha, hb', q⟩ := h
  cases (show v = Value.ref a from rx)
  cases (show u = Value.ref b from ry)
  show wpAny _ _ (richCompare .Eq (.ref a) (.ref b)) _ _ _
  refine wpAny_mono (rc_own (Q := fun r H' => Q (.bl r) H') o F hb hr I.env0 hx I ha hb' q) (fun w s' z => ?_) fun _ _ x => x
  obtain ⟨r, rfl, H', I', qz⟩ := z
  exact ⟨.bl r, H', I', rfl, qz⟩
/-- what != asks besides -/
structure OwnNe (K : PySem.W.Frag) (C : Addr) : Prop where
  ne : PySem.W.findIn K (.ref C) "__ne__" = some (some (.builtin "object.__ne__"))
  mro : PySem.W.mroIn K C (.type "object") = some true
theorem op_neOwn (o : Own X.K C "__eq__" f) (on : OwnNe X.K C) (F : FnOk X.prog X.w X.K X.mg X.base CX n f fd ps sp) (hb : Binds X.K fd ps []) (hr : Room (n + 1) X.A) (hx : Passes CX X E) : OpR X (compareOp .NotEq) (rNeOwn C sp E) := by
  intro pins s σ H x y v u Q I rx ry h
  obtain ⟨a, dx, fs, b, dy, gs, rfl, rfl, ha, hb', q⟩ := h
  cases (show v = Value.ref a from rx)
  cases (show u = Value.ref b from ry)
  show wpAny _ _ (richCompare .NotEq (.ref a) (.ref b)) _ _ _
  obtain ⟨od, J⟩ := inst_of I ha
  obtain ⟨od', J'⟩ := inst_of I hb'
  refine JsLow.ne_K (tb := .ref C) (hu_of hr) I.kIn J J'.type (by simp [PySem.W.notFirst]) on.mro on.ne o.at_ o.fn (wpAny_mono (run_fnA (us := [.ref a, .ref b]) (vs := [.ref a, .ref b]) F hr.in1 I.env0.in1 hb hx I (.cons rfl (.cons rfl .nil)) q) (fun w s' z => ?_) fun _ _ x => x)
  obtain ⟨z', H', I', rz, i, ei, qz⟩ := z
  subst ei
  cases (show w = Value.bool i from rz)
  exact ⟨i, rfl, .bl (!i), H', I', rfl, qz⟩
end
end L2

set_option Elab.async false
set_option linter.all false
set_option maxRecDepth 100000
set_option maxHeartbeats 2000000
namespace GQ
open PySem PySem.SeqAt
open AutoSeq1 (wpAny_loadPart')
open MeetsSeq MeetsSeq2 MeetsSeq3 SeqRoads2
section
variable {prog : Program} {w : World} {A : Around} {R : Result → Shared → Prop}
/-- x in a list: at each turn the list is read anew -/
def InI (prog : Program) (w : World) (A : Around) (R : Result → Shared → Prop) (l : Addr) (x : Value) (N : Nat) (I : Nat → Shared → Prop) : Prop :=
  ∀ i s, I i s → ∃ (items : Array Value) (n : Nat), s.heap.get? l = some { cls := .type "list", data := .seq items n } ∧ items.size = N ∧
    ∀ (h1 : i < items.size), wpAny (model prog w) A.in1 (eqBool items[i] x) (fun r s' => if r = true then R (.ok (.ret (.bool true))) s' else I (i + 1) s') (fun e s' => R (.error e) s') s
theorem in_loopG (l : Addr) (x : Value) (N : Nat) (I : Nat → Shared → Prop) (hl : InI prog w A R l x N I)
    (fin : ∀ s, I N s → R (.ok (.ret (.bool false))) s) (k : Nat) :
    ∀ i : Nat, N - i = k → i ≤ N → ∀ s, I i s →
      wpAny (model prog w) A.in1 (Builtin.«list.__contains__.loop» ⟨[.ref l, x, rawInt i], []⟩) (FinOf prog w A R) (fun e s' => R (.error e) s') s := by
  induction k with
  | zero =>
    intro i hk hi s h
    obtain ⟨items, n, hl1, hs1, _⟩ := hl _ _ h
    have hi' : i = N := by omega
    have hR : R (.ok (.ret (.bool false))) s := fin s (hi' ▸ h)
    obtain ⟨hp, g, d, tk, os⟩ := s
    wp_walk using wpAny_loadPart' hl1
    have hi1 : items[((i : Nat) : Int).toNat]? = none := by simp; omega
    rw [hi1]
    wp_walk
    exact hR
  | succ k ih =>
    intro i hk hi s h
    obtain ⟨items, n, hl1, hs1, turn⟩ := hl _ _ h
    have hlt : i < items.size := by omega
    have ht := turn hlt
    obtain ⟨hp, g, d, tk, os⟩ := s
    wp_walk using wpAny_loadPart' hl1
    have hi1 : items[((i : Nat) : Int).toNat]? = some items[i] := by simp [hlt]
    have hc : ((i : Int) + 1) = ((i + 1 : Nat) : Int) := by omega
    rw [hi1]
    refine wpAny_bind (wpAny_mono ht (fun r s2 h2 => ?_) fun _ _ x => x)
    cases r with
    | true =>
      rw [if_pos rfl] at h2
      obtain ⟨hp2, g2, d2, tk2, os2⟩ := s2
      wp_walk
      exact h2
    | false =>
      rw [if_neg Bool.false_ne_true] at h2
      have hrec := ih (i + 1) (by omega) (by omega) s2 h2
      obtain ⟨hp2, g2, d2, tk2, os2⟩ := s2
      wp_walk
      rw [hc]
      exact ⟨plainId_quiet plain_contains_loop _, codeAny_builtin entry_contains_loop (by
        rw [Around.under_plainId plain_contains_loop _]
        exact hrec)⟩
theorem list_inG (l : Addr) (x : Value) (N : Nat) (I : Nat → Shared → Prop) (hl : InI prog w A R l x N I)
    (fin : ∀ s, I N s → R (.ok (.ret (.bool false))) s) {s : Shared} (h : I 0 s) :
    wpAny (model prog w) A.in1 (Builtin.«list.__contains__» ⟨[.ref l, x], []⟩) (FinOf prog w A R) (fun e s' => R (.error e) s') s := by
  obtain ⟨items, n, hl1, hs1, _⟩ := hl _ _ h
  have hrec := in_loopG (A := A) (R := R) l x N I hl fin _ 0 rfl (Nat.zero_le _) s h
  obtain ⟨hp, g, d, tk, os⟩ := s
  wp_walk using wpAny_loadPart' hl1
  exact ⟨plainId_quiet plain_contains_loop _, codeAny_builtin entry_contains_loop (by
    rw [Around.under_plainId plain_contains_loop _]
    exact hrec)⟩
theorem op_in_listG {E : Value → Shared → Prop} {s : Shared} {l : Addr} {x : Value} {N : Nat} {Q : Value → Shared → Prop} (I : Nat → Shared → Prop)
    (hl : InI prog w A (wants (fun v s' => ∃ b, v = .bool b ∧ Q (.bool b) s') E) l x N I)
    (fin : ∀ s, I N s → Q (.bool false) s) (h : I 0 s) : wpAny (model prog w) A (compareOp .In x (.ref l)) Q E s := by
  obtain ⟨items, n, hl1, hs1, _⟩ := hl _ _ h
  show wpAny _ A (do return .bool (← contains (.ref l) x)) Q E s
  refine wpAny_bind (wpAny_contains_slot ⟨_, hl1, rfl⟩ F.slot_list_contains (wpAny_mono (call_here F.slot_list_contains ⟨_, hl1, rfl⟩ F.entry_list_contains (F.args_list_contains_2 _ _)
    (list_inG (R := wants (fun v s' => ∃ b, v = .bool b ∧ Q (.bool b) s') E) l x N I hl (fun s' q => ⟨false, rfl, fin s' q⟩) h)) (fun v s' hv => ?_) fun _ _ e => e))
  obtain ⟨b, rfl, hq⟩ := hv
  exact wpAny_truthy_bool (wpAny_pure hq)
end
end GQ
namespace L2
open PySem PySem.Spec PyProof.Rows
/-- how == answers, by the abstract heap -/
abbrev Tells := V → V → Bool → Hp → Prop
def EqT (X : Cx) (n : Nat) (D : Tells) : Prop :=
  ∀ (A : Around) (pins : List (Addr × Obj)) (s : Shared) (σ : St) (H : Hp) (x y : V) (u v : Value) (r : Bool), Sub X n A → Inv X pins σ H s → RelV x u → RelV y v → D x y r H →
    wpAny (model X.prog X.w) A (eqBool u v) (fun r' s' => r' = r ∧ ∃ H', Inv X pins σ H' s' ∧ Same H H') X.xe s
def rInT (D : Tells) : R2 := fun x y H Q => ∃ (p : Addr) (xs : List V) (bs : List Bool), y = .ref p ∧ H p = some (.lst xs) ∧ bs.length = xs.length ∧ (∀ (i : Nat) z b, xs[i]? = some z → bs[i]? = some b → D z x b H) ∧ ∀ H', Same H H' → Q (.bl (bs.any id)) H'
theorem op_inT {X : Cx} {n : Nat} {D : Tells} (h : EqT X n D) (mon : ∀ x y r H H', Same H H' → D x y r H → D x y r H') (hr : Room (n + 1) X.A) : OpR X (compareOp .In) (rInT D) := by
  intro pins s σ H x y v u Q I rx ry hq
  obtain ⟨p, xs, bs, rfl, hp, hl, hd, q⟩ := hq
  cases (show u = Value.ref p from ry)
  refine GQ.op_in_listG (N := xs.length) (fun i s' => (∃ H', Inv X pins σ H' s' ∧ Same H H') ∧ (bs.take i).any id = false) (fun i s' z => ?_) (fun s' z => ?_) ⟨⟨H, I, Same.refl H⟩, by simp⟩
  · obtain ⟨⟨H1, I1, e1⟩, nb⟩ := z
    obtain ⟨z, its, k, r, e⟩ := I1.hok p _ (e1 _ _ hp)
    refine ⟨its.toArray, k, e, by rw [List.size_toArray, ← r.length], fun h1 => ?_⟩
    have h1' : i < its.length := by simpa using h1
    have k1 : i < xs.length := by rw [r.length]; exact h1'
    have k2 : i < bs.length := by rw [hl]; exact k1
    obtain ⟨w', hw, rw'⟩ := r.get (List.getElem?_eq_getElem k1)
    have g1 : its[i]? = some its.toArray[i] := by rw [List.getElem?_eq_getElem h1'] <;> simp
    rw [g1] at hw
    rw [Option.some.inj hw]
    refine wpAny_mono (h X.A.in1 pins s' σ H1 _ x w' v _ ⟨hr.in1, rfl⟩ I1 rw' rx (mon _ _ _ _ _ e1 (hd i _ _ (List.getElem?_eq_getElem k1) (List.getElem?_eq_getElem k2)))) (fun r' s2 q2 => ?_) fun _ _ x => x
    obtain ⟨er, H2, I2, e2⟩ := q2
    subst er
    have tk : (bs.take (i + 1)).any id = bs[i] := by
      rw [List.take_succ_eq_append_getElem k2, List.any_append, nb]
      simp
    cases hb : bs[i] with
    | true =>
      rw [if_pos rfl]
      refine ⟨true, rfl, .bl true, H2, I2, rfl, ?_⟩
      have qq := q H2 (e1.trans e2)
      have : bs.any id = true := List.any_eq_true.mpr ⟨bs[i], List.getElem_mem k2, by rw [hb]; rfl⟩
      rw [this] at qq
      exact qq
    | false =>
      rw [if_neg Bool.false_ne_true]
      exact ⟨⟨H2, I2, e1.trans e2⟩, by rw [tk, hb]⟩
  · obtain ⟨⟨H1, I1, e1⟩, nb⟩ := z
    rw [← hl, List.take_length] at nb
    have qq := q H1 e1
    rw [nb] at qq
    exact ⟨.bl false, H1, I1, rfl, qq⟩
/-- == inside a list of two of the class at C -/
theorem eqT_own {X : Cx} {CX : CXT} {n : Nat} {C f : Addr} {fd : FuncData} {ps : List Str} {sp : Sp} {E : XK} {D : Tells} (o : Own X.K C "__eq__" f) (F : FnOk X.prog X.w X.K X.mg X.base CX n f fd ps sp) (hb : Binds X.K fd ps []) (hx : Passes CX X E)
    (hD : ∀ x y r H, D x y r H → ∃ a b dx dy fs gs, x = .ref a ∧ y = .ref b ∧ H a = some (.ins C dx fs) ∧ H b = some (.ins C dy gs) ∧ (a = b → r = true) ∧ sp [.ref a, .ref b] H (fun z H' => ∃ b, z = .bl b ∧ b = r ∧ Same H H') E) : EqT X n D := by
  intro A pins s σ H x y u v r sb I rx ry d
  obtain ⟨a, b, dx, dy, fs, gs, rfl, rfl, ha, hb', hab, q⟩ := hD _ _ _ _ d
  cases (show u = Value.ref a from rx)
  cases (show v = Value.ref b from ry)
  by_cases hc : a = b
  · subst hc
    rw [hab rfl]
    exact SeqAt.EqAt.same (A := A) (s := s) (.ref a) X.prog X.w X.xe _ ⟨rfl, H, I, Same.refl H⟩
  · have e0 : Env0 X.prog X.w X.K X.mg X.base A X.stack s H := by
      have e := I.env0
      exact ⟨by rw [sb.fr]; exact e.frames, e.mod, e.bs, e.bsz, e.funs, e.frf, e.hok, e.bare⟩
    refine GQ.eqBool_refG hc (wpAny_mono (rc_own (Q := fun r' H' => r' = r ∧ Same H H') o F hb sb.room e0 hx I ha hb' q) (fun w s' z => ?_) fun _ _ x => x)
    obtain ⟨r', hw, H', I', er, sm⟩ := z
    exact ⟨r', hw, er, H', I', sm⟩

/-! ### o[a:c] = ys -/
def gSlice (to : TE) (tl th : TO) : TG := fun v σ H Q => to σ H fun o H1 => tl σ H1 fun l H2 => th σ H2 fun u H3 => ∃ (p q : Addr) (xs ys : List V) (a c : Int), o = .ref p ∧ v = .ref q ∧ l = some a ∧ u = some c ∧ H3 p = some (.lst xs) ∧ H3 q = some (.lst ys) ∧ p ≠ q ∧
  0 ≤ a ∧ a ≤ c ∧ c ≤ xs.length ∧ xs.length + ys.length ≤ sizeLine ∧ Q σ (upd H3 p (.lst (xs.take a.toNat ++ ys ++ xs.drop c.toNat)))
theorem pg_slice {X : Cx} {o : Expr} {lo hi : Option Expr} {to : TE} {tl th : TO} {p2 pos : Pos} (ho : PE X o to) (hl : PO X lo tl) (hu : PO X hi th)
    (ha : ∀ v, assign (.Subscript o (.Slice lo hi none p2) pos) X.env v = (do
      let ov ← holding [v] (eval o X.env)
      let iv ← holding [v, ov] (eval (.Slice lo hi none p2) X.env)
      standAt pos
      holding [v, ov, iv] (setItem ov iv v)
      release [iv, v, ov] []) := by intro _; rfl) : PG X (.Subscript o (.Slice lo hi none p2) pos) (gSlice to tl th) := by
  refine ⟨fun pins s σ H v u Q I r h => ?_⟩
  rw [ha]
  refine wpAny_bind (wpAny_holding (thn (ho.run pins s σ H _ I h) fun ov s1 ⟨x, H1, I1, r1, q1⟩ => ?_))
  refine wpAny_bind (wpAny_holding (wpAny_Slice (thn (hl.run pins s1 σ H1 _ I1 q1) fun vl s2 ⟨l, H2, I2, pl, q2⟩ => thn (hu.run pins s2 σ H2 _ I2 q2) fun vu s3 ⟨m, H3, I3, pu, q3⟩ => ?_)))
  rw [evalPart_none]
  refine wpAny_pure ?_
  have I4 : Inv X pins σ H3 { s3 with heap := s3.heap.push { cls := .type "slice", data := .fields #[vl, vu, .none] } } := I3.kept (t' := s3.toks) fun b ob q => Heap.get?_push_of_some _ q
  obtain ⟨p, q, xs, ys, a, c, rfl, rfl, rfl, rfl, hp, hq, hne, h0, hac, hc, hz, k⟩ := q3
  cases (show ov = Value.ref p from r1)
  cases (show u = Value.ref q from r)
  refine wpAny_bind (wpAny_standAt (wpAny_bind (wpAny_holding ?_)))
  have ra : RelV (.int a) vl := by cases pl; exact ⟨_, rfl⟩
  have rc : RelV (.int c) vu := by cases pu; exact ⟨_, rfl⟩
  exact set_slice I4 hp hq hne (Heap.IsSliceOf.new ..) ra rc h0 hac hc hz fun s' I5 => wpAny_release ⟨σ, _, I5, k⟩

/-! ### enumerate(text) -/
def Itse (x : Str) : It := ⟨fun i _ => i < x.cps.size, fun i H v H' => ∃ T c, v = .ref T ∧ H T = none ∧ H' = upd H T (.tup [.int (i : Nat), .str ⟨#[c]⟩]) ∧ x.cps[i]? = some c, fun i _ => i = x.cps.size⟩
theorem draws_str {prog : Program} {w : World} {A : Around} (hh : A.handled = none) (it : Addr) (x : Str) (t : Tok) :
    Draws prog w A it [it] x.cps.size (fun i v => ∃ c u, x.cps[i]? = some c ∧ v = .str ⟨#[c]⟩ u) (fun i h => h.IsStrIter it (strIterType x) x t i) := by
  unfold strIterType
  split
  · exact Draws.strAscii hh it x t
  · exact Draws.strWide hh it x t
theorem turn_enumS {P : Program} {w : World} {K : PySem.W.Frag} {elts : List Expr} {kk : Nat} {tpos : Pos} (x : Str) (t : Tok) (e it : Addr) :
    Turn P w K (.Tuple elts kk tpos) (Itse x) [e, it] e (fun i h => (∃ old, IsEnum h e it ((i : Nat) : Int) old) ∧ h.IsStrIter it (strIterType x) x t i ∧ e ≠ it) where
  mem := by simp
  obj := fun i h st b hb => by
    obtain ⟨⟨old, he⟩, ⟨o, ho, hc, hd⟩, _⟩ := st
    have e' : b = e ∨ b = it := by simpa using hb
    rcases e' with z | z
    · rw [z]; exact ⟨_, he, fun v q => nomatch q⟩
    · rw [z]; exact ⟨o, ho, fun v q => by rw [hd] at q; cases q⟩
  keep := fun i h h' st k => let ⟨⟨old, he⟩, ⟨o, ho, r⟩, hne⟩ := st; ⟨⟨old, k e (by simp) _ he⟩, ⟨o, k it (by simp) o ho, r⟩, hne⟩
  item := by
    intro X hP hw hK hc i pins s σ H E I hf st hg
    subst hP hw hK
    obtain ⟨⟨old, he⟩, hit, hne⟩ := st
    have hel : e < s.heap.objs.size := Heap.lt_size he
    have hil : it < s.heap.objs.size := by obtain ⟨_, q, _⟩ := hit; exact Heap.lt_size q
    refine wpAny_pyNext_enum_itemD (draws_str (A := X.A.in1) (show X.A.in1.handled = none from I.ok.hd hc) it x t) he hit hg hne (by simpa using hne) fun u h' tk hPx ho hit' hT hsz hk => ?_
    obtain ⟨c, tu, hcx, rfl⟩ := hPx
    refine ⟨_, rfl, wpAny_letOwnedTupleGo_enum (s := { s with heap := h', toks := tk + 1 }) ho fun h'' he' sb => ?_⟩
    have hT2 : h''.get? s.heap.objs.size = some { cls := .type "tuple", data := .seq #[.int i tk, .str ⟨#[c]⟩ tu] } := (sb.2 _ (Nat.ne_of_gt hel)).trans hT
    have new : ObjOk X.prog X.w (upd H s.heap.objs.size (.tup [.int (i : Nat), .str ⟨#[c]⟩])) h'' s.heap.objs.size (.tup [.int (i : Nat), .str ⟨#[c]⟩]) :=
      ⟨by show 2 ≤ sizeLine; decide, [.int i tk, .str ⟨#[c]⟩ tu], .cons ⟨_, rfl⟩ (.cons ⟨_, rfl⟩ .nil), ⟨_, hT2, rfl, _, rfl⟩⟩
    have I1 : Inv X pins σ (upd H s.heap.objs.size (.tup [.int (i : Nat), .str ⟨#[c]⟩])) { s with heap := h'', toks := tk + 1 } :=
      I.turnedNew (ch := [e, it]) (fun b ob hb q => (sb.2 b (fun z => hb (by simp [z]))).trans (hk b ob (fun z => hb (by simp [z])) (fun z => hb (by simp [z])) q)) hf (Nat.le_refl _) new
    refine ⟨.ref s.heap.objs.size, _, I1, rfl, ⟨_, c, rfl, I.hok.fresh (Nat.le_refl _), rfl, hcx⟩, ⟨⟨.str ⟨#[c]⟩ tu, ?_⟩, ?_, hne⟩, fun b hb => ?_⟩
    · have e1 : ((i + 1 : Nat) : Int) = (i : Int) + 1 := by omega
      rw [e1]; exact he'
    · obtain ⟨o, q, r⟩ := hit'
      exact ⟨o, (sb.2 it (Ne.symm hne)).trans q, r⟩
    · have hb' : b < s.heap.objs.size := by
        have e' : b = e ∨ b = it := by simpa using hb
        rcases e' with z | z
        · rw [z]; exact hel
        · rw [z]; exact hil
      rw [upd_ne (Nat.ne_of_lt hb')]
      exact (hf b hb).1
  done := by
    intro X hP hw hK hc i pins s σ H E I hf st hg
    subst hP hw hK
    obtain ⟨⟨old, he⟩, hit, hne⟩ := st
    obtain ⟨f0, f1, f2, f3, f4, f5⟩ := hf it (by simp)
    have hin : i = x.cps.size := hg
    subst hin
    exact wpAny_pyNext_enum_endD (draws_str (A := X.A.in1) (show X.A.in1.handled = none from I.ok.hd hc) it x t) he hit fun h' eb => ⟨rfl, I.turned (t' := s.toks) (fun b o hb q => eb b o hb q) f0 f1 f3 f4 f5⟩
  self := fun A i s Q E st h => let ⟨⟨_, he⟩, _⟩ := st; wpAny_pyIter_enum he h
def iEnumS (ta : TA) : TI := fun σ H R => ta σ H fun vs H1 => ∃ x, vs = [.str x] ∧ R (Itse x) H1
theorem pi_enumS {X : Cx} {e : Expr} {ta : TA} {p pos tpos : Pos} {elts : List Expr} {kk : Nat} (hg : Gl X "enumerate") (hm : X.mg "enumerate" = none) (ha : PA X [e] ta) (hs : starEach [e] X.env = [(false, eval e X.env)] := by rfl) :
    PI X (.Tuple elts kk tpos) (.Call (.Name "enumerate" p) [e] [] pos) (iEnumS ta) := by
  refine ⟨fun pins s σ H R I h => ?_⟩
  refine Call_ (ld_blt I hg hm boot_enumerate (PyProof.Rows.callWith_type1 (thn (ha.run pos pins s σ H _ I h) fun us s1 ⟨vs, H1, I1, r1, q1⟩ => ?_) hs rfl))
  obtain ⟨x, ex, q⟩ := q1
  subst ex
  obtain ⟨u, rfl, ru⟩ := vals1 r1
  obtain ⟨t, rfl⟩ := ru
  refine call_enumerate_str fun h' he hit hsz hk => wpAny_pyIter_enum he ?_
  have I2 : Inv X pins σ H1 { s1 with heap := h' } := I1.kept (t' := s1.toks) hk
  refine ⟨s1.heap.objs.size + 1, [s1.heap.objs.size + 1, s1.heap.objs.size], _, _, H1, rfl, I2, turn_enumS x t (s1.heap.objs.size + 1) s1.heap.objs.size, ⟨⟨.none, he⟩, hit, Nat.succ_ne_self _⟩, fun b hb => ?_, q⟩
  have e' : b = s1.heap.objs.size + 1 ∨ b = s1.heap.objs.size := by simpa using hb
  have hle : s1.heap.objs.size ≤ b := by
    rcases e' with z | z
    · rw [z]; exact Nat.le_add_right _ _
    · rw [z]; exact Nat.le_refl _
  exact I1.fpOk hle (I1.hok.fresh hle)
theorem walk_enumS {z : Str} : Walk (Itse z) z.cps.size (fun _ => True) (fun i H v H' => ∃ T c, v = .ref T ∧ H T = none ∧ H' = upd H T (.tup [.int (i : Nat), .str ⟨#[c]⟩]) ∧ z.cps[i]? = some c) :=
  ⟨fun _ _ h _ => h, fun _ _ => rfl, fun _ _ _ _ _ _ y => y⟩
end L2

set_option Elab.async false
set_option linter.all false
set_option maxRecDepth 100000
set_option maxHeartbeats 2000000
namespace L2
open PySem PySem.Spec PyProof.Rows
/-! ### len(range(n)) -/
theorem call_len_range {prog : Program} {w : World} {A : Around} {E : Value → Shared → Prop} {s : Shared} {r : Addr} {a b : Int} {t u v : Tok} {Q : Value → Shared → Prop} (hr : IsRange s.heap r a b 1 t u v) (h : (b - a).toNat < 2 ^ 62)
    (hq : Q (.int ((b - a).toNat : Nat) (s.toks + 1)) { s with toks := s.toks + 1 + 1 }) : wpAny (model prog w) A (call (.builtin "len") [.ref r]) Q E s := by
  have hT : s.TypeIs (.ref r) "range" := ⟨_, hr, rfl⟩
  have hn : Builtin.Range.rangeSize a b 1 = ((b - a).toNat : Nat) := rangeSize_nat a b
  refine call_len_slot (n := ((b - a).toNat : Nat)) hT F.slot_range_len (fun Q' hq' => wpAny_call_entry F.slot_range_len hT F.entry_range_len ?_ (F.args_range_len_1 _)) (by omega) (by omega) hq
  obtain ⟨hp, g, d, tk, os⟩ := s
  unfold Builtin.«range.__len__»
  have h2 : ¬ ((((b - a).toNat : Nat) : Int) ≥ 2 ^ 63) := by omega
  refine wpAny_bind (wpAny_pure ?_)
  show wpAny _ _ (Builtin.Range.rangeFields (.ref r) >>= _) _ _ _
  unfold Builtin.Range.rangeFields
  repeat (first
    | (with_reducible refine wpAny_bind ?_)
    | (with_reducible refine wpAny_field hr rfl rfl ?_)
    | (with_reducible refine wpAny_pure ?_)
    | (simp only [hn, if_neg h2])
    | wp_step)
  all_goals first | exact ⟨_, rfl, hq'⟩ | exact hq' | skip
def tLenRg (te : St → Hp → (Int → Int → Hp → Prop) → Prop) : TE := fun σ H Q => te σ H fun a b H1 => (b - a).toNat < 2 ^ 62 ∧ Q (.int ((b - a).toNat : Nat)) H1
theorem pe_lenRg {X : Cx} {e : Expr} {te : St → Hp → (Int → Int → Hp → Prop) → Prop} {p pos : Pos} (hg : Gl X "len") (hm : X.mg "len" = none) (he : PRg X e te) (na : starEach [e] X.env = (false, eval e X.env) :: starEach [] X.env := by rfl) :
    PE X (.Call (.Name "len" p) [e] [] pos) (tLenRg te) := by
  refine ⟨fun pins s σ H Q I h => ?_⟩
  refine Call_ (ld_blt I hg hm PySem.boot_len (PyProof.Rows.callWith_builtin1 (args_cons (thn (he pins s σ H _ I h) fun x s1 ⟨r, a, b, t, u, v, H1, ex, hr, I1, ok, q⟩ => args_nil ?_) na) na rfl))
  subst ex
  exact call_len_range hr ok ⟨.int _, H1, I1.tok _, ⟨_, rfl⟩, q⟩
end L2

set_option Elab.async false
set_option linter.all false
set_option maxRecDepth 100000
set_option maxHeartbeats 2000000
/-! trees: what a thing is; their texts; how they stand in the heap -/
namespace Js
open PySem L2
inductive Tr where
  | nil
  | pr (l r : Tr)
  deriving DecidableEq
namespace Tr
def size : Tr → Nat
  | nil => 0
  | pr l r => 1 + l.size + r.size
def codes : Tr → List Nat
  | nil => [46]
  | pr l r => 40 :: (l.codes ++ (r.codes ++ [41]))
def text (t : Tr) : Str := ⟨t.codes.toArray⟩
theorem text_list (t : Tr) : t.text.cps.toList = t.codes := rfl
theorem codes_len : ∀ t : Tr, t.codes.length = 3 * t.size + 1
  | nil => rfl
  | pr l r => by
    have h1 := codes_len l
    have h2 := codes_len r
    simp only [codes, size, List.length_cons, List.length_append, List.length_nil]
    omega
theorem text_len (t : Tr) : t.text.length = 3 * t.size + 1 := by
  have h : t.text.length = t.codes.length := by
    show t.codes.toArray.size = _
    rw [List.size_toArray]
  rw [h, codes_len]
/-- codes are read in one way -/
theorem codes_pre : ∀ (t u : Tr) (p q : List Nat), t.codes ++ p = u.codes ++ q → t = u ∧ p = q
  | nil, nil, p, q, h => ⟨rfl, by simpa [codes] using h⟩
  | nil, pr l r, p, q, h => by simp [codes] at h
  | pr l r, nil, p, q, h => by simp [codes] at h
  | pr l r, pr l' r', p, q, h => by
    simp only [codes, List.cons_append, List.append_assoc, List.cons.injEq, true_and] at h
    obtain ⟨e1, h1⟩ := codes_pre l l' _ _ h
    obtain ⟨e2, h2⟩ := codes_pre r r' _ _ h1
    subst e1 e2
    simp only [List.nil_append, List.cons.injEq, true_and] at h2
    exact ⟨rfl, h2⟩
theorem codes_inj {t u : Tr} (h : t.codes = u.codes) : t = u := (codes_pre t u [] [] (by simpa using h)).1
theorem text_inj {t u : Tr} (h : t.text = u.text) : t = u := codes_inj (by rw [← text_list, ← text_list, h])
theorem size_nil {t : Tr} (h : t.size = 0) : t = nil := by
  cases t with
  | nil => rfl
  | pr l r => simp [size] at h
theorem small_eq {t u : Tr} (h : t.size = u.size) (h1 : t.size ≤ 1) : t = u := by
  cases t with
  | nil => exact (size_nil h.symm).symm
  | pr l r =>
    cases u with
    | nil => simp [size] at h
    | pr l' r' =>
      simp only [size] at h h1
      have e1 := size_nil (t := l) (by omega)
      have e2 := size_nil (t := r) (by omega)
      have e3 := size_nil (t := l') (by omega)
      have e4 := size_nil (t := r') (by omega)
      rw [e1, e2, e3, e4]
def head : Tr → Tr
  | nil => nil
  | pr l _ => l
def tail : Tr → Tr
  | nil => nil
  | pr _ r => r
end Tr
open Tr (small_eq)
/-! ### the attributes -/
theorem n_fs : ¬ (("first" : Str) = "second") := by decide +kernel
theorem n_fz : ¬ (("first" : Str) = "size") := by decide +kernel
theorem n_sf : ¬ (("second" : Str) = "first") := by decide +kernel
theorem n_sz : ¬ (("second" : Str) = "size") := by decide +kernel
def tf (f s : V) (n : Int) : List (Str × V) := putF "size" (.int n) (putF "second" s (putF "first" f []))
theorem tf_len (f s : V) (n : Int) : (tf f s n).length ≤ 3 := by
  unfold tf
  have h1 := length_putF "first" f []
  have h2 := length_putF "second" s (putF "first" f [])
  have h3 := length_putF "size" (.int n) (putF "second" s (putF "first" f []))
  simp only [List.length_nil] at h1
  omega
theorem tf_first (f s : V) (n : Int) : (tf f s n).lookup ("first" : Str) = some f := by
  unfold tf
  rw [lookup_putF, if_neg n_fz, lookup_putF, if_neg n_fs, lookup_putF, if_pos rfl]
theorem tf_second (f s : V) (n : Int) : (tf f s n).lookup ("second" : Str) = some s := by
  unfold tf
  rw [lookup_putF, if_neg n_sz, lookup_putF, if_pos rfl]
theorem tf_size (f s : V) (n : Int) : (tf f s n).lookup ("size" : Str) = some (.int n) := by
  unfold tf
  rw [lookup_putF, if_pos rfl]
theorem tf_no (f s : V) (n : Int) {m : Str} (h1 : ¬ m = "size") (h2 : ¬ m = "second") (h3 : ¬ m = "first") : (tf f s n).lookup m = none := by
  unfold tf
  rw [lookup_putF, if_neg h1, lookup_putF, if_neg h2, lookup_putF, if_neg h3]
  all_goals rfl
/-- a thing stands at a -/
inductive Th (C : Addr) (H : Hp) : Addr → Tr → Prop where
  | nil {a dx : Addr} (h : H a = some (.ins C dx (tf .non .non 0))) : Th C H a .nil
  | pr {a dx b c : Addr} {l r : Tr} (h : H a = some (.ins C dx (tf (.ref b) (.ref c) ((Tr.pr l r).size : Nat)))) (hl : Th C H b l) (hr : Th C H c r) : Th C H a (.pr l r)
/-- all that is no list stays -/
def KT (H H' : Hp) : Prop := ∀ a o, H a = some o → (∀ xs, o ≠ HO.lst xs) → H' a = some o
theorem KT.of {H H' : Hp} (s : Same H H') : KT H H' := fun _ _ h _ => s _ _ h
theorem KT.refl (H : Hp) : KT H H := fun _ _ h _ => h
theorem KT.trans {H H1 H2 : Hp} (a : KT H H1) (b : KT H1 H2) : KT H H2 := fun x o h n => b x o (a x o h n) n
theorem KT.lst {H : Hp} {p : Addr} {o : HO} {xs : List V} (hp : H p = some (.lst xs)) : KT H (upd H p o) := fun a u h n => by
  rw [upd_ne]
  · exact h
  · intro e
    subst e
    exact n _ (Option.some.inj (h.symm.trans hp))
theorem KT.new {H : Hp} {p : Addr} {o : HO} (hp : H p = none) : KT H (upd H p o) := fun a u h n => by
  rw [upd_ne (ne_of_none h hp)]
  exact h
theorem _root_.L2.Same.new {H : Hp} {p : Addr} {o : HO} (hp : H p = none) : Same H (upd H p o) := fun a u h => by
  rw [upd_ne (ne_of_none h hp)]
  exact h
/-- a list that is new since H0 changes -/
theorem _root_.L2.Same.set {H0 H : Hp} {p : Addr} {o : HO} (s : Same H0 H) (hp : H0 p = none) : Same H0 (upd H p o) := fun a u h => by
  rw [upd_ne (ne_of_none h hp)]
  exact s _ _ h
theorem Th.kt {C : Addr} {H H' : Hp} (k : KT H H') {a : Addr} {t : Tr} (h : Th C H a t) : Th C H' a t := by
  induction h with
  | nil h => exact .nil (k _ _ h (fun _ e => nomatch e))
  | pr h _ _ ih1 ih2 => exact .pr (k _ _ h (fun _ e => nomatch e)) ih1 ih2
theorem Th.same {C : Addr} {H H' : Hp} (s : Same H H') {a : Addr} {t : Tr} (h : Th C H a t) : Th C H' a t := h.kt (KT.of s)
theorem Th.obj {C : Addr} {H : Hp} {a : Addr} {t : Tr} (h : Th C H a t) : ∃ dx f s, H a = some (.ins C dx (tf f s (t.size : Nat))) := by
  cases h with
  | nil h => exact ⟨_, _, _, h⟩
  | pr h _ _ => exact ⟨_, _, _, h⟩
theorem tf_ref_inj {C dx dx' : Addr} {f s f' s' : V} {n n' : Int} (h : HO.ins C dx (tf f s n) = HO.ins C dx' (tf f' s' n')) : f = f' ∧ s = s' ∧ n = n' := by
  injection h with _ _ h3
  have e1 := congrArg (List.lookup ("first" : Str)) h3
  have e2 := congrArg (List.lookup ("second" : Str)) h3
  have e3 := congrArg (List.lookup ("size" : Str)) h3
  rw [tf_first, tf_first] at e1
  rw [tf_second, tf_second] at e2
  rw [tf_size, tf_size] at e3
  exact ⟨Option.some.inj e1, Option.some.inj e2, V.int.inj (Option.some.inj e3)⟩
theorem Th.inj {C : Addr} {H : Hp} {a : Addr} {t u : Tr} (h : Th C H a t) (h' : Th C H a u) : t = u := by
  induction h generalizing u with
  | nil h =>
    cases h' with
    | nil _ => rfl
    | pr h' _ _ =>
      have e := Option.some.inj (h.symm.trans h')
      exact V.noConfusion (tf_ref_inj e).1
  | pr h _ _ ih1 ih2 =>
    cases h' with
    | nil h' =>
      have e := Option.some.inj (h.symm.trans h')
      exact V.noConfusion (tf_ref_inj e).1
    | pr h' h1 h2 =>
      have e := tf_ref_inj (Option.some.inj (h.symm.trans h'))
      have e1 := V.ref.inj e.1
      have e2 := V.ref.inj e.2.1
      subst e1 e2
      rw [ih1 h1, ih2 h2]
/-- a pair: what its attributes hold -/
theorem Th.pair {C : Addr} {H : Hp} {a : Addr} {l r : Tr} (h : Th C H a (.pr l r)) : ∃ dx b c, H a = some (.ins C dx (tf (.ref b) (.ref c) ((Tr.pr l r).size : Nat))) ∧ Th C H b l ∧ Th C H c r := by
  cases h with
  | pr h hl hr => exact ⟨_, _, _, h, hl, hr⟩
theorem pr_tru (l r : Tr) : true = ((((Tr.pr l r).size : Nat) : Int) != 0) := by
  have : (((Tr.pr l r).size : Nat) : Int) ≠ 0 := by simp only [Tr.size]; omega
  exact (bne_iff_ne.mpr this).symm
/-! ### stacks: the top comes first -/
theorem last_rev {α : Type} (v : α) (r : List α) : (v :: r).reverse[(v :: r).reverse.length - 1]? = some v := by
  rw [List.reverse_cons, List.length_append, List.length_reverse]
  show (r.reverse ++ [v])[r.length + 1 - 1]? = some v
  rw [Nat.add_sub_cancel, List.getElem?_append_right (by rw [List.length_reverse]; exact Nat.le_refl _), List.length_reverse, Nat.sub_self]
  rfl
theorem drop_rev {α : Type} (v : α) (r : List α) : (v :: r).reverse.dropLast = r.reverse := by
  rw [List.reverse_cons, List.dropLast_concat]
theorem push_rev {α : Type} (v : α) (r : List α) : r.reverse ++ [v] = (v :: r).reverse := by
  rw [List.reverse_cons]
/-! ### two stacks of things -/
/-- a pair of things, in a tuple -/
def PrAt (C : Addr) (H : Hp) (v : V) (p : Tr × Tr) : Prop := ∃ q a b, v = .ref q ∧ H q = some (.tup [.ref a, .ref b]) ∧ Th C H a p.1 ∧ Th C H b p.2
theorem PrAt.kt {C : Addr} {H H' : Hp} (k : KT H H') {v : V} {p : Tr × Tr} (h : PrAt C H v p) : PrAt C H' v p := by
  obtain ⟨q, a, b, e, hq, h1, h2⟩ := h
  exact ⟨q, a, b, e, k _ _ hq (fun _ e => nomatch e), h1.kt k, h2.kt k⟩
theorem prs_kt {C : Addr} {H H' : Hp} (k : KT H H') : ∀ {rs : List V} {ps : List (Tr × Tr)}, Paired (PrAt C H) rs ps → Paired (PrAt C H') rs ps
  | _, _, .nil => .nil
  | _, _, .cons h t => .cons (h.kt k) (prs_kt k t)
def pm (ps : List (Tr × Tr)) : Nat := (ps.map fun p => 2 * p.1.size + 1).sum
theorem pm_cons (p : Tr × Tr) (ps : List (Tr × Tr)) : pm (p :: ps) = 2 * p.1.size + 1 + pm ps := by simp [pm]
theorem pm_len : ∀ ps : List (Tr × Tr), ps.length ≤ pm ps
  | [] => Nat.zero_le _
  | p :: ps => by
    have := pm_len ps
    rw [pm_cons, List.length_cons]
    omega
/-- a thing that waits, or a bracket to shut -/
def WtAt (C : Addr) (H : Hp) (v : V) (o : Option Tr) : Prop := (v = .non ∧ o = none) ∨ ∃ a t, v = .ref a ∧ o = some t ∧ Th C H a t
theorem WtAt.kt {C : Addr} {H H' : Hp} (k : KT H H') {v : V} {o : Option Tr} (h : WtAt C H v o) : WtAt C H' v o := by
  rcases h with h | ⟨a, t, e1, e2, h⟩
  · exact .inl h
  · exact .inr ⟨a, t, e1, e2, h.kt k⟩
theorem wts_kt {C : Addr} {H H' : Hp} (k : KT H H') : ∀ {rs : List V} {ps : List (Option Tr)}, Paired (WtAt C H) rs ps → Paired (WtAt C H') rs ps
  | _, _, .nil => .nil
  | _, _, .cons h t => .cons (h.kt k) (wts_kt k t)
def wout : Option Tr → List Nat
  | none => [41]
  | some t => t.codes
def wouts (ps : List (Option Tr)) : List Nat := (ps.map wout).flatten
theorem wouts_cons (p : Option Tr) (ps : List (Option Tr)) : wouts (p :: ps) = wout p ++ wouts ps := by simp [wouts]
def wm1 : Option Tr → Nat
  | none => 1
  | some t => 3 * t.size + 1
def wm (ps : List (Option Tr)) : Nat := (ps.map wm1).sum
theorem wm_cons (p : Option Tr) (ps : List (Option Tr)) : wm (p :: ps) = wm1 p + wm ps := by simp [wm]
theorem wm_len : ∀ ps : List (Option Tr), ps.length ≤ wm ps
  | [] => Nat.zero_le _
  | p :: ps => by
    have := wm_len ps
    rw [wm_cons, List.length_cons]
    cases p with
    | none => simp only [wm1]; omega
    | some t => simp only [wm1]; omega
theorem line4 : 100000 < sizeLine := by rw [sizeLine_eq]; decide
end Js

set_option Elab.async false
set_option linter.all false
set_option maxRecDepth 100000
set_option maxHeartbeats 2000000
namespace Js
open PySem L2
def top (i : Nat) : Stmt := PySem.Challenge.pw_judgeslip_k44_small.main.body.getD i (.Pass ⟨0, 0, 0, 0⟩)
abbrev sInit : Stmt := inClass (top 6) 0
abbrev sHead : Stmt := inClass (top 6) 1
abbrev sTail : Stmt := inClass (top 6) 2
abbrev sLen : Stmt := inClass (top 6) 3
abbrev sEq : Stmt := inClass (top 6) 4
abbrev sStr : Stmt := inClass (top 6) 5
abbrev sRepr : Stmt := inClass (top 6) 6
abbrev sPairs : Stmt := top 7
abbrev sAlike : Stmt := top 8
abbrev sSigns : Stmt := top 9
/-- what the text says of Thing, and which built-ins are as they were -/
structure Txt (K : PySem.W.Frag) (mg : Str → Option Value) (C : Addr) : Prop where
  cl : Cls K C
  nF : NoAttr K C "first"
  nS : NoAttr K C "second"
  nZ : NoAttr K C "size"
  mgC : mg "Thing" = some (.ref C)
  mgM : ∃ t, mg "MOST_PAIRS" = some (.int 4000 t)
  len : mg "len" = none
  range : mg "range" = none
  isi : mg "isinstance" = none
  ca : PySem.W.findIn K (.ref C) "__class__" = some (some (.builtin "object.__class__"))
  cn : PySem.W.specialIn K (.builtin "object.__class__") "__get__" = some (some (.builtin "getset_descriptor.__get__"))
  ct : PySem.W.takesIn K (.builtin "object.__class__") = some true
  cm : PySem.W.mroIn K C (.type "object") = some true
  ne : PySem.W.findIn K (.ref C) "__ne__" = some (some (.builtin "object.__ne__"))
/-- a def of the top: where it stands -/
structure At (K : PySem.W.Frag) (mg : Str → Option Value) (x : Str) (st : Stmt) (ps : List Str) (f : Addr) (fd : FuncData) : Prop where
  F : Fun K x x st f fd
  mgf : mg x = some (.ref f)
  b : Binds K fd ps []
/-! ### promises -/
def PairsOf (C : Addr) (H : Hp) (x y : V) (n : Nat) : Prop := (x = .non ∧ y = .non ∧ n = 0) ∨ ∃ a b t u, x = .ref a ∧ y = .ref b ∧ Th C H a t ∧ Th C H b u ∧ n = 1 + t.size + u.size
def spPairs (C : Addr) : Sp := fun vs H Q _ => ∃ x y n, vs = [x, y] ∧ PairsOf C H x y n ∧ Q (.int (n : Nat)) H
def spInit (C : Addr) : Sp := fun vs H Q _ => ∃ (p dx : Addr) (x y : V) (n : Nat), vs = [.ref p, x, y] ∧ H p = some (.ins C dx []) ∧ PairsOf C H x y n ∧ n ≤ 4000 ∧ Q .non (upd H p (.ins C dx (tf x y (n : Nat))))
def spHead (C : Addr) : Sp := fun vs H Q _ => ∃ a t, vs = [.ref a] ∧ Th C H a t ∧ ∀ b, Th C H b t.head → Q (.ref b) H
def spTail (C : Addr) : Sp := fun vs H Q _ => ∃ a t, vs = [.ref a] ∧ Th C H a t ∧ ∀ b, Th C H b t.tail → Q (.ref b) H
def spLen (C : Addr) : Sp := fun vs H Q _ => ∃ a t, vs = [.ref a] ∧ Th C H a t ∧ t.size ≤ 4000 ∧ Q (.int (t.size : Nat)) H
def spEqT (C : Addr) : Sp := fun vs H Q _ => ∃ a b t u, vs = [.ref a, .ref b] ∧ Th C H a t ∧ Th C H b u ∧ t.size ≤ 4000 ∧ ∀ H', Same H H' → Q (.bl (decide (t = u))) H'
def sgn (c : Nat) : V := .str ⟨#[c]⟩
def spSigns (C : Addr) : Sp := fun vs H Q _ => ∃ a t, vs = [.ref a] ∧ Th C H a t ∧ t.size ≤ 4000 ∧ ∀ p H', Same H H' → H p = none → H' p = some (.lst (t.codes.map sgn)) → Q (.ref p) H'
def spStr (C : Addr) : Sp := fun vs H Q _ => ∃ a t, vs = [.ref a] ∧ Th C H a t ∧ t.size ≤ 4000 ∧ ∀ H', Same H H' → Q (.str t.text) H'
theorem mk_pr {C a b : Addr} {H : Hp} {t u : Tr} {Q : VK} {E : XK} (ha : Th C H a t) (hb : Th C H b u) (hz : 1 + t.size + u.size ≤ 4000) (k : ∀ x H', Same H H' → H x = none → Th C H' x (.pr t u) → Q (.ref x) H') :
    ∀ x dx, H x = none → H dx = none → dx ≠ x → spInit C (.ref x :: ([.ref a, .ref b] ++ [])) (upd (upd H dx (.own x)) x (.ins C dx [])) (fun v H3 => v = .non ∧ Q (.ref x) H3) E := by
  intro x dx nx ndx ne
  have s0 : Same H (upd (upd H dx (.own x)) x (.ins C dx [])) := fun b o e => by
    rw [upd_ne (ne_of_none e nx), upd_ne (ne_of_none e ndx)]
    exact e
  refine ⟨x, dx, _, _, 1 + t.size + u.size, rfl, upd_same, .inr ⟨a, b, t, u, rfl, rfl, ha.same s0, hb.same s0, rfl⟩, hz, rfl, ?_⟩
  rw [upd_upd]
  have s1 : Same H (upd (upd H dx (.own x)) x (.ins C dx (tf (.ref a) (.ref b) ((1 + t.size + u.size : Nat) : Int)))) := fun b o e => by
    rw [upd_ne (ne_of_none e nx), upd_ne (ne_of_none e ndx)]
    exact e
  exact k x _ s1 nx (.pr upd_same (ha.same s1) (hb.same s1))
theorem mk_nil {C : Addr} {H : Hp} {Q : VK} {E : XK} (k : ∀ x H', Same H H' → H x = none → Th C H' x .nil → Q (.ref x) H') :
    ∀ x dx, H x = none → H dx = none → dx ≠ x → spInit C (.ref x :: ([] ++ [.non, .non])) (upd (upd H dx (.own x)) x (.ins C dx [])) (fun v H3 => v = .non ∧ Q (.ref x) H3) E := by
  intro x dx nx ndx ne
  refine ⟨x, dx, _, _, 0, rfl, upd_same, .inl ⟨rfl, rfl, rfl⟩, by decide, rfl, ?_⟩
  rw [upd_upd]
  have s1 : Same H (upd (upd H dx (.own x)) x (.ins C dx (tf .non .non ((0 : Nat) : Int)))) := fun b o e => by
    rw [upd_ne (ne_of_none e nx), upd_ne (ne_of_none e ndx)]
    exact e
  exact k x _ s1 nx (.nil upd_same)
section
variable {P : Program} {w : World} {K : PySem.W.Frag} {mg : Str → Option Value} {base : Heap} {C : Addr}
theorem scP : FnScope ["first", "second"] ["first", "second"] (defScope sPairs) := ⟨rfl, rfl, rfl, by decide +kernel, rfl, by decide +kernel, by decide +kernel⟩
theorem ok_pairs {f : Addr} {fd : FuncData} (F : Fun K "pairs_in" "pairs_in" sPairs f fd) (T : Txt K mg C) : FnOk P w K mg base CX0 1 f fd ["first", "second"] (spPairs C) := by
  refine F.ok scP (fun vs H Q E h => ?_) (fun cdv A outer s H vs Q E hr h => ?_)
  · obtain ⟨x, y, n, rfl, _⟩ := h
    rfl
  · obtain ⟨x, y, n, rfl, hp, k⟩ := h
    refine ⟨_, pss_cons (ps_if (PW.pt (pw_and (pt_cmp (pc_isN (pv 0))) (pw_and1 (pt_cmp (pc_isN (pv 1)))))) (pss_one (ps_ret pe_int)) pss_nil)
      (pss_one (ps_ret (pe_op op_add (pe_op op_add pe_int (pe_fld (pv 0) rfl)) (pe_fld (pv 1) rfl)))), ?_⟩
    rcases hp with ⟨rfl, rfl, rfl⟩ | ⟨a, b, t, u, rfl, rfl, ha, hb, rfl⟩
    · refine ⟨_, rfl, _, rfl, ?_⟩
      refine iteT ⟨_, rfl, _, rfl, ?_⟩
      exact iteT k
    · refine ⟨_, rfl, _, rfl, ?_⟩
      refine iteF ?_
      refine iteF ?_
      obtain ⟨dx, f1, s1, h1⟩ := ha.obj
      obtain ⟨dy, f2, s2, h2⟩ := hb.obj
      refine ⟨_, rfl, _, _, _, _, _, rfl, h1, T.cl, T.nZ, tf_size _ _ _, _, _, rfl, rfl, _, rfl, _, _, _, _, _, rfl, h2, T.cl, T.nZ, tf_size _ _ _, _, _, rfl, rfl, ?_⟩
      have e : ((1 : Int) + (t.size : Nat) + (u.size : Nat)) = ((1 + t.size + u.size : Nat) : Int) := by omega
      show Q (V.int ((1 : Int) + (t.size : Nat) + (u.size : Nat))) H
      rw [e]
      exact k
theorem scI : FnScope ["self", "first", "second", "size"] ["self", "first", "second"] (defScope sInit) := ⟨rfl, rfl, rfl, by decide +kernel, rfl, by decide +kernel, by decide +kernel⟩
theorem ok_init {f fP : Addr} {fd fdP : FuncData} (F : FunD K "__init__" "Thing.__init__" (defArgs sInit) (defBody sInit) (defScope sInit) [.non, .non] [] f fd) (T : Txt K mg C) (AP : At K mg "pairs_in" sPairs ["first", "second"] fP fdP) : FnOk P w K mg base CX0 2 f fd ["self", "first", "second"] (spInit C) := by
  have GP : FnOk P w K mg base CX0 1 fP fdP ["first", "second"] (spPairs C) := ok_pairs AP.F T
  obtain ⟨tm, mgM⟩ := T.mgM
  refine F.ok scI (fun vs H Q E h => ?_) (fun cdv A outer s H vs Q E hr h => ?_)
  · obtain ⟨p, dx, x, y, n, rfl, _⟩ := h
    rfl
  · obtain ⟨p, dx, x, y, n, rfl, hp, hxy, hn, k⟩ := h
    refine ⟨_, PSs.nox (pss_cons (ps_set (i := 3) scI.nd rfl (Or.inl rfl) (pe_call GP hr rfl AP.mgf AP.F.kp AP.b .nil pass0 (pa_cons (pv 1) (pa_cons (pv 2) pa_nil))))
      (pss_cons (ps_if (pt_cmpR op_gt (pv 3) (pe_glob (v := .int 4000) rfl mgM ⟨_, rfl⟩) (nomark _)) (pss_one ps_never) pss_nil)
      (pss_cons (ps_fld (pv 0) (pv 1) rfl) (pss_cons (ps_fld (pv 0) (pv 2) rfl) (pss_one (ps_fld (pv 0) (pv 3) rfl)))))), ?_⟩
    refine ⟨_, rfl, _, rfl, x, y, n, rfl, hxy, ?_⟩
    refine ⟨_, rfl, _, _, rfl, rfl, _, rfl, ?_⟩
    have ed : decide ((4000 : Int) < (n : Nat)) = false := decide_eq_false (by omega)
    rw [ed]
    refine iteF ?_
    refine ⟨_, rfl, _, rfl, p, C, dx, [], rfl, hp, T.cl, T.nF, (by show 0 < 1000; decide), ?_⟩
    refine ⟨_, rfl, _, rfl, p, C, dx, _, rfl, upd_same, T.cl, T.nS, Nat.lt_of_le_of_lt (length_putF _ _ _) (by show 0 + 1 < 1000; decide), ?_⟩
    refine ⟨_, rfl, _, rfl, p, C, dx, _, rfl, upd_same, T.cl, T.nZ, ?_, ?_⟩
    · have h1 := length_putF "first" x []
      have h2 := length_putF "second" y (putF "first" x [])
      simp only [List.length_nil] at h1
      omega
    · show Q .non (upd (upd (upd H p _) p _) p (.ins C dx (tf x y (n : Nat))))
      rw [upd_upd, upd_upd]
      exact k
theorem scLn : FnScope ["self"] ["self"] (defScope sLen) := ⟨rfl, rfl, rfl, by decide +kernel, rfl, by decide +kernel, by decide +kernel⟩
theorem ok_len {f : Addr} {fd : FuncData} (F : Fun K "__len__" "Thing.__len__" sLen f fd) (T : Txt K mg C) : FnOk P w K mg base CX0 1 f fd ["self"] (spLen C) := by
  refine F.ok scLn (fun vs H Q E h => ?_) (fun cdv A outer s H vs Q E hr h => ?_)
  · obtain ⟨a, t, rfl, _⟩ := h
    rfl
  · obtain ⟨a, t, rfl, ha, hz, k⟩ := h
    refine ⟨_, pss_one (ps_ret (pe_lenRg rfl T.len (prg_1 rfl T.range (pe_fld (pv 0) rfl)))), ?_⟩
    obtain ⟨dx, f1, s1, h⟩ := ha.obj
    refine ⟨_, rfl, _, _, _, _, _, rfl, h, T.cl, T.nZ, tf_size _ _ _, _, rfl, ?_, ?_⟩
    · omega
    · have e : (((((t.size : Nat) : Int) - 0).toNat : Nat) : Int) = (t.size : Nat) := by omega
      show Q (.int (((((t.size : Nat) : Int) - 0).toNat : Nat) : Int)) H
      rw [e]
      exact k
end
end Js

set_option Elab.async false
set_option linter.all false
set_option maxRecDepth 100000
set_option maxHeartbeats 2000000
/-! what the head's one run tells, as the facts of an end -/
namespace Js
open PySem PySem.Spec PyProof.Rows L2
/-- the i-th item of the tuple at a, if it is an object -/
def itAt (K : PySem.W.Frag) (a : Addr) (i : Nat) : Addr := match K.lookup a with
  | some ⟨_, _, .seq its _, _⟩ => (match its.toList[i]? with
    | some (.ref b) => b
    | _ => 0)
  | _ => 0
def intB (K : PySem.W.Frag) (d : Addr) (x : Str) (n : Int) : Bool := match PySem.W.nsIn K d x with
  | some (some (.int j _)) => decide (j = n)
  | _ => false
theorem int_raw {K : PySem.W.Frag} {d : Addr} {x : Str} {n : Int} (h : intB K d x n = true) : ∃ t, PySem.W.nsIn K d x = some (some (.int n t)) := by
  unfold intB at h
  split at h
  · rename_i j t e
    rw [← of_decide_eq_true h]
    exact ⟨t, e⟩
  · cases h
def strB (K : PySem.W.Frag) (d : Addr) (x z : Str) : Bool := match PySem.W.nsIn K d x with
  | some (some (.str y _)) => decide (y = z)
  | _ => false
theorem str_raw {K : PySem.W.Frag} {d : Addr} {x z : Str} (h : strB K d x z = true) : ∃ t, PySem.W.nsIn K d x = some (some (.str z t)) := by
  unfold strB at h
  split at h
  · rename_i j t e
    rw [← of_decide_eq_true h]
    exact ⟨t, e⟩
  · cases h
/-- a tuple of the top -/
def tupK (K : PySem.W.Frag) (a : Addr) (vs : List V) : Bool := match K.lookup a with
  | some ⟨.type c, _, .seq its _, _⟩ => decide (c = "tuple") && He.relAll vs its.toList
  | _ => false
theorem tup_raw {K : PySem.W.Frag} {a : Addr} {vs : List V} (h : tupK K a vs = true) : ∃ od its n sl, K.lookup a = some ⟨.type "tuple", od, .seq its n, sl⟩ ∧ Vals vs its.toList := by
  unfold tupK at h
  split at h
  · rename_i c od its n sl e
    obtain ⟨h1, h2⟩ := He.ba h
    have e1 : c = "tuple" := of_decide_eq_true h1
    rw [e1] at e
    exact ⟨od, its, n, sl, e, He.relAll_ok h2⟩
  · cases h
def excB (K : PySem.W.Frag) (C : Addr) (bm : List Value) (newId : String) : Bool := match K.lookup C with
  | some ⟨.type "type", _, .cls cd, sl⟩ => (match cd.mro, sl.toList with
    | .ref C' :: bm', [_, _, _, _, some (.builtin n), _] => C' == C && n == newId && !cd.hasDel && decide (bm' = bm) && cd.hasDict
    | _, _ => false)
  | _ => false
theorem exc_raw {K : PySem.W.Frag} {C : Addr} {bm : List Value} {newId : String} (q : excB K C bm newId = true) : ∃ nm qn N bs sn sub ab col dd k0 k1 k2 k3 k5,
    K.lookup C = some (excClassObj nm qn C N bs bm true sn sub ab col dd k0 k1 k2 k3 k5 newId) := by
  unfold excB at q
  split at q
  · rename_i dd cd sl ho
    split at q
    · rename_i C' bm' k0 k1 k2 k3 n k5 hm hs
      simp only [Bool.and_eq_true, beq_iff_eq, Bool.not_eq_true', decide_eq_true_eq] at q
      obtain ⟨⟨⟨⟨rfl, rfl⟩, hdel⟩, rfl⟩, hd⟩ := q
      obtain ⟨nm, bs, mro, ns, qn, hdd, sn, sub, ab, col, del⟩ := cd
      dsimp only at hm hdel hd
      subst hm hdel hd
      have hsl : sl = #[k0, k1, k2, k3, some (.builtin n), k5] := by
        obtain ⟨l⟩ := sl
        simp only at hs
        rw [hs]
      subst hsl
      exact ⟨nm, qn, ns, bs, sn, sub, ab, col, dd, k0, k1, k2, k3, k5, ho⟩
    · cases q
  · cases q
section
variable {fa : List He.Fa} {fn : List He.DefD} {K : PySem.W.Frag}
theorem fn_one (c : He.SaysD fa fn K) (i : Nat) {d : He.DefD} (h : fn[i]? = some d) : He.fnW K d.at_ = d.val ∧ d.ok K = true := by
  have c2 := (He.ba (show ((fa.all fun f => f.ok K) && fn.all fun d => d.ok K) = true from congrArg (fun z : He.AlD => z.1) c)).2
  have e : fn.map (fun d => He.fnW K d.at_) = fn.map He.DefD.val := congrArg (fun z : He.AlD => z.2) c
  have e2 : (fn.map fun d => He.fnW K d.at_)[i]? = (fn.map He.DefD.val)[i]? := by rw [e]
  rw [List.getElem?_map, List.getElem?_map, h] at e2
  exact ⟨Option.some.inj e2, List.all_eq_true.mp c2 d (List.mem_of_getElem? h)⟩
theorem fn_any (c : He.SaysD fa fn K) (i : Nat) {p : Str × Option Str} {name qual : Str} {st : Stmt} {dl : List He.Dv} (h : fn[i]? = some ⟨p, name, qual, defArgs st, defBody st, defScope st, dl, []⟩) :
    ∃ oc od osl dV kV dc pm an cd ct, K.lookup (He.fAd K p) = some ⟨oc, od, .func (PySem.W.fnOf name qual (defArgs st) (defBody st) (defScope st) dV kV dc pm an cd ct), osl⟩ ∧ PySem.W.codeIn K cd qual = true ∧ He.dflB K dV (dl.map (He.Dv.v K)) = true := by
  obtain ⟨e, c1⟩ := fn_one c i h
  obtain ⟨kp, c2⟩ := He.ba c1
  unfold He.fnW at e
  dsimp only at e c2
  cases q : K.lookup (He.fAd K p) with
  | none =>
    rw [q] at c2
    cases c2
  | some o =>
    obtain ⟨oc, od, dt, osl⟩ := o
    rw [q] at c2 e
    cases dt with
    | func fd =>
      obtain ⟨n1, n2, n3, n4, n5, n6, n7, n8, n9, n10, n11, n12, n13, n14, n15⟩ := fd
      have e2 : (some (n1, n2, n3, n4, n5, n6, n7, n15) : He.FnW) = some (name, qual, defArgs st, .stmts (defBody st), defScope st, mainGlobals, [], builtinsNs) := e
      simp only [Option.some.injEq, Prod.mk.injEq] at e2
      obtain ⟨h1, h2, h3, h4, h5, h6, h7, h8⟩ := e2
      subst h1 h2 h3 h4 h5 h6 h7 h8
      have c3 : (PySem.W.codeIn K n13 n2 && (He.dflB K n8 (dl.map (He.Dv.v K)) && He.kwdB K n9 [])) = true := c2
      obtain ⟨k1, k2⟩ := He.ba c3
      obtain ⟨k3, k4⟩ := He.ba k2
      exact ⟨oc, od, osl, n8, n9, n10, n11, n12, n13, n14, rfl, k1, k3⟩
    | _ => cases c2
/-- a def without defaults -/
theorem fn_raw (c : He.SaysD fa fn K) (i : Nat) (p : Str × Option Str) (name qual : Str) (st : Stmt) (h : fn[i]? = some ⟨p, name, qual, defArgs st, defBody st, defScope st, [], []⟩) :
    ∃ oc od osl kV dc pm an cd ct, K.lookup (He.fAd K p) = some ⟨oc, od, .func (PySem.W.fnOf name qual (defArgs st) (defBody st) (defScope st) .none kV dc pm an cd ct), osl⟩ ∧ PySem.W.codeIn K cd qual = true := by
  obtain ⟨oc, od, osl, dV, kV, dc, pm, an, cd, ct, e, h1, h2⟩ := fn_any c i h
  cases dV with
  | none => exact ⟨oc, od, osl, kV, dc, pm, an, cd, ct, e, h1⟩
  | _ => cases h2
/-- a def with defaults -/
theorem fn_rawD (c : He.SaysD fa fn K) (i : Nat) (p : Str × Option Str) (name qual : Str) (st : Stmt) (v : He.Dv) (vs : List He.Dv) (h : fn[i]? = some ⟨p, name, qual, defArgs st, defBody st, defScope st, v :: vs, []⟩) :
    ∃ oc od osl T kV dc pm an cd ct ot odt its nt slt, K.lookup (He.fAd K p) = some ⟨oc, od, .func (PySem.W.fnOf name qual (defArgs st) (defBody st) (defScope st) (.ref T) kV dc pm an cd ct), osl⟩ ∧ PySem.W.codeIn K cd qual = true ∧
      K.lookup T = some ⟨ot, odt, .seq its nt, slt⟩ ∧ Vals ((v :: vs).map (He.Dv.v K)) its.toList := by
  obtain ⟨oc, od, osl, dV, kV, dc, pm, an, cd, ct, e, h1, h2⟩ := fn_any c i h
  cases dV with
  | ref T =>
    have h3 : (match K.lookup T with
      | some ⟨_, _, .seq its _, _⟩ => He.relAll ((v :: vs).map (He.Dv.v K)) its.toList
      | _ => false) = true := h2
    cases q : K.lookup T with
    | none =>
      rw [q] at h3
      cases h3
    | some o =>
      obtain ⟨ot, odt, dt, slt⟩ := o
      rw [q] at h3
      cases dt with
      | seq its n => exact ⟨oc, od, osl, T, kV, dc, pm, an, cd, ct, ot, odt, its, n, slt, e, h1, q, He.relAll_ok h3⟩
      | _ => cases h3
  | _ => cases h2
end
theorem tab_keys {fa : List He.Fa} {fn : List He.DefD} {ts : List He.Tab} {w : World} {K : PySem.W.Frag} (c : He.SaysT fa fn ts w K) (i : Nat) {t : He.Tab} (h : ts[i]? = some t) : ∃ es n, KDict K w (t.1 K) es n ∧ es.toList.map He.keyOf = He.keysIn w.params t.2 := by
  obtain ⟨es, n, d⟩ := c.tab i h
  refine ⟨es, n, d, ?_⟩
  have e : ts.map (fun t => He.dicW K (t.1 K)) = ts.map fun t => some (He.keysIn w.params t.2) := congrArg (fun z : He.AlT => z.2) c
  have e2 : (ts.map fun t => He.dicW K (t.1 K))[i]? = (ts.map fun t => some (He.keysIn w.params t.2))[i]? := by rw [e]
  rw [List.getElem?_map, List.getElem?_map, h] at e2
  have e3 : He.dicW K (t.1 K) = some (He.keysIn w.params t.2) := Option.some.inj e2
  unfold He.dicW at e3
  rw [d.at_] at e3
  dsimp only at e3
  split at e3
  · exact Option.some.inj e3
  · cases e3
/-! the hook: what stands at some addresses -/
section
variable (as : List Addr) (fn : List He.DefD) (ts : List He.Tab) (ex : PySem.W.Frag → Bool)
def hookC : PySem.W.Hook where
  α := He.AlT × Bool
  obs := fun s => (He.obsT [] fn ts (He.frG s.heap.get? as), ex (He.frG s.heap.get? as))
  val := fun w => (He.valT fn ts w, true)
  says := fun w h => ∃ K : PySem.W.Frag, K.In h ∧ He.SaysT [] fn ts w K ∧ ex K = true
  of := fun _ _ e => ⟨_, He.frG_in, congrArg (fun z : He.AlT × Bool => z.1) e, congrArg (fun z : He.AlT × Bool => z.2) e⟩
  keeps := fun _ _ _ ⟨K, hK, c⟩ k => ⟨K, PySem.W.Frag.In.keeps hK k, c⟩
def obC (s : PySem.W.SharedT) : He.AlT × Bool := (He.obsT [] fn ts (He.frG (HandSHeadRun.getT s) as), ex (He.frG (HandSHeadRun.getT s) as))
theorem obC_eq (s : PySem.W.SharedT) : obC as fn ts ex s = (hookC as fn ts ex).obs s.abs := by
  have e : HandSHeadRun.getT s = s.abs.heap.get? := funext (HandSHeadRun.getT_eq s)
  unfold obC
  rw [e]
  rfl
end
theorem run_join {r : PySem.W.OpenRow} {q : Program} {as : List Addr} {fn : List He.DefD} {ts : List He.Tab} {ex : PySem.W.Frag → Bool} {M : Nat} {loose : List Str} {w : World} (h0 : HandSHeadRun.RunEq r q PySem.W.Hook.none (fun _ => ()) M loose w)
    (h1 : ∀ os : OsState, (HandSHeadRun.endF (HandSHeadRun.stepQ (HandSHeadRun.denQ HandSHeadRun.tabQ) r.prog w) M r.prog w os).map (fun s => He.obsT [] fn ts (He.frG (HandSHeadRun.getT s) as)) = some (He.valT fn ts w))
    (h2 : ∀ os : OsState, (HandSHeadRun.endF (HandSHeadRun.stepQ (HandSHeadRun.denQ HandSHeadRun.tabQ) r.prog w) M r.prog w os).map (fun s => ex (He.frG (HandSHeadRun.getT s) as)) = some true) :
    HandSHeadRun.RunEq r q (hookC as fn ts ex) (obC as fn ts ex) M loose w := by
  intro os
  have a0 := h0 os
  have a1 := h1 os
  have a2 := h2 os
  revert a0 a1 a2
  generalize HandSHeadRun.endF (HandSHeadRun.stepQ (HandSHeadRun.denQ HandSHeadRun.tabQ) r.prog w) M r.prog w os = o
  intro a0 a1 a2
  cases o with
  | none => cases a1
  | some s =>
    have b0 := Option.some.inj a0
    have b1 : He.obsT [] fn ts (He.frG (HandSHeadRun.getT s) as) = He.valT fn ts w := Option.some.inj a1
    have b2 : ex (He.frG (HandSHeadRun.getT s) as) = true := Option.some.inj a2
    obtain ⟨c1, c2⟩ := Prod.mk.inj b0
    obtain ⟨c2, _⟩ := Prod.mk.inj c2
    show some (_, _, (He.obsT [] fn ts (He.frG (HandSHeadRun.getT s) as), ex (He.frG (HandSHeadRun.getT s) as))) = some (true, _, (He.valT fn ts w, true))
    rw [b1, b2, c1, c2]
theorem arr_eq {its : Array Value} {l : List Value} (h : its.toList = l) : its = l.toArray := by
  obtain ⟨l'⟩ := its
  rw [← h]
theorem ex_at {K : PySem.W.Frag} {l : List (PySem.W.Frag → Bool)} (h : (l.all fun f => f K) = true) (i : Nat) {f : PySem.W.Frag → Bool} (e : l[i]? = some f) : f K = true := List.all_eq_true.mp h f (List.mem_of_getElem? e)
end Js

set_option Elab.async false
set_option linter.all false
set_option maxRecDepth 100000
set_option maxHeartbeats 0
namespace Js
open PySem PySem.Spec PyProof.Rows L2
def hnm0 : List Str := ["_wall", "NoProgram", "TooGreat", "MOST_PAIRS", "Thing", "pairs_in", "alike", "signs", "number", "MANY_NAMES", "MOST_DEEDS", "MOST_FLOORS", "LETTERS", "FORMS", "Program", "is_name", "fits", "has_form", "names_in", "rows_in", "look_through", "lay_out", "row_words", "deed_words", "MOST_TOLD_ANEW", "small", "go_to", "choose", "deed_done", "fetch"]
def hnm1 : List Str := ["make", "store", "_law_bag", "_law_take", "_law_thing", "_law_name", "_law_set", "_law_deeds", "_law_top", "_law_rows", "_law_size", "_law_looked", "_law_cut_down", "_law_refused", "_law_good"]
def hnames : List Str := hnm0 ++ hnm1
def hfn0 : List He.DefD := [
  ⟨("Thing", some "__init__"), "__init__", "Thing.__init__", defArgs (inClass (top 6) 0), defBody (inClass (top 6) 0), defScope (inClass (top 6) 0), [.non, .non], []⟩,
  ⟨("Thing", some "__eq__"), "__eq__", "Thing.__eq__", defArgs (inClass (top 6) 4), defBody (inClass (top 6) 4), defScope (inClass (top 6) 4), [], []⟩,
  ⟨("pairs_in", none), "pairs_in", "pairs_in", defArgs (top 7), defBody (top 7), defScope (top 7), [], []⟩,
  ⟨("alike", none), "alike", "alike", defArgs (top 8), defBody (top 8), defScope (top 8), [], []⟩,
  ⟨("number", none), "number", "number", defArgs (top 10), defBody (top 10), defScope (top 10), [], []⟩,
  ⟨("is_name", none), "is_name", "is_name", defArgs (top 18), defBody (top 18), defScope (top 18), [], []⟩,
  ⟨("fits", none), "fits", "fits", defArgs (top 19), defBody (top 19), defScope (top 19), [], []⟩,
  ⟨("has_form", none), "has_form", "has_form", defArgs (top 20), defBody (top 20), defScope (top 20), [], []⟩,
  ⟨("rows_in", none), "rows_in", "rows_in", defArgs (top 22), defBody (top 22), defScope (top 22), [], []⟩,
  ⟨("look_through", none), "look_through", "look_through", defArgs (top 23), defBody (top 23), defScope (top 23), [], []⟩,
  ⟨("lay_out", none), "lay_out", "lay_out", defArgs (top 24), defBody (top 24), defScope (top 24), [], []⟩,
  ⟨("names_in", none), "names_in", "names_in", defArgs (top 21), defBody (top 21), defScope (top 21), [], []⟩,
  ⟨("fetch", none), "fetch", "fetch", defArgs (top 33), defBody (top 33), defScope (top 33), [], []⟩,
  ⟨("go_to", none), "go_to", "go_to", defArgs (top 30), defBody (top 30), defScope (top 30), [], []⟩,
  ⟨("make", none), "make", "make", defArgs (top 34), defBody (top 34), defScope (top 34), [], []⟩,
  ⟨("store", none), "store", "store", defArgs (top 35), defBody (top 35), defScope (top 35), [], []⟩,
  ⟨("deed_done", none), "deed_done", "deed_done", defArgs (top 32), defBody (top 32), defScope (top 32), [], []⟩,
  ⟨("choose", none), "choose", "choose", defArgs (top 31), defBody (top 31), defScope (top 31), [], []⟩,
  ⟨("small", none), "small", "small", defArgs (top 29), defBody (top 29), defScope (top 29), [], []⟩,
  ⟨("_law_bag", none), "_law_bag", "_law_bag", defArgs (top 37), defBody (top 37), defScope (top 37), [], []⟩]
def hfn1 : List He.DefD := [
  ⟨("_law_take", none), "_law_take", "_law_take", defArgs (top 38), defBody (top 38), defScope (top 38), [], []⟩,
  ⟨("_law_thing", none), "_law_thing", "_law_thing", defArgs (top 39), defBody (top 39), defScope (top 39), [], []⟩,
  ⟨("_law_name", none), "_law_name", "_law_name", defArgs (top 40), defBody (top 40), defScope (top 40), [], []⟩,
  ⟨("_law_deeds", none), "_law_deeds", "_law_deeds", defArgs (top 42), defBody (top 42), defScope (top 42), [], []⟩,
  ⟨("_law_top", none), "_law_top", "_law_top", defArgs (top 43), defBody (top 43), defScope (top 43), [], []⟩,
  ⟨("_law_set", none), "_law_set", "_law_set", defArgs (top 41), defBody (top 41), defScope (top 41), [], []⟩,
  ⟨("_law_rows", none), "_law_rows", "_law_rows", defArgs (top 44), defBody (top 44), defScope (top 44), [], []⟩,
  ⟨("_law_size", none), "_law_size", "_law_size", defArgs (top 45), defBody (top 45), defScope (top 45), [], []⟩,
  ⟨("_law_looked", none), "_law_looked", "_law_looked", defArgs (top 46), defBody (top 46), defScope (top 46), [], []⟩,
  ⟨("_law_cut_down", none), "_law_cut_down", "_law_cut_down", defArgs (top 47), defBody (top 47), defScope (top 47), [], []⟩,
  ⟨("_law_refused", none), "_law_refused", "_law_refused", defArgs (top 48), defBody (top 48), defScope (top 48), [], []⟩,
  ⟨("_law_good", none), "_law_good", "_law_good", defArgs (top 49), defBody (top 49), defScope (top 49), [], []⟩,
  ⟨("law", none), "law", "law", defArgs (top 50), defBody (top 50), defScope (top 50), [], []⟩,
  ⟨("Program", some "__init__"), "__init__", "Program.__init__", defArgs (inClass (top 17) 0), defBody (inClass (top 17) 0), defScope (inClass (top 17) 0), [], []⟩,
  ⟨("Program", some "__len__"), "__len__", "Program.__len__", defArgs (inClass (top 17) 2), defBody (inClass (top 17) 2), defScope (inClass (top 17) 2), [], []⟩,
  ⟨("Program", some "__eq__"), "__eq__", "Program.__eq__", defArgs (inClass (top 17) 3), defBody (inClass (top 17) 3), defScope (inClass (top 17) 3), [], []⟩,
  ⟨("Program", some "used"), "used", "Program.used", defArgs (inClass (top 17) 1), defBody (inClass (top 17) 1), defScope (inClass (top 17) 1), [], []⟩,
  ⟨("TooGreat", some "__init__"), "__init__", "TooGreat.__init__", defArgs (inClass (top 3) 0), defBody (inClass (top 3) 0), defScope (inClass (top 3) 0), [], []⟩]
def hfn : List He.DefD := hfn0 ++ hfn1
def hts : List He.Tab := [(fun K => He.ga K "FORMS", ["told", "first", "second", "pair", "same", "while", "if"])]
def hex0 : List (PySem.W.Frag → Bool) := [
  fun K => decide (PySem.W.nsIn K mainGlobals "Thing" = some (some (.ref (He.ga K "Thing")))),
  fun K => decide (PySem.W.plainGet K (He.ga K "Thing") Str.empty = true),
  fun K => decide (PySem.W.hasDictIn K (He.ga K "Thing") = true),
  fun K => decide (PySem.W.plainOver K (He.ga K "Thing") = true),
  fun K => decide (PySem.W.findIn K (.ref (He.ga K "Thing")) "__setattr__" = some (some (.builtin "object.__setattr__"))),
  fun K => decide (PySem.W.makesIn K (He.ga K "Thing") = true),
  fun K => decide (PySem.W.keepIn K (.ref (He.ga K "Thing")) = true),
  fun K => decide (PySem.W.findIn K (.ref (He.ga K "Thing")) "first" = some none),
  fun K => decide (PySem.W.findIn K (.ref (He.ga K "Thing")) "second" = some none),
  fun K => decide (PySem.W.findIn K (.ref (He.ga K "Thing")) "size" = some none),
  fun K => decide (PySem.W.findIn K (.ref (He.ga K "Thing")) "__class__" = some (some (.builtin "object.__class__"))),
  fun K => decide (PySem.W.specialIn K (.builtin "object.__class__") "__get__" = some (some (.builtin "getset_descriptor.__get__"))),
  fun K => decide (PySem.W.takesIn K (.builtin "object.__class__") = some true),
  fun K => decide (PySem.W.mroIn K (He.ga K "Thing") (.type "object") = some true),
  fun K => decide (PySem.W.findIn K (.ref (He.ga K "Thing")) "__ne__" = some (some (.builtin "object.__ne__"))),
  fun K => intB K mainGlobals "MOST_PAIRS" 4000,
  fun K => decide (PySem.W.findIn K (.ref (He.ga K "Thing")) "__init__" = some (some (.ref (He.ma K (He.ga K "Thing") "__init__")))),
  fun K => decide (PySem.W.isFn K (.ref (He.ma K (He.ga K "Thing") "__init__")) = true),
  fun K => decide (PySem.W.keepIn K (.ref (He.ma K (He.ga K "Thing") "__init__")) = true),
  fun K => decide (PySem.W.findIn K (.ref (He.ga K "Thing")) "__eq__" = some (some (.ref (He.ma K (He.ga K "Thing") "__eq__"))))]
def hex1 : List (PySem.W.Frag → Bool) := [
  fun K => decide (PySem.W.isFn K (.ref (He.ma K (He.ga K "Thing") "__eq__")) = true),
  fun K => decide (PySem.W.keepIn K (.ref (He.ma K (He.ga K "Thing") "__eq__")) = true),
  fun K => decide (PySem.W.nsIn K mainGlobals "pairs_in" = some (some (.ref (He.ga K "pairs_in")))),
  fun K => decide (PySem.W.keepIn K (.ref (He.ga K "pairs_in")) = true),
  fun K => decide (PySem.W.nsIn K mainGlobals "alike" = some (some (.ref (He.ga K "alike")))),
  fun K => decide (PySem.W.keepIn K (.ref (He.ga K "alike")) = true),
  fun K => decide (PySem.W.nsIn K mainGlobals "number" = some (some (.ref (He.ga K "number")))),
  fun K => decide (PySem.W.keepIn K (.ref (He.ga K "number")) = true),
  fun K => decide (PySem.W.nsIn K mainGlobals "is_name" = some (some (.ref (He.ga K "is_name")))),
  fun K => decide (PySem.W.keepIn K (.ref (He.ga K "is_name")) = true),
  fun K => decide (PySem.W.nsIn K mainGlobals "fits" = some (some (.ref (He.ga K "fits")))),
  fun K => decide (PySem.W.keepIn K (.ref (He.ga K "fits")) = true),
  fun K => decide (PySem.W.nsIn K mainGlobals "has_form" = some (some (.ref (He.ga K "has_form")))),
  fun K => decide (PySem.W.keepIn K (.ref (He.ga K "has_form")) = true),
  fun K => decide (PySem.W.nsIn K mainGlobals "rows_in" = some (some (.ref (He.ga K "rows_in")))),
  fun K => decide (PySem.W.keepIn K (.ref (He.ga K "rows_in")) = true),
  fun K => decide (PySem.W.nsIn K mainGlobals "look_through" = some (some (.ref (He.ga K "look_through")))),
  fun K => decide (PySem.W.keepIn K (.ref (He.ga K "look_through")) = true),
  fun K => decide (PySem.W.nsIn K mainGlobals "lay_out" = some (some (.ref (He.ga K "lay_out")))),
  fun K => decide (PySem.W.keepIn K (.ref (He.ga K "lay_out")) = true)]
def hex2 : List (PySem.W.Frag → Bool) := [
  fun K => decide (PySem.W.nsIn K mainGlobals "names_in" = some (some (.ref (He.ga K "names_in")))),
  fun K => decide (PySem.W.keepIn K (.ref (He.ga K "names_in")) = true),
  fun K => decide (PySem.W.nsIn K mainGlobals "fetch" = some (some (.ref (He.ga K "fetch")))),
  fun K => decide (PySem.W.keepIn K (.ref (He.ga K "fetch")) = true),
  fun K => decide (PySem.W.nsIn K mainGlobals "go_to" = some (some (.ref (He.ga K "go_to")))),
  fun K => decide (PySem.W.keepIn K (.ref (He.ga K "go_to")) = true),
  fun K => decide (PySem.W.nsIn K mainGlobals "make" = some (some (.ref (He.ga K "make")))),
  fun K => decide (PySem.W.keepIn K (.ref (He.ga K "make")) = true),
  fun K => decide (PySem.W.nsIn K mainGlobals "store" = some (some (.ref (He.ga K "store")))),
  fun K => decide (PySem.W.keepIn K (.ref (He.ga K "store")) = true),
  fun K => decide (PySem.W.nsIn K mainGlobals "deed_done" = some (some (.ref (He.ga K "deed_done")))),
  fun K => decide (PySem.W.keepIn K (.ref (He.ga K "deed_done")) = true),
  fun K => decide (PySem.W.nsIn K mainGlobals "choose" = some (some (.ref (He.ga K "choose")))),
  fun K => decide (PySem.W.keepIn K (.ref (He.ga K "choose")) = true),
  fun K => decide (PySem.W.nsIn K mainGlobals "small" = some (some (.ref (He.ga K "small")))),
  fun K => decide (PySem.W.keepIn K (.ref (He.ga K "small")) = true),
  fun K => decide (PySem.W.nsIn K mainGlobals "_law_bag" = some (some (.ref (He.ga K "_law_bag")))),
  fun K => decide (PySem.W.keepIn K (.ref (He.ga K "_law_bag")) = true),
  fun K => decide (PySem.W.nsIn K mainGlobals "_law_take" = some (some (.ref (He.ga K "_law_take")))),
  fun K => decide (PySem.W.keepIn K (.ref (He.ga K "_law_take")) = true)]
def hex3 : List (PySem.W.Frag → Bool) := [
  fun K => decide (PySem.W.nsIn K mainGlobals "_law_thing" = some (some (.ref (He.ga K "_law_thing")))),
  fun K => decide (PySem.W.keepIn K (.ref (He.ga K "_law_thing")) = true),
  fun K => decide (PySem.W.nsIn K mainGlobals "_law_name" = some (some (.ref (He.ga K "_law_name")))),
  fun K => decide (PySem.W.keepIn K (.ref (He.ga K "_law_name")) = true),
  fun K => decide (PySem.W.nsIn K mainGlobals "_law_deeds" = some (some (.ref (He.ga K "_law_deeds")))),
  fun K => decide (PySem.W.keepIn K (.ref (He.ga K "_law_deeds")) = true),
  fun K => decide (PySem.W.nsIn K mainGlobals "_law_top" = some (some (.ref (He.ga K "_law_top")))),
  fun K => decide (PySem.W.keepIn K (.ref (He.ga K "_law_top")) = true),
  fun K => decide (PySem.W.nsIn K mainGlobals "_law_set" = some (some (.ref (He.ga K "_law_set")))),
  fun K => decide (PySem.W.keepIn K (.ref (He.ga K "_law_set")) = true),
  fun K => decide (PySem.W.nsIn K mainGlobals "_law_rows" = some (some (.ref (He.ga K "_law_rows")))),
  fun K => decide (PySem.W.keepIn K (.ref (He.ga K "_law_rows")) = true),
  fun K => decide (PySem.W.nsIn K mainGlobals "_law_size" = some (some (.ref (He.ga K "_law_size")))),
  fun K => decide (PySem.W.keepIn K (.ref (He.ga K "_law_size")) = true),
  fun K => decide (PySem.W.nsIn K mainGlobals "_law_looked" = some (some (.ref (He.ga K "_law_looked")))),
  fun K => decide (PySem.W.keepIn K (.ref (He.ga K "_law_looked")) = true),
  fun K => decide (PySem.W.nsIn K mainGlobals "_law_cut_down" = some (some (.ref (He.ga K "_law_cut_down")))),
  fun K => decide (PySem.W.keepIn K (.ref (He.ga K "_law_cut_down")) = true),
  fun K => decide (PySem.W.nsIn K mainGlobals "_law_refused" = some (some (.ref (He.ga K "_law_refused")))),
  fun K => decide (PySem.W.keepIn K (.ref (He.ga K "_law_refused")) = true)]
def hex4 : List (PySem.W.Frag → Bool) := [
  fun K => decide (PySem.W.nsIn K mainGlobals "_law_good" = some (some (.ref (He.ga K "_law_good")))),
  fun K => decide (PySem.W.keepIn K (.ref (He.ga K "_law_good")) = true),
  fun K => decide (PySem.W.nsIn K mainGlobals "law" = some (some (.ref (He.ga K "law")))),
  fun K => decide (PySem.W.keepIn K (.ref (He.ga K "law")) = true),
  fun K => decide (PySem.W.nsIn K mainGlobals "Program" = some (some (.ref (He.ga K "Program")))),
  fun K => decide (PySem.W.plainGet K (He.ga K "Program") Str.empty = true),
  fun K => decide (PySem.W.hasDictIn K (He.ga K "Program") = true),
  fun K => decide (PySem.W.plainOver K (He.ga K "Program") = true),
  fun K => decide (PySem.W.findIn K (.ref (He.ga K "Program")) "__setattr__" = some (some (.builtin "object.__setattr__"))),
  fun K => decide (PySem.W.makesIn K (He.ga K "Program") = true),
  fun K => decide (PySem.W.keepIn K (.ref (He.ga K "Program")) = true),
  fun K => decide (PySem.W.findIn K (.ref (He.ga K "Program")) "deeds" = some none),
  fun K => decide (PySem.W.findIn K (.ref (He.ga K "Program")) "plan" = some none),
  fun K => decide (PySem.W.findIn K (.ref (He.ga K "Program")) "__class__" = some (some (.builtin "object.__class__"))),
  fun K => decide (PySem.W.mroIn K (He.ga K "Program") (.type "object") = some true),
  fun K => decide (PySem.W.findIn K (.ref (He.ga K "Program")) "__ne__" = some (some (.builtin "object.__ne__"))),
  fun K => decide (PySem.W.nsIn K mainGlobals "FORMS" = some (some (.ref (He.ga K "FORMS")))),
  fun K => intB K mainGlobals "MANY_NAMES" 10,
  fun K => intB K mainGlobals "MOST_DEEDS" 4000,
  fun K => intB K mainGlobals "MOST_FLOORS" 8]
def hex5 : List (PySem.W.Frag → Bool) := [
  fun K => decide (PySem.W.kitOne K (.type "int") (.type "int") = some true),
  fun K => decide (PySem.W.kitOne K (.type "int") (.type "bool") = some false),
  fun K => decide (PySem.W.kitOne K (.type "tuple") (.type "tuple") = some true),
  fun K => decide (PySem.W.kitOne K (.type "str") (.type "str") = some true),
  fun K => strB K (He.ga K "FORMS") "told" "nt",
  fun K => strB K (He.ga K "FORMS") "first" "nn",
  fun K => strB K (He.ga K "FORMS") "second" "nn",
  fun K => strB K (He.ga K "FORMS") "pair" "nnn",
  fun K => strB K (He.ga K "FORMS") "same" "nnn",
  fun K => strB K (He.ga K "FORMS") "while" "nr",
  fun K => strB K (He.ga K "FORMS") "if" "nrr",
  fun K => decide (PySem.W.findIn K (.ref (He.ga K "Program")) "__init__" = some (some (.ref (He.ma K (He.ga K "Program") "__init__")))),
  fun K => decide (PySem.W.isFn K (.ref (He.ma K (He.ga K "Program") "__init__")) = true),
  fun K => decide (PySem.W.keepIn K (.ref (He.ma K (He.ga K "Program") "__init__")) = true),
  fun K => decide (PySem.W.findIn K (.ref (He.ga K "Program")) "__len__" = some (some (.ref (He.ma K (He.ga K "Program") "__len__")))),
  fun K => decide (PySem.W.isFn K (.ref (He.ma K (He.ga K "Program") "__len__")) = true),
  fun K => decide (PySem.W.keepIn K (.ref (He.ma K (He.ga K "Program") "__len__")) = true),
  fun K => decide (PySem.W.findIn K (.ref (He.ga K "Program")) "__eq__" = some (some (.ref (He.ma K (He.ga K "Program") "__eq__")))),
  fun K => decide (PySem.W.isFn K (.ref (He.ma K (He.ga K "Program") "__eq__")) = true),
  fun K => decide (PySem.W.keepIn K (.ref (He.ma K (He.ga K "Program") "__eq__")) = true)]
def hex6 : List (PySem.W.Frag → Bool) := [
  fun K => decide (PySem.W.findIn K (.ref (He.ga K "Program")) "used" = some (some (.ref (He.ma K (He.ga K "Program") "used")))),
  fun K => decide (PySem.W.isFn K (.ref (He.ma K (He.ga K "Program") "used")) = true),
  fun K => decide (PySem.W.keepIn K (.ref (He.ma K (He.ga K "Program") "used")) = true),
  fun K => decide (PySem.W.nsIn K mainGlobals "TooGreat" = some (some (.ref (He.ga K "TooGreat")))),
  fun K => excB K (He.ga K "TooGreat") [.type "OverflowError", .type "ArithmeticError", .type "Exception", .type "BaseException", .type "object"] "OverflowError.__new__",
  fun K => decide (PySem.W.excOver K (He.ga K "TooGreat") [.type "OverflowError", .type "ArithmeticError", .type "Exception", .type "BaseException", .type "object"] = true),
  fun K => decide (PySem.W.findIn K (.ref (He.ga K "TooGreat")) "__setattr__" = some (some (.builtin "object.__setattr__"))),
  fun K => decide (PySem.W.subIn K (.ref (He.ga K "TooGreat")) (.type "BaseException") = some true),
  fun K => decide (PySem.W.typeIn K (.ref (He.ga K "TooGreat")) = some (.type "type")),
  fun K => decide (PySem.W.keepIn K (.ref (He.ga K "TooGreat")) = true),
  fun K => decide (PySem.W.findIn K (.ref (He.ga K "TooGreat")) "bound" = some none),
  fun K => decide (PySem.W.findIn K (.ref (He.ga K "TooGreat")) "__init__" = some (some (.ref (He.ma K (He.ga K "TooGreat") "__init__")))),
  fun K => decide (PySem.W.typeIn K (.ref (He.ma K (He.ga K "TooGreat") "__init__")) = some (.type "function")),
  fun K => decide (PySem.W.keepIn K (.ref (He.ma K (He.ga K "TooGreat") "__init__")) = true),
  fun K => decide (PySem.W.hasDictIn K (He.ga K "TooGreat") = true),
  fun K => decide (PySem.W.subIn K (.ref (He.ga K "TooGreat")) (.ref (He.ga K "TooGreat")) = some true),
  fun K => decide (PySem.W.findIn K (.ref (He.ga K "TooGreat")) "__getattribute__" = some (some (.builtin "BaseException.__getattribute__"))),
  fun K => decide (PySem.W.findIn K (.ref (He.ga K "TooGreat")) "__getattr__" = some none),
  fun K => decide (PySem.W.isClsIn K (He.ga K "TooGreat") = true),
  fun K => decide (PySem.W.findIn K (.ref (He.ga K "TooGreat")) "__class__" = some (some (.builtin "object.__class__")))]
def hex7 : List (PySem.W.Frag → Bool) := [
  fun K => decide (PySem.W.mroIn K (He.ga K "TooGreat") (.type "object") = some true),
  fun K => decide (PySem.W.kitOne K (.ref (He.ga K "TooGreat")) (.type "OverflowError") = some true),
  fun K => intB K mainGlobals "MOST_TOLD_ANEW" 30,
  fun K => decide (PySem.W.nsIn K mainGlobals "len" = some none),
  fun K => decide (PySem.W.nsIn K mainGlobals "range" = some none),
  fun K => decide (PySem.W.nsIn K mainGlobals "isinstance" = some none),
  fun K => decide (PySem.W.nsIn K mainGlobals "abs" = some none),
  fun K => decide (PySem.W.nsIn K mainGlobals "int" = some none),
  fun K => decide (PySem.W.nsIn K mainGlobals "str" = some none),
  fun K => decide (PySem.W.nsIn K mainGlobals "max" = some none),
  fun K => decide (PySem.W.nsIn K mainGlobals "min" = some none),
  fun K => decide (PySem.W.nsIn K mainGlobals "all" = some none),
  fun K => decide (PySem.W.nsIn K mainGlobals "bool" = some none),
  fun K => decide (PySem.W.nsIn K mainGlobals "tuple" = some none),
  fun K => decide (PySem.W.nsIn K mainGlobals "zip" = some none),
  fun K => decide (PySem.W.nsIn K mainGlobals "enumerate" = some none),
  fun K => decide (PySem.W.nsIn K mainGlobals "list" = some none),
  fun K => decide (PySem.W.nsIn K mainGlobals "OverflowError" = some none),
  fun K => decide (PySem.W.nsIn K mainGlobals "sum" = some none),
  fun K => decide (PySem.W.nsIn K mainGlobals "set" = some none)]
def hex8 : List (PySem.W.Frag → Bool) := [
  fun K => decide (PySem.W.nsIn K mainGlobals "sorted" = some none),
  fun K => decide (PySem.W.nsIn K mainGlobals "reversed" = some none)]
def hex : List (PySem.W.Frag → Bool) := hex0 ++ hex1 ++ hex2 ++ hex3 ++ hex4 ++ hex5 ++ hex6 ++ hex7 ++ hex8
def has0 : List Addr := [3, 6, 4, 21, 38, 58, 121, 132, 139, 146, 153, 154, 206, 217, 224, 229, 236, 243, 250, 257, 264, 269, 276, 283, 290, 297, 304, 311, 318, 325]
def has1 : List Addr := [332, 337, 344, 351, 358, 365, 372, 377, 382, 389, 396, 401, 406, 20, 37, 57, 120, 131, 138, 145, 152, 205, 216, 223, 228, 235, 242, 249, 256, 263]
def has2 : List Addr := [268, 275, 282, 289, 296, 303, 310, 317, 324, 331, 336, 343, 350, 357, 364, 371, 376, 381, 388, 395, 400, 405, 35, 36, 39, 55, 56, 59, 76, 83]
def has3 : List Addr := [90, 97, 104, 111, 118, 119, 122, 123, 168, 175, 182, 189, 196, 203, 204, 207, 208, 34, 54, 75, 69, 82, 89, 96, 103, 110, 117, 167, 174, 181]
def has4 : List Addr := [188, 195, 202]
def has : List Addr := has0 ++ has1 ++ has2 ++ has3 ++ has4
def hexs (K : PySem.W.Frag) : Bool := hex.all fun f => f K
abbrev hR : PySem.W.OpenRow := PySem.W.OpenLaw.row PySem.Challenge.rw_judgeslip_k44_small
abbrev hkX : PySem.W.Hook := hookC has hfn hts hexs
abbrev hob (s : PySem.W.SharedT) : He.AlT × Bool := obC has hfn hts hexs s
theorem hob_eq (s : PySem.W.SharedT) : hob s = hkX.obs s.abs := obC_eq has hfn hts hexs s
theorem hr0F (w : World) : HandSHeadRun.RunEq hR (PySem.W.view hR.prog [50]) PySem.W.Hook.none (fun _ => ()) 20000 hnames (w.withFollow "special-get-raises" false) := by
  intro os
  kernel_rfl
theorem hr1F (w : World) (os : OsState) : (HandSHeadRun.endF (HandSHeadRun.stepQ (HandSHeadRun.denQ HandSHeadRun.tabQ) hR.prog (w.withFollow "special-get-raises" false)) 20000 hR.prog (w.withFollow "special-get-raises" false) os).map (fun s => He.obsT [] hfn hts (He.frG (HandSHeadRun.getT s) has)) = some (He.valT hfn hts (w.withFollow "special-get-raises" false)) := by
  kernel_rfl
theorem hr2F (w : World) (os : OsState) : (HandSHeadRun.endF (HandSHeadRun.stepQ (HandSHeadRun.denQ HandSHeadRun.tabQ) hR.prog (w.withFollow "special-get-raises" false)) 20000 hR.prog (w.withFollow "special-get-raises" false) os).map (fun s => hexs (He.frG (HandSHeadRun.getT s) has)) = some true := by
  kernel_rfl
theorem hrunF (w : World) : HandSHeadRun.RunEq hR (PySem.W.view hR.prog [50]) hkX hob 20000 hnames (w.withFollow "special-get-raises" false) := run_join (hr0F w) (hr1F w) (hr2F w)
theorem hr0T (w : World) : HandSHeadRun.RunEq hR (PySem.W.view hR.prog [50]) PySem.W.Hook.none (fun _ => ()) 20000 hnames (w.withFollow "special-get-raises" true) := by
  intro os
  kernel_rfl
theorem hr1T (w : World) (os : OsState) : (HandSHeadRun.endF (HandSHeadRun.stepQ (HandSHeadRun.denQ HandSHeadRun.tabQ) hR.prog (w.withFollow "special-get-raises" true)) 20000 hR.prog (w.withFollow "special-get-raises" true) os).map (fun s => He.obsT [] hfn hts (He.frG (HandSHeadRun.getT s) has)) = some (He.valT hfn hts (w.withFollow "special-get-raises" true)) := by
  kernel_rfl
theorem hr2T (w : World) (os : OsState) : (HandSHeadRun.endF (HandSHeadRun.stepQ (HandSHeadRun.denQ HandSHeadRun.tabQ) hR.prog (w.withFollow "special-get-raises" true)) 20000 hR.prog (w.withFollow "special-get-raises" true) os).map (fun s => hexs (He.frG (HandSHeadRun.getT s) has)) = some true := by
  kernel_rfl
theorem hrunT (w : World) : HandSHeadRun.RunEq hR (PySem.W.view hR.prog [50]) hkX hob 20000 hnames (w.withFollow "special-get-raises" true) := run_join (hr0T w) (hr1T w) (hr2T w)
theorem hrun (w : World) : HandSHeadRun.RunEq hR (PySem.W.view hR.prog [50]) hkX hob 20000 hnames w :=
  PySem.W.byRow2 "special-get-raises" (P := fun w => HandSHeadRun.RunEq hR (PySem.W.view hR.prog [50]) hkX hob 20000 hnames w) hrunF hrunT w

end Js

set_option Elab.async false
set_option linter.all false
set_option maxRecDepth 100000
set_option maxHeartbeats 2000000
namespace Js
open PySem L2
def spAlike (C : Addr) : Sp := spEqT C
section
variable {P : Program} {w : World} {K : PySem.W.Frag} {mg : Str → Option Value} {base : Heap} {C : Addr}
theorem scA : FnScope ["one", "other", "waiting", "left", "right"] ["one", "other"] (defScope sAlike) := ⟨rfl, rfl, rfl, by decide +kernel, rfl, by decide +kernel, by decide +kernel⟩
theorem ok_alike {f : Addr} {fd : FuncData} (F : Fun K "alike" "alike" sAlike f fd) (T : Txt K mg C) : FnOk P w K mg base CX0 1 f fd ["one", "other"] (spAlike C) := by
  refine F.ok scA (fun vs H Q E h => ?_) (fun cdv A outer s H vs Q E hr h => ?_)
  · obtain ⟨a, b, t, u, rfl, _⟩ := h
    rfl
  · obtain ⟨a, b, t, u, rfl, ha, hb, hz, k⟩ := h
    refine ⟨_, pss_cons (ps_set (i := 2) scA.nd rfl (Or.inl rfl) (pe_lst (pa_cons (pe_tup (pa_cons (pv 0) (pa_cons (pv 1) pa_nil))) pa_nil)))
      (pss_cons (ps_while PassesOwn.never (pt_truth (pv 2) (by intro _; rfl))
        (pss_cons (ps_asg (pe_bm0 PySem.F.plainAttrs_list PySem.F.slot_list_pop PySem.F.type_list_pop mt_pop (pv 2)) (pg_tup rfl (pgs_cons (pg_name (i := 3) scA.nd rfl (Or.inl rfl)) (pgs_cons (pg_name (i := 4) scA.nd rfl (Or.inl rfl)) pgs_nil))))
        (pss_cons (ps_if (pt_cmpR op_ne (pe_fld (pv 3) rfl) (pe_fld (pv 4) rfl) (nomark _)) (pss_one (ps_ret pe_bl)) pss_nil)
        (pss_one (ps_if (pt_cmpR op_gt (pe_fld (pv 3) rfl) pe_int (nomark _))
          (pss_cons (ps_expr (pe_bm PySem.F.plainAttrs_list PySem.F.slot_list_append PySem.F.type_list_append mt_append (pv 2) (pa_cons (pe_tup (pa_cons (pe_fld (pv 3) rfl) (pa_cons (pe_fld (pv 4) rfl) pa_nil))) pa_nil)))
          (pss_one (ps_expr (pe_bm PySem.F.plainAttrs_list PySem.F.slot_list_append PySem.F.type_list_append mt_append (pv 2) (pa_cons (pe_tup (pa_cons (pe_fld (pv 3) rfl) (pa_cons (pe_fld (pv 4) rfl) pa_nil))) pa_nil))))) pss_nil)))))
      (pss_one (ps_ret pe_bl))), ?_⟩
    refine ⟨_, rfl, _, rfl, (by show 2 ≤ sizeLine; decide), fun q0 nq0 => ?_⟩
    refine ⟨(by show 1 ≤ sizeLine; decide), fun wl nwl => ?_⟩
    have hwl : H wl = none := by
      have := nwl
      unfold upd at this
      split at this
      · cases this
      · exact this
    have nqw : q0 ≠ wl := ne_of_none (o := .tup [.ref a, .ref b]) upd_same nwl
    -- the loop
    refine ⟨fun m σ H' => ∃ (rs : List V) (ps : List (Tr × Tr)) (x3 x4 : Option V), σ = [some (.ref a), some (.ref b), some (.ref wl), x3, x4] ∧ Same H H' ∧ H' wl = some (.lst rs.reverse) ∧ Paired (PrAt C H') rs ps ∧
      ((∀ p ∈ ps, p.1 = p.2) ↔ t = u) ∧ m = pm ps ∧ m ≤ 2 * t.size + 1, ?_, ?_⟩
    · have s1 : Same H (upd (upd H q0 (.tup [.ref a, .ref b])) wl (.lst [.ref q0])) := (Same.new nq0).set hwl
      refine ⟨_, [.ref q0], [(t, u)], none, none, rfl, s1, upd_same, .cons ⟨q0, a, b, rfl, ?_, ha.same s1, hb.same s1⟩ .nil, ?_, rfl, ?_⟩
      · exact (upd_ne nqw).trans upd_same
      · simp
      · simp [pm]
    · rintro m σ H' ⟨rs, ps, x3, x4, rfl, s1, hw, hps, hiff, rfl, hm⟩
      refine ⟨_, rfl, !rs.reverse.isEmpty, .inl ⟨_, SqL.of hw, rfl⟩, ?_⟩
      cases hps with
      | nil =>
        refine iteF ?_
        have : t = u := hiff.mp (fun p hp => by cases hp)
        have z := k H' s1
        rw [decide_eq_true this] at z
        exact z
      | @cons v p rs ps hv hps =>
        have e1 : (!(v :: rs).reverse.isEmpty) = true := by simp
        rw [e1]
        refine iteT ⟨fun σ' H2 => ∃ m', m' < pm (p :: ps) ∧ _, fun σ' H2 z => z, ?_⟩
        obtain ⟨q, x, y, rfl, hq, hx, hy⟩ := hv
        have hlen : rs.length ≤ pm ps := by rw [Paired.length hps]; exact pm_len ps
        rw [pm_cons] at hm
        refine ⟨_, rfl, .inl ⟨rfl, _, SqL.of hw⟩, wl, _, _, rfl, rfl, hw, last_rev _ _, ?_⟩
        rw [drop_rev]
        have nqwl : q ≠ wl := ne_of hq hw (by intro z; cases z)
        have k1 : KT H' (upd H' wl (.lst rs.reverse)) := KT.lst hw
        have s2 : Same H (upd H' wl (.lst rs.reverse)) := s1.set hwl
        have hx2 := hx.kt k1
        have hy2 := hy.kt k1
        have hps2 := prs_kt k1 hps
        obtain ⟨dx, f1, g1, h1⟩ := hx2.obj
        obtain ⟨dy, f2, g2, h2⟩ := hy2.obj
        refine ⟨q, _, rfl, SqT.of ((upd_ne nqwl).trans hq), rfl, _, _, rfl, _, _, rfl, rfl, ?_⟩
        refine ⟨_, rfl, _, _, _, _, _, rfl, h1, T.cl, T.nZ, tf_size _ _ _, _, rfl, _, _, _, _, _, rfl, h2, T.cl, T.nZ, tf_size _ _ _, rfl, _, rfl, ?_⟩
        by_cases hsz : p.1.size = p.2.size
        · have ed : (!decide (V.int (p.1.size : Nat) = V.int (p.2.size : Nat))) = false := by rw [hsz]; simp
          rw [ed]
          refine iteF ?_
          refine ⟨_, rfl, _, _, _, _, _, rfl, h1, T.cl, T.nZ, tf_size _ _ _, _, _, rfl, rfl, _, rfl, ?_⟩
          by_cases h1z : 1 < p.1.size
          · have ed2 : decide ((1 : Int) < (p.1.size : Nat)) = true := decide_eq_true (by omega)
            rw [ed2]
            refine iteT ?_
            obtain ⟨t1, u1⟩ := p
            cases t1 with
            | nil => simp [Tr.size] at h1z
            | pr l1 r1 =>
            cases u1 with
            | nil => simp [Tr.size] at hsz
            | pr l2 r2 =>
            obtain ⟨dx', b1, c1, hX, hb1, hc1⟩ := hx2.pair
            obtain ⟨dy', b2, c2, hY, hb2, hc2⟩ := hy2.pair
            -- waiting.append((left.second, right.second))
            refine ⟨_, rfl, .inl ⟨rfl, _, SqL.of upd_same⟩, _, rfl, _, _, _, _, _, rfl, hX, T.cl, T.nS, tf_second _ _ _, _, rfl, _, _, _, _, _, rfl, hY, T.cl, T.nS, tf_second _ _ _, (by show 2 ≤ sizeLine; decide), fun q1 nq1 => ?_⟩
            have nq1w : wl ≠ q1 := ne_of_none (o := .lst rs.reverse) upd_same nq1
            have hsl := line4
            simp only [Tr.size] at hm
            refine ⟨wl, _, _, rfl, rfl, (upd_ne nq1w).trans upd_same, (by rw [List.length_reverse]; omega), ?_⟩
            have k2 : KT (upd H' wl (.lst rs.reverse)) (upd (upd (upd H' wl (.lst rs.reverse)) q1 (.tup [.ref c1, .ref c2])) wl (.lst (rs.reverse ++ [.ref q1]))) := (KT.new nq1).trans (KT.lst ((upd_ne nq1w).trans upd_same))
            have s3 : Same H (upd (upd (upd H' wl (.lst rs.reverse)) q1 (.tup [.ref c1, .ref c2])) wl (.lst (rs.reverse ++ [.ref q1]))) := (s2.trans (Same.new nq1)).set hwl
            have hq1 : (upd (upd (upd H' wl (.lst rs.reverse)) q1 (.tup [.ref c1, .ref c2])) wl (.lst (rs.reverse ++ [.ref q1]))) q1 = some (.tup [.ref c1, .ref c2]) := (upd_ne (Ne.symm nq1w)).trans upd_same
            have hw3 : (upd (upd (upd H' wl (.lst rs.reverse)) q1 (.tup [.ref c1, .ref c2])) wl (.lst (rs.reverse ++ [.ref q1]))) wl = some (.lst (rs.reverse ++ [.ref q1])) := upd_same
            have hX3 := k2 _ _ hX (fun _ e => nomatch e)
            have hY3 := k2 _ _ hY (fun _ e => nomatch e)
            have hps3 := prs_kt k2 hps2
            have hb1' := hb1.kt k2
            have hc1' := hc1.kt k2
            have hb2' := hb2.kt k2
            have hc2' := hc2.kt k2
            revert s3 hq1 hw3 hX3 hY3 hps3 hb1' hc1' hb2' hc2'
            generalize (upd (upd (upd H' wl (.lst rs.reverse)) q1 (.tup [.ref c1, .ref c2])) wl (.lst (rs.reverse ++ [.ref q1]))) = H3
            intro s3 hq1 hw3 hX3 hY3 hps3 hb1' hc1' hb2' hc2'
            -- waiting.append((left.first, right.first))
            refine ⟨_, rfl, .inl ⟨rfl, _, SqL.of hw3⟩, _, rfl, _, _, _, _, _, rfl, hX3, T.cl, T.nF, tf_first _ _ _, _, rfl, _, _, _, _, _, rfl, hY3, T.cl, T.nF, tf_first _ _ _, (by show 2 ≤ sizeLine; decide), fun q2 nq2 => ?_⟩
            have nq2w : wl ≠ q2 := ne_of_none hw3 nq2
            refine ⟨wl, _, _, rfl, rfl, (upd_ne nq2w).trans hw3, (by rw [List.length_append, List.length_reverse, List.length_singleton]; omega), ?_⟩
            have k4 : KT H3 (upd (upd H3 q2 (.tup [.ref b1, .ref b2])) wl (.lst (rs.reverse ++ [.ref q1] ++ [.ref q2]))) := (KT.new nq2).trans (KT.lst ((upd_ne nq2w).trans hw3))
            refine ⟨pm ((l1, l2) :: (r1, r2) :: ps), ?_, .ref q2 :: .ref q1 :: rs, (l1, l2) :: (r1, r2) :: ps, _, _, rfl, (s3.trans (Same.new nq2)).set hwl, ?_, .cons ⟨q2, b1, b2, rfl, (upd_ne (Ne.symm nq2w)).trans upd_same, hb1'.kt k4, hb2'.kt k4⟩ (.cons ⟨q1, c1, c2, rfl, k4 _ _ hq1 (fun _ e => nomatch e), hc1'.kt k4, hc2'.kt k4⟩ (prs_kt k4 hps3)), ?_, rfl, ?_⟩
            · rw [pm_cons, pm_cons, pm_cons]
              simp only [Tr.size]
              omega
            · rw [upd_same, push_rev, push_rev]
            · rw [← hiff]
              simp only [List.mem_cons, forall_eq_or_imp, Tr.pr.injEq]
              constructor
              · rintro ⟨h1, h2, h3⟩
                exact ⟨⟨h1, h2⟩, h3⟩
              · rintro ⟨⟨h1, h2⟩, h3⟩
                exact ⟨h1, h2, h3⟩
            · rw [pm_cons, pm_cons]
              show 2 * l1.size + 1 + (2 * r1.size + 1 + pm ps) ≤ _
              omega
          · have ed2 : decide ((1 : Int) < (p.1.size : Nat)) = false := decide_eq_false (by omega)
            rw [ed2]
            refine iteF ?_
            have ep : p.1 = p.2 := Tr.small_eq hsz (by omega)
            refine ⟨pm ps, by rw [pm_cons]; omega, rs, ps, _, _, rfl, s2, upd_same, hps2, ?_, rfl, by omega⟩
            rw [← hiff]
            simp [ep]
        · have ed : (!decide (V.int (p.1.size : Nat) = V.int (p.2.size : Nat))) = true := by
            simp
            omega
          rw [ed]
          refine iteT ?_
          have : ¬ t = u := fun z => hsz (by rw [hiff.mpr z p (by simp)])
          have z := k _ s2
          rw [decide_eq_false this] at z
          exact z
theorem scE : FnScope ["self", "other"] ["self", "other"] (defScope sEq) := ⟨rfl, rfl, rfl, by decide +kernel, rfl, by decide +kernel, by decide +kernel⟩
theorem kit_self (K : PySem.W.Frag) (C : Addr) : PySem.W.kitOne K (.ref C) (.ref C) = some true := by
  unfold PySem.W.kitOne
  rw [if_pos (by simp)]
theorem ok_eq {f fA : Addr} {fd fdA : FuncData} (F : Fun K "__eq__" "Thing.__eq__" sEq f fd) (T : Txt K mg C) (AA : At K mg "alike" sAlike ["one", "other"] fA fdA) : FnOk P w K mg base CX0 2 f fd ["self", "other"] (spEqT C) := by
  have GA : FnOk P w K mg base CX0 1 fA fdA ["one", "other"] (spAlike C) := ok_alike AA.F T
  refine F.ok scE (fun vs H Q E h => ?_) (fun cdv A outer s H vs Q E hr h => ?_)
  · obtain ⟨a, b, t, u, rfl, _⟩ := h
    rfl
  · obtain ⟨a, b, t, u, rfl, ha, hb, hz, k⟩ := h
    refine ⟨_, pss_one (ps_ret (pe_and (pe_callB call_isi (by rfl) T.isi PyProof.Rows.boot_isinstance (pa_cons (pv 1) (pa_cons (pe_glob (v := .ref C) rfl T.mgC rfl) pa_nil)))
      (pe_one (pe_call GA hr rfl AA.mgf AA.F.kp AA.b .nil pass0 (pa_cons (pv 0) (pa_cons (pv 1) pa_nil)))))), ?_⟩
    obtain ⟨dy, f2, g2, h2⟩ := hb.obj
    refine ⟨_, rfl, _, _, _, _, true, rfl, ClsV.own C, .base (.ins h2 T.cl T.ca T.cn T.ct T.cm), kit_self _ _, true, rfl, ?_⟩
    refine iteT ?_
    exact ⟨_, rfl, _, rfl, a, b, t, u, rfl, ha, hb, hz, k⟩
theorem e41 : ((")" : Str)) = ⟨#[41]⟩ := by decide +kernel
theorem e40 : (("(" : Str)) = ⟨#[40]⟩ := by decide +kernel
theorem e46 : (("." : Str)) = ⟨#[46]⟩ := by decide +kernel
theorem scS : FnScope ["thing", "found", "waiting", "part"] ["thing"] (defScope sSigns) := ⟨rfl, rfl, rfl, by decide +kernel, rfl, by decide +kernel, by decide +kernel⟩
theorem ok_signs {f : Addr} {fd : FuncData} (F : Fun K "signs" "signs" sSigns f fd) (T : Txt K mg C) : FnOk P w K mg base CX0 1 f fd ["thing"] (spSigns C) := by
  refine F.ok scS (fun vs H Q E h => ?_) (fun cdv A outer s H vs Q E hr h => ?_)
  · obtain ⟨a, t, rfl, _⟩ := h
    rfl
  · obtain ⟨a, t, rfl, ha, hz, k⟩ := h
    refine ⟨_, pss_cons (ps_set (i := 1) scS.nd rfl (Or.inl rfl) (pe_lst pa_nil)) (pss_cons (ps_set (i := 2) scS.nd rfl (Or.inl rfl) (pe_lst (pa_cons (pv 0) pa_nil)))
      (pss_cons (ps_while PassesOwn.never (pt_truth (pv 2) (by intro _; rfl))
        (pss_cons (ps_set (i := 3) scS.nd rfl (Or.inl rfl) (pe_bm0 PySem.F.plainAttrs_list PySem.F.slot_list_pop PySem.F.type_list_pop mt_pop (pv 2)))
        (pss_one (ps_if (pt_cmp (pc_isN (pv 3)))
          (pss_one (ps_expr (pe_bm PySem.F.plainAttrs_list PySem.F.slot_list_append PySem.F.type_list_append mt_append (pv 1) (pa_cons pe_str pa_nil))))
          (pss_one (ps_if (pt_cmpR op_eq (pe_fld (pv 3) rfl) pe_int (nomark _))
            (pss_one (ps_expr (pe_bm PySem.F.plainAttrs_list PySem.F.slot_list_append PySem.F.type_list_append mt_append (pv 1) (pa_cons pe_str pa_nil))))
            (pss_cons (ps_expr (pe_bm PySem.F.plainAttrs_list PySem.F.slot_list_append PySem.F.type_list_append mt_append (pv 1) (pa_cons pe_str pa_nil)))
              (pss_one (ps_expr (pe_bm PySem.F.plainAttrs_list PySem.F.slot_list_extend PySem.F.type_list_extend mt_extend (pv 2) (pa_cons (pe_lst (pa_cons pe_non (pa_cons (pe_fld (pv 3) rfl) (pa_cons (pe_fld (pv 3) rfl) pa_nil)))) pa_nil)))))))))))
      (pss_one (ps_ret (pv 1))))), ?_⟩
    refine ⟨Nat.zero_le _, fun fl nfl => ?_⟩
    refine ⟨_, rfl, (by show 1 ≤ sizeLine; decide), fun wl nwl => ?_⟩
    have nfw : fl ≠ wl := ne_of_none (o := .lst []) upd_same nwl
    have hwl : H wl = none := by
      have := nwl
      rw [upd_ne (Ne.symm nfw)] at this
      exact this
    have hsl := line4
    refine ⟨fun m σ H' => ∃ (rs : List V) (ps : List (Option Tr)) (dn : List Nat) (x3 : Option V), σ = [some (.ref a), some (.ref fl), some (.ref wl), x3] ∧ Same H H' ∧ H' fl = some (.lst (dn.map sgn)) ∧ H' wl = some (.lst rs.reverse) ∧ Paired (WtAt C H') rs ps ∧
      dn ++ wouts ps = t.codes ∧ m = wm ps ∧ m ≤ 3 * t.size + 1, ?_, ?_⟩
    · have s1 : Same H (upd (upd H fl (.lst [])) wl (.lst [.ref a])) := (Same.new nfl).set hwl
      refine ⟨_, [.ref a], [some t], [], none, rfl, s1, (upd_ne nfw).trans upd_same, upd_same, .cons (.inr ⟨a, t, rfl, rfl, ha.same s1⟩) .nil, ?_, rfl, ?_⟩
      · simp [wouts, wout]
      · simp [wm, wm1]
    · rintro m σ H' ⟨rs, ps, dn, x3, rfl, s1, hf, hw, hps, hc, rfl, hm⟩
      have hcl := congrArg List.length hc
      rw [List.length_append, Tr.codes_len] at hcl
      refine ⟨_, rfl, !rs.reverse.isEmpty, .inl ⟨_, SqL.of hw, rfl⟩, ?_⟩
      cases hps with
      | nil =>
        refine iteF ?_
        have e : dn = t.codes := by simpa [wouts] using hc
        subst e
        exact ⟨_, rfl, k fl H' s1 nfl hf⟩
      | @cons v p rs ps hv hps =>
        have e1 : (!(v :: rs).reverse.isEmpty) = true := by simp
        rw [e1]
        refine iteT ⟨fun σ' H2 => ∃ m', m' < wm (p :: ps) ∧ _, fun σ' H2 z => z, ?_⟩
        have hlen : rs.length ≤ wm ps := by rw [Paired.length hps]; exact wm_len ps
        rw [wm_cons] at hm
        rw [wouts_cons] at hc
        refine ⟨_, rfl, .inl ⟨rfl, _, SqL.of hw⟩, wl, _, _, rfl, rfl, hw, last_rev _ _, ?_⟩
        rw [drop_rev]
        have k1 : KT H' (upd H' wl (.lst rs.reverse)) := KT.lst hw
        have s2 : Same H (upd H' wl (.lst rs.reverse)) := s1.set hwl
        have hf2 : (upd H' wl (.lst rs.reverse)) fl = some (.lst (dn.map sgn)) := (upd_ne nfw).trans hf
        have hw2 : (upd H' wl (.lst rs.reverse)) wl = some (.lst rs.reverse) := upd_same
        have hv2 := hv.kt k1
        have hps2 := wts_kt k1 hps
        revert s2 hf2 hw2 hv2 hps2
        generalize (upd H' wl (.lst rs.reverse)) = H2
        intro s2 hf2 hw2 hv2 hps2
        have hd : (dn.map sgn).length < sizeLine := by rw [List.length_map]; omega
        rcases hv2 with ⟨rfl, rfl⟩ | ⟨x, t1, rfl, rfl, hx⟩
        · refine ⟨_, rfl, _, rfl, ?_⟩
          refine iteT ?_
          refine ⟨_, rfl, .inl ⟨rfl, _, SqL.of hf2⟩, fl, _, _, rfl, rfl, hf2, hd, ?_⟩
          refine ⟨wm ps, by rw [wm_cons]; simp only [wm1]; omega, rs, ps, dn ++ [41], _, rfl, s2.set nfl, ?_, (upd_ne (Ne.symm nfw)).trans hw2, wts_kt (KT.lst hf2) hps2, ?_, rfl, by omega⟩
          · rw [upd_same, List.map_append, e41]
            rfl
          · rw [← hc]
            simp [wout]
        · refine ⟨_, rfl, _, rfl, ?_⟩
          refine iteF ?_
          obtain ⟨dx, f1, g1, h1⟩ := hx.obj
          refine ⟨_, rfl, _, _, _, _, _, rfl, h1, T.cl, T.nZ, tf_size _ _ _, rfl, _, rfl, ?_⟩
          have hx' := hx
          cases hx with
          | nil h =>
            refine iteT ?_
            refine ⟨_, rfl, .inl ⟨rfl, _, SqL.of hf2⟩, fl, _, _, rfl, rfl, hf2, hd, ?_⟩
            refine ⟨wm ps, by rw [wm_cons]; simp only [wm1]; omega, rs, ps, dn ++ [46], _, rfl, s2.set nfl, ?_, (upd_ne (Ne.symm nfw)).trans hw2, wts_kt (KT.lst hf2) hps2, ?_, rfl, by omega⟩
            · rw [upd_same, List.map_append, e46]
              rfl
            · rw [← hc]
              simp [wout, Tr.codes]
          | @pr _ dx' b c l r h hl hr' =>
            have ed : decide (V.int ((Tr.pr l r).size : Nat) = V.int 0) = false := by
              simp only [Tr.size, decide_eq_false_iff_not, V.int.injEq]
              omega
            rw [ed]
            refine iteF ?_
            refine ⟨_, rfl, .inl ⟨rfl, _, SqL.of hf2⟩, fl, _, _, rfl, rfl, hf2, hd, ?_⟩
            have k3 : KT H2 (upd H2 fl (.lst (dn.map sgn ++ [.str "("]))) := KT.lst hf2
            have s3 : Same H (upd H2 fl (.lst (dn.map sgn ++ [.str "("]))) := s2.set nfl
            have hf3 : (upd H2 fl (.lst (dn.map sgn ++ [.str "("]))) fl = some (.lst ((dn ++ [40]).map sgn)) := by
              rw [upd_same, List.map_append, e40]
              rfl
            have hw3 : (upd H2 fl (.lst (dn.map sgn ++ [.str "("]))) wl = some (.lst rs.reverse) := (upd_ne (Ne.symm nfw)).trans hw2
            have h3 := k3 _ _ h (fun _ e => nomatch e)
            have hl3 := hl.kt k3
            have hr3 := hr'.kt k3
            have hps3 := wts_kt k3 hps2
            revert s3 hf3 hw3 h3 hl3 hr3 hps3
            generalize (upd H2 fl (.lst (dn.map sgn ++ [.str "("]))) = H3
            intro s3 hf3 hw3 h3 hl3 hr3 hps3
            refine ⟨_, rfl, .inl ⟨rfl, _, SqL.of hw3⟩, _, rfl, _, _, _, _, _, rfl, h3, T.cl, T.nS, tf_second _ _ _, _, rfl, _, _, _, _, _, rfl, h3, T.cl, T.nF, tf_first _ _ _, (by show 3 ≤ sizeLine; decide), fun q nq => ?_⟩
            have nqw : wl ≠ q := ne_of_none hw3 nq
            have nqf : fl ≠ q := ne_of_none hf3 nq
            simp only [wm1, Tr.size] at hm
            refine ⟨wl, q, _, _, rfl, rfl, (upd_ne nqw).trans hw3, upd_same, (by rw [List.length_reverse]; show rs.length + 3 ≤ sizeLine; omega), ?_⟩
            have k4 : KT H3 (upd (upd H3 q (.lst [.non, .ref c, .ref b])) wl (.lst (rs.reverse ++ [.non, .ref c, .ref b]))) := (KT.new nq).trans (KT.lst ((upd_ne nqw).trans hw3))
            refine ⟨wm (some l :: some r :: none :: ps), ?_, .ref b :: .ref c :: .non :: rs, some l :: some r :: none :: ps, dn ++ [40], _, rfl, (s3.trans (Same.new nq)).set hwl, (upd_ne nfw).trans ((upd_ne nqf).trans hf3), ?_,
              .cons (.inr ⟨b, l, rfl, rfl, hl3.kt k4⟩) (.cons (.inr ⟨c, r, rfl, rfl, hr3.kt k4⟩) (.cons (.inl ⟨rfl, rfl⟩) (wts_kt k4 hps3))), ?_, rfl, ?_⟩
            · rw [wm_cons, wm_cons, wm_cons, wm_cons]
              simp only [wm1, Tr.size]
              omega
            · rw [upd_same]
              simp
            · rw [← hc, wouts_cons, wouts_cons, wouts_cons]
              simp [wout, Tr.codes]
            · rw [wm_cons, wm_cons, wm_cons]
              simp only [wm1]
              omega
theorem joinL_signs : ∀ cs : List Nat, TL.joinL [] ((cs.map fun c => (⟨#[c]⟩ : Str)).map TL.tl) = cs
  | [] => rfl
  | [c] => rfl
  | c :: d :: r => by
    have ih := joinL_signs (d :: r)
    show [c] ++ ([] ++ TL.joinL [] (((d :: r).map fun c => (⟨#[c]⟩ : Str)).map TL.tl)) = c :: d :: r
    rw [ih]
    rfl
theorem join_signs (cs : List Nat) : (PySem.Txt.join ("" : Str) (cs.map fun c => (⟨#[c]⟩ : Str))) = ⟨cs.toArray⟩ := by
  rw [TL.join_eq]
  apply PyProof.Rows.ext_toList
  exact (TL.tl_join _ _).trans (joinL_signs cs)
theorem sum_signs : ∀ cs : List Nat, ((cs.map fun c => (⟨#[c]⟩ : Str)).map (·.length)).sum = cs.length
  | [] => rfl
  | c :: r => by
    have ih := sum_signs r
    rw [List.map_cons, List.map_cons, List.sum_cons, ih, List.length_cons]
    show 1 + _ = _
    omega
theorem scSt : FnScope ["self"] ["self"] (defScope sStr) := ⟨rfl, rfl, rfl, by decide +kernel, rfl, by decide +kernel, by decide +kernel⟩
theorem ok_str {f fS : Addr} {fd fdS : FuncData} (F : Fun K "__str__" "Thing.__str__" sStr f fd) (T : Txt K mg C) (AS : At K mg "signs" sSigns ["thing"] fS fdS) : FnOk P w K mg base CX0 2 f fd ["self"] (spStr C) := by
  have GS : FnOk P w K mg base CX0 1 fS fdS ["thing"] (spSigns C) := ok_signs AS.F T
  refine F.ok scSt (fun vs H Q E h => ?_) (fun cdv A outer s H vs Q E hr h => ?_)
  · obtain ⟨a, t, rfl, _⟩ := h
    rfl
  · obtain ⟨a, t, rfl, ha, hz, k⟩ := h
    refine ⟨_, pss_one (ps_ret (pe_join pe_str (pe_call GS hr rfl AS.mgf AS.F.kp AS.b .nil pass0 (pa_cons (pv 0) pa_nil)))), ?_⟩
    refine ⟨⟨_, rfl⟩, _, rfl, a, t, rfl, ha, hz, fun p H' s1 np hp => ?_⟩
    refine ⟨_, p, t.codes.map (fun c => (⟨#[c]⟩ : Str)), rfl, rfl, .inl (SqL.of (by rw [hp, List.map_map]; rfl)), ?_, ?_⟩
    · rw [sum_signs, Tr.codes_len, List.length_map, Tr.codes_len]
      show 3 * t.size + 1 + (3 * t.size + 1) * 0 ≤ 16777216
      omega
    · show Q (.str (PySem.Txt.join ("" : Str) (t.codes.map fun c => (⟨#[c]⟩ : Str)))) H'
      rw [join_signs]
      exact k H' s1
end
end Js

set_option Elab.async false
set_option linter.all false
set_option maxRecDepth 100000
set_option maxHeartbeats 2000000
namespace Js
open PySem L2
/-- how a Thing is made -/
structure Maker (P : Program) (w : World) (K : PySem.W.Frag) (mg : Str → Option Value) (base : Heap) (C fI : Addr) (fdI : FuncData) : Prop where
  M : Mk K C fI
  G : FnOk P w K mg base CX0 2 fI fdI ["self", "first", "second"] (spInit C)
  mgC : mg "Thing" = some (.ref C)
  b2 : Binds K fdI ["self", "first", "second"] []
  b0 : ∃ ds, Vals [V.non, V.non] ds ∧ Binds K fdI ["self", "first", "second"] ds
/-- Thing(x, y) -/
def tT (C : Addr) (t : TA) : TE := fun σ H Q => t σ H fun vs H1 => ∃ a b t u, vs = [.ref a, .ref b] ∧ Th C H1 a t ∧ Th C H1 b u ∧ 1 + t.size + u.size ≤ 4000 ∧ ∀ z H', Same H1 H' → H1 z = none → Th C H' z (.pr t u) → Q (.ref z) H'
/-- Thing() -/
def tT0 (C : Addr) : TE := fun _ H Q => ∀ z H', Same H H' → H z = none → Th C H' z .nil → Q (.ref z) H'
section
open PyProof.Rows
variable {X : Cx} {C fI : Addr} {fdI : FuncData} {p pos : Pos} {e : Expr} {es : List Expr} {t : TA}
theorem pe_T2 (mk : Maker X.prog X.w X.K X.mg X.base C fI fdI) (hr : Room 3 X.A) (hg : Gl X "Thing") (ha : PA X (e :: es) t)
    (he : starEach (e :: es) X.env = (false, eval e X.env) :: starEach es X.env := by rfl) (hpl : (backTo pos (starEach es X.env)).any (·.1) = false := by rfl) : PE X (.Call (.Name "Thing" p) (e :: es) [] pos) (tT C t) := by
  refine ⟨fun pins s σ H Q I h => ?_⟩
  refine wpAny_Call_Name_kw (ld_glob I hg mk.mgC ?_ (by decide))
  refine PySem.W.callWith_K (h₀ := X.base) I.ok.mod.kin mk.M.kp (thn (ha.run pos pins s σ H _ I h) fun us s1 ⟨vs, H1, I1, r, q⟩ => ⟨I1.kIn, ?_⟩) he hpl
  obtain ⟨a, b, t, u, rfl, h1, h2, hz, k⟩ := q
  exact run_make mk.M mk.G hr mk.b2 .nil pass0 I1 r (mk_pr h1 h2 hz k)
theorem pe_T0 (mk : Maker X.prog X.w X.K X.mg X.base C fI fdI) (hr : Room 3 X.A) (hg : Gl X "Thing") : PE X (.Call (.Name "Thing" p) [] [] pos) (tT0 C) := by
  obtain ⟨ds, hv, hb⟩ := mk.b0
  refine ⟨fun pins s σ H Q I h => ?_⟩
  refine wpAny_Call_Name_kw (ld_glob I hg mk.mgC ?_ (by decide))
  exact PySem.W.callWith_K0 I.kIn mk.M.kp (run_make (us := []) mk.M mk.G hr hb hv pass0 I .nil (mk_nil h))
end
def ThV (C : Addr) (H : Hp) (v : V) (t : Tr) : Prop := ∃ a, v = .ref a ∧ Th C H a t
theorem ThV.kt {C : Addr} {H H' : Hp} (k : KT H H') {v : V} {t : Tr} (h : ThV C H v t) : ThV C H' v t := by
  obtain ⟨a, e, h⟩ := h
  exact ⟨a, e, h.kt k⟩
theorem ths_kt {C : Addr} {H H' : Hp} (k : KT H H') : ∀ {vs : List V} {ts : List Tr}, Paired (ThV C H) vs ts → Paired (ThV C H') vs ts
  | _, _, .nil => .nil
  | _, _, .cons h t => .cons (h.kt k) (ths_kt k t)
theorem paired_get {α β : Type} {F : α → β → Prop} : ∀ {xs : List α} {ys : List β}, Paired F xs ys → ∀ {i : Nat} {x : α}, xs[i]? = some x → ∃ y, ys[i]? = some y ∧ F x y
  | _, _, .nil, i, x, h => by simp at h
  | _, _, .cons h t, 0, x, e => by
    simp at e
    subst e
    exact ⟨_, rfl, h⟩
  | _, _, .cons h t, i + 1, x, e => by
    simp at e
    obtain ⟨y, e1, e2⟩ := paired_get t e
    exact ⟨y, by simpa using e1, e2⟩
theorem paired_snoc {α β : Type} {F : α → β → Prop} : ∀ {xs : List α} {ys : List β} {x : α} {y : β}, Paired F xs ys → F x y → Paired F (xs ++ [x]) (ys ++ [y])
  | _, _, _, _, .nil, h => .cons h .nil
  | _, _, _, _, .cons h t, h' => .cons h (paired_snoc t h')
end Js

set_option Elab.async false
set_option linter.all false
set_option maxRecDepth 100000
set_option maxHeartbeats 2000000
namespace Js
open PySem L2
abbrev sBag : Stmt := top 37
abbrev sTake : Stmt := top 38
/-- which built-ins are as they were -/
structure Blt (mg : Str → Option Value) : Prop where
  len : mg "len" = none
  range : mg "range" = none
  abs : mg "abs" = none
  int : mg "int" = none
  str : mg "str" = none
  max : mg "max" = none
  min : mg "min" = none
  all : mg "all" = none
structure BagOk (H : Hp) (p : Addr) : Prop where
  ex : ∃ x0 x1 pr x3 : Int, H p = some (.lst [.int x0, .int x1, .int pr, .int x3]) ∧ 0 ≤ x0 ∧ 0 ≤ x1 ∧ x1 < 2147483648 ∧ 0 < pr ∧ pr < 2147483648
/-- all but what stands at p stays -/
def KB (p : Addr) (H H' : Hp) : Prop := ∀ a o, a ≠ p → H a = some o → H' a = some o
theorem KB.refl (p : Addr) (H : Hp) : KB p H H := fun _ _ _ h => h
theorem KB.of {p : Addr} {H H' : Hp} (s : Same H H') : KB p H H' := fun _ _ _ h => s _ _ h
theorem KB.trans {p : Addr} {H H1 H2 : Hp} (a : KB p H H1) (b : KB p H1 H2) : KB p H H2 := fun x o n h => b x o n (a x o n h)
theorem KB.set {p : Addr} {H : Hp} {o : HO} : KB p H (upd H p o) := fun x u n h => by rw [upd_ne n]; exact h
theorem KB.kt {p : Addr} {H H' : Hp} (k : KB p H H') {xs : List V} (hp : H p = some (.lst xs)) : KT H H' := fun a o h n => k a o (fun z => by subst z; exact n _ (Option.some.inj (h.symm.trans hp))) h
theorem BagOk.kt {p : Addr} {H H' : Hp} (b : BagOk H p) (k : KB p H H') : KT H H' := by
  obtain ⟨x0, x1, pr, x3, h, _⟩ := b.ex
  exact k.kt h
theorem BagOk.same {p : Addr} {H H' : Hp} (b : BagOk H p) (s : Same H H') : BagOk H' p := by
  obtain ⟨x0, x1, pr, x3, h, r⟩ := b.ex
  exact ⟨x0, x1, pr, x3, s _ _ h, r⟩
theorem BagOk.some {p : Addr} {H : Hp} (b : BagOk H p) : ∃ xs, H p = some (.lst xs) := by
  obtain ⟨x0, x1, pr, x3, h, r⟩ := b.ex
  exact ⟨_, h⟩
def spBag (K : PySem.W.Frag) : Sp := fun vs H Q _ => ∃ (a : Addr) (ns : List Int) (k : Nat), vs = [.ref a, .int (k : Nat)] ∧ SqL K H a (ns.map V.int) ∧ k < 8 ∧ ∀ p H', Same H H' → H p = none → BagOk H' p → Q (.ref p) H'
def spTake : Sp := fun vs H Q _ => ∃ (p : Addr) (m : Int), vs = [.ref p, .int m] ∧ BagOk H p ∧ 0 < m ∧ m < 1073741824 ∧ ∀ (d : Int) H', KB p H H' → BagOk H' p → 0 ≤ d → d < m → Q (.int d) H'
def primes : List V := [.int 2147483629, .int 2147483587, .int 2147483579, .int 2147483563, .int 2147483549, .int 2147483543, .int 2147483497, .int 2147483489]
theorem prime_at (k : Nat) (hk : k < 8) : ∃ pr : Int, atI primes ((k : Int) % 8) = some (.int pr) ∧ 0 < pr ∧ pr < 2147483648 := by
  have e : ((k : Int) % 8) = (k : Nat) := by omega
  rw [e]
  match k, hk with
  | 0, _ => exact ⟨_, atI_nat rfl, by decide, by decide⟩
  | 1, _ => exact ⟨_, atI_nat rfl, by decide, by decide⟩
  | 2, _ => exact ⟨_, atI_nat rfl, by decide, by decide⟩
  | 3, _ => exact ⟨_, atI_nat rfl, by decide, by decide⟩
  | 4, _ => exact ⟨_, atI_nat rfl, by decide, by decide⟩
  | 5, _ => exact ⟨_, atI_nat rfl, by decide, by decide⟩
  | 6, _ => exact ⟨_, atI_nat rfl, by decide, by decide⟩
  | 7, _ => exact ⟨_, atI_nat rfl, by decide, by decide⟩
section
variable {P : Program} {w : World} {K : PySem.W.Frag} {mg : Str → Option Value} {base : Heap} {C fI : Addr} {fdI : FuncData}
theorem scB : FnScope ["_law_script", "_law_at", "_law_cell", "_law_prime"] ["_law_script", "_law_at"] (defScope sBag) := ⟨rfl, rfl, rfl, by decide +kernel, rfl, by decide +kernel, by decide +kernel⟩
theorem ok_bag {f : Addr} {fd : FuncData} (F : Fun K "_law_bag" "_law_bag" sBag f fd) (B : Blt mg) : FnOk P w K mg base CX0 1 f fd ["_law_script", "_law_at"] (spBag K) := by
  refine F.ok scB (fun vs H Q E h => ?_) (fun cdv A outer s H vs Q E hr h => ?_)
  · obtain ⟨a, ns, k, rfl, _⟩ := h
    rfl
  · obtain ⟨a, ns, kk, rfl, hS, hk, k⟩ := h
    refine ⟨_, pss_cons (ps_set (i := 2) scB.nd rfl (Or.inl rfl) pe_int)
      (pss_cons (ps_if (pt_cmpR op_lt (pv 1) (pe_callB call_len_seq (by rfl) B.len PySem.boot_len (pa_cons (pv 0) pa_nil)) (nomark _))
        (pss_one (ps_set (i := 2) scB.nd rfl (Or.inl rfl) (pe_callB call_abs (by rfl) B.abs PyProof.Rows.boot_abs (pa_cons (pe_ix ix_list (pv 0) (pv 1) (fun _ _ => rfl)) pa_nil)))) pss_nil)
      (pss_cons (ps_set (i := 3) scB.nd rfl (Or.inl rfl) (pe_ix ix_list (pe_lst (pa_cons pe_int (pa_cons pe_int (pa_cons pe_int (pa_cons pe_int (pa_cons pe_int (pa_cons pe_int (pa_cons pe_int (pa_cons pe_int pa_nil))))))))) (pe_op op_mod (pv 1) pe_int) (fun _ _ => rfl)))
      (pss_one (ps_ret (pe_lst (pa_cons (pe_op op_mul (pv 2) (pe_callTy call_int1 (by rfl) B.int PyProof.Rows.boot_int (pa_cons (pe_cmpR op_ge (pv 2) (pe_op op_pow pe_int pe_int) (nomark _)) pa_nil)))
        (pa_cons (pe_op op_mod (pe_op op_pow (pe_op op_add (pe_op op_add (pe_op op_mod (pv 2) pe_int) (pe_op op_mul pe_int (pv 1))) pe_int) pe_int) (pv 3)) (pa_cons (pv 3) (pa_cons pe_int pa_nil))))))))), ?_⟩
    -- behind the first if
    have rest : ∀ (cell : Int), 0 ≤ cell → tSeq (tAsg (tOp (rIxL K) (tLst (tCons (tC (V.int 2147483629)) (tCons (tC (V.int 2147483587)) (tCons (tC (V.int 2147483579)) (tCons (tC (V.int 2147483563)) (tCons (tC (V.int 2147483549)) (tCons (tC (V.int 2147483543)) (tCons (tC (V.int 2147483497)) (tCons (tC (V.int 2147483489)) tNil))))))))) (tOp (rI (fun _ j => 0 < j) fun i j => .int (i % j)) (tVar 1) (tC (V.int 8)))) (gName 3))
        (tRet (tLst (tCons (tOp (rI CMul fun i j => .int (i * j)) (tVar 2) (tCB (fun xs H Q => (∃ i, xs = [.int i] ∧ Q (.int i) H) ∨ ∃ k, xs = [.bl k] ∧ Q (.int (if k then 1 else 0)) H) (tCons (tOp (rI0 fun i j => .bl (decide (j ≤ i))) (tVar 2) (tOp (rI CPow fun i j => .int (i ^ j.toNat)) (tC (.int 10)) (tC (.int 18)))) tNil)))
          (tCons (tOp (rI (fun _ j => 0 < j) fun i j => .int (i % j)) (tOp (rI CPow fun i j => .int (i ^ j.toNat)) (tOp (rI0 fun i j => .int (i + j)) (tOp (rI0 fun i j => .int (i + j)) (tOp (rI (fun _ j => 0 < j) fun i j => .int (i % j)) (tVar 2) (tC (.int 2147483647))) (tOp (rI CMul fun i j => .int (i * j)) (tC (.int 104729)) (tVar 1))) (tC (.int 7))) (tC (.int 5))) (tVar 3)) (tCons (tVar 3) (tCons (tC (.int 0)) tNil))))))
        { nx := fun _ H' => Q .non H', rt := Q } [some (.ref a), some (.int (kk : Nat)), some (.int cell), none] H := by
      intro cell hc
      refine ⟨(by show 8 ≤ sizeLine; decide), fun pl npl => ?_⟩
      obtain ⟨pr, e1, e2, e3⟩ := prime_at kk hk
      refine ⟨_, rfl, _, _, rfl, rfl, (by show (0 : Int) < 8; decide), pl, _, _, _, rfl, rfl, SqL.of upd_same, e1, ?_⟩
      refine ⟨_, rfl, _, rfl, _, _, rfl, rfl, ⟨by decide, by decide, by decide⟩, _, _, rfl, rfl, .inr ⟨_, rfl, _, _, rfl, rfl, .inr ?_, ?_⟩⟩
      · split
        · exact ⟨by decide, by decide⟩
        · exact ⟨by decide, by decide⟩
      · refine ⟨_, rfl, _, _, rfl, rfl, (by show (0 : Int) < 2147483647; decide), _, rfl, _, _, rfl, rfl, .inl ⟨by decide, by decide⟩, _, _, rfl, rfl, _, _, rfl, rfl, _, _, rfl, rfl, ⟨by decide, by decide, ?_⟩, _, rfl, _, _, rfl, rfl, e2, _, rfl, (by show 4 ≤ sizeLine; decide), fun p np => ?_⟩
        · have h1 : 0 ≤ cell % 2147483647 := Int.emod_nonneg _ (by decide)
          have h2 : cell % 2147483647 < 2147483647 := Int.emod_lt_of_pos _ (by decide)
          show (cell % 2147483647 + 104729 * (kk : Int) + 7).natAbs < 2 ^ 64
          omega
        · have hne : H p = none := (Same.new npl).free np
          refine k p _ ((Same.new npl).trans (Same.new np)) hne ⟨_, _, pr, 0, upd_same, ?_, ?_, ?_, e2, e3⟩
          · split
            · simpa using hc
            · simp
          · exact Int.emod_nonneg _ (by omega)
          · exact Int.lt_trans (Int.emod_lt_of_pos _ e2) e3
    refine ⟨_, rfl, _, rfl, a, _, rfl, .inl hS, _, _, rfl, rfl, _, rfl, ?_⟩
    refine ite2 (fun hlt => ?_) (fun _ => rest 0 (by decide))
    have hlt' : kk < ns.length := by
      have := of_decide_eq_true hlt
      rw [List.length_map] at this
      omega
    refine ⟨_, rfl, _, rfl, a, _, _, _, rfl, rfl, hS, atI_nat (v := .int ns[kk]) (by rw [List.getElem?_map, List.getElem?_eq_getElem hlt']; rfl), _, rfl, ?_⟩
    exact rest _ (by split <;> omega)
theorem scTk : FnScope ["_law_bag_here", "_law_many", "_law_digit"] ["_law_bag_here", "_law_many"] (defScope sTake) := ⟨rfl, rfl, rfl, by decide +kernel, rfl, by decide +kernel, by decide +kernel⟩
theorem ok_take {f : Addr} {fd : FuncData} (F : Fun K "_law_take" "_law_take" sTake f fd) : FnOk P w K mg base CX0 1 f fd ["_law_bag_here", "_law_many"] spTake := by
  refine F.ok scTk (fun vs H Q E h => ?_) (fun cdv A outer s H vs Q E hr h => ?_)
  · obtain ⟨p, m, rfl, _⟩ := h
    rfl
  · obtain ⟨p, m, rfl, ⟨x0, x1, pr, x3, hp, h0, h1, h1', hp0, hp1⟩, hm0, hm1, k⟩ := h
    refine ⟨_, pss_cons (ps_if (pt_cmpR op_gt (pe_ix ix_list (pv 0) pe_int (fun _ _ => rfl)) pe_int (nomark _))
        (pss_cons (ps_set (i := 2) scTk.nd rfl (Or.inl rfl) (pe_op op_mod (pe_ix ix_list (pv 0) pe_int (fun _ _ => rfl)) (pv 1)))
        (pss_cons (ps_asg (pe_op op_fdiv (pe_ix ix_list (pv 0) pe_int (fun _ _ => rfl)) (pv 1)) (pg_sub (pv 0) pe_int set_list)) (pss_one (ps_ret (pv 2))))) pss_nil)
      (pss_cons (ps_asg (pe_op op_add (pe_ix ix_list (pv 0) pe_int (fun _ _ => rfl)) pe_int) (pg_sub (pv 0) pe_int set_list))
      (pss_cons (ps_asg (pe_op op_mod (pe_op op_add (pe_op op_add (pe_op op_mul (pe_ix ix_list (pv 0) pe_int (fun _ _ => rfl)) pe_int) (pe_op op_mul pe_int (pe_ix ix_list (pv 0) pe_int (fun _ _ => rfl)))) pe_int) (pe_ix ix_list (pv 0) pe_int (fun _ _ => rfl))) (pg_sub (pv 0) pe_int set_list))
      (pss_one (ps_ret (pe_op op_mod (pe_op op_mod (pe_op op_pow (pe_op op_fdiv (pe_ix ix_list (pv 0) pe_int (fun _ _ => rfl)) pe_int) pe_int) pe_int) (pv 1)))))), ?_⟩
    refine ⟨_, rfl, p, _, _, .int x0, rfl, rfl, SqL.of hp, rfl, _, _, rfl, rfl, _, rfl, ?_⟩
    refine ite2 (fun hlt => ?_) (fun _ => ?_)
    · refine ⟨_, rfl, p, _, _, .int x0, rfl, rfl, SqL.of hp, rfl, _, rfl, _, _, rfl, rfl, hm0, ?_⟩
      refine ⟨_, rfl, p, _, _, .int x0, rfl, rfl, SqL.of hp, rfl, _, rfl, _, _, rfl, rfl, ⟨hm0, hm1⟩, _, rfl, p, _, _, 0, rfl, rfl, hp, rfl, ?_⟩
      refine ⟨_, rfl, k _ _ KB.set ⟨x0 / m, x1, pr, x3, upd_same, ?_, h1, h1', hp0, hp1⟩ ?_ ?_⟩
      · exact Int.ediv_nonneg h0 (by omega)
      · exact Int.emod_nonneg _ (by omega)
      · exact Int.emod_lt_of_pos _ hm0
    · refine ⟨_, rfl, p, _, _, .int x3, rfl, rfl, SqL.of hp, rfl, _, _, rfl, rfl, _, rfl, p, _, _, 3, rfl, rfl, hp, rfl, ?_⟩
      have hp2 : (upd H p (.lst [.int x0, .int x1, .int pr, .int (x3 + 1)])) p = some (.lst [.int x0, .int x1, .int pr, .int (x3 + 1)]) := upd_same
      refine ⟨_, rfl, p, _, _, .int x1, rfl, rfl, SqL.of hp2, rfl, _, _, rfl, rfl, .inr ⟨by decide, by decide⟩, _, rfl, p, _, _, .int (x3 + 1), rfl, rfl, SqL.of hp2, rfl, _, _, rfl, rfl, .inl ⟨by decide, by decide⟩, _, _, rfl, rfl, _, _, rfl, rfl, _, rfl, p, _, _, .int pr, rfl, rfl, SqL.of hp2, rfl, _, _, rfl, rfl, hp0, _, rfl, p, _, _, 1, rfl, rfl, hp2, rfl, ?_⟩
      have g0 : 0 ≤ (x1 * 48271 + 7919 * (x3 + 1) + 11) % pr := Int.emod_nonneg _ (by omega)
      have g1 : (x1 * 48271 + 7919 * (x3 + 1) + 11) % pr < pr := Int.emod_lt_of_pos _ hp0
      have hp3 : (upd (upd H p (.lst [.int x0, .int x1, .int pr, .int (x3 + 1)])) p (.lst [.int x0, .int ((x1 * 48271 + 7919 * (x3 + 1) + 11) % pr), .int pr, .int (x3 + 1)])) p = some (.lst [.int x0, .int ((x1 * 48271 + 7919 * (x3 + 1) + 11) % pr), .int pr, .int (x3 + 1)]) := upd_same
      refine ⟨_, rfl, p, _, _, .int ((x1 * 48271 + 7919 * (x3 + 1) + 11) % pr), rfl, rfl, SqL.of hp3, rfl, _, _, rfl, rfl, ⟨by decide, by decide⟩, _, _, rfl, rfl, ⟨by decide, by decide, ?_⟩, _, _, rfl, rfl, (by show (0 : Int) < 2147483629; decide), _, rfl, _, _, rfl, rfl, hm0, ?_⟩
      · generalize (x1 * 48271 + 7919 * (x3 + 1) + 11) % pr = y at g0 g1
        show (y / 8).natAbs < 2 ^ 64
        omega
      · refine k _ _ (KB.set.trans KB.set) ⟨x0, _, pr, x3 + 1, hp3, h0, g0, by omega, hp0, hp1⟩ ?_ ?_
        · exact Int.emod_nonneg _ (by omega)
        · exact Int.emod_lt_of_pos _ hm0
end
end Js

set_option Elab.async false
set_option linter.all false
set_option maxRecDepth 100000
set_option maxHeartbeats 2000000
namespace Js
open PySem L2
/-- a def of the top keeps its promise -/
def Def (P : Program) (w : World) (K : PySem.W.Frag) (mg : Str → Option Value) (base : Heap) (x : Str) (k : Nat) (ps : List Str) (sp : Sp) : Prop :=
  ∃ f fd, mg x = some (.ref f) ∧ PySem.W.keepIn K (.ref f) = true ∧ FnOk P w K mg base CX0 k f fd ps sp ∧ Binds K fd ps []
/-- a special method of the class -/
def Spc (P : Program) (w : World) (K : PySem.W.Frag) (mg : Str → Option Value) (base : Heap) (C : Addr) (x : Str) (k : Nat) (ps : List Str) (sp : Sp) : Prop :=
  ∃ f fd, Own K C x f ∧ FnOk P w K mg base CX0 k f fd ps sp ∧ Binds K fd ps []
/-- a method of the class -/
def Mth (P : Program) (w : World) (K : PySem.W.Frag) (mg : Str → Option Value) (base : Heap) (C : Addr) (x : Str) (k : Nat) (ps : List Str) (sp : Sp) : Prop :=
  ∃ f fd, Meth K C x f ∧ FnOk P w K mg base CX0 k f fd ps sp ∧ Binds K fd ps []
section
open PyProof.Rows
variable {X : Cx} {C : Addr} {p pos apos : Pos} {e o : Expr} {es : List Expr} {t : TA} {ta : TE} {x : Str} {k : Nat} {ps : List Str} {sp : Sp}
theorem pe_def (D : Def X.prog X.w X.K X.mg X.base x k ps sp) (hr : Room k X.A) (hg : Gl X x) (ha : PA X (e :: es) t) (hdb : (x == ("__debug__" : Str)) = false := by decide)
    (he : starEach (e :: es) X.env = (false, eval e X.env) :: starEach es X.env := by rfl) (hpl : (backTo pos (starEach es X.env)).any (·.1) = false := by rfl) : PE X (.Call (.Name x p) (e :: es) [] pos) (tCall sp [] E0 t) := by
  obtain ⟨f, fd, hm, hk, F, hb⟩ := D
  exact pe_call F hr hg hm hk hb .nil pass0 ha hdb he hpl
/-- == of things -/
def rEqT (C : Addr) : R2 := fun x y H Q => ∃ a b t u, x = .ref a ∧ y = .ref b ∧ Th C H a t ∧ Th C H b u ∧ t.size ≤ 4000 ∧ ∀ H', Same H H' → Q (.bl (decide (t = u))) H'
def rNeT (C : Addr) : R2 := fun x y H Q => ∃ a b t u, x = .ref a ∧ y = .ref b ∧ Th C H a t ∧ Th C H b u ∧ t.size ≤ 4000 ∧ ∀ H', Same H H' → Q (.bl (!decide (t = u))) H'
theorem OpR.imp {f : Value → Value → Sem Value} {r r' : R2} (h : OpR X f r) (hi : ∀ x y H Q, r' x y H Q → r x y H Q) : OpR X f r' := fun pins s σ H x y v u Q I rx ry q => h pins s σ H x y v u Q I rx ry (hi x y H Q q)
theorem CallR.imp {f : Value} {r r' : List V → Hp → VK → Prop} (h : CallR X f r) (hi : ∀ xs H Q, r' xs H Q → r xs H Q) : CallR X f r' := fun pins s σ H xs us Q I rx q => h pins s σ H xs us Q I rx (hi xs H Q q)
theorem op_eqT (S : Spc X.prog X.w X.K X.mg X.base C "__eq__" 2 ["self", "other"] (spEqT C)) (hr : Room 2 X.A) : OpR X (compareOp .Eq) (rEqT C) := by
  obtain ⟨f, fd, ow, F, hb⟩ := S
  refine OpR.imp (op_eqOwn ow F hb hr (pass0)) fun x y H Q h => ?_
  obtain ⟨a, b, t, u, rfl, rfl, ha, hb', hz, q⟩ := h
  obtain ⟨dx, f1, g1, h1⟩ := ha.obj
  obtain ⟨dy, f2, g2, h2⟩ := hb'.obj
  exact ⟨a, dx, _, b, dy, _, rfl, rfl, h1, h2, a, b, t, u, rfl, ha, hb', hz, fun H' s => ⟨_, rfl, q H' s⟩⟩
theorem op_neT (S : Spc X.prog X.w X.K X.mg X.base C "__eq__" 2 ["self", "other"] (spEqT C)) (T : Txt X.K X.mg C) (hr : Room 3 X.A) : OpR X (compareOp .NotEq) (rNeT C) := by
  obtain ⟨f, fd, ow, F, hb⟩ := S
  refine OpR.imp (op_neOwn ow ⟨T.ne, T.cm⟩ F hb hr (pass0)) fun x y H Q h => ?_
  obtain ⟨a, b, t, u, rfl, rfl, ha, hb', hz, q⟩ := h
  obtain ⟨dx, f1, g1, h1⟩ := ha.obj
  obtain ⟨dy, f2, g2, h2⟩ := hb'.obj
  exact ⟨a, dx, _, b, dy, _, rfl, rfl, h1, h2, a, b, t, u, rfl, ha, hb', hz, fun H' s => ⟨_, rfl, q H' s⟩⟩
theorem call_lenT (S : Spc X.prog X.w X.K X.mg X.base C "__len__" 1 ["self"] (spLen C)) (hr : Room 2 X.A) : CallR X (.builtin "len") (fun xs H Q => ∃ a t, xs = [.ref a] ∧ Th C H a t ∧ t.size ≤ 4000 ∧ Q (.int (t.size : Nat)) H) := by
  obtain ⟨f, fd, ow, F, hb⟩ := S
  refine CallR.imp (call_lenOwn ow F hb hr (pass0)) fun xs H Q h => ?_
  obtain ⟨a, t, rfl, ha, hz, q⟩ := h
  obtain ⟨dx, f1, g1, h1⟩ := ha.obj
  exact ⟨a, dx, _, rfl, h1, a, t, rfl, ha, hz, _, rfl, by omega, q⟩
theorem call_strT (S : Spc X.prog X.w X.K X.mg X.base C "__str__" 2 ["self"] (spStr C)) (hr : Room 4 X.A) : CallR X (.type "str") (fun xs H Q => ∃ a t, xs = [.ref a] ∧ Th C H a t ∧ t.size ≤ 4000 ∧ ∀ H', Same H H' → Q (.str t.text) H') := by
  obtain ⟨f, fd, ow, F, hb⟩ := S
  refine CallR.imp (call_strOwn ow F hb hr (pass0)) fun xs H Q h => ?_
  obtain ⟨a, t, rfl, ha, hz, q⟩ := h
  obtain ⟨dx, f1, g1, h1⟩ := ha.obj
  exact ⟨a, dx, _, rfl, h1, a, t, rfl, ha, hz, fun H' s => ⟨_, rfl, q H' s⟩⟩
/-- a thing in a list of things -/
def rInTh (C : Addr) : R2 := fun x y H Q => ∃ b u p xs ts, x = .ref b ∧ Th C H b u ∧ y = .ref p ∧ H p = some (.lst xs) ∧ Paired (ThV C H) xs ts ∧ (∀ t ∈ ts, t.size ≤ 4000) ∧ ∀ H', Same H H' → Q (.bl (ts.any fun t => decide (t = u))) H'
def DTh (C : Addr) : Tells := fun x y r H => ∃ a b t u, x = .ref a ∧ y = .ref b ∧ Th C H a t ∧ Th C H b u ∧ t.size ≤ 4000 ∧ r = decide (t = u)
theorem op_inTh (S : Spc X.prog X.w X.K X.mg X.base C "__eq__" 2 ["self", "other"] (spEqT C)) (hr : Room 3 X.A) : OpR X (compareOp .In) (rInTh C) := by
  obtain ⟨f, fd, ow, F, hb⟩ := S
  have ET : EqT X 2 (DTh C) := eqT_own ow F hb (pass0) fun x y r H d => by
    obtain ⟨a, b, t, u, rfl, rfl, ha, hb', hz, rfl⟩ := d
    obtain ⟨dx, f1, g1, h1⟩ := ha.obj
    obtain ⟨dy, f2, g2, h2⟩ := hb'.obj
    refine ⟨a, b, dx, dy, _, _, rfl, rfl, h1, h2, fun e => ?_, a, b, t, u, rfl, ha, hb', hz, fun H' s => ⟨_, rfl, rfl, s⟩⟩
    subst e
    exact decide_eq_true (ha.inj hb')
  refine OpR.imp (op_inT ET (fun x y r H H' s d => ?_) hr) fun x y H Q h => ?_
  · obtain ⟨a, b, t, u, e1, e2, ha, hb', hz, e3⟩ := d
    exact ⟨a, b, t, u, e1, e2, ha.same s, hb'.same s, hz, e3⟩
  · obtain ⟨b, u, p, xs, ts, rfl, hb', rfl, hp, hps, hz, q⟩ := h
    refine ⟨p, xs, ts.map fun t => decide (t = u), rfl, hp, by rw [List.length_map]; exact (Paired.length hps).symm, fun i z r h1 h2 => ?_, fun H' s => ?_⟩
    · obtain ⟨ty, e1, a, rfl, ha⟩ := paired_get hps h1
      rw [List.getElem?_map, e1] at h2
      exact ⟨a, b, ty, u, rfl, rfl, ha, hb', hz ty (List.mem_of_getElem? e1), (Option.some.inj h2).symm⟩
    · have := q H' s
      rw [List.any_map]
      exact this
theorem pe_mth {pl : Sem Bool} (M : Mth X.prog X.w X.K X.mg X.base C x k ps sp) (T : Txt X.K X.mg C) (hr : Room k X.A) (he : PE X o ta)
    (ht : eval (.Call (.Attribute o x apos) [] [] pos) X.env = (do
      let ov ← eval o X.env
      standAt apos.atName
      let (f, first) ← holding [ov] (getMethod ov x pl)
      callWith pos f first (backTo pos (starEach [] X.env)) (backToKw pos (keywordEach [] X.env))) := by rfl) :
    PE X (.Call (.Attribute o x apos) [] [] pos) (tMeth C x sp [] E0 ta tNil) := by
  obtain ⟨f, fd, hm, F, hb⟩ := M
  exact pe_meth0 he T.cl hm F hr hb .nil pass0 ht
end
/-- what the law's defs lean on -/
structure Lib (P : Program) (w : World) (K : PySem.W.Frag) (mg : Str → Option Value) (base : Heap) (C fI : Addr) (fdI : FuncData) : Prop where
  T : Txt K mg C
  B : Blt mg
  made : Maker P w K mg base C fI fdI
  eq : Spc P w K mg base C "__eq__" 2 ["self", "other"] (spEqT C)
  str : Spc P w K mg base C "__str__" 2 ["self"] (spStr C)
  len : Spc P w K mg base C "__len__" 1 ["self"] (spLen C)
  bag : Def P w K mg base "_law_bag" 1 ["_law_script", "_law_at"] (spBag K)
  take : Def P w K mg base "_law_take" 1 ["_law_bag_here", "_law_many"] spTake
theorem n_hd1 : ¬ (("head" : Str) = "size") := by decide +kernel
theorem n_hd2 : ¬ (("head" : Str) = "second") := by decide +kernel
theorem n_hd3 : ¬ (("head" : Str) = "first") := by decide +kernel
theorem n_tl1 : ¬ (("tail" : Str) = "size") := by decide +kernel
theorem n_tl2 : ¬ (("tail" : Str) = "second") := by decide +kernel
theorem n_tl3 : ¬ (("tail" : Str) = "first") := by decide +kernel
theorem tf_head (f s : V) (n : Int) : (tf f s n).lookup ("head" : Str) = none := tf_no f s n n_hd1 n_hd2 n_hd3
theorem tf_tail (f s : V) (n : Int) : (tf f s n).lookup ("tail" : Str) = none := tf_no f s n n_tl1 n_tl2 n_tl3
end Js

set_option Elab.async false
set_option linter.all false
set_option maxRecDepth 100000
set_option maxHeartbeats 2000000
/-! == and != of lists and of tuples whose items have an own ==: what comes of them, alike or not -/
namespace JsQ
open PySem PySem.SeqAt
open AutoSeq1 (wpAny_loadPart')
open MeetsSeq MeetsSeq2 MeetsSeq3 SeqRoads2
section
variable {prog : Program} {w : World} {A : Around} {R : Result → Shared → Prop}
def TwoL (l b : Addr) (N : Nat) (us vs : Array Value) (s : Shared) : Prop := (∃ n, s.heap.get? l = some { cls := .type "list", data := .seq us n }) ∧ (∃ m, s.heap.get? b = some { cls := .type "list", data := .seq vs m }) ∧ us.size = N ∧ vs.size = N
/-- two lists of N items: J i behind i that are alike, F i where the next two are unlike -/
structure Goes (prog : Program) (w : World) (A : Around) (X : Value → Shared → Prop) (l b : Addr) (N : Nat) (J Fa : Nat → Shared → Prop) : Prop where
  turn : ∀ i s, J i s → ∃ us vs : Array Value, TwoL l b N us vs s ∧ ∀ (h1 : i < us.size) (h2 : i < vs.size), wpAny (model prog w) A.in1 (eqBool us[i] vs[i]) (fun r s' => if r = true then J (i + 1) s' else Fa i s') X s
  stay : ∀ i s, Fa i s → ∃ us vs : Array Value, TwoL l b N us vs s

theorem loop_eq (l b : Addr) (N : Nat) (J Fa : Nat → Shared → Prop) (g : Goes prog w A (fun e s' => R (.error e) s') l b N J Fa) (fin : ∀ s, J N s → R (.ok (.ret (.bool true))) s) (brk : ∀ i s, Fa i s → R (.ok (.ret (.bool false))) s) (k : Nat) :
    ∀ i : Nat, N - i = k → i ≤ N → ∀ s, J i s → wpAny (model prog w) A.in1 (Builtin.«list.__eq__.loop» ⟨[.ref l, .ref b, rawInt i, rawInt 2], []⟩) (GQ.FinOf prog w A R) (fun e s' => R (.error e) s') s := by
  induction k with
  | zero =>
    intro i hk hi s h
    obtain ⟨us, vs, ⟨⟨n, c1⟩, ⟨m, c2⟩, z1, z2⟩, _⟩ := g.turn _ _ h
    have ei : i = N := by omega
    have hR : R (.ok (.ret (.bool true))) s := fin s (ei ▸ h)
    obtain ⟨hp, gg, d, tk, os⟩ := s
    wp_walk using wpAny_loadPart' c1, wpAny_loadPart' c2
    have q1 : us[((i : Nat) : Int).toNat]? = none := by simp; omega
    have q2 : vs[((i : Nat) : Int).toNat]? = none := by simp; omega
    rw [q1, q2]
    wp_walk using wpAny_loadPart' c1, wpAny_loadPart' c2
    first
    | (show R (.ok (.ret (.bool (us.size == vs.size)))) _; rw [z1, z2]; simpa using hR)
    | (show R (.ok (.ret (.bool (us.size != vs.size)))) _; rw [z1, z2]; simpa using hR)
  | succ k ih =>
    intro i hk hi s h
    obtain ⟨us, vs, ⟨⟨n, c1⟩, ⟨m, c2⟩, z1, z2⟩, turn⟩ := g.turn _ _ h
    have l1 : i < us.size := by omega
    have l2 : i < vs.size := by omega
    have ht := turn l1 l2
    obtain ⟨hp, gg, d, tk, os⟩ := s
    wp_walk using wpAny_loadPart' c1, wpAny_loadPart' c2
    have q1 : us[((i : Nat) : Int).toNat]? = some us[i] := by simp [l1]
    have q2 : vs[((i : Nat) : Int).toNat]? = some vs[i] := by simp [l2]
    have ec : ((i : Int) + 1) = ((i + 1 : Nat) : Int) := by omega
    rw [q1, q2]
    refine wpAny_bind (wpAny_mono ht (fun r s2 h2 => ?_) fun _ _ x => x)
    cases r with
    | true =>
      rw [if_pos rfl] at h2
      have again := ih (i + 1) (by omega) (by omega) s2 h2
      obtain ⟨hp2, g2, d2, tk2, os2⟩ := s2
      wp_walk
      rw [ec]
      exact ⟨plainId_quiet plain_eq_loop _, codeAny_builtin entry_eq_loop (by rw [Around.under_plainId plain_eq_loop _]; exact again)⟩
    | false =>
      rw [if_neg Bool.false_ne_true] at h2
      obtain ⟨us', vs', ⟨n', c1'⟩, ⟨m', c2'⟩, z1', z2'⟩ := g.stay _ _ h2
      have hR := brk i s2 h2
      obtain ⟨hp2, g2, d2, tk2, os2⟩ := s2
      have p1 : us'[((i : Nat) : Int).toNat]? = some (us'[i]'(by omega)) := by first | (simp; done) | (simp; omega)
      have p2 : vs'[((i : Nat) : Int).toNat]? = some (vs'[i]'(by omega)) := by first | (simp; done) | (simp; omega)
      wp_walk using wpAny_loadPart' c1', wpAny_loadPart' c2'
      first
      | exact hR
      | (rw [p1, p2]; wp_walk; simpa using hR)
theorem list_eq (l b : Addr) (N : Nat) (J Fa : Nat → Shared → Prop) (g : Goes prog w A (fun e s' => R (.error e) s') l b N J Fa) (fin : ∀ s, J N s → R (.ok (.ret (.bool true))) s) (brk : ∀ i s, Fa i s → R (.ok (.ret (.bool false))) s) {s : Shared} (h : J 0 s) :
    wpAny (model prog w) A.in1 (Builtin.«list.__eq__» ⟨[.ref l, .ref b], []⟩) (GQ.FinOf prog w A R) (fun e s' => R (.error e) s') s := by
  obtain ⟨us, vs, ⟨⟨n, c1⟩, ⟨m, c2⟩, z1, z2⟩, _⟩ := g.turn _ _ h
  have go := loop_eq (A := A) (R := R) l b N J Fa g fin brk _ 0 rfl (Nat.zero_le _) s h
  obtain ⟨hp, gg, d, tk, os⟩ := s
  have f3 := AutoSeq1.sub_list_list
  have ne : ¬ (us.size != vs.size) = true := by simp [z1, z2]
  wp_walk using wpAny_loadPart' c1, wpAny_loadPart' c2
  exact ⟨plainId_quiet plain_eq_loop _, codeAny_builtin entry_eq_loop (by rw [Around.under_plainId plain_eq_loop _]; exact go)⟩
theorem far_eq (l b : Addr) (us vs : Array Value) (n m : Nat) (hz : (us.size != vs.size) = true) {s : Shared} (c1 : s.heap.get? l = some { cls := .type "list", data := .seq us n }) (c2 : s.heap.get? b = some { cls := .type "list", data := .seq vs m }) (h : R (.ok (.ret (.bool false))) s) :
    wpAny (model prog w) A.in1 (Builtin.«list.__eq__» ⟨[.ref l, .ref b], []⟩) (GQ.FinOf prog w A R) (fun e s' => R (.error e) s') s := by
  obtain ⟨hp, gg, d, tk, os⟩ := s
  have f3 := AutoSeq1.sub_list_list
  wp_walk using wpAny_loadPart' c1, wpAny_loadPart' c2
  exact h
theorem tup_eq (l b : Addr) (us vs : Array Value) (n m : Nat) (dd dd2 : Option Addr) (sl sl2 : Array (Option Value)) (J Fa : Nat → Shared → Prop)
    (turn : ∀ i (h1 : i < us.size) (h2 : i < vs.size) s, J i s → wpAny (model prog w) A.in1 (eqBool us[i] vs[i]) (fun r s' => if r = true then J (i + 1) s' else Fa i s') (fun e s' => R (.error e) s') s)
    (fin : ∀ s, J (min us.size vs.size) s → R (.ok (.ret (.bool (if us.size = vs.size then true else false)))) s) (brk : ∀ i s, Fa i s → R (.ok (.ret (.bool false))) s) {s : Shared} (c1 : s.heap.get? l = some { cls := .type "tuple", dict := dd, data := .seq us n, slots := sl })
    (c2 : s.heap.get? b = some { cls := .type "tuple", dict := dd2, data := .seq vs m, slots := sl2 }) (h : J 0 s) :
    wpAny (model prog w) A.in1 (Builtin.«tuple.__eq__» ⟨[.ref l, .ref b], []⟩) (GQ.FinOf prog w A R) (fun e s' => R (.error e) s') s := by
  have f2 := AutoSeq1.sub_tuple_tuple
  have zip_len : (us.toList.zip vs.toList).length = min us.size vs.size := by simp
  have h0 := h
  obtain ⟨hp, gg, d, tk, os⟩ := s
  wp_walk using wpAny_loadPart' c1, wpAny_loadPart' c2, wpAny_forIn_list _ (fun rest b s' => b.1 = none ∧ ∃ i, rest = (us.toList.zip vs.toList).drop i ∧ i ≤ min us.size vs.size ∧ J i s') _
  case turn =>
    rintro ⟨y, x⟩ rest b s' ⟨hb', i, hz, hi, hI⟩
    have lt : i < (us.toList.zip vs.toList).length := by
      rcases Nat.lt_or_ge i (us.toList.zip vs.toList).length with q | q
      · exact q
      · rw [List.drop_of_length_le q] at hz; cases hz
    have h1 : i < us.size := by omega
    have h2 : i < vs.size := by omega
    rw [List.drop_eq_getElem_cons lt] at hz
    injection hz with eyx er
    have ey : y = us[i] := by have := congrArg Prod.fst eyx; simpa using this
    have ex : x = vs[i] := by have := congrArg Prod.snd eyx; simpa using this
    subst ey ex
    refine wpAny_bind (wpAny_mono (turn i h1 h2 s' hI) (fun r s2 q2 => ?_) fun _ _ x => x)
    cases r with
    | true =>
      rw [if_pos rfl] at q2
      wp_walk
      exact ⟨rfl, i + 1, er, by omega, q2⟩
    | false =>
      rw [if_neg Bool.false_ne_true] at q2
      have hR := brk i s2 q2
      wp_walk
      first
      | exact ⟨_, rfl, hR⟩
      | exact hR
      | simpa using hR
  case fin =>
    rintro ⟨b1, b2⟩ s' ⟨hb', i, hz, hi, hI⟩
    simp only at hb'
    subst hb'
    have ge : min us.size vs.size ≤ i := by
      rcases Nat.lt_or_ge i (us.toList.zip vs.toList).length with q | q
      · rw [List.drop_eq_getElem_cons q] at hz; cases hz
      · exact zip_len ▸ q
    have ei : i = min us.size vs.size := by omega
    have hR := fin s' (ei ▸ hI)
    wp_walk
    by_cases hs : us.size = vs.size
    · rw [if_pos hs] at hR
      first
      | exact ⟨_, rfl, by simpa [Builtin.Tuple.tupleCompareSizes, bne, hs] using hR⟩
      | simpa [Builtin.Tuple.tupleCompareSizes, bne, hs] using hR
    · rw [if_neg hs] at hR
      have hs' : (us.size == vs.size) = false := beq_eq_false_iff_ne.mpr hs
      first
      | exact ⟨_, rfl, by simpa [Builtin.Tuple.tupleCompareSizes, bne, hs'] using hR⟩
      | (simp only [Builtin.Tuple.tupleCompareSizes, bne, hs']; exact hR)
  case h =>
    exact ⟨rfl, 0, rfl, Nat.zero_le _, h0⟩

theorem loop_ne (l b : Addr) (N : Nat) (J Fa : Nat → Shared → Prop) (g : Goes prog w A (fun e s' => R (.error e) s') l b N J Fa) (fin : ∀ s, J N s → R (.ok (.ret (.bool false))) s) (brk : ∀ i s, Fa i s → R (.ok (.ret (.bool true))) s) (k : Nat) :
    ∀ i : Nat, N - i = k → i ≤ N → ∀ s, J i s → wpAny (model prog w) A.in1 (Builtin.«list.__eq__.loop» ⟨[.ref l, .ref b, rawInt i, rawInt 3], []⟩) (GQ.FinOf prog w A R) (fun e s' => R (.error e) s') s := by
  induction k with
  | zero =>
    intro i hk hi s h
    obtain ⟨us, vs, ⟨⟨n, c1⟩, ⟨m, c2⟩, z1, z2⟩, _⟩ := g.turn _ _ h
    have ei : i = N := by omega
    have hR : R (.ok (.ret (.bool false))) s := fin s (ei ▸ h)
    obtain ⟨hp, gg, d, tk, os⟩ := s
    wp_walk using wpAny_loadPart' c1, wpAny_loadPart' c2
    have q1 : us[((i : Nat) : Int).toNat]? = none := by simp; omega
    have q2 : vs[((i : Nat) : Int).toNat]? = none := by simp; omega
    rw [q1, q2]
    wp_walk using wpAny_loadPart' c1, wpAny_loadPart' c2
    first
    | (show R (.ok (.ret (.bool (us.size == vs.size)))) _; rw [z1, z2]; simpa using hR)
    | (show R (.ok (.ret (.bool (us.size != vs.size)))) _; rw [z1, z2]; simpa using hR)
  | succ k ih =>
    intro i hk hi s h
    obtain ⟨us, vs, ⟨⟨n, c1⟩, ⟨m, c2⟩, z1, z2⟩, turn⟩ := g.turn _ _ h
    have l1 : i < us.size := by omega
    have l2 : i < vs.size := by omega
    have ht := turn l1 l2
    obtain ⟨hp, gg, d, tk, os⟩ := s
    wp_walk using wpAny_loadPart' c1, wpAny_loadPart' c2
    have q1 : us[((i : Nat) : Int).toNat]? = some us[i] := by simp [l1]
    have q2 : vs[((i : Nat) : Int).toNat]? = some vs[i] := by simp [l2]
    have ec : ((i : Int) + 1) = ((i + 1 : Nat) : Int) := by omega
    rw [q1, q2]
    refine wpAny_bind (wpAny_mono ht (fun r s2 h2 => ?_) fun _ _ x => x)
    cases r with
    | true =>
      rw [if_pos rfl] at h2
      have again := ih (i + 1) (by omega) (by omega) s2 h2
      obtain ⟨hp2, g2, d2, tk2, os2⟩ := s2
      wp_walk
      rw [ec]
      exact ⟨plainId_quiet plain_eq_loop _, codeAny_builtin entry_eq_loop (by rw [Around.under_plainId plain_eq_loop _]; exact again)⟩
    | false =>
      rw [if_neg Bool.false_ne_true] at h2
      obtain ⟨us', vs', ⟨n', c1'⟩, ⟨m', c2'⟩, z1', z2'⟩ := g.stay _ _ h2
      have hR := brk i s2 h2
      obtain ⟨hp2, g2, d2, tk2, os2⟩ := s2
      have p1 : us'[((i : Nat) : Int).toNat]? = some (us'[i]'(by omega)) := by first | (simp; done) | (simp; omega)
      have p2 : vs'[((i : Nat) : Int).toNat]? = some (vs'[i]'(by omega)) := by first | (simp; done) | (simp; omega)
      wp_walk using wpAny_loadPart' c1', wpAny_loadPart' c2'
      first
      | exact hR
      | (rw [p1, p2]; wp_walk; simpa using hR)
theorem list_ne (l b : Addr) (N : Nat) (J Fa : Nat → Shared → Prop) (g : Goes prog w A (fun e s' => R (.error e) s') l b N J Fa) (fin : ∀ s, J N s → R (.ok (.ret (.bool false))) s) (brk : ∀ i s, Fa i s → R (.ok (.ret (.bool true))) s) {s : Shared} (h : J 0 s) :
    wpAny (model prog w) A.in1 (Builtin.«list.__ne__» ⟨[.ref l, .ref b], []⟩) (GQ.FinOf prog w A R) (fun e s' => R (.error e) s') s := by
  obtain ⟨us, vs, ⟨⟨n, c1⟩, ⟨m, c2⟩, z1, z2⟩, _⟩ := g.turn _ _ h
  have go := loop_ne (A := A) (R := R) l b N J Fa g fin brk _ 0 rfl (Nat.zero_le _) s h
  obtain ⟨hp, gg, d, tk, os⟩ := s
  have f3 := AutoSeq1.sub_list_list
  have ne : ¬ (us.size != vs.size) = true := by simp [z1, z2]
  wp_walk using wpAny_loadPart' c1, wpAny_loadPart' c2
  exact ⟨plainId_quiet plain_eq_loop _, codeAny_builtin entry_eq_loop (by rw [Around.under_plainId plain_eq_loop _]; exact go)⟩
theorem far_ne (l b : Addr) (us vs : Array Value) (n m : Nat) (hz : (us.size != vs.size) = true) {s : Shared} (c1 : s.heap.get? l = some { cls := .type "list", data := .seq us n }) (c2 : s.heap.get? b = some { cls := .type "list", data := .seq vs m }) (h : R (.ok (.ret (.bool true))) s) :
    wpAny (model prog w) A.in1 (Builtin.«list.__ne__» ⟨[.ref l, .ref b], []⟩) (GQ.FinOf prog w A R) (fun e s' => R (.error e) s') s := by
  obtain ⟨hp, gg, d, tk, os⟩ := s
  have f3 := AutoSeq1.sub_list_list
  wp_walk using wpAny_loadPart' c1, wpAny_loadPart' c2
  exact h
theorem tup_ne (l b : Addr) (us vs : Array Value) (n m : Nat) (dd dd2 : Option Addr) (sl sl2 : Array (Option Value)) (J Fa : Nat → Shared → Prop)
    (turn : ∀ i (h1 : i < us.size) (h2 : i < vs.size) s, J i s → wpAny (model prog w) A.in1 (eqBool us[i] vs[i]) (fun r s' => if r = true then J (i + 1) s' else Fa i s') (fun e s' => R (.error e) s') s)
    (fin : ∀ s, J (min us.size vs.size) s → R (.ok (.ret (.bool (if us.size = vs.size then false else true)))) s) (brk : ∀ i s, Fa i s → R (.ok (.ret (.bool true))) s) {s : Shared} (c1 : s.heap.get? l = some { cls := .type "tuple", dict := dd, data := .seq us n, slots := sl })
    (c2 : s.heap.get? b = some { cls := .type "tuple", dict := dd2, data := .seq vs m, slots := sl2 }) (h : J 0 s) :
    wpAny (model prog w) A.in1 (Builtin.«tuple.__ne__» ⟨[.ref l, .ref b], []⟩) (GQ.FinOf prog w A R) (fun e s' => R (.error e) s') s := by
  have f2 := AutoSeq1.sub_tuple_tuple
  have zip_len : (us.toList.zip vs.toList).length = min us.size vs.size := by simp
  have h0 := h
  obtain ⟨hp, gg, d, tk, os⟩ := s
  wp_walk using wpAny_loadPart' c1, wpAny_loadPart' c2, wpAny_forIn_list _ (fun rest b s' => b.1 = none ∧ ∃ i, rest = (us.toList.zip vs.toList).drop i ∧ i ≤ min us.size vs.size ∧ J i s') _
  case turn =>
    rintro ⟨y, x⟩ rest b s' ⟨hb', i, hz, hi, hI⟩
    have lt : i < (us.toList.zip vs.toList).length := by
      rcases Nat.lt_or_ge i (us.toList.zip vs.toList).length with q | q
      · exact q
      · rw [List.drop_of_length_le q] at hz; cases hz
    have h1 : i < us.size := by omega
    have h2 : i < vs.size := by omega
    rw [List.drop_eq_getElem_cons lt] at hz
    injection hz with eyx er
    have ey : y = us[i] := by have := congrArg Prod.fst eyx; simpa using this
    have ex : x = vs[i] := by have := congrArg Prod.snd eyx; simpa using this
    subst ey ex
    refine wpAny_bind (wpAny_mono (turn i h1 h2 s' hI) (fun r s2 q2 => ?_) fun _ _ x => x)
    cases r with
    | true =>
      rw [if_pos rfl] at q2
      wp_walk
      exact ⟨rfl, i + 1, er, by omega, q2⟩
    | false =>
      rw [if_neg Bool.false_ne_true] at q2
      have hR := brk i s2 q2
      wp_walk
      first
      | exact ⟨_, rfl, hR⟩
      | exact hR
      | simpa using hR
  case fin =>
    rintro ⟨b1, b2⟩ s' ⟨hb', i, hz, hi, hI⟩
    simp only at hb'
    subst hb'
    have ge : min us.size vs.size ≤ i := by
      rcases Nat.lt_or_ge i (us.toList.zip vs.toList).length with q | q
      · rw [List.drop_eq_getElem_cons q] at hz; cases hz
      · exact zip_len ▸ q
    have ei : i = min us.size vs.size := by omega
    have hR := fin s' (ei ▸ hI)
    wp_walk
    by_cases hs : us.size = vs.size
    · rw [if_pos hs] at hR
      first
      | exact ⟨_, rfl, by simpa [Builtin.Tuple.tupleCompareSizes, bne, hs] using hR⟩
      | simpa [Builtin.Tuple.tupleCompareSizes, bne, hs] using hR
    · rw [if_neg hs] at hR
      have hs' : (us.size == vs.size) = false := beq_eq_false_iff_ne.mpr hs
      first
      | exact ⟨_, rfl, by simpa [Builtin.Tuple.tupleCompareSizes, bne, hs'] using hR⟩
      | (simp only [Builtin.Tuple.tupleCompareSizes, bne, hs']; exact hR)
  case h =>
    exact ⟨rfl, 0, rfl, Nat.zero_le _, h0⟩
end
section
variable {prog : Program} {w : World} {A : Around} {E : Value → Shared → Prop} {s : Shared}

theorem rc_list_eq {l b : Addr} {N : Nat} {Q : Value → Shared → Prop} (hu : A.units < cLine) (J Fa : Nat → Shared → Prop) (g : Goes prog w A E l b N J Fa) (fin : ∀ s, J N s → Q (.bool true) s) (brk : ∀ i s, Fa i s → Q (.bool false) s) (h : J 0 s) : wpAny (model prog w) A (richCompare .Eq (.ref l) (.ref b)) Q E s := by
  obtain ⟨us, vs, ⟨⟨n, c1⟩, ⟨m, c2⟩, _, _⟩, _⟩ := g.turn _ _ h
  refine wpAny_richCompare_same_room (op := .Eq) ⟨_, c1, rfl⟩ ⟨_, c2, rfl⟩ PySem.F.slot_list_eq (GQ.call_here PySem.F.slot_list_eq ⟨_, c1, rfl⟩ PySem.F.entry_list_eq (PySem.F.args_list_eq_2 _ _) ?_) hu
  exact list_eq (R := wants (fun v s' => v ≠ .notImplemented ∧ Q v s') E) l b N J Fa g (fun s' q => ⟨(fun x => nomatch x), fin s' q⟩) (fun i s' q => ⟨(fun x => nomatch x), brk i s' q⟩) h
theorem rc_far_eq {l b : Addr} {us vs : Array Value} {n m : Nat} {Q : Value → Shared → Prop} (hu : A.units < cLine) (hz : (us.size != vs.size) = true) (c1 : s.heap.get? l = some { cls := .type "list", data := .seq us n }) (c2 : s.heap.get? b = some { cls := .type "list", data := .seq vs m }) (h : Q (.bool false) s) : wpAny (model prog w) A (richCompare .Eq (.ref l) (.ref b)) Q E s := by
  refine wpAny_richCompare_same_room (op := .Eq) ⟨_, c1, rfl⟩ ⟨_, c2, rfl⟩ PySem.F.slot_list_eq (GQ.call_here PySem.F.slot_list_eq ⟨_, c1, rfl⟩ PySem.F.entry_list_eq (PySem.F.args_list_eq_2 _ _) ?_) hu
  exact far_eq (R := wants (fun v s' => v ≠ .notImplemented ∧ Q v s') E) l b us vs n m hz c1 c2 ⟨(fun x => nomatch x), h⟩
theorem rc_tup_eq {l b : Addr} {us vs : Array Value} {Q : Value → Shared → Prop} (hu : A.units < cLine) (J Fa : Nat → Shared → Prop) (hl : s.heap.IsTuple l us) (hb : s.heap.IsTuple b vs)
    (turn : ∀ i (h1 : i < us.size) (h2 : i < vs.size) s, J i s → wpAny (model prog w) A.in1 (eqBool us[i] vs[i]) (fun r s' => if r = true then J (i + 1) s' else Fa i s') E s)
    (fin : ∀ s, J (min us.size vs.size) s → Q (.bool (if us.size = vs.size then true else false)) s) (brk : ∀ i s, Fa i s → Q (.bool false) s) (h : J 0 s) : wpAny (model prog w) A (richCompare .Eq (.ref l) (.ref b)) Q E s := by
  obtain ⟨⟨cls, dd, data, sl⟩, c1, hc, n, hd⟩ := id hl
  obtain ⟨⟨cls2, dd2, data2, sl2⟩, c2, hc2, n2, hd2⟩ := id hb
  simp only at hc hd hc2 hd2
  subst hc hd hc2 hd2
  refine wpAny_richCompare_same_room (op := .Eq) ⟨_, c1, rfl⟩ ⟨_, c2, rfl⟩ PySem.F.slot_tuple_eq (GQ.call_here PySem.F.slot_tuple_eq ⟨_, c1, rfl⟩ PySem.F.entry_tuple_eq (PySem.F.args_tuple_eq_2 _ _) ?_) hu
  exact tup_eq (R := wants (fun v s' => v ≠ .notImplemented ∧ Q v s') E) l b us vs n n2 dd dd2 sl sl2 J Fa turn (fun s' q => ⟨(fun x => nomatch x), fin s' q⟩) (fun i s' q => ⟨(fun x => nomatch x), brk i s' q⟩) c1 c2 h

theorem rc_list_ne {l b : Addr} {N : Nat} {Q : Value → Shared → Prop} (hu : A.units < cLine) (J Fa : Nat → Shared → Prop) (g : Goes prog w A E l b N J Fa) (fin : ∀ s, J N s → Q (.bool false) s) (brk : ∀ i s, Fa i s → Q (.bool true) s) (h : J 0 s) : wpAny (model prog w) A (richCompare .NotEq (.ref l) (.ref b)) Q E s := by
  obtain ⟨us, vs, ⟨⟨n, c1⟩, ⟨m, c2⟩, _, _⟩, _⟩ := g.turn _ _ h
  refine wpAny_richCompare_same_room (op := .NotEq) ⟨_, c1, rfl⟩ ⟨_, c2, rfl⟩ PySem.F.slot_list_ne (GQ.call_here PySem.F.slot_list_ne ⟨_, c1, rfl⟩ PySem.F.entry_list_ne (PySem.F.args_list_ne_2 _ _) ?_) hu
  exact list_ne (R := wants (fun v s' => v ≠ .notImplemented ∧ Q v s') E) l b N J Fa g (fun s' q => ⟨(fun x => nomatch x), fin s' q⟩) (fun i s' q => ⟨(fun x => nomatch x), brk i s' q⟩) h
theorem rc_far_ne {l b : Addr} {us vs : Array Value} {n m : Nat} {Q : Value → Shared → Prop} (hu : A.units < cLine) (hz : (us.size != vs.size) = true) (c1 : s.heap.get? l = some { cls := .type "list", data := .seq us n }) (c2 : s.heap.get? b = some { cls := .type "list", data := .seq vs m }) (h : Q (.bool true) s) : wpAny (model prog w) A (richCompare .NotEq (.ref l) (.ref b)) Q E s := by
  refine wpAny_richCompare_same_room (op := .NotEq) ⟨_, c1, rfl⟩ ⟨_, c2, rfl⟩ PySem.F.slot_list_ne (GQ.call_here PySem.F.slot_list_ne ⟨_, c1, rfl⟩ PySem.F.entry_list_ne (PySem.F.args_list_ne_2 _ _) ?_) hu
  exact far_ne (R := wants (fun v s' => v ≠ .notImplemented ∧ Q v s') E) l b us vs n m hz c1 c2 ⟨(fun x => nomatch x), h⟩
theorem rc_tup_ne {l b : Addr} {us vs : Array Value} {Q : Value → Shared → Prop} (hu : A.units < cLine) (J Fa : Nat → Shared → Prop) (hl : s.heap.IsTuple l us) (hb : s.heap.IsTuple b vs)
    (turn : ∀ i (h1 : i < us.size) (h2 : i < vs.size) s, J i s → wpAny (model prog w) A.in1 (eqBool us[i] vs[i]) (fun r s' => if r = true then J (i + 1) s' else Fa i s') E s)
    (fin : ∀ s, J (min us.size vs.size) s → Q (.bool (if us.size = vs.size then false else true)) s) (brk : ∀ i s, Fa i s → Q (.bool true) s) (h : J 0 s) : wpAny (model prog w) A (richCompare .NotEq (.ref l) (.ref b)) Q E s := by
  obtain ⟨⟨cls, dd, data, sl⟩, c1, hc, n, hd⟩ := id hl
  obtain ⟨⟨cls2, dd2, data2, sl2⟩, c2, hc2, n2, hd2⟩ := id hb
  simp only at hc hd hc2 hd2
  subst hc hd hc2 hd2
  refine wpAny_richCompare_same_room (op := .NotEq) ⟨_, c1, rfl⟩ ⟨_, c2, rfl⟩ PySem.F.slot_tuple_ne (GQ.call_here PySem.F.slot_tuple_ne ⟨_, c1, rfl⟩ PySem.F.entry_tuple_ne (PySem.F.args_tuple_ne_2 _ _) ?_) hu
  exact tup_ne (R := wants (fun v s' => v ≠ .notImplemented ∧ Q v s') E) l b us vs n n2 dd dd2 sl sl2 J Fa turn (fun s' q => ⟨(fun x => nomatch x), fin s' q⟩) (fun i s' q => ⟨(fun x => nomatch x), brk i s' q⟩) c1 c2 h
end
end JsQ
namespace L2
open PySem PySem.Spec PyProof.Rows
section
variable {X : Cx} {n m : Nat} {D D' : Tells}
def MonT (D : Tells) : Prop := ∀ x y r H H', Same H H' → D x y r H → D x y r H'
/-- the same object is alike -/
def SelfT (D : Tells) : Prop := ∀ x r H, D x x r H → r = true
theorem EqT.mono (h : EqT X n D) (hn : n ≤ m) : EqT X m D := fun A pins s σ H x y u v r sb => h A pins s σ H x y u v r (sb.mono hn)
theorem EqT.imp (h : EqT X n D) (hd : ∀ x y r H, D' x y r H → D x y r H) : EqT X n D' := fun A pins s σ H x y u v r sb I rx ry d => h A pins s σ H x y u v r sb I rx ry (hd x y r H d)
theorem EqT.or (h : EqT X n D) (h' : EqT X n D') : EqT X n (fun x y r H => D x y r H ∨ D' x y r H) := fun A pins s σ H x y u v r sb I rx ry d => by
  rcases d with d | d
  · exact h A pins s σ H x y u v r sb I rx ry d
  · exact h' A pins s σ H x y u v r sb I rx ry d
/-- flat values -/
def TFlat : Tells := fun x y r _ => flatV x = true ∧ flatV y = true ∧ eqV x y = r
theorem eqT_flat : EqT X 0 TFlat := by
  intro A pins s σ H x y u v r sb I rx ry d
  obtain ⟨fx, fy, e⟩ := d
  have q := eqAt_V (A := A) (s := s) rx ry fx fy
  rw [e] at q
  exact q X.prog X.w X.xe _ ⟨rfl, H, I, Same.refl H⟩
/-- what is told item by item -/
def PrsT (D : Tells) (xs ys : List V) (bs : List Bool) (H : Hp) : Prop := bs.length = min xs.length ys.length ∧ ∀ (i : Nat) x y b, xs[i]? = some x → ys[i]? = some y → bs[i]? = some b → (bs.take i).all id = true → D x y b H
theorem PrsT.mon (hD : MonT D) {xs ys : List V} {bs : List Bool} {H H' : Hp} (e : Same H H') (p : PrsT D xs ys bs H) : PrsT D xs ys bs H' := ⟨p.1, fun i x y b h1 h2 h3 h4 => hD x y b H H' e (p.2 i x y b h1 h2 h3 h4)⟩
theorem PrsT.self {xs : List V} {bs : List Bool} {H : Hp} (hS : ∀ x r, D x x r H → r = true) (p : PrsT D xs xs bs H) : bs.all id = true := by
  have go : ∀ n, n ≤ bs.length → (bs.take n).all id = true := by
    intro n
    induction n with
    | zero => intro _; rfl
    | succ n ih =>
      intro hn
      have hi : n < bs.length := hn
      have hx : n < xs.length := by have := p.1; omega
      have al := ih (by omega)
      have e := hS _ _ (p.2 n _ _ _ (List.getElem?_eq_getElem hx) (List.getElem?_eq_getElem hx) (List.getElem?_eq_getElem hi) al)
      rw [List.take_succ_eq_append_getElem hi, List.all_append, al, e]
      rfl
  have := go bs.length (Nat.le_refl _)
  rwa [List.take_length] at this
def tells (xs ys : List V) (bs : List Bool) : Bool := decide (xs.length = ys.length) && bs.all id
def TList (D : Tells) : Tells := fun x y r H => ∃ a b xs ys bs, x = .ref a ∧ y = .ref b ∧ H a = some (.lst xs) ∧ H b = some (.lst ys) ∧ PrsT D xs ys bs H ∧ r = tells xs ys bs
def TTup (K : PySem.W.Frag) (D : Tells) : Tells := fun x y r H => ∃ a b xs ys bs, x = .ref a ∧ y = .ref b ∧ SqT K H a xs ∧ SqT K H b ys ∧ PrsT D xs ys bs H ∧ r = tells xs ys bs
theorem monT_list (hD : MonT D) : MonT (TList D) := fun x y r H H' e d => by
  obtain ⟨a, b, xs, ys, bs, hx, hy, h1, h2, p, er⟩ := d
  exact ⟨a, b, xs, ys, bs, hx, hy, e _ _ h1, e _ _ h2, p.mon hD e, er⟩
theorem monT_tup {K : PySem.W.Frag} (hD : MonT D) : MonT (TTup K D) := fun x y r H H' e d => by
  obtain ⟨a, b, xs, ys, bs, hx, hy, h1, h2, p, er⟩ := d
  exact ⟨a, b, xs, ys, bs, hx, hy, h1.ext e, h2.ext e, p.mon hD e, er⟩
/-- behind i items that are alike -/
def JT (X : Cx) (pins : List (Addr × Obj)) (σ : St) (H : Hp) (bs : List Bool) (i : Nat) (s' : Shared) : Prop := (∃ H', Inv X pins σ H' s' ∧ Same H H') ∧ (bs.take i).all id = true
def FT (X : Cx) (pins : List (Addr × Obj)) (σ : St) (H : Hp) (bs : List Bool) (i : Nat) (s' : Shared) : Prop := (∃ H', Inv X pins σ H' s' ∧ Same H H') ∧ bs.all id = false
theorem turnT (hD : MonT D) (h : EqT X n D) {A : Around} (sb : Sub X (n + 1) A) {pins : List (Addr × Obj)} {σ : St} {H : Hp} {xs ys : List V} {bs : List Bool} {us vs : List Value} (p : PrsT D xs ys bs H) (r : Vals xs us) (r2 : Vals ys vs)
    (i : Nat) (h1 : i < us.toArray.size) (h2 : i < vs.toArray.size) (s' : Shared) (l : JT X pins σ H bs i s') :
    wpAny (model X.prog X.w) A.in1 (eqBool us.toArray[i] vs.toArray[i]) (fun r s2 => if r = true then JT X pins σ H bs (i + 1) s2 else FT X pins σ H bs i s2) X.xe s' := by
  obtain ⟨⟨H1, I1, e1⟩, al⟩ := l
  have l1 : i < us.length := by simpa using h1
  have l2 : i < vs.length := by simpa using h2
  have g1 : us[i]? = some us.toArray[i] := by rw [List.getElem?_eq_getElem l1] <;> simp
  have g2 : vs[i]? = some vs.toArray[i] := by rw [List.getElem?_eq_getElem l2] <;> simp
  have k1 : i < xs.length := by rw [r.length]; exact l1
  have k2 : i < ys.length := by rw [r2.length]; exact l2
  have k3 : i < bs.length := by have := p.1; omega
  obtain ⟨u, hu, ru⟩ := r.get (List.getElem?_eq_getElem k1)
  obtain ⟨v, hv, rv⟩ := r2.get (List.getElem?_eq_getElem k2)
  rw [g1] at hu
  rw [g2] at hv
  rw [Option.some.inj hu, Option.some.inj hv]
  refine wpAny_mono (h A.in1 pins s' σ H1 _ _ u v _ sb.in1 I1 ru rv (hD _ _ _ _ _ e1 (p.2 i _ _ _ (List.getElem?_eq_getElem k1) (List.getElem?_eq_getElem k2) (List.getElem?_eq_getElem k3) al))) (fun q s2 z => ?_) fun _ _ x => x
  obtain ⟨rfl, H2, I2, e2⟩ := z
  cases hb : bs[i] with
  | true =>
    rw [if_pos rfl]
    refine ⟨⟨H2, I2, e1.trans e2⟩, ?_⟩
    rw [List.take_succ_eq_append_getElem k3, List.all_append, al, hb]
    rfl
  | false =>
    rw [if_neg Bool.false_ne_true]
    refine ⟨⟨H2, I2, e1.trans e2⟩, ?_⟩
    rw [List.all_eq_false]
    exact ⟨bs[i], List.getElem_mem k3, by rw [hb]; decide⟩
def RcT (X : Cx) (op : CmpOp) (f : Bool → Bool) (n : Nat) (D : Tells) : Prop :=
  ∀ (A : Around) (pins : List (Addr × Obj)) (s : Shared) (σ : St) (H : Hp) (x y : V) (u v : Value) (r : Bool), Sub X n A → Inv X pins σ H s → RelV x u → RelV y v → D x y r H →
    wpAny (model X.prog X.w) A (richCompare op u v) (fun z s' => z = .bool (f r) ∧ ∃ H', Inv X pins σ H' s' ∧ Same H H') X.xe s
theorem rcT_list_eq (hD : MonT D) (h : EqT X n D) : RcT X .Eq id (n + 1) (TList D) := by
  intro A pins s σ H x y u v r sb I rx ry d
  obtain ⟨a, b, xs, ys, bs, rfl, rfl, ha, hb, p, rfl⟩ := d
  cases rx
  cases ry
  by_cases hl : xs.length = ys.length
  · have el : bs.length = xs.length := by have := p.1; omega
    refine JsQ.rc_list_eq (N := xs.length) sb.room.units0 (JT X pins σ H bs) (FT X pins σ H bs) ⟨fun i s' q => ?_, fun i s' q => ?_⟩ (fun s' q => ⟨?_, q.1⟩) (fun i s' q => ⟨?_, q.1⟩) ⟨⟨H, I, Same.refl H⟩, by simp⟩
    · obtain ⟨H1, I1, e1⟩ := q.1
      obtain ⟨z, us, k, r1, e⟩ := I1.hok a _ (e1 _ _ ha)
      obtain ⟨z2, vs, k2, r2, e2⟩ := I1.hok b _ (e1 _ _ hb)
      exact ⟨us.toArray, vs.toArray, ⟨⟨k, e⟩, ⟨k2, e2⟩, by rw [List.size_toArray, ← r1.length], by rw [List.size_toArray, ← r2.length, ← hl]⟩, fun h1 h2 => turnT hD h sb p r1 r2 i h1 h2 s' q⟩
    · obtain ⟨H1, I1, e1⟩ := q.1
      obtain ⟨z, us, k, r1, e⟩ := I1.hok a _ (e1 _ _ ha)
      obtain ⟨z2, vs, k2, r2, e2⟩ := I1.hok b _ (e1 _ _ hb)
      exact ⟨us.toArray, vs.toArray, ⟨k, e⟩, ⟨k2, e2⟩, by rw [List.size_toArray, ← r1.length], by rw [List.size_toArray, ← r2.length, ← hl]⟩
    · have q2 := q.2
      rw [← el, List.take_length] at q2
      rw [tells, q2, decide_eq_true hl]
      rfl
    · rw [tells, q.2, decide_eq_true hl]
      rfl
  · obtain ⟨z, us, k, r1, e⟩ := I.hok a _ ha
    obtain ⟨z2, vs, k2, r2, e2⟩ := I.hok b _ hb
    refine JsQ.rc_far_eq sb.room.units0 ?_ e e2 ⟨?_, H, I, Same.refl H⟩
    · rw [List.size_toArray, List.size_toArray, ← r1.length, ← r2.length]
      simpa using hl
    · rw [tells, decide_eq_false hl]
      rfl
theorem rcT_tup_eq (hD : MonT D) (h : EqT X n D) : RcT X .Eq id (n + 1) (TTup X.K D) := by
  intro A pins s σ H x y u v r sb I rx ry d
  obtain ⟨a, b, xs, ys, bs, rfl, rfl, ha, hb, p, rfl⟩ := d
  cases rx
  cases ry
  obtain ⟨us, r1, e, z⟩ := I.tuple ha
  obtain ⟨vs, r2, e2, z2⟩ := I.tuple hb
  have lu : us.toArray.size = xs.length := by rw [List.size_toArray, ← r1.length]
  have lv : vs.toArray.size = ys.length := by rw [List.size_toArray, ← r2.length]
  refine JsQ.rc_tup_eq sb.room.units0 (JT X pins σ H bs) (FT X pins σ H bs) e e2 (fun i h1 h2 s' q => turnT hD h sb p r1 r2 i h1 h2 s' q) (fun s' q => ⟨?_, q.1⟩) (fun i s' q => ⟨?_, q.1⟩) ⟨⟨H, I, Same.refl H⟩, by simp⟩
  · have q2 := q.2
    rw [lu, lv, ← p.1, List.take_length] at q2
    rw [lu, lv, tells, q2]
    by_cases hl : xs.length = ys.length
    · rw [if_pos hl, decide_eq_true hl]
      rfl
    · rw [if_neg hl, decide_eq_false hl]
      rfl
  · rw [tells, q.2, Bool.and_false]
    rfl
theorem rcT_list_ne (hD : MonT D) (h : EqT X n D) : RcT X .NotEq not (n + 1) (TList D) := by
  intro A pins s σ H x y u v r sb I rx ry d
  obtain ⟨a, b, xs, ys, bs, rfl, rfl, ha, hb, p, rfl⟩ := d
  cases rx
  cases ry
  by_cases hl : xs.length = ys.length
  · have el : bs.length = xs.length := by have := p.1; omega
    refine JsQ.rc_list_ne (N := xs.length) sb.room.units0 (JT X pins σ H bs) (FT X pins σ H bs) ⟨fun i s' q => ?_, fun i s' q => ?_⟩ (fun s' q => ⟨?_, q.1⟩) (fun i s' q => ⟨?_, q.1⟩) ⟨⟨H, I, Same.refl H⟩, by simp⟩
    · obtain ⟨H1, I1, e1⟩ := q.1
      obtain ⟨z, us, k, r1, e⟩ := I1.hok a _ (e1 _ _ ha)
      obtain ⟨z2, vs, k2, r2, e2⟩ := I1.hok b _ (e1 _ _ hb)
      exact ⟨us.toArray, vs.toArray, ⟨⟨k, e⟩, ⟨k2, e2⟩, by rw [List.size_toArray, ← r1.length], by rw [List.size_toArray, ← r2.length, ← hl]⟩, fun h1 h2 => turnT hD h sb p r1 r2 i h1 h2 s' q⟩
    · obtain ⟨H1, I1, e1⟩ := q.1
      obtain ⟨z, us, k, r1, e⟩ := I1.hok a _ (e1 _ _ ha)
      obtain ⟨z2, vs, k2, r2, e2⟩ := I1.hok b _ (e1 _ _ hb)
      exact ⟨us.toArray, vs.toArray, ⟨k, e⟩, ⟨k2, e2⟩, by rw [List.size_toArray, ← r1.length], by rw [List.size_toArray, ← r2.length, ← hl]⟩
    · have q2 := q.2
      rw [← el, List.take_length] at q2
      rw [tells, q2, decide_eq_true hl]
      rfl
    · rw [tells, q.2, decide_eq_true hl]
      rfl
  · obtain ⟨z, us, k, r1, e⟩ := I.hok a _ ha
    obtain ⟨z2, vs, k2, r2, e2⟩ := I.hok b _ hb
    refine JsQ.rc_far_ne sb.room.units0 ?_ e e2 ⟨?_, H, I, Same.refl H⟩
    · rw [List.size_toArray, List.size_toArray, ← r1.length, ← r2.length]
      simpa using hl
    · rw [tells, decide_eq_false hl]
      rfl
theorem rcT_tup_ne (hD : MonT D) (h : EqT X n D) : RcT X .NotEq not (n + 1) (TTup X.K D) := by
  intro A pins s σ H x y u v r sb I rx ry d
  obtain ⟨a, b, xs, ys, bs, rfl, rfl, ha, hb, p, rfl⟩ := d
  cases rx
  cases ry
  obtain ⟨us, r1, e, z⟩ := I.tuple ha
  obtain ⟨vs, r2, e2, z2⟩ := I.tuple hb
  have lu : us.toArray.size = xs.length := by rw [List.size_toArray, ← r1.length]
  have lv : vs.toArray.size = ys.length := by rw [List.size_toArray, ← r2.length]
  refine JsQ.rc_tup_ne sb.room.units0 (JT X pins σ H bs) (FT X pins σ H bs) e e2 (fun i h1 h2 s' q => turnT hD h sb p r1 r2 i h1 h2 s' q) (fun s' q => ⟨?_, q.1⟩) (fun i s' q => ⟨?_, q.1⟩) ⟨⟨H, I, Same.refl H⟩, by simp⟩
  · have q2 := q.2
    rw [lu, lv, ← p.1, List.take_length] at q2
    rw [lu, lv, tells, q2]
    by_cases hl : xs.length = ys.length
    · rw [if_pos hl, decide_eq_true hl]
      rfl
    · rw [if_neg hl, decide_eq_false hl]
      rfl
  · rw [tells, q.2, Bool.and_false]
    rfl

theorem RcT.eqT (h : RcT X .Eq id n D) (hr : ∀ x y r H, D x y r H → ∃ a b, x = .ref a ∧ y = .ref b) (hS : ∀ (pins : List (Addr × Obj)) (s : Shared) (σ : St) (H : Hp) x r, Inv X pins σ H s → D x x r H → r = true) : EqT X n D := by
  intro A pins s σ H x y u v r sb I rx ry d
  obtain ⟨a, b, rfl, rfl⟩ := hr _ _ _ _ d
  cases rx
  cases ry
  by_cases hab : a = b
  · subst hab
    rw [hS _ _ _ _ _ _ I d]
    exact SeqAt.EqAt.same (A := A) (s := s) (.ref a) X.prog X.w X.xe _ ⟨rfl, H, I, Same.refl H⟩
  · refine GQ.eqBool_refG hab (wpAny_mono (h A pins s σ H (.ref a) (.ref b) _ _ _ sb I rfl rfl d) (fun z s' q => ?_) fun _ _ x => x)
    obtain ⟨hz, q⟩ := q
    exact ⟨r, hz, rfl, q⟩
theorem selfT_list (hS : SelfT D) : SelfT (TList D) := fun x r H d => by
  obtain ⟨a, b, xs, ys, bs, rfl, e, h1, h2, p, rfl⟩ := d
  cases e
  cases Option.some.inj (h1.symm.trans h2)
  rw [tells, p.self (hS · · _), decide_eq_true rfl]
  rfl
theorem eqT_list (hD : MonT D) (hS : SelfT D) (h : EqT X n D) : EqT X (n + 1) (TList D) := (rcT_list_eq hD h).eqT (fun _ _ _ _ d => let ⟨a, b, _, _, _, hx, hy, _⟩ := d; ⟨a, b, hx, hy⟩) fun _ _ _ _ _ _ _ d => selfT_list hS _ _ _ d
/-- x == y, x != y -/
def rCmpT (D : Tells) (f : Bool → Bool) : R2 := fun x y H Q => ∃ r, D x y r H ∧ ∀ H', Same H H' → Q (.bl (f r)) H'
theorem op_eqTl (h : RcT X .Eq id n D) (hr : Room n X.A) : OpR X (compareOp .Eq) (rCmpT D id) := by
  intro pins s σ H x y v u Q I rx ry hq
  obtain ⟨r, d, q⟩ := hq
  show wpAny (model X.prog X.w) X.A (richCompare .Eq v u) (EP X pins σ Q) X.xe s
  refine wpAny_mono (h X.A pins s σ H x y v u r ⟨hr, rfl⟩ I rx ry d) (fun z s' q1 => ?_) fun _ _ x => x
  obtain ⟨rfl, H', I', e⟩ := q1
  exact ⟨.bl _, H', I', rfl, q H' e⟩
theorem op_neTl (h : RcT X .NotEq not n D) (hr : Room n X.A) : OpR X (compareOp .NotEq) (rCmpT D not) := by
  intro pins s σ H x y v u Q I rx ry hq
  obtain ⟨r, d, q⟩ := hq
  show wpAny (model X.prog X.w) X.A (richCompare .NotEq v u) (EP X pins σ Q) X.xe s
  refine wpAny_mono (h X.A pins s σ H x y v u r ⟨hr, rfl⟩ I rx ry d) (fun z s' q1 => ?_) fun _ _ x => x
  obtain ⟨rfl, H', I', e⟩ := q1
  exact ⟨.bl _, H', I', rfl, q H' e⟩
end
end L2

set_option Elab.async false
set_option linter.all false
set_option maxRecDepth 100000
set_option maxHeartbeats 2000000
/-! deeds: what they are, how they stand in the heap, how they are numbered and where they lead -/
namespace Js
open PySem L2
inductive Dd where
  | told (a : Nat) (t : Tr)
  | take (s : Bool) (a b : Nat)
  | two (s : Bool) (a b c : Nat)
  | wh (a : Nat) (r : List Dd)
  | iff (a : Nat) (r o : List Dd)
def takeS : Bool → Str
  | false => "first"
  | true => "second"
def twoS : Bool → Str
  | false => "pair"
  | true => "same"
/-! how many, how deep, in their order -/
mutual
def Dd.flat : Dd → List Dd
  | .told a t => [.told a t]
  | .take s a b => [.take s a b]
  | .two s a b c => [.two s a b c]
  | .wh a r => .wh a r :: flatR r
  | .iff a r o => .iff a r o :: (flatR r ++ flatR o)
def flatR : List Dd → List Dd
  | [] => []
  | d :: r => d.flat ++ flatR r
end
def Dd.many (d : Dd) : Nat := d.flat.length
def manyR (r : List Dd) : Nat := (flatR r).length
mutual
def Dd.deep : Dd → Nat
  | .told _ _ => 0
  | .take _ _ _ => 0
  | .two _ _ _ _ => 0
  | .wh _ r => deepR r + 1
  | .iff _ r o => max (deepR r) (deepR o) + 1
def deepR : List Dd → Nat
  | [] => 0
  | d :: r => max d.deep (deepR r)
end
theorem many_nil : manyR [] = 0 := rfl
theorem many_cons (d : Dd) (r : List Dd) : manyR (d :: r) = d.many + manyR r := by
  rw [manyR, flatR, List.length_append]
  rfl
theorem many_wh (a : Nat) (r : List Dd) : (Dd.wh a r).many = manyR r + 1 := by
  rw [Dd.many, Dd.flat, List.length_cons]
  rfl
theorem many_iff (a : Nat) (r o : List Dd) : (Dd.iff a r o).many = manyR r + manyR o + 1 := by
  rw [Dd.many, Dd.flat, List.length_cons, List.length_append]
  rfl
theorem many_told (a : Nat) (t : Tr) : (Dd.told a t).many = 1 := rfl
theorem many_take (s : Bool) (a b : Nat) : (Dd.take s a b).many = 1 := rfl
theorem many_two (s : Bool) (a b c : Nat) : (Dd.two s a b c).many = 1 := rfl
theorem many_pos : ∀ d : Dd, 0 < d.many
  | .told _ _ => Nat.zero_lt_one
  | .take _ _ _ => Nat.zero_lt_one
  | .two _ _ _ _ => Nat.zero_lt_one
  | .wh a r => by rw [many_wh]; omega
  | .iff a r o => by rw [many_iff]; omega
/-- the rows of a deed -/
def Dd.rows : Dd → List (List Dd)
  | .wh _ r => [r]
  | .iff _ r o => [r, o]
  | _ => []
/-! where the deeds end -/
mutual
def Dd.ends : Dd → Nat → List Nat
  | .told _ _, n => [n + 1]
  | .take _ _ _, n => [n + 1]
  | .two _ _ _ _, n => [n + 1]
  | .wh _ r, n => (n + 1 + manyR r) :: endsR r (n + 1)
  | .iff _ r o, n => (n + 1 + manyR r + manyR o) :: (endsR r (n + 1) ++ endsR o (n + 1 + manyR r))
def endsR : List Dd → Nat → List Nat
  | [], _ => []
  | d :: r, n => d.ends n ++ endsR r (n + d.many)
end
/-! where they lead -/
mutual
def Dd.lay : Dd → Nat → Nat → List (Dd × List Nat)
  | .told a t, f, _ => [(.told a t, [f])]
  | .take s a b, f, _ => [(.take s a b, [f])]
  | .two s a b c, f, _ => [(.two s a b c, [f])]
  | .wh a r, f, n => (.wh a r, [if r.isEmpty then n else n + 1, f]) :: layR r n (n + 1)
  | .iff a r o, f, n => (.iff a r o, [if r.isEmpty then f else n + 1, if o.isEmpty then f else n + 1 + manyR r]) :: (layR r f (n + 1) ++ layR o f (n + 1 + manyR r))
def layR : List Dd → Nat → Nat → List (Dd × List Nat)
  | [], _, _ => []
  | d :: r, f, n => d.lay (if r.isEmpty then f else n + d.many) n ++ layR r f (n + d.many)
end
mutual
theorem ends_len : ∀ (d : Dd) (n : Nat), (d.ends n).length = d.many
  | .told _ _, _ => rfl
  | .take _ _ _, _ => rfl
  | .two _ _ _ _, _ => rfl
  | .wh a r, n => by rw [Dd.ends, List.length_cons, endsR_len r, many_wh]
  | .iff a r o, n => by rw [Dd.ends, List.length_cons, List.length_append, endsR_len r, endsR_len o, many_iff]
theorem endsR_len : ∀ (r : List Dd) (n : Nat), (endsR r n).length = manyR r
  | [], _ => rfl
  | d :: r, n => by rw [endsR, List.length_append, ends_len d, endsR_len r, many_cons]
end
mutual
theorem lay_len : ∀ (d : Dd) (f n : Nat), (d.lay f n).length = d.many
  | .told _ _, _, _ => rfl
  | .take _ _ _, _, _ => rfl
  | .two _ _ _ _, _, _ => rfl
  | .wh a r, f, n => by rw [Dd.lay, List.length_cons, layR_len r, many_wh]
  | .iff a r o, f, n => by rw [Dd.lay, List.length_cons, List.length_append, layR_len r, layR_len o, many_iff]
theorem layR_len : ∀ (r : List Dd) (f n : Nat), (layR r f n).length = manyR r
  | [], _, _ => rfl
  | d :: r, f, n => by rw [layR, List.length_append, lay_len d, layR_len r, many_cons]
end
/-! how they stand -/
mutual
def DAt (K : PySem.W.Frag) (C : Addr) (H : Hp) : V → Dd → Prop
  | v, .told a t => ∃ p x, v = .ref p ∧ SqT K H p [.str "told", .int (a : Nat), .ref x] ∧ a < 10 ∧ Th C H x t ∧ t.size ≤ 4000
  | v, .take s a b => ∃ p, v = .ref p ∧ SqT K H p [.str (takeS s), .int (a : Nat), .int (b : Nat)] ∧ a < 10 ∧ b < 10
  | v, .two s a b c => ∃ p, v = .ref p ∧ SqT K H p [.str (twoS s), .int (a : Nat), .int (b : Nat), .int (c : Nat)] ∧ a < 10 ∧ b < 10 ∧ c < 10
  | v, .wh a r => ∃ p q vs, v = .ref p ∧ SqT K H p [.str "while", .int (a : Nat), .ref q] ∧ a < 10 ∧ SqT K H q vs ∧ DsAt K C H vs r
  | v, .iff a r o => ∃ p q vs q2 vs2, v = .ref p ∧ SqT K H p [.str "if", .int (a : Nat), .ref q, .ref q2] ∧ a < 10 ∧ SqT K H q vs ∧ DsAt K C H vs r ∧ SqT K H q2 vs2 ∧ DsAt K C H vs2 o
def DsAt (K : PySem.W.Frag) (C : Addr) (H : Hp) : List V → List Dd → Prop
  | vs, [] => vs = []
  | vs, d :: r => ∃ v us, vs = v :: us ∧ DAt K C H v d ∧ DsAt K C H us r
end
/-- a row at q -/
def RAt (K : PySem.W.Frag) (C : Addr) (H : Hp) (q : Addr) (r : List Dd) : Prop := ∃ vs, SqT K H q vs ∧ DsAt K C H vs r
theorem sqt_kt {K : PySem.W.Frag} {H H' : Hp} (k : KT H H') {a : Addr} {xs : List V} (h : SqT K H a xs) : SqT K H' a xs :=
  h.elim (fun h => .inl (h.elim (fun h => .inl (k _ _ h (fun _ e => nomatch e))) fun ⟨o, h⟩ => .inr ⟨o, k _ _ h (fun _ e => nomatch e)⟩)) fun h => .inr h
mutual
theorem DAt_kt {K : PySem.W.Frag} {C : Addr} {H H' : Hp} (k : KT H H') : ∀ (d : Dd) (v : V), DAt K C H v d → DAt K C H' v d
  | .told a t, v, h => by
    obtain ⟨p, x, e, h1, h2, h3, h4⟩ := h
    exact ⟨p, x, e, sqt_kt k h1, h2, h3.kt k, h4⟩
  | .take s a b, v, h => by
    obtain ⟨p, e, h1, h2⟩ := h
    exact ⟨p, e, sqt_kt k h1, h2⟩
  | .two s a b c, v, h => by
    obtain ⟨p, e, h1, h2⟩ := h
    exact ⟨p, e, sqt_kt k h1, h2⟩
  | .wh a r, v, h => by
    obtain ⟨p, q, vs, e, h1, h2, h3, h4⟩ := h
    exact ⟨p, q, vs, e, sqt_kt k h1, h2, sqt_kt k h3, DsAt_kt k r vs h4⟩
  | .iff a r o, v, h => by
    obtain ⟨p, q, vs, q2, vs2, e, h1, h2, h3, h4, h5, h6⟩ := h
    exact ⟨p, q, vs, q2, vs2, e, sqt_kt k h1, h2, sqt_kt k h3, DsAt_kt k r vs h4, sqt_kt k h5, DsAt_kt k o vs2 h6⟩
theorem DsAt_kt {K : PySem.W.Frag} {C : Addr} {H H' : Hp} (k : KT H H') : ∀ (r : List Dd) (vs : List V), DsAt K C H vs r → DsAt K C H' vs r
  | [], vs, h => h
  | d :: r, vs, h => by
    obtain ⟨v, us, e, h1, h2⟩ := h
    exact ⟨v, us, e, DAt_kt k d v h1, DsAt_kt k r us h2⟩
end
theorem RAt.kt {K : PySem.W.Frag} {C : Addr} {H H' : Hp} (k : KT H H') {q : Addr} {r : List Dd} (h : RAt K C H q r) : RAt K C H' q r := by
  obtain ⟨vs, h1, h2⟩ := h
  exact ⟨vs, sqt_kt k h1, DsAt_kt k r vs h2⟩
theorem RAt.same {K : PySem.W.Frag} {C : Addr} {H H' : Hp} (s : Same H H') {q : Addr} {r : List Dd} (h : RAt K C H q r) : RAt K C H' q r := h.kt (KT.of s)
theorem DsAt.length {K : PySem.W.Frag} {C : Addr} {H : Hp} : ∀ (r : List Dd) (vs : List V), DsAt K C H vs r → vs.length = r.length
  | [], vs, h => by
    have e : vs = [] := h
    rw [e]
    rfl
  | d :: r, vs, h => by
    obtain ⟨v, us, e, h1, h2⟩ := h
    rw [e, List.length_cons, List.length_cons, DsAt.length r us h2]
theorem DsAt.get {K : PySem.W.Frag} {C : Addr} {H : Hp} : ∀ (r : List Dd) (vs : List V) (i : Nat) (v : V), DsAt K C H vs r → vs[i]? = some v → ∃ d, r[i]? = some d ∧ DAt K C H v d
  | [], vs, i, v, h, e => by
    have e' : vs = [] := h
    rw [e'] at e
    cases e
  | d :: r, vs, i, v, h, e => by
    obtain ⟨w, us, e', h1, h2⟩ := h
    rw [e'] at e
    cases i with
    | zero =>
      cases Option.some.inj e
      exact ⟨d, rfl, h1⟩
    | succ i =>
      obtain ⟨d', g1, g2⟩ := DsAt.get r us i v h2 e
      exact ⟨d', g1, g2⟩
/-- of what type a tuple is -/
theorem sqt_ty {K : PySem.W.Frag} {H : Hp} {a : Addr} {xs : List V} (h : SqT K H a xs) : TyX K H (.ref a) (.type "tuple") := by
  rcases h with (h | ⟨o, h⟩) | ⟨o, its, n, h, c, _⟩
  · exact .base (.tup h)
  · exact .fTuple h
  · exact .kTuple h c
end Js

set_option Elab.async false
set_option linter.all false
set_option maxRecDepth 100000
set_option maxHeartbeats 4000000
/-! tuple += tuple -/
namespace Js
open PySem L2
open PySem PySem.Spec PyProof.Rows L2 HT
theorem noI_tuple : typeLookup (.type "tuple") (dunderI "add") = pure none := by rw [typeLookup_type, builtinLookup_eq_fast]; kernel_rfl
section
variable {prog : Program} {w : World} {A : Around} {E : Value → Shared → Prop} {s : Shared}
theorem iconcat_meets {T id : String} {B : Builtin} {a b : Value} {S : PySem.Spec} {Q : Value → Shared → Prop} (ha : s.TypeIs a T) (hb : s.TypeIs b T) (hno : typeLookup (.type T) (dunderI "add") = pure none)
    (hfill : fillsNumberSlot (.type T) "add" = pure false) (hseq : seqSlot? (.type T) "__add__" = pure (some (.builtin id))) (slot : Slot T "__add__" id)
    (entry : entryFor table id = some B) (args : argsOk id ⟨[a, b], []⟩) (g : Meets (B ⟨[a, b], []⟩) S) (h : S A (wants Q E) s) : wpAny (model prog w) A (inplaceOp .Add a b) Q E s :=
  wpAny_inplaceOp_concat ha hb hno hfill hseq (call_meets slot ha entry args g h)
theorem icat_tup0 {t b : Addr} {ws : List Value} {Q : Value → Shared → Prop} (ht : IsTup s.heap t ([] : List Value).toArray) (hb : IsTup s.heap b ws.toArray) (h : Q (.ref b) s) : wpAny (model prog w) A (inplaceOp .Add (.ref t) (.ref b)) Q E s := by
  obtain ⟨⟨cls, dd, data, sl⟩, ho, hc, n, hd⟩ := id ht
  obtain ⟨⟨cls2, dd2, data2, sl2⟩, ho2, hc2, n2, hd2⟩ := id hb
  simp only at hc hd hc2 hd2
  subst hc hd hc2 hd2
  exact iconcat_meets ⟨_, ho, rfl⟩ ⟨_, ho2, rfl⟩ noI_tuple noFill_tuple_add seq_tuple_add PySem.F.slot_tuple_add PySem.F.entry_tuple_add (PySem.F.args_tuple_add_2 _ _)
    (tuple_addW0 t b ([] : List Value).toArray ws.toArray n n2 dd dd2 sl sl2 rfl) ⟨ho, ho2, h⟩
theorem icat_tup {t b : Addr} {vs ws : List Value} {Q : Value → Shared → Prop} (ht : IsTup s.heap t vs.toArray) (hb : IsTup s.heap b ws.toArray) (hv : vs ≠ [])
    (h1 : ws = [] → Q (.ref t) s) (h2 : ws ≠ [] → Q (.ref s.heap.objs.size) { s with heap := s.heap.push { cls := .type "tuple", data := .seq (vs ++ ws).toArray } })
    (hsz : vs.length + ws.length ≤ sizeLine) : wpAny (model prog w) A (inplaceOp .Add (.ref t) (.ref b)) Q E s := by
  obtain ⟨⟨cls, dd, data, sl⟩, ho, hc, n, hd⟩ := id ht
  obtain ⟨⟨cls2, dd2, data2, sl2⟩, ho2, hc2, n2, hd2⟩ := id hb
  simp only at hc hd hc2 hd2
  subst hc hd hc2 hd2
  have e : vs.toArray ++ ws.toArray = (vs ++ ws).toArray := by simp
  have nv : ¬ vs.toArray.isEmpty = true := by
    cases vs with
    | nil => exact absurd rfl hv
    | cons a b => intro h; cases h
  by_cases hw : ws = []
  · exact iconcat_meets ⟨_, ho, rfl⟩ ⟨_, ho2, rfl⟩ noI_tuple noFill_tuple_add seq_tuple_add PySem.F.slot_tuple_add PySem.F.entry_tuple_add (PySem.F.args_tuple_add_2 _ _)
      (tuple_addW1 t b vs.toArray ws.toArray n n2 dd dd2 sl sl2 nv (by rw [hw]; rfl)) ⟨ho, ho2, h1 hw⟩
  · have nw : ¬ ws.toArray.isEmpty = true := by
      cases ws with
      | nil => exact absurd rfl hw
      | cons a b => intro h; cases h
    refine iconcat_meets ⟨_, ho, rfl⟩ ⟨_, ho2, rfl⟩ noI_tuple noFill_tuple_add seq_tuple_add PySem.F.slot_tuple_add PySem.F.entry_tuple_add (PySem.F.args_tuple_add_2 _ _)
      (tuple_addW2 t b vs.toArray ws.toArray n n2 dd dd2 sl sl2 nv nw (by rw [List.size_toArray, List.size_toArray]; exact hsz)) ⟨ho, ho2, ?_⟩
    rw [e]
    exact h2 hw
end
section
variable {X : Cx}
theorem iop_catA : OpR X (inplaceOp .Add) (rCatA X.K) := by
  intro pins s σ H x y v u Q I rx ry h
  obtain ⟨a, b, xs, ys, rfl, rfl, ha, hb, hz, q0, q1, q2⟩ := h
  cases rx
  cases ry
  obtain ⟨its, r1, p1, _⟩ := I.tuple ha
  obtain ⟨its2, r2, p2, _⟩ := I.tuple hb
  by_cases hx : xs = []
  · subst hx
    cases r1
    exact icat_tup0 p1 p2 ⟨.ref b, H, I, rfl, q0 rfl⟩
  · refine icat_tup p1 p2 (fun z => hx (r1.nil_iff.mp z)) (fun z => ⟨.ref a, H, I, rfl, q1 hx (r2.nil_iff.mp z)⟩) (fun z => ?_) (by rw [← r1.length, ← r2.length]; exact hz)
    refine ⟨.ref s.heap.objs.size, _, I.laid (t' := s.toks) (o := .tup (xs ++ ys)) (fun b ob q => Heap.get?_push_of_some _ q) (Nat.le_refl _) ?_, rfl, q2 hx (fun w => z (r2.nil_iff.mpr w)) _ (I.hok.fresh (Nat.le_refl _))⟩
    exact ⟨by rw [List.length_append]; exact hz, _, r1.append r2, IsTup.new _ _⟩
end
end Js

set_option Elab.async false
set_option linter.all false
set_option maxRecDepth 100000
set_option maxHeartbeats 2000000
/-! for a, b in zip(tuple, text) -/
namespace JsZ
open PySem PySem.Spec PyProof.Rows L2
abbrev zs1 (h : Heap) (l : Addr) : Heap := h.push { cls := .type "tuple_iterator", data := .fields #[.ref l, .int 0 0] }
abbrev zs2 (h : Heap) (l : Addr) (x : Str) (t : Tok) : Heap := (zs1 h l).push { cls := .type (strIterType x), data := .fields #[.str x t, .int 0 0] }
abbrev zs3 (h : Heap) (l : Addr) (x : Str) (t : Tok) : Heap := (zs2 h l x t).push { cls := .type "tuple", data := .seq #[.ref h.objs.size, .ref (zs1 h l).objs.size] }
abbrev zs4 (h : Heap) (l : Addr) (x : Str) (t : Tok) : Heap := (zs3 h l x t).push { cls := .type "tuple", data := .seq #[.none, .none] }
abbrev zs5 (h : Heap) (l : Addr) (x : Str) (t : Tok) : Heap := (zs4 h l x t).push { cls := .type "zip", data := .fields #[.none, .bool false, .bool false, .ref (zs2 h l x t).objs.size, .ref (zs3 h l x t).objs.size] }
theorem new_zipTS (l : Addr) (x : Str) (t : Tok) (us : Array Value) :
    Meets (Builtin.«zip.__new__» ⟨[.type "zip", .ref l, .str x t], []⟩) (fun _ R s => s.heap.IsTuple l us ∧ R (.ok (.ret (.ref (zs4 s.heap l x t).objs.size))) { s with heap := zs5 s.heap l x t }) :=
  .of_wp fun prog w A R s h => by
    obtain ⟨hp, g, d, tk, os⟩ := s; obtain ⟨h1, h⟩ := h
    have hsub := sub_zip
    have hL : Heap.IsTuple (Shared.heap ⟨hp, g, d, tk, os⟩) l us := h1
    wp_walk using wpAny_pyIter_tuple hL, wpAny_pyIter_strU
    exact ⟨_, rfl, h⟩
section
variable {prog : Program} {w : World} {A : Around} {E : Value → Shared → Prop} {s : Shared}
theorem call_zipTS {l : Addr} {x : Str} {t : Tok} {us : Array Value} {Q : Value → Shared → Prop} (hl : s.heap.IsTuple l us)
    (h : ∀ h', IsZip h' (s.heap.objs.size + 4) (s.heap.objs.size + 2) (s.heap.objs.size + 3) .none → IsPair h' (s.heap.objs.size + 2) (.ref s.heap.objs.size) (.ref (s.heap.objs.size + 1)) →
      IsPair h' (s.heap.objs.size + 3) .none .none → h'.IsTupleIter s.heap.objs.size l 0 → h'.IsStrIter (s.heap.objs.size + 1) (strIterType x) x t 0 → h'.objs.size = s.heap.objs.size + 5 →
      (∀ c o, s.heap.get? c = some o → h'.get? c = some o) → Q (.ref (s.heap.objs.size + 4)) { s with heap := h' }) :
    wpAny (model prog w) A (call (.type "zip") [.ref l, .str x t]) Q E s := by
  refine callType_new F.called_zip (by decide) (F.typeCall_zip_2 _ _) (F.newCall_zip_2 _ _) (fun obj => F.args_object_init_3 obj _ _) F.entry_zip_new (new_zipTS l x t us) ⟨hl, ?_⟩
  have z1 : (zs1 s.heap l).objs.size = s.heap.objs.size + 1 := Heap.size_push ..
  have z2 : (zs2 s.heap l x t).objs.size = s.heap.objs.size + 2 := by rw [Heap.size_push, z1]
  have z3 : (zs3 s.heap l x t).objs.size = s.heap.objs.size + 3 := by rw [Heap.size_push, z2]
  have z4 : (zs4 s.heap l x t).objs.size = s.heap.objs.size + 4 := by rw [Heap.size_push, z3]
  have z5 : (zs5 s.heap l x t).objs.size = s.heap.objs.size + 5 := by rw [Heap.size_push, z4]
  have g5 : (zs5 s.heap l x t).get? (zs4 s.heap l x t).objs.size = some _ := Heap.get?_push_size _ rfl
  have g4 : (zs5 s.heap l x t).get? (zs3 s.heap l x t).objs.size = some _ := Heap.get?_push_of_some _ (Heap.get?_push_size _ rfl)
  have g3 : (zs5 s.heap l x t).get? (zs2 s.heap l x t).objs.size = some _ := Heap.get?_push_of_some _ (Heap.get?_push_of_some _ (Heap.get?_push_size _ rfl))
  have g2 : (zs5 s.heap l x t).get? (zs1 s.heap l).objs.size = some _ := Heap.get?_push_of_some _ (Heap.get?_push_of_some _ (Heap.get?_push_of_some _ (Heap.get?_push_size _ rfl)))
  have g1 : (zs5 s.heap l x t).get? s.heap.objs.size = some _ := Heap.get?_push_of_some _ (Heap.get?_push_of_some _ (Heap.get?_push_of_some _ (Heap.get?_push_of_some _ (Heap.get?_push_size _ rfl))))
  show _ ∧ _
  rw [z2, z3, z4] at g5
  rw [z1, z2] at g3
  rw [z3] at g4
  rw [z1] at g2
  rw [z4]
  exact ⟨⟨_, g5, rfl⟩, h _ g5 g3 g4 ⟨_, g1, rfl, rfl⟩ ⟨_, g2, rfl, rfl⟩ z5 fun c o q => Heap.get?_push_of_some _ (Heap.get?_push_of_some _ (Heap.get?_push_of_some _ (Heap.get?_push_of_some _ (Heap.get?_push_of_some _ q))))⟩
end
/-- the tuple at a as it stands at each turn, and the text's signs -/
def ItTS (K : PySem.W.Frag) (a : Addr) (t : Str) : It :=
  ⟨fun i H => ∃ (xs : List V) (x : V) (c : Nat), SqT K H a xs ∧ xs[i]? = some x ∧ t.cps[i]? = some c,
    fun i H v H' => ∃ T x c, v = .ref T ∧ H T = none ∧ H' = upd H T (.tup [x, .str ⟨#[c]⟩]) ∧ (∀ xs, SqT K H a xs → xs[i]? = some x) ∧ t.cps[i]? = some c,
    fun i H => ∃ xs : List V, SqT K H a xs ∧ i ≤ xs.length ∧ i ≤ t.cps.size ∧ (i = xs.length ∨ i = t.cps.size)⟩
theorem turn_TS {P : Program} {w : World} {K : PySem.W.Frag} {elts : List Expr} {kk : Nat} {tpos : Pos} {a z TI TO i1 i2 : Addr} (t : Str) (tk : Tok) (D : ZipSep2 z TI TO i1 i2 [i1, a] [i2]) (ha : a ≠ i1) :
    Turn P w K (.Tuple elts kk tpos) (ItTS K a t) [z, TI, TO, i1, i2] z (fun i h => IsZip h z TI TO .none ∧ IsPair h TI (.ref i1) (.ref i2) ∧ (∃ x y, IsPair h TO x y) ∧ h.IsTupleIter i1 a i ∧ h.IsStrIter i2 (strIterType t) t tk i) where
  mem := by simp
  obj := fun i h st c hc => by
    obtain ⟨hz, hTI, ⟨x, y, hTO⟩, ⟨o1, e1, _, d1⟩, ⟨o2, e2, _, d2⟩⟩ := st
    have e' : c = z ∨ c = TI ∨ c = TO ∨ c = i1 ∨ c = i2 := by simpa using hc
    rcases e' with q | q | q | q | q
    · rw [q]; exact ⟨_, hz, fun v q => nomatch q⟩
    · rw [q]; exact ⟨_, hTI, fun v q => nomatch q⟩
    · rw [q]; exact ⟨_, hTO, fun v q => nomatch q⟩
    · rw [q]; exact ⟨o1, e1, fun v q => by rw [d1] at q; cases q⟩
    · rw [q]; exact ⟨o2, e2, fun v q => by rw [d2] at q; cases q⟩
  keep := fun i h h' st k => by
    obtain ⟨hz, hTI, ⟨x, y, hTO⟩, h1, ⟨o, ho, r⟩⟩ := st
    exact ⟨k z (by simp) _ hz, k TI (by simp) _ hTI, ⟨x, y, k TO (by simp) _ hTO⟩, h1.at fun o q => k i1 (by simp) o q, ⟨o, k i2 (by simp) o ho, r⟩⟩
  item := by
    intro X hP hw hK hc i pins s σ H E I hf st hg
    subst hP hw hK
    obtain ⟨hz, hTI, ⟨x0, y0, hTO⟩, h1, h2⟩ := st
    obtain ⟨xs, x, c, hqx, hx, hcx⟩ := hg
    obtain ⟨us, rv, p, _⟩ := I.tuple hqx
    obtain ⟨u, hu, ru⟩ := rv.get hx
    have hzl : z < s.heap.objs.size := Heap.lt_size hz
    have hh : X.A.in1.handled = none := I.ok.hd hc
    have li : i < us.toArray.size := by
      have := (List.getElem?_eq_some_iff.mp hu).1
      simpa using this
    have lc : i < t.cps.size := (Array.getElem?_eq_some_iff.mp hcx).1
    refine wpAny_pyNext_zipD2_item D (Draws.tuple hh i1 a ha us.toArray) (Draws.text hh i2 t tk) hz hTI hTO ⟨h1, p⟩ h2 li lc fun v1 v2 h' tk' q1 q2 z' TO' s1' s2' hT hsz hk => ?_
    obtain ⟨c', tu, hc', rfl⟩ := q2
    have ev : v1 = u := by
      have : us.toArray[i]? = some u := by simpa using hu
      exact Option.some.inj (q1.symm.trans this)
    subst ev
    cases Option.some.inj (hc'.symm.trans hcx)
    refine ⟨_, rfl, wpAny_letOwnedTupleGo_zip (s := { s with heap := h', toks := tk' }) z' fun h'' z'' sb => ?_⟩
    have hT2 : h''.get? s.heap.objs.size = some { cls := .type "tuple", data := .seq #[v1, .str ⟨#[c]⟩ tu] } := (sb.2 _ (Nat.ne_of_gt hzl)).trans hT
    have new : ObjOk X.prog X.w (upd H s.heap.objs.size (.tup [x, .str ⟨#[c]⟩])) h'' s.heap.objs.size (.tup [x, .str ⟨#[c]⟩]) := ⟨by show 2 ≤ sizeLine; decide, [v1, .str ⟨#[c]⟩ tu], .cons ru (.cons ⟨_, rfl⟩ .nil), ⟨_, hT2, rfl, _, rfl⟩⟩
    have I1 : Inv X pins σ (upd H s.heap.objs.size (.tup [x, .str ⟨#[c]⟩])) { s with heap := h'', toks := tk' } :=
      I.turnedNew (ch := [z, TI, TO, i1, i2]) (fun c o hb q => (sb.2 c (fun q' => hb (by simp [q']))).trans (hk c o (fun q' => hb (by simp [q'])) (fun q' => hb (by simp [q'])) (fun q' => hb (by simp [q'])) (fun q' => hb (by simp [q'])) q)) hf (Nat.le_refl _) new
    refine ⟨.ref s.heap.objs.size, _, I1, rfl, ⟨_, x, c, rfl, I.hok.fresh (Nat.le_refl _), rfl, fun l hl => by rw [I.tuple_inj hl hqx]; exact hx, hcx⟩, ⟨z'', ?_, ⟨v1, .str ⟨#[c]⟩ tu, ?_⟩, ?_, ?_⟩, fun b hb => ?_⟩
    · exact (sb.2 _ D.TIz).trans (hk _ _ D.TIz D.TITO D.TIi1 D.TIi2 hTI)
    · exact (sb.2 _ D.TOz).trans TO'
    · exact s1'.1.at fun o q => (sb.2 _ (Ne.symm D.zi1)).trans q
    · obtain ⟨o, ho, r⟩ := s2'
      exact ⟨o, (sb.2 _ (Ne.symm D.zi2)).trans ho, r⟩
    · have hlt : b < s.heap.objs.size := by
        have e' : b = z ∨ b = TI ∨ b = TO ∨ b = i1 ∨ b = i2 := by simpa using hb
        rcases e' with q | q | q | q | q
        · rw [q]; exact hzl
        · rw [q]; exact Heap.lt_size hTI
        · rw [q]; exact Heap.lt_size hTO
        · rw [q]; obtain ⟨_, e1, _⟩ := h1; exact Heap.lt_size e1
        · rw [q]; obtain ⟨_, e2, _⟩ := h2; exact Heap.lt_size e2
      rw [upd_ne (Nat.ne_of_lt hlt)]
      exact (hf b hb).1
  done := by
    intro X hP hw hK hc i pins s σ H E I hf st hg
    subst hP hw hK
    obtain ⟨hz, hTI, ⟨x0, y0, hTO⟩, h1, h2⟩ := st
    obtain ⟨xs, hqx, l1, l2, hend⟩ := hg
    obtain ⟨us, rv, p, _⟩ := I.tuple hqx
    have lu : us.toArray.size = xs.length := by rw [List.size_toArray, ← rv.length]
    have hh : X.A.in1.handled = none := I.ok.hd hc
    exact wpAny_pyNext_zipD2_end D (Draws.tuple hh i1 a ha us.toArray) (Draws.text hh i2 t tk) hz hTI hTO ⟨h1, p⟩ h2 (by omega) l2 (by omega) fun h' tk' hk => ⟨rfl, I.turnedL (t' := tk') (ch := [z, TI, TO, i1, i2]) (fun c o hb q =>
      hk c o (fun q' => hb (by simp [q'])) (fun q' => hb (by simp [q'])) (fun q' => hb (by simp [q'])) (fun q' => hb (by simp [q'])) q) hf⟩
  self := fun A i s Q E st h => wpAny_pyIter_zip st.1 h
end JsZ
namespace L2
open PySem PySem.Spec PyProof.Rows
def iZipTS (K : PySem.W.Frag) (ta : TA) : TI := fun σ H R => ta σ H fun vs H1 => ∃ a t xs, vs = [.ref a, .str t] ∧ SqT K H1 a xs ∧ R (JsZ.ItTS K a t) H1
theorem pi_zipTS {X : Cx} {e e2 : Expr} {ta : TA} {p pos tpos : Pos} {elts : List Expr} {kk : Nat} (hg : Gl X "zip") (hm : X.mg "zip" = none) (ha : PA X [e, e2] ta)
    (hs : starEach [e, e2] X.env = (false, eval e X.env) :: starEach [e2] X.env := by rfl) (hpl : (backTo pos (starEach [e2] X.env)).any (·.1) = false := by rfl) : PI X (.Tuple elts kk tpos) (.Call (.Name "zip" p) [e, e2] [] pos) (iZipTS X.K ta) := by
  refine ⟨fun pins s σ H R I h => ?_⟩
  refine Call_ (ld_blt I hg hm PyProof.Rows.boot_zip (PyProof.Rows.callWith_type1 (thn (ha.run pos pins s σ H _ I h) fun us s1 ⟨vs, H1, I1, r1, q1⟩ => ?_) hs hpl))
  obtain ⟨a, t, xs, ex, hqx, q⟩ := q1
  subst ex
  cases r1 with
  | cons r rr =>
    cases rr with
    | cons r' rr =>
      cases rr
      cases r
      obtain ⟨tk, rfl⟩ := r'
      have fresh5 : ∀ c, c ∈ [s1.heap.objs.size + 4, s1.heap.objs.size + 2, s1.heap.objs.size + 3, s1.heap.objs.size, s1.heap.objs.size + 1] → FpOk X pins H1 c := fun c hcm => by
        have hle : s1.heap.objs.size ≤ c := by
          simp only [List.mem_cons, List.not_mem_nil, or_false] at hcm
          omega
        exact I1.fpOk hle (I1.hok.fresh hle)
      obtain ⟨its, rv, p1, _⟩ := I1.tuple hqx
      obtain ⟨o1, ho1, _⟩ := id p1
      have la := Heap.lt_size ho1
      refine JsZ.call_zipTS p1 fun h' hz hTI hTO h1 h2 hsz hk => wpAny_pyIter_zip hz ?_
      have I2 : Inv X pins σ H1 { s1 with heap := h' } := I1.kept (t' := s1.toks) hk
      have D : ZipSep2 (s1.heap.objs.size + 4) (s1.heap.objs.size + 2) (s1.heap.objs.size + 3) s1.heap.objs.size (s1.heap.objs.size + 1) [s1.heap.objs.size, a] [s1.heap.objs.size + 1] := by
        have la2 : ∀ k, s1.heap.objs.size + k ≠ a := fun k h => absurd la (by rw [← h]; exact Nat.not_lt.mpr (Nat.le_add_right _ _))
        constructor <;> simp <;> first | omega | exact la2 _
      exact ⟨s1.heap.objs.size + 4, [s1.heap.objs.size + 4, s1.heap.objs.size + 2, s1.heap.objs.size + 3, s1.heap.objs.size, s1.heap.objs.size + 1], _, _, H1, rfl, I2, JsZ.turn_TS t tk D (Nat.ne_of_lt la), ⟨hz, hTI, ⟨_, _, hTO⟩, h1, h2⟩, fresh5, q⟩
theorem walk_zipTS {K : PySem.W.Frag} {a : Addr} {t : Str} {xs : List V} {n : Nat} (hn : n = min xs.length t.cps.size) : Walk (JsZ.ItTS K a t) n (fun H => SqT K H a xs) (fun i H v H' => ∃ T x c, v = .ref T ∧ H T = none ∧ H' = upd H T (.tup [x, .str ⟨#[c]⟩]) ∧ xs[i]? = some x ∧ t.cps[i]? = some c) :=
  ⟨fun i H hi hq => by
      have h1 : i < xs.length := by omega
      have h2 : i < t.cps.size := by omega
      exact ⟨xs, xs[i], t.cps[i], hq, List.getElem?_eq_getElem h1, Array.getElem?_eq_getElem h2⟩, fun H hq => ⟨xs, hq, by omega, by omega, by omega⟩, fun i H v H' hi hq y => by
      obtain ⟨T, x, c, e1, e2, e3, e4, e5⟩ := y
      exact ⟨T, x, c, e1, e2, e3, e4 xs hq, e5⟩⟩
end L2

set_option Elab.async false
set_option linter.all false
set_option maxRecDepth 100000
set_option maxHeartbeats 2000000
namespace Js
open PySem L2
abbrev sThing : Stmt := top 39
theorem lc_yes {te : TE} {σ : St} {H : Hp} {R : VK} {B : Hp → Prop} (h : te σ H R) : tYes σ H (fun b H3 => if b = true then te σ H3 R else B H3) := by
  show if true = true then te σ H R else B H
  rw [if_pos rfl]
  exact h
theorem paired_split {α β : Type} {F : α → β → Prop} : ∀ (n : Nat) {xs : List α} {ts : List β}, Paired F xs ts → n + 1 < xs.length →
    ∃ xp x y xq tp t u tq, xs = xp ++ x :: y :: xq ∧ ts = tp ++ t :: u :: tq ∧ xp.length = n ∧ tp.length = n ∧ Paired F xp tp ∧ F x t ∧ F y u ∧ Paired F xq tq
  | 0, _, _, .nil, h => absurd h (by simp)
  | 0, _, _, .cons _ .nil, h => absurd h (by simp)
  | 0, _, _, .cons h1 (.cons h2 r), _ => ⟨[], _, _, _, [], _, _, _, rfl, rfl, rfl, rfl, .nil, h1, h2, r⟩
  | n + 1, _, _, .nil, h => absurd h (by simp)
  | n + 1, _, _, .cons (a := a0) (b := b0) h1 r, h => by
    obtain ⟨xp, x, y, xq, tp, t, u, tq, e1, e2, l1, l2, p1, f1, f2, p2⟩ := paired_split n r (by simpa using h)
    exact ⟨_ :: xp, x, y, xq, _ :: tp, t, u, tq, by rw [e1]; rfl, by rw [e2]; rfl, by simp [l1], by simp [l2], .cons h1 p1, f1, f2, p2⟩
theorem paired_append {α β : Type} {F : α → β → Prop} : ∀ {xs xs' : List α} {ys ys' : List β}, Paired F xs ys → Paired F xs' ys' → Paired F (xs ++ xs') (ys ++ ys')
  | _, _, _, _, .nil, h => h
  | _, _, _, _, .cons h t, h' => .cons h (paired_append t h')
def tsz (ts : List Tr) : Nat := (ts.map Tr.size).sum
theorem tsz_append (a b : List Tr) : tsz (a ++ b) = tsz a + tsz b := by simp [tsz]
theorem tsz_cons (a : Tr) (b : List Tr) : tsz (a :: b) = a.size + tsz b := by simp [tsz]
def spThing (C : Addr) : Sp := fun vs H Q _ => ∃ (p : Addr) (m : Nat), vs = [.ref p, .int (m : Nat)] ∧ BagOk H p ∧ m ≤ 3000 ∧ ∀ a t H', KB p H H' → BagOk H' p → Th C H' a t → t.size = m → Q (.ref a) H'
section
variable {P : Program} {w : World} {K : PySem.W.Frag} {mg : Str → Option Value} {base : Heap} {C fI : Addr} {fdI : FuncData}
theorem scTh : FnScope ["_law_bag_here", "_law_many", "_law_some", "_law_at", "_law_k"] ["_law_bag_here", "_law_many"] (defScope sThing) := ⟨rfl, rfl, rfl, by decide +kernel, rfl, by decide +kernel, by decide +kernel⟩
theorem ok_thing {f fT : Addr} {fd fdT : FuncData} (F : Fun K "_law_thing" "_law_thing" sThing f fd) (B : Blt mg) (mk : Maker P w K mg base C fI fdI) (AT : At K mg "_law_take" sTake ["_law_bag_here", "_law_many"] fT fdT) : FnOk P w K mg base CX0 4 f fd ["_law_bag_here", "_law_many"] (spThing C) := by
  have GT : FnOk P w K mg base CX0 1 fT fdT ["_law_bag_here", "_law_many"] spTake := ok_take AT.F
  refine F.ok scTh (fun vs H Q E h => ?_) (fun cdv A outer s H vs Q E hr h => ?_)
  · obtain ⟨p, m, rfl, _⟩ := h
    rfl
  · obtain ⟨p, m, rfl, hbag, hm, k⟩ := h
    have hr1 : Room 1 _ := hr.mono (by decide)
    refine ⟨_, pss_cons (ps_setLc (i := 2) (own := [("_law_k", 4)]) (g := gName 4) (tt := tYes) rfl scTh.nd rfl rfl (sw_true rfl rfl rfl (by decide +kernel)) (pi_range1 rfl B.range (pa_cons (pe_op op_add (pv 1) pe_int) pa_nil))
        (blkOk_by (N := ["_law_bag_here", "_law_many", "_law_some", "_law_at", "_law_k"]) (sc := defScope sThing) (by decide +kernel)) (fun _ _ _ _ _ => pg_name (i := 4) scTh.nd rfl (Or.inl rfl)) (fun _ _ _ _ _ => pts_nil) (fun _ _ _ _ _ => pe_T0 mk hr rfl))
      (pss_cons (ps_while PassesOwn.never (pt_cmpR op_gt (pe_callB call_len_seq (by rfl) B.len PySem.boot_len (pa_cons (pv 2) pa_nil)) pe_int (nomark _))
        (pss_cons (ps_set (i := 3) scTh.nd rfl (Or.inl rfl) (pe_call GT hr1 rfl AT.mgf AT.F.kp AT.b .nil pass0 (pa_cons (pv 0) (pa_cons (pe_op op_sub (pe_callB call_len_seq (by rfl) B.len PySem.boot_len (pa_cons (pv 2) pa_nil)) pe_int) pa_nil))))
        (pss_one (ps_asg (pe_lst (pa_cons (pe_T2 mk hr rfl (pa_cons (pe_ix ix_list (pv 2) (pv 3) (fun _ _ => rfl)) (pa_cons (pe_ix ix_list (pv 2) (pe_op op_add (pv 3) pe_int) (fun _ _ => rfl)) pa_nil))) pa_nil)) (pg_slice (pv 2) (po_some (pv 3)) (po_some (pe_op op_add (pv 3) pe_int)))))))
      (pss_one (ps_ret (pe_ix ix_list (pv 2) pe_int (fun _ _ => rfl))))), ?_⟩
    have hsl := line4
    obtain ⟨bx, hbx⟩ := hbag.some
    refine ⟨_, rfl, _, _, rfl, rfl, _, rfl, by omega, by omega, fun D nD => lc_range (n := ((m : Int) + 1).toNat) (fun i H' => ∃ xs, Same H H' ∧ H' D = some (.lst xs) ∧ Paired (ThV C H') xs (List.replicate i .nil)) ⟨[], Same.new nD, upd_same, .nil⟩ ?_ ?_⟩
    · rintro i H1 hi ⟨xs, s1, hD, hps⟩
      refine ⟨rfl, lc_yes fun z H2 s2 _ h2 => ?_⟩
      have hlen := Paired.length hps
      rw [List.length_replicate] at hlen
      have hD2 := s2 _ _ hD
      refine ⟨xs, hD2, by omega, xs ++ [.ref z], (s1.trans s2).set nD, upd_same, ?_⟩
      have kk : KT H2 (upd H2 D (.lst (xs ++ [.ref z]))) := KT.lst hD2
      have e : List.replicate (i + 1) Tr.nil = List.replicate i .nil ++ [.nil] := List.replicate_succ'
      rw [e]
      exact paired_snoc (ths_kt kk (ths_kt (KT.of s2) hps)) ⟨z, rfl, h2.kt kk⟩
    · rintro H1 ⟨xs, s1, hD, hps⟩
      have em : ((m : Int) + 1).toNat = m + 1 := by omega
      rw [em] at hps
      have npD : p ≠ D := ne_of_none hbx nD
      refine ⟨fun mm σ H' => ∃ (xs : List V) (ts : List Tr) (x3 x4 : Option V), σ = [some (.ref p), some (.int (m : Nat)), some (.ref D), x3, x4] ∧ KB p H H' ∧ BagOk H' p ∧ H' D = some (.lst xs) ∧ Paired (ThV C H') xs ts ∧ tsz ts + ts.length = m + 1 ∧ ts ≠ [] ∧ mm = ts.length, ⟨_, xs, _, none, none, rfl, KB.of s1, hbag.same s1, hD, hps, ?_, by simp, rfl⟩, ?_⟩
      · have : ∀ n, tsz (List.replicate n .nil) = 0 := by
          intro n
          induction n with
          | zero => rfl
          | succ n ih => rw [List.replicate_succ, tsz_cons, ih]; rfl
        rw [this, List.length_replicate]
        omega
      · rintro mm σ H2 ⟨xs, ts, x3, x4, rfl, k2, hbag2, hD2, hps2, hsz, hne, rfl⟩
        have hlen := Paired.length hps2
        refine ⟨_, rfl, D, _, rfl, .inl (SqL.of hD2), _, _, rfl, rfl, _, rfl, ?_⟩
        by_cases h1 : 1 < xs.length
        · have ed : decide ((1 : Int) < ((xs.length : Nat) : Int)) = true := decide_eq_true (by omega)
          rw [ed]
          refine iteT ⟨fun σ' H3 => ∃ m', m' < ts.length ∧ _, fun σ' H3 z => z, ?_⟩
          refine ⟨_, rfl, _, rfl, D, _, rfl, .inl (SqL.of hD2), _, _, rfl, rfl, p, _, rfl, hbag2, by omega, by omega, fun d H3 k3 hbag3 hd0 hd1 => ?_⟩
          have hD3 := k3 _ _ (Ne.symm npD) hD2
          have hps3 := ths_kt (hbag2.kt k3) hps2
          obtain ⟨dn, rfl⟩ := Int.eq_ofNat_of_zero_le hd0
          obtain ⟨xp, x, y, xq, tp, t, u, tq, rfl, rfl, l1, l2, p1, f1, f2, p2⟩ := paired_split dn hps3 (by omega)
          obtain ⟨a1, rfl, g1⟩ := f1
          obtain ⟨a2, rfl, g2⟩ := f2
          simp only [tsz_append, tsz_cons, List.length_append, List.length_cons] at hsz
          have ix1 : atI (xp ++ V.ref a1 :: V.ref a2 :: xq) ((dn : Nat) : Int) = some (.ref a1) := atI_nat (by rw [List.getElem?_append_right (by omega), l1, Nat.sub_self]; rfl)
          have ix2 : atI (xp ++ V.ref a1 :: V.ref a2 :: xq) (((dn : Nat) : Int) + 1) = some (.ref a2) := by
            have e : (((dn : Nat) : Int) + 1) = ((dn + 1 : Nat) : Int) := by omega
            rw [e]
            exact atI_nat (by rw [List.getElem?_append_right (by omega), l1]; simp)
          refine ⟨_, rfl, _, rfl, D, _, _, _, rfl, rfl, SqL.of hD3, ix1, _, rfl, _, rfl, _, _, rfl, rfl, D, _, _, _, rfl, rfl, SqL.of hD3, ix2, a1, a2, t, u, rfl, g1, g2, by omega, fun z H4 s4 _ h4 => ?_⟩
          refine ⟨(by show 1 ≤ sizeLine; decide), fun q nq => ?_⟩
          have hD4 := s4 _ _ hD3
          have nqD : D ≠ q := ne_of_none hD4 nq
          have hlx : (xp ++ V.ref a1 :: V.ref a2 :: xq).length = dn + 2 + xq.length := by
            rw [List.length_append, List.length_cons, List.length_cons]
            omega
          have hD5 : (upd H4 q (.lst [.ref z])) D = some (.lst (xp ++ V.ref a1 :: V.ref a2 :: xq)) := (upd_ne nqD).trans hD4
          have hle : xq.length = tq.length := Paired.length p2
          refine ⟨_, rfl, _, rfl, _, rfl, _, rfl, _, _, rfl, rfl, _, rfl, D, q, _, _, _, _, rfl, rfl, rfl, rfl, hD5, upd_same, nqD, by omega, by omega, by rw [hlx]; omega, by rw [hlx]; show _ + 1 ≤ _; omega, ?_⟩
          have e1 : (xp ++ V.ref a1 :: V.ref a2 :: xq).take ((dn : Nat) : Int).toNat = xp := by
            rw [Int.toNat_natCast, ← l1, List.take_left]
          have e2 : (xp ++ V.ref a1 :: V.ref a2 :: xq).drop (((dn : Nat) : Int) + 1 + 1).toNat = xq := by
            have e : (((dn : Nat) : Int) + 1 + 1).toNat = xp.length + 2 := by omega
            rw [e, List.drop_append]
            simp
          have e3 : (((dn : Nat) : Int) + 2).toNat = (((dn : Nat) : Int) + 1 + 1).toNat := by omega
          rw [e1]
          try rw [e3]
          rw [e2]
          have k5 : KT H4 (upd (upd H4 q (.lst [.ref z])) D (.lst (xp ++ [.ref z] ++ xq))) := (KT.new nq).trans (KT.lst hD5)
          have k45 := (KT.of s4).trans k5
          refine ⟨(tp ++ [Tr.pr t u] ++ tq).length, ?_, xp ++ [.ref z] ++ xq, tp ++ [.pr t u] ++ tq, _, _, rfl, ?_, ?_, upd_same, paired_append (paired_append (ths_kt k45 p1) (.cons ⟨z, rfl, h4.kt k5⟩ .nil)) (ths_kt k45 p2), ?_, ?_, rfl⟩
          · simp
          · intro a o na h
            have h4' := s4 _ _ (k3 _ _ na (k2 _ _ na h))
            rw [upd_ne (ne_of_none h nD), upd_ne (ne_of_none h4' nq)]
            exact h4'
          · obtain ⟨x0, x1, pr, x3', h, r⟩ := hbag3.ex
            exact ⟨x0, x1, pr, x3', (upd_ne npD).trans ((upd_ne (ne_of_none (s4 _ _ h) nq)).trans (s4 _ _ h)), r⟩
          · simp only [tsz_append, tsz_cons, List.length_append, List.length_cons, Tr.size]
            simp [tsz]
            simp [tsz] at hsz
            omega
          · simp
        · have ed : decide ((1 : Int) < ((xs.length : Nat) : Int)) = false := decide_eq_false (by omega)
          rw [ed]
          refine iteF ?_
          cases hps2 with
          | nil => exact absurd rfl hne
          | @cons v t vs ts hv hps2 =>
            cases hps2 with
            | cons _ _ => simp at h1
            | nil =>
              obtain ⟨a, rfl, ha⟩ := hv
              refine ⟨_, rfl, D, _, _, .ref a, rfl, rfl, SqL.of hD2, rfl, k a t H2 k2 hbag2 ha ?_⟩
              simp [tsz] at hsz
              omega
end
end Js

set_option Elab.async false
set_option linter.all false
set_option maxRecDepth 100000
set_option maxHeartbeats 2000000
namespace Js
open PySem L2
abbrev sIsName : Stmt := top 18
abbrev sFits : Stmt := top 19
abbrev sHasForm : Stmt := top 20
abbrev sRowsIn : Stmt := top 22
def kindOf : Dd → Str
  | .told _ _ => "told"
  | .take s _ _ => takeS s
  | .two s _ _ _ => twoS s
  | .wh _ _ => "while"
  | .iff _ _ _ => "if"
def formOf : Dd → Str
  | .told _ _ => "nt"
  | .take _ _ _ => "nn"
  | .two _ _ _ _ => "nnn"
  | .wh _ _ => "nr"
  | .iff _ _ _ => "nrr"
def forms : List (Str × Str) := [("told", "nt"), ("first", "nn"), ("second", "nn"), ("pair", "nnn"), ("same", "nnn"), ("while", "nr"), ("if", "nrr")]
theorem form_in : ∀ d : Dd, (kindOf d, formOf d) ∈ forms
  | .told _ _ => by simp [kindOf, formOf, forms]
  | .take false _ _ => by simp [kindOf, formOf, forms, takeS]
  | .take true _ _ => by simp [kindOf, formOf, forms, takeS]
  | .two false _ _ _ => by simp [kindOf, formOf, forms, twoS]
  | .two true _ _ _ => by simp [kindOf, formOf, forms, twoS]
  | .wh _ _ => by simp [kindOf, formOf, forms]
  | .iff _ _ _ => by simp [kindOf, formOf, forms]
/-- what the top says of the forms, and the numbers -/
structure FrmC (K : PySem.W.Frag) (w : World) (mg : Str → Option Value) : Prop where
  ex : ∃ dF es n, mg "FORMS" = some (.ref dF) ∧ KDict K w dF es n ∧ ∀ kf ∈ forms, ∃ t, PySem.W.nsIn K dF kf.1 = some (some (.str kf.2 t))
  mM : ∃ t, mg "MANY_NAMES" = some (.int 10 t)
  mD : ∃ t, mg "MOST_DEEDS" = some (.int 4000 t)
  mF : ∃ t, mg "MOST_FLOORS" = some (.int 8 t)
  mb : mg "bool" = none
  mt : mg "tuple" = none
  mz : mg "zip" = none
  me : mg "enumerate" = none
  ii : PySem.W.kitOne K (.type "int") (.type "int") = some true
  ib : PySem.W.kitOne K (.type "int") (.type "bool") = some false
  tt : PySem.W.kitOne K (.type "tuple") (.type "tuple") = some true
  ss : PySem.W.kitOne K (.type "str") (.type "str") = some true
theorem all_rep (n : Nat) : (List.replicate n true).all id = true := by
  rw [List.all_eq_true]
  intro b hb
  rw [(List.mem_replicate.mp hb).2]
  rfl
def FitsV (K : PySem.W.Frag) (C : Addr) (H : Hp) (x : V) (c : Nat) : Prop := (c = 110 ∧ ∃ a : Nat, a < 10 ∧ x = .int (a : Nat)) ∨ (c = 116 ∧ ∃ a t, x = .ref a ∧ Th C H a t) ∨ (c = 114 ∧ ∃ q vs, x = .ref q ∧ SqT K H q vs)
theorem FitsV.same {K : PySem.W.Frag} {C : Addr} {H H' : Hp} (s : Same H H') {x : V} {c : Nat} (h : FitsV K C H x c) : FitsV K C H' x c := by
  rcases h with h | ⟨e, a, t, e2, h⟩ | ⟨e, q, vs, e2, h⟩
  · exact .inl h
  · exact .inr (.inl ⟨e, a, t, e2, h.same s⟩)
  · exact .inr (.inr ⟨e, q, vs, e2, sqt_kt (KT.of s) h⟩)
theorem cps_nt : ("nt" : Str).cps = #[110, 116] := by decide +kernel
theorem cps_nn : ("nn" : Str).cps = #[110, 110] := by decide +kernel
theorem cps_nnn : ("nnn" : Str).cps = #[110, 110, 110] := by decide +kernel
theorem cps_nr : ("nr" : Str).cps = #[110, 114] := by decide +kernel
theorem cps_nrr : ("nrr" : Str).cps = #[110, 114, 114] := by decide +kernel
/-- the form of a deed that stands -/
theorem shape {K : PySem.W.Frag} {C : Addr} {H : Hp} {v : V} : ∀ (d : Dd), DAt K C H v d → ∃ p its, v = .ref p ∧ SqT K H p (.str (kindOf d) :: its) ∧ its.length = (formOf d).cps.size ∧ its ≠ [] ∧ its.length ≤ 3 ∧ ∀ (i : Nat) x c, its[i]? = some x → (formOf d).cps[i]? = some c → FitsV K C H x c
  | .told a t, h => by
    obtain ⟨p, x, e, h1, h2, h3, h4⟩ := h
    refine ⟨p, _, e, h1, by rw [formOf, cps_nt]; rfl, by simp, by simp, fun i y c g1 g2 => ?_⟩
    rw [formOf, cps_nt] at g2
    match i, g1, g2 with
    | 0, g1, g2 => cases Option.some.inj g1; cases Option.some.inj g2; exact .inl ⟨rfl, a, h2, rfl⟩
    | 1, g1, g2 => cases Option.some.inj g1; cases Option.some.inj g2; exact .inr (.inl ⟨rfl, x, t, rfl, h3⟩)
    | i + 2, g1, g2 => simp at g1
  | .take s a b, h => by
    obtain ⟨p, e, h1, h2, h3⟩ := h
    refine ⟨p, _, e, h1, by rw [formOf, cps_nn]; rfl, by simp, by simp, fun i y c g1 g2 => ?_⟩
    rw [formOf, cps_nn] at g2
    match i, g1, g2 with
    | 0, g1, g2 => cases Option.some.inj g1; cases Option.some.inj g2; exact .inl ⟨rfl, a, h2, rfl⟩
    | 1, g1, g2 => cases Option.some.inj g1; cases Option.some.inj g2; exact .inl ⟨rfl, b, h3, rfl⟩
    | i + 2, g1, g2 => simp at g1
  | .two s a b c, h => by
    obtain ⟨p, e, h1, h2, h3, h4⟩ := h
    refine ⟨p, _, e, h1, by rw [formOf, cps_nnn]; rfl, by simp, by simp, fun i y z g1 g2 => ?_⟩
    rw [formOf, cps_nnn] at g2
    match i, g1, g2 with
    | 0, g1, g2 => cases Option.some.inj g1; cases Option.some.inj g2; exact .inl ⟨rfl, a, h2, rfl⟩
    | 1, g1, g2 => cases Option.some.inj g1; cases Option.some.inj g2; exact .inl ⟨rfl, b, h3, rfl⟩
    | 2, g1, g2 => cases Option.some.inj g1; cases Option.some.inj g2; exact .inl ⟨rfl, c, h4, rfl⟩
    | i + 3, g1, g2 => simp at g1
  | .wh a r, h => by
    obtain ⟨p, q, vs, e, h1, h2, h3, h4⟩ := h
    refine ⟨p, _, e, h1, by rw [formOf, cps_nr]; rfl, by simp, by simp, fun i y c g1 g2 => ?_⟩
    rw [formOf, cps_nr] at g2
    match i, g1, g2 with
    | 0, g1, g2 => cases Option.some.inj g1; cases Option.some.inj g2; exact .inl ⟨rfl, a, h2, rfl⟩
    | 1, g1, g2 => cases Option.some.inj g1; cases Option.some.inj g2; exact .inr (.inr ⟨rfl, q, vs, rfl, h3⟩)
    | i + 2, g1, g2 => simp at g1
  | .iff a r o, h => by
    obtain ⟨p, q, vs, q2, vs2, e, h1, h2, h3, h4, h5, h6⟩ := h
    refine ⟨p, _, e, h1, by rw [formOf, cps_nrr]; rfl, by simp, by simp, fun i y c g1 g2 => ?_⟩
    rw [formOf, cps_nrr] at g2
    match i, g1, g2 with
    | 0, g1, g2 => cases Option.some.inj g1; cases Option.some.inj g2; exact .inl ⟨rfl, a, h2, rfl⟩
    | 1, g1, g2 => cases Option.some.inj g1; cases Option.some.inj g2; exact .inr (.inr ⟨rfl, q, vs, rfl, h3⟩)
    | 2, g1, g2 => cases Option.some.inj g1; cases Option.some.inj g2; exact .inr (.inr ⟨rfl, q2, vs2, rfl, h5⟩)
    | i + 3, g1, g2 => simp at g1
/-- rows, one behind the other -/
def RowsAt (K : PySem.W.Frag) (C : Addr) (H : Hp) (ws : List V) (rs : List (List Dd)) : Prop := Paired (fun v r => ∃ q, v = .ref q ∧ RAt K C H q r) ws rs
theorem RowsAt.kt {K : PySem.W.Frag} {C : Addr} {H H' : Hp} (k : KT H H') : ∀ {ws : List V} {rs : List (List Dd)}, RowsAt K C H ws rs → RowsAt K C H' ws rs
  | _, _, .nil => .nil
  | _, _, .cons ⟨q, e, h⟩ t => .cons ⟨q, e, h.kt k⟩ (RowsAt.kt k t)
def spIsName : Sp := fun vs H Q _ => ∃ a : Nat, vs = [.int (a : Nat)] ∧ a < 10 ∧ Q (.bl true) H
def spFits (K : PySem.W.Frag) (C : Addr) : Sp := fun vs H Q _ => ∃ x c, vs = [x, .str ⟨#[c]⟩] ∧ FitsV K C H x c ∧ Q (.bl true) H
def spHasForm (K : PySem.W.Frag) (C : Addr) : Sp := fun vs H Q _ => ∃ v d, vs = [v] ∧ DAt K C H v d ∧ ∀ H', Same H H' → Q (.bl true) H'
def spRowsIn (K : PySem.W.Frag) (C : Addr) : Sp := fun vs H Q _ => ∃ v d, vs = [v] ∧ DAt K C H v d ∧ ∀ p ws H', Same H H' → SqT K H' p ws → RowsAt K C H' ws d.rows → Q (.ref p) H'
theorem c_n : ("n" : Str) = ⟨#[110]⟩ := by decide +kernel
theorem c_t : ("t" : Str) = ⟨#[116]⟩ := by decide +kernel
theorem c_r : ("r" : Str) = ⟨#[114]⟩ := by decide +kernel
theorem sg_eq (a b : Nat) : decide (V.str ⟨#[a]⟩ = V.str ⟨#[b]⟩) = decide (a = b) := by simp
section
variable {P : Program} {w : World} {K : PySem.W.Frag} {mg : Str → Option Value} {base : Heap} {C : Addr}
theorem scIN : FnScope ["part"] ["part"] (defScope sIsName) := ⟨rfl, rfl, rfl, by decide +kernel, rfl, by decide +kernel, by decide +kernel⟩
theorem ok_isName {f : Addr} {fd : FuncData} (F : Fun K "is_name" "is_name" sIsName f fd) (B : Blt mg) (T : Txt K mg C) (G : FrmC K w mg) : FnOk P w K mg base CX0 1 f fd ["part"] spIsName := by
  obtain ⟨tm, mM⟩ := G.mM
  refine F.ok scIN (fun vs H Q E h => ?_) (fun cdv A outer s H vs Q E hr h => ?_)
  · obtain ⟨a, rfl, _⟩ := h
    rfl
  · obtain ⟨a, rfl, ha, k⟩ := h
    refine ⟨_, pss_one (ps_ret (pe_and (pe_callB (r := rIsi K) call_isi (by rfl) T.isi PyProof.Rows.boot_isinstance (pa_cons (pv 0) (pa_cons (pe_bltn (v := .ty "int") rfl B.int PyProof.Rows.boot_int rfl) pa_nil))) (pe_and (pe_not (pe_callB (r := rIsi K) call_isi (by rfl) T.isi PyProof.Rows.boot_isinstance (pa_cons (pv 0) (pa_cons (pe_bltn (v := .ty "bool") rfl G.mb PyProof.Rows.boot_bool rfl) pa_nil)))) (pe_one (pe_chain op_le op_lt pe_int (pv 0) (pe_glob (v := .int 10) rfl mM ⟨_, rfl⟩)))))), ?_⟩
    refine ⟨_, rfl, _, _, _, _, true, rfl, .ty "int", .base (.int _), G.ii, _, rfl, iteT ?_⟩
    refine ⟨_, rfl, _, _, _, _, false, rfl, .ty "bool", .base (.int _), G.ib, _, rfl, _, rfl, iteT ?_⟩
    refine ⟨_, rfl, _, _, rfl, rfl, _, rfl, ?_⟩
    rw [decide_eq_true (show (0 : Int) ≤ ((a : Nat) : Int) by omega)]
    refine iteT ?_
    refine ⟨_, _, rfl, rfl, ?_⟩
    show Q (.bl (decide (((a : Nat) : Int) < 10))) H
    rw [decide_eq_true (show ((a : Nat) : Int) < 10 by omega)]
    exact k
theorem scFt : FnScope ["part", "sign"] ["part", "sign"] (defScope sFits) := ⟨rfl, rfl, rfl, by decide +kernel, rfl, by decide +kernel, by decide +kernel⟩
theorem ok_fits {f : Addr} {fd : FuncData} (F : Fun K "fits" "fits" sFits f fd) (B : Blt mg) (T : Txt K mg C) (G : FrmC K w mg) (DI : Def P w K mg base "is_name" 1 ["part"] spIsName) : FnOk P w K mg base CX0 2 f fd ["part", "sign"] (spFits K C) := by
  refine F.ok scFt (fun vs H Q E h => ?_) (fun cdv A outer s H vs Q E hr h => ?_)
  · obtain ⟨x, c, rfl, _⟩ := h
    rfl
  · obtain ⟨x, c, rfl, hf, k⟩ := h
    refine ⟨_, pss_cons (ps_if (pt_cmpR op_eq (pv 1) pe_str (nomark _)) (pss_one (ps_ret (pe_def DI hr rfl (pa_cons (pv 0) pa_nil)))) pss_nil) (pss_cons (ps_if (pt_cmpR op_eq (pv 1) pe_str (nomark _)) (pss_one (ps_ret (pe_callB (r := rIsi K) call_isi (by rfl) T.isi PyProof.Rows.boot_isinstance (pa_cons (pv 0) (pa_cons (pe_glob (v := .ref C) rfl T.mgC rfl) pa_nil))))) pss_nil) (pss_one (ps_ret (pe_callB (r := rIsi K) call_isi (by rfl) T.isi PyProof.Rows.boot_isinstance (pa_cons (pv 0) (pa_cons (pe_bltn (v := .ty "tuple") rfl G.mt PyProof.Rows.boot_tuple rfl) pa_nil)))))), ?_⟩
    refine ⟨_, rfl, rfl, _, rfl, ?_⟩
    rw [c_n, sg_eq]
    rcases hf with ⟨rfl, a, ha, rfl⟩ | ⟨rfl, a, t, rfl, ha⟩ | ⟨rfl, q, vs, rfl, hq⟩
    · rw [decide_eq_true rfl]
      refine iteT ?_
      exact ⟨_, rfl, a, rfl, ha, k⟩
    · rw [decide_eq_false (by decide)]
      refine iteF ?_
      refine ⟨_, rfl, rfl, _, rfl, ?_⟩
      rw [c_t, sg_eq, decide_eq_true rfl]
      refine iteT ?_
      obtain ⟨dx, f1, g1, h1⟩ := ha.obj
      exact ⟨_, rfl, _, _, _, _, true, rfl, ClsV.own C, .base (.ins h1 T.cl T.ca T.cn T.ct T.cm), kit_self _ _, k⟩
    · rw [decide_eq_false (by decide)]
      refine iteF ?_
      refine ⟨_, rfl, rfl, _, rfl, ?_⟩
      rw [c_t, sg_eq, decide_eq_false (by decide)]
      refine iteF ?_
      exact ⟨_, rfl, _, _, _, _, true, rfl, .ty "tuple", sqt_ty hq, G.tt, k⟩
theorem scHF : FnScope ["deed", "kind", "form", "part", "sign"] ["deed"] (defScope sHasForm) := ⟨rfl, rfl, rfl, by decide +kernel, rfl, by decide +kernel, by decide +kernel⟩
theorem at0 (x : V) (xs : List V) : atI (x :: xs) 0 = some x := by
  have h : atI (x :: xs) ((0 : Nat) : Int) = some x := atI_nat rfl
  exact h
theorem cut1 (x : V) (its : List V) : cutV (x :: its) (some 1) none = its := by
  have e : HT.sIx (its.length + 1) 0 (some 1) = 1 := by
    show min 1 (its.length + 1) = 1
    omega
  unfold cutV
  rw [List.length_cons, e, HT.sIx_none, Nat.add_sub_cancel, List.drop_succ_cons, List.drop_zero, List.take_length]
theorem cut2 (x y : V) (its : List V) : cutV (x :: y :: its) (some 2) none = its := by
  have e : HT.sIx (its.length + 1 + 1) 0 (some 2) = 2 := by
    show min 2 (its.length + 1 + 1) = 2
    omega
  unfold cutV
  rw [List.length_cons, List.length_cons, e, HT.sIx_none, show its.length + 1 + 1 - 2 = its.length from rfl, List.drop_succ_cons, List.drop_succ_cons, List.drop_zero, List.take_length]
theorem ok_hasForm {f : Addr} {fd : FuncData} (F : Fun K "has_form" "has_form" sHasForm f fd) (B : Blt mg) (T : Txt K mg C) (G : FrmC K w mg) (DF : Def P w K mg base "fits" 2 ["part", "sign"] (spFits K C)) : FnOk P w K mg base CX0 3 f fd ["deed"] (spHasForm K C) := by
  obtain ⟨dF, es, n, mF, kd, hk⟩ := G.ex
  refine F.ok scHF (fun vs H Q E h => ?_) (fun cdv A outer s H vs Q E hr h => ?_)
  · obtain ⟨v, d, rfl, _⟩ := h
    rfl
  · obtain ⟨v, d, rfl, hd, k⟩ := h
    refine ⟨_, pss_cons (ps_if (PW.pt (pw_or (pt_not (pt_val (pe_callB (r := rIsi K) call_isi (by rfl) T.isi PyProof.Rows.boot_isinstance (pa_cons (pv 0) (pa_cons (pe_bltn (v := .ty "tuple") rfl G.mt PyProof.Rows.boot_tuple rfl) pa_nil))))) (pw_or1 (pt_cmpR op_eq (pe_callB call_len_seq (by rfl) B.len PySem.boot_len (pa_cons (pv 0) pa_nil)) pe_int (nomark _))))) (pss_one (ps_ret pe_bl)) pss_nil) (pss_cons (ps_set (i := 1) scHF.nd rfl (Or.inl rfl) (pe_ix (r := rIxT K) ix_tup (pv 0) pe_int (fun _ _ => rfl))) (pss_cons (ps_if (PW.pt (pw_or (pt_not (pt_val (pe_callB (r := rIsi K) call_isi (by rfl) T.isi PyProof.Rows.boot_isinstance (pa_cons (pv 1) (pa_cons (pe_bltn (v := .ty "str") rfl B.str PyProof.Rows.boot_str rfl) pa_nil))))) (pw_or1 (pt_cmpR (op_notIn_kd kd) (pv 1) (pe_glob (v := .ref dF) rfl mF rfl) rfl)))) (pss_one (ps_ret pe_bl)) pss_nil) (pss_cons (ps_set (i := 2) scHF.nd rfl (Or.inl rfl) (pe_ix (r := rIxD K w) ix_kdict (pe_glob (v := .ref dF) rfl mF rfl) (pv 1) (fun _ _ => rfl))) (pss_one (ps_ret (pe_and (pe_cmpR op_eq (pe_callB call_len_seq (by rfl) B.len PySem.boot_len (pa_cons (pv 0) pa_nil)) (pe_op op_add pe_int (pe_callB call_len_str (by rfl) B.len PySem.boot_len (pa_cons (pv 2) pa_nil))) (nomark _)) (pe_one (pe_callB (cr_all rfl) (by rfl) B.all (by decide +kernel) (pa_cons (pe_lc (own := [("part", 3), ("sign", 4)]) (g := gTup K 2 (gCons (gName 3) (gCons (gName 4) gNil))) (tt := tYes) rfl scHF.nd (pi_zipTS rfl G.mz (pa_cons (pe_slice sl_tup (pv 0) (po_some pe_int) po_none) (pa_cons (pv 2) pa_nil))) (blkOk_by (N := ["deed", "kind", "form", "part", "sign"]) (sc := defScope sHasForm) (by decide +kernel)) (fun _ _ _ _ _ => by exact (pg_tup rfl (pgs_cons (pg_name (i := 3) scHF.nd rfl (Or.inl rfl)) (pgs_cons (pg_name (i := 4) scHF.nd rfl (Or.inl rfl)) pgs_nil)))) (fun _ _ _ _ _ => pts_nil) (fun _ _ _ _ _ => (pe_def DF hr rfl (pa_cons (pv 3) (pa_cons (pv 4) pa_nil))))) pa_nil))))))))), ?_⟩
    obtain ⟨p, its, rfl, hp, hl, hne, hl3, hall⟩ := shape d hd
    obtain ⟨tk, hk⟩ := hk _ (form_in d)
    have hsl := line4
    refine ⟨_, rfl, _, _, _, _, true, rfl, .ty "tuple", sqt_ty hp, G.tt, _, rfl, iteF ?_⟩
    refine ⟨_, rfl, p, _, rfl, .inr hp, rfl, _, rfl, ?_⟩
    have e0 : decide (V.int ((((V.str (kindOf d)) :: its).length : Nat) : Int) = V.int 0) = false := by
      rw [List.length_cons]
      simp only [decide_eq_false_iff_not, V.int.injEq]
      omega
    rw [e0]
    refine iteF ?_
    refine ⟨_, rfl, p, _, 0, _, rfl, rfl, hp, at0 _ _, ?_⟩
    refine ⟨_, rfl, _, _, _, _, true, rfl, .ty "str", .base (.str _), G.ss, _, rfl, iteF ?_⟩
    refine ⟨_, rfl, _, _, rfl, rfl, hk, _, rfl, iteF ?_⟩
    refine ⟨_, rfl, dF, _, .str (formOf d), rfl, rfl, ⟨es, n, _, kd.at_, kd.lit, hk, ⟨_, rfl⟩⟩, ?_⟩
    refine ⟨_, rfl, p, _, rfl, .inr hp, ?_⟩
    have fl : (formOf d).length = its.length := hl.symm
    refine ⟨_, rfl, formOf d, rfl, by omega, _, _, rfl, rfl, rfl, _, rfl, ?_⟩
    have e1 : decide (V.int ((((V.str (kindOf d)) :: its).length : Nat) : Int) = V.int (1 + (((formOf d).length : Nat) : Int))) = true := by
      rw [List.length_cons, fl]
      simp only [decide_eq_true_eq, V.int.injEq]
      omega
    rw [e1]
    refine iteT ?_
    refine ⟨_, rfl, _, rfl, p, _, rfl, hp, ?_, fun q nq => ?_⟩
    · rintro ⟨h0, _⟩
      have e : HT.sIx (its.length + 1) 0 (some 1) = 1 := by
        show min 1 (its.length + 1) = 1
        omega
      rw [List.length_cons, e] at h0
      cases h0
    rw [cut1]
    have sq := Same.new nq (o := .tup its)
    refine ⟨_, rfl, q, _, its, rfl, SqT.of upd_same, fun D nD => lc_it (n := its.length) (walk_zipTS (K := K) (a := q) (t := formOf d) (xs := its) (by rw [← hl, Nat.min_self])) (fun i H' => Same (upd H q (.tup its)) H' ∧ SqT K H' q its ∧ H' D = some (.lst (List.replicate i (.bl true)))) ⟨Same.new nD, SqT.of (Same.new nD _ _ upd_same), upd_same⟩ (fun i H' _ z => z.2.1) ?_ ?_⟩
    · rintro i y H1 H2 hi ⟨s1, hq1, hD1⟩ ⟨T, x, c, rfl, nT, rfl, hx, hc⟩
      have sT := Same.new nT (o := .tup [x, .str ⟨#[c]⟩])
      refine ⟨T, _, rfl, SqT.of upd_same, rfl, _, _, rfl, _, _, rfl, rfl, rfl, lc_yes ?_⟩
      refine ⟨_, rfl, _, rfl, x, c, rfl, (hall i x c hx hc).same ((sq.trans s1).trans sT), ?_⟩
      refine ⟨_, sT _ _ hD1, by rw [List.length_replicate]; omega, (s1.trans sT).set nD, ?_, ?_⟩
      · have nDq : q ≠ D := fun z => by
          rw [← z, upd_same] at nD
          cases nD
        exact sqt_kt (KT.lst (sT _ _ hD1)) (sqt_kt (KT.of sT) hq1)
      · rw [upd_same, List.replicate_succ']
    · rintro H1 ⟨s1, hq1, hD1⟩
      refine ⟨D, List.replicate its.length true, rfl, SqL.of ?_, ?_⟩
      · rw [hD1, List.map_replicate]
      · have ea : ((List.replicate its.length true).all id) = true := all_rep _
        rw [ea]
        exact k H1 (sq.trans s1)
theorem scRI : FnScope ["deed"] ["deed"] (defScope sRowsIn) := ⟨rfl, rfl, rfl, by decide +kernel, rfl, by decide +kernel, by decide +kernel⟩
theorem rows_look {K : PySem.W.Frag} {C : Addr} {H : Hp} {v : V} : ∀ (d : Dd), DAt K C H v d → ∃ p y its, v = .ref p ∧ SqT K H p (.str (kindOf d) :: y :: its) ∧ ((decide (114 ∈ (formOf d).cps.toList) = true ∧ RowsAt K C H its d.rows) ∨ (decide (114 ∈ (formOf d).cps.toList) = false ∧ d.rows = []))
  | .told a t, h => by
    obtain ⟨p, x, e, h1, h2, h3, h4⟩ := h
    exact ⟨p, _, _, e, h1, .inr ⟨by rw [formOf, cps_nt]; decide, rfl⟩⟩
  | .take s a b, h => by
    obtain ⟨p, e, h1, h2, h3⟩ := h
    exact ⟨p, _, _, e, h1, .inr ⟨by rw [formOf, cps_nn]; decide, rfl⟩⟩
  | .two s a b c, h => by
    obtain ⟨p, e, h1, h2, h3, h4⟩ := h
    exact ⟨p, _, _, e, h1, .inr ⟨by rw [formOf, cps_nnn]; decide, rfl⟩⟩
  | .wh a r, h => by
    obtain ⟨p, q, vs, e, h1, h2, h3, h4⟩ := h
    exact ⟨p, _, _, e, h1, .inl ⟨by rw [formOf, cps_nr]; decide, .cons ⟨q, rfl, vs, h3, h4⟩ .nil⟩⟩
  | .iff a r o, h => by
    obtain ⟨p, q, vs, q2, vs2, e, h1, h2, h3, h4, h5, h6⟩ := h
    exact ⟨p, _, _, e, h1, .inl ⟨by rw [formOf, cps_nrr]; decide, .cons ⟨q, rfl, vs, h3, h4⟩ (.cons ⟨q2, rfl, vs2, h5, h6⟩ .nil)⟩⟩
theorem ok_rowsIn {f : Addr} {fd : FuncData} (F : Fun K "rows_in" "rows_in" sRowsIn f fd) (G : FrmC K w mg) : FnOk P w K mg base CX0 1 f fd ["deed"] (spRowsIn K C) := by
  obtain ⟨dF, es, n, mF, kd, hk⟩ := G.ex
  refine F.ok scRI (fun vs H Q E h => ?_) (fun cdv A outer s H vs Q E hr h => ?_)
  · obtain ⟨v, d, rfl, _⟩ := h
    rfl
  · obtain ⟨v, d, rfl, hd, k⟩ := h
    refine ⟨_, pss_one (ps_ret (pe_ifExp (pt_cmpR op_in_sign pe_str (pe_ix (r := rIxD K w) ix_kdict (pe_glob (v := .ref dF) rfl mF rfl) (pe_ix (r := rIxT K) ix_tup (pv 0) pe_int (fun _ _ => rfl)) (fun _ _ => rfl)) rfl) (pe_slice sl_tup (pv 0) (po_some pe_int) po_none) (pe_tup pa_nil))), ?_⟩
    obtain ⟨p, y, its, rfl, hp, hrs⟩ := rows_look d hd
    obtain ⟨tk, hk⟩ := hk _ (form_in d)
    have hsl := line4
    refine ⟨_, rfl, p, _, 0, _, rfl, rfl, hp, at0 _ _, dF, _, .str (formOf d), rfl, rfl, ⟨es, n, _, kd.at_, kd.lit, hk, ⟨_, rfl⟩⟩, 114, formOf d, congrArg V.str c_r, rfl, _, rfl, ?_⟩
    rcases hrs with ⟨e, hrs⟩ | ⟨e, hrs⟩
    · rw [e]
      refine iteT ?_
      refine ⟨_, rfl, _, rfl, p, _, rfl, hp, ?_, fun q nq => ?_⟩
      · rintro ⟨h0, _⟩
        have e : HT.sIx (its.length + 1 + 1) 0 (some 2) = 2 := by
          show min 2 (its.length + 1 + 1) = 2
          omega
        rw [List.length_cons, List.length_cons, e] at h0
        cases h0
      rw [cut2]
      exact k q its _ (Same.new nq) (SqT.of upd_same) (hrs.kt (KT.of (Same.new nq)))
    · rw [e]
      refine iteF ?_
      refine ⟨Nat.zero_le _, fun q nq => ?_⟩
      exact k q [] _ (Same.new nq) (SqT.of upd_same) (by rw [hrs]; exact .nil)
end
end Js

set_option Elab.async false
set_option linter.all false
set_option maxRecDepth 100000
set_option maxHeartbeats 2000000
namespace Js
open PySem L2
abbrev sLook : Stmt := top 23
def manyL : List (List Dd) → Nat
  | [] => 0
  | r :: rs => manyR r + manyL rs
def endsL : List (List Dd) → Nat → List Nat
  | [], _ => []
  | r :: rs, n => endsR r n ++ endsL rs (n + manyR r)
def deepL : List (List Dd) → Nat
  | [] => 0
  | r :: rs => max (deepR r) (deepL rs)
theorem many_rows : ∀ d : Dd, d.many = manyL d.rows + 1
  | .told _ _ => rfl
  | .take _ _ _ => rfl
  | .two _ _ _ _ => rfl
  | .wh a r => by rw [many_wh, Dd.rows, manyL, manyL, Nat.add_zero]
  | .iff a r o => by rw [many_iff]; simp only [Dd.rows, manyL]; omega
theorem ends_rows : ∀ (d : Dd) (n : Nat), d.ends n = (n + d.many) :: endsL d.rows (n + 1)
  | .told _ _, _ => rfl
  | .take _ _ _, _ => rfl
  | .two _ _ _ _, _ => rfl
  | .wh a r, n => by
    rw [Dd.ends, many_wh, Dd.rows, endsL, endsL, List.append_nil, Nat.add_assoc n, Nat.add_comm 1]
  | .iff a r o, n => by
    rw [Dd.ends, many_iff, Dd.rows, endsL, endsL, endsL, List.append_nil]
    congr 1
    omega
theorem deep_rows : ∀ (d : Dd), d.rows ≠ [] → d.deep = deepL d.rows + 1
  | .told _ _, h => absurd rfl h
  | .take _ _ _, h => absurd rfl h
  | .two _ _ _ _, h => absurd rfl h
  | .wh a r, _ => by rw [Dd.deep, Dd.rows, deepL, deepL, Nat.max_eq_left (Nat.zero_le _)]
  | .iff a r o, _ => by rw [Dd.deep, Dd.rows, deepL, deepL, deepL, Nat.max_eq_left (Nat.zero_le _)]
theorem endsL_len : ∀ (rs : List (List Dd)) (n : Nat), (endsL rs n).length = manyL rs
  | [], _ => rfl
  | r :: rs, n => by rw [endsL, List.length_append, endsR_len, endsL_len rs, manyL]
theorem manyR_app : ∀ (a b : List Dd), manyR (a ++ b) = manyR a + manyR b
  | [], b => by rw [List.nil_append, many_nil, Nat.zero_add]
  | d :: a, b => by rw [List.cons_append, many_cons, many_cons, manyR_app a b]; omega
theorem endsR_app : ∀ (a b : List Dd) (n : Nat), endsR (a ++ b) n = endsR a n ++ endsR b (n + manyR a)
  | [], b, n => by rw [List.nil_append, many_nil, endsR, List.nil_append, Nat.add_zero]
  | d :: a, b, n => by rw [List.cons_append, endsR, endsR_app a b, endsR, many_cons, List.append_assoc, Nat.add_assoc]
theorem manyL_app : ∀ (a b : List (List Dd)), manyL (a ++ b) = manyL a + manyL b
  | [], b => by rw [List.nil_append, manyL, Nat.zero_add]
  | r :: a, b => by rw [List.cons_append, manyL, manyL, manyL_app a b]; omega
theorem endsL_app : ∀ (a b : List (List Dd)) (n : Nat), endsL (a ++ b) n = endsL a n ++ endsL b (n + manyL a)
  | [], b, n => by rw [List.nil_append, manyL, endsL, List.nil_append, Nat.add_zero]
  | r :: a, b, n => by rw [List.cons_append, endsL, endsL_app a b, endsL, manyL, List.append_assoc, Nat.add_assoc]
theorem manyR_one (d : Dd) : manyR [d] = d.many := by rw [many_cons, many_nil, Nat.add_zero]
theorem endsR_one (d : Dd) (n : Nat) : endsR [d] n = d.ends n := by rw [endsR, endsR, List.append_nil]
theorem manyL_one (r : List Dd) : manyL [r] = manyR r := by rw [manyL, manyL, Nat.add_zero]
theorem endsL_one (r : List Dd) (n : Nat) : endsL [r] n = endsR r n := by rw [endsL, endsL, List.append_nil]
theorem deepR_mem : ∀ (r : List Dd) (d : Dd), d ∈ r → d.deep ≤ deepR r
  | e :: r, d, h => by
    rw [deepR]
    rcases List.mem_cons.mp h with rfl | h
    · exact Nat.le_max_left _ _
    · exact Nat.le_trans (deepR_mem r d h) (Nat.le_max_right _ _)
theorem deepL_mem : ∀ (rs : List (List Dd)) (r : List Dd), r ∈ rs → deepR r ≤ deepL rs
  | e :: rs, r, h => by
    rw [deepL]
    rcases List.mem_cons.mp h with rfl | h
    · exact Nat.le_max_left _ _
    · exact Nat.le_trans (deepL_mem rs r h) (Nat.le_max_right _ _)
theorem manyL_take : ∀ (rs : List (List Dd)) (j : Nat) (r : List Dd), rs[j]? = some r → manyL (rs.take j) + manyR r ≤ manyL rs
  | e :: rs, 0, r, h => by
    cases Option.some.inj h
    simp only [List.take_zero, manyL]
    omega
  | e :: rs, j + 1, r, h => by
    have := manyL_take rs j r h
    simp only [List.take_succ_cons, manyL]
    omega
theorem manyR_take : ∀ (rs : List Dd) (j : Nat) (r : Dd), rs[j]? = some r → manyR (rs.take j) + r.many ≤ manyR rs
  | e :: rs, 0, r, h => by
    cases Option.some.inj h
    rw [List.take_zero, many_nil, many_cons]
    omega
  | e :: rs, j + 1, r, h => by
    have := manyR_take rs j r h
    rw [List.take_succ_cons, many_cons, many_cons]
    omega
theorem take_snoc {α : Type} {l : List α} {i : Nat} {x : α} (h : l[i]? = some x) : l.take (i + 1) = l.take i ++ [x] := by
  obtain ⟨hi, e⟩ := List.getElem?_eq_some_iff.mp h
  rw [List.take_succ_eq_append_getElem hi, e]
def numsV (ns : List Nat) : List V := ns.map fun n => .int (n : Nat)
theorem ixN_at (n k : Nat) (h : k < n) : ixN n ((k : Nat) : Int) = some k := by
  unfold ixN
  rw [if_pos (by omega), if_pos (by omega), Int.toNat_natCast]
theorem numsV_len (ns : List Nat) : (numsV ns).length = ns.length := by rw [numsV, List.length_map]
theorem numsV_app (a b : List Nat) : numsV (a ++ b) = numsV a ++ numsV b := by rw [numsV, List.map_append]; rfl
/-- right rows, fewer than n floors -/
def spLook (K : PySem.W.Frag) (C : Addr) (n : Nat) : Sp := fun vs H Q _ => ∃ (q e : Addr) (f : Nat) (r : List Dd) (es : List Nat), vs = [.ref q, .int (f : Nat), .ref e] ∧ RAt K C H q r ∧ deepR r < n ∧ f + deepR r ≤ 8 ∧ H e = some (.lst (numsV es)) ∧ es.length + manyR r ≤ 4000 ∧
  ∀ H', KB e H H' → H' e = some (.lst (numsV (es ++ endsR r es.length))) → Q .non H'
section
variable {P : Program} {w : World} {K : PySem.W.Frag} {mg : Str → Option Value} {base : Heap} {C : Addr}
theorem scLk : FnScope ["row", "floors", "ends", "deed", "place", "inner", "part"] ["row", "floors", "ends"] (defScope sLook) := ⟨rfl, rfl, rfl, by decide +kernel, rfl, by decide +kernel, by decide +kernel⟩
theorem ok_look {f : Addr} {fd : FuncData} (F : Fun K "look_through" "look_through" sLook f fd) (mgf : mg "look_through" = some (.ref f)) (b : Binds K fd ["row", "floors", "ends"] []) (B : Blt mg) (T : Txt K mg C) (G : FrmC K w mg)
    (DH : Def P w K mg base "has_form" 3 ["deed"] (spHasForm K C)) (DR : Def P w K mg base "rows_in" 1 ["deed"] (spRowsIn K C)) : ∀ n, FnOk P w K mg base CX0 (n + 4) f fd ["row", "floors", "ends"] (spLook K C n) := by
  obtain ⟨t1, mD⟩ := G.mD
  obtain ⟨t2, mFl⟩ := G.mF
  intro n
  induction n with
  | zero =>
    refine F.ok scLk (fun vs H Q E h => ?_) (fun cdv A outer s H vs Q E hr h => ?_)
    · obtain ⟨q, e, f, r, es, rfl, _⟩ := h
      rfl
    · obtain ⟨q, e, f, r, es, _, _, h, _⟩ := h
      exact absurd h (Nat.not_lt_zero _)
  | succ n G' =>
  refine F.ok scLk (fun vs H Q E h => ?_) (fun cdv A outer s H vs Q E hr h => ?_)
  · obtain ⟨q, e, f, r, es, rfl, _⟩ := h
    rfl
  · obtain ⟨q, e, f, r, es, rfl, ⟨vs, hq, hvs⟩, hdp, hfl, he, hmany, k⟩ := h
    have hr1 : Room 1 _ := hr.mono (by omega)
    have hr3 : Room 3 _ := hr.mono (by omega)
    refine ⟨_, PSs.nox (pss_one (ps_for PassesOwn.never rfl (pi_tup (pv 0)) (pg_name (i := 3) scLk.nd rfl (Or.inl rfl)) (pss_cons (ps_set (i := 4) scLk.nd rfl (Or.inl rfl) (pe_callB call_len_seq (by rfl) B.len PySem.boot_len (pa_cons (pv 2) pa_nil))) (pss_cons (ps_if (PW.pt (pw_or (pt_cmpR op_eq (pv 4) (pe_glob (v := .int 4000) rfl mD ⟨_, rfl⟩) (nomark _)) (pw_or1 (pt_not (pt_val (pe_def DH hr3 rfl (pa_cons (pv 3) pa_nil))))))) (pss_one ps_never) pss_nil) (pss_cons (ps_set (i := 5) scLk.nd rfl (Or.inl rfl) (pe_def DR hr1 rfl (pa_cons (pv 3) pa_nil))) (pss_cons (ps_if (PW.pt (pw_and (pt_truth (pv 5) (by intro _; rfl)) (pw_and1 (pt_cmpR op_eq (pv 1) (pe_glob (v := .int 8) rfl mFl ⟨_, rfl⟩) (nomark _))))) (pss_one ps_never) pss_nil) (pss_cons (ps_expr (pe_bm PySem.F.plainAttrs_list PySem.F.slot_list_append PySem.F.type_list_append mt_append (pv 2) (pa_cons (pe_op op_add (pv 4) pe_int) pa_nil))) (pss_cons (ps_for PassesOwn.never rfl (pi_tup (pv 5)) (pg_name (i := 6) scLk.nd rfl (Or.inl rfl)) (pss_one (ps_expr (pe_call G' hr rfl mgf F.kp b .nil pass0 (pa_cons (pv 6) (pa_cons (pe_op op_add (pv 1) pe_int) (pa_cons (pv 2) pa_nil))))))) (pss_one (ps_asg (pe_callB call_len_seq (by rfl) B.len PySem.boot_len (pa_cons (pv 2) pa_nil)) (pg_sub (pv 2) (pv 4) set_list))))))))))), ?_⟩
    have hsl := line4
    have hlen := DsAt.length r vs hvs
    refine ⟨_, rfl, q, rfl, ⟨_, hq⟩, for_tup (K := K) (a := q) (xs := vs) (fun i σ H' => ∃ x3 x4 x5 x6 : Option V, σ = [some (.ref q), some (.int (f : Nat)), some (.ref e), x3, x4, x5, x6] ∧ KB e H H' ∧ H' e = some (.lst (numsV (es ++ endsR (r.take i) es.length)))) ⟨none, none, none, none, rfl, KB.refl e H, by simpa [endsR] using he⟩ ?_ ?_ ?_⟩
    · rintro i σ H1 _ ⟨x3, x4, x5, x6, rfl, kb1, he1⟩
      exact sqt_kt (kb1.kt he) hq
    · rintro i v σ H1 hv ⟨x3, x4, x5, x6, rfl, kb1, he1⟩
      obtain ⟨d, hd, hdv⟩ := DsAt.get r vs i v hvs hv
      have hdm := List.mem_of_getElem? hd
      have hdd := deepR_mem r d hdm
      have hmt := manyR_take r i d hd
      have hpos := many_pos d
      have hdv1 := DAt_kt (kb1.kt he) d v hdv
      obtain ⟨pl, hpl⟩ : ∃ pl, es.length + manyR (r.take i) = pl := ⟨_, rfl⟩
      have hl1 : (numsV (es ++ endsR (r.take i) es.length)).length = pl := by rw [numsV_len, List.length_append, endsR_len, hpl]
      refine ⟨_, rfl, e, _, rfl, .inl (SqL.of he1), ?_⟩
      rw [hl1]
      refine ⟨_, rfl, rfl, _, rfl, ?_⟩
      have e0 : decide (V.int ((pl : Nat) : Int) = V.int 4000) = false := by
        simp only [decide_eq_false_iff_not, V.int.injEq]
        omega
      rw [e0]
      refine iteF ?_
      refine ⟨_, rfl, v, d, rfl, hdv1, fun H2 s2 => ⟨_, rfl, iteF ?_⟩⟩
      have hdv2 := DAt_kt (KT.of s2) d v hdv1
      refine ⟨_, rfl, v, d, rfl, hdv2, fun ip ws H3 s3 hip hws => ?_⟩
      have hwl := Paired.length hws
      refine ⟨_, rfl, !ws.isEmpty, .inr (.inl ⟨ws, hip, rfl⟩), ?_⟩
      have hrows : ∀ {Z : Prop}, Z → Z := fun z => z
      have step2 : ∀ (R : Bool → Hp → Prop), R false H3 → (if (!ws.isEmpty) = true then (tTest (tOp rEq (tVar 1) (tC (.int 8)))) [some (.ref q), some (.int (f : Nat)), some (.ref e), some v, some (.int ((pl : Nat) : Int)), some (.ref ip), x6] H3 R else R false H3) := by
        intro R hR
        cases hw : ws with
        | nil => exact iteF hR
        | cons w0 wr =>
          refine iteT ?_
          refine ⟨_, rfl, rfl, _, rfl, ?_⟩
          have hne : d.rows ≠ [] := fun z => by
            rw [z, hw] at hwl
            cases hwl
          have := deep_rows d hne
          have e1 : decide (V.int ((f : Nat) : Int) = V.int 8) = false := by
            simp only [decide_eq_false_iff_not, V.int.injEq]
            omega
          rw [e1]
          exact hR
      refine step2 _ ?_
      refine iteF ?_
      have he3 := s3 _ _ (s2 _ _ he1)
      obtain ⟨as, has⟩ : ∃ as, es ++ endsR (r.take i) es.length = as := ⟨_, rfl⟩
      rw [has] at he3 hl1
      rw [numsV_len] at hl1
      have hmr := many_rows d
      refine ⟨_, rfl, .inl ⟨rfl, _, SqL.of he3⟩, _, rfl, _, _, rfl, rfl, e, _, _, rfl, rfl, he3, by rw [numsV_len]; omega, ?_⟩
      have kb3 : KB e H H3 := (kb1.trans (KB.of s2)).trans (KB.of s3)
      have e4 : numsV as ++ [V.int (((pl : Nat) : Int) + 1)] = numsV (as ++ [pl + 1]) := by
        rw [numsV_app]
        rfl
      rw [e4]
      have he4 : (upd H3 e (.lst (numsV (as ++ [pl + 1])))) e = some (.lst (numsV (as ++ [pl + 1]))) := upd_same
      have kb4 : KB e H3 (upd H3 e (.lst (numsV (as ++ [pl + 1])))) := KB.set
      revert he4 kb4
      generalize upd H3 e (.lst (numsV (as ++ [pl + 1]))) = H4
      intro he4 kb4
      have kt4 : KT H3 H4 := kb4.kt he3
      refine ⟨_, rfl, ip, rfl, ⟨_, sqt_kt kt4 hip⟩, for_tup (K := K) (a := ip) (xs := ws) (fun j σ H' => ∃ x6 : Option V, σ = [some (.ref q), some (.int (f : Nat)), some (.ref e), some v, some (.int ((pl : Nat) : Int)), some (.ref ip), x6] ∧ KB e H4 H' ∧ H' e = some (.lst (numsV (as ++ [pl + 1] ++ endsL (d.rows.take j) (pl + 1))))) ⟨_, rfl, KB.refl e H4, by simpa [endsL] using he4⟩ ?_ ?_ ?_⟩
      · rintro j σ H5 _ ⟨x6, rfl, kb5, he5⟩
        exact sqt_kt (kb5.kt he4) (sqt_kt kt4 hip)
      · rintro j v6 σ H5 hv6 ⟨x6, rfl, kb5, he5⟩
        obtain ⟨r6, hr6, q6, rfl, hq6⟩ := paired_get hws hv6
        have hml := manyL_take d.rows j r6 hr6
        have hdl := deepL_mem d.rows r6 (List.mem_of_getElem? hr6)
        have hne : d.rows ≠ [] := fun z => by
          rw [z] at hr6
          cases hr6
        have hdr := deep_rows d hne
        have l5 : (as ++ [pl + 1] ++ endsL (d.rows.take j) (pl + 1)).length = pl + 1 + manyL (d.rows.take j) := by
          rw [List.length_append, List.length_append, endsL_len, hl1]
          rfl
        refine ⟨_, rfl, _, rfl, _, _, rfl, rfl, _, rfl, q6, e, f + 1, r6, _, rfl, (hq6.kt kt4).kt (kb5.kt he4), by omega, by omega, he5, by omega, fun H6 kb6 he6 => ?_⟩
        refine ⟨_, rfl, kb5.trans kb6, ?_⟩
        rw [he6, take_snoc hr6, endsL_app, endsL_one, l5, List.append_assoc (as ++ [pl + 1])]
      · rintro σ H5 ⟨x6, rfl, kb5, he5⟩
        rw [hwl, List.take_length] at he5
        have l5 : (as ++ [pl + 1] ++ endsL d.rows (pl + 1)).length = pl + d.many := by
          rw [List.length_append, List.length_append, endsL_len, hl1, hmr]
          simp only [List.length_cons, List.length_nil]
          omega
        refine ⟨_, rfl, e, _, rfl, .inl (SqL.of he5), ?_⟩
        rw [numsV_len, l5]
        refine ⟨_, rfl, _, rfl, e, _, _, pl, rfl, rfl, he5, ?_, ?_⟩
        · rw [numsV_len, l5]
          exact ixN_at _ _ (by omega)
        · have es5 : (numsV (as ++ [pl + 1] ++ endsL d.rows (pl + 1))).set pl (V.int (((pl + d.many : Nat)) : Int)) = numsV (es ++ endsR (r.take (i + 1)) es.length) := by
            rw [take_snoc hd, endsR_app, endsR_one, ends_rows, ← List.append_assoc, has, hpl, List.append_assoc, numsV_app, numsV_app]
            rw [List.set_append_right _ _ (by rw [numsV_len, hl1]; exact Nat.le_refl _), numsV_len, hl1, Nat.sub_self, numsV_app]
            rfl
          refine ⟨_, _, _, _, rfl, ((kb3.trans kb4).trans kb5).trans KB.set, ?_⟩
          rw [upd_same, ← es5]
    · rintro σ H1 ⟨x3, x4, x5, x6, rfl, kb1, he1⟩
      rw [hlen, List.take_length] at he1
      exact k H1 kb1 he1
end
end Js

set_option Elab.async false
set_option linter.all false
set_option maxRecDepth 100000
set_option maxHeartbeats 2000000
/-! for i, x in enumerate(tuple) -/
namespace JsZ
open PySem PySem.Spec PyProof.Rows L2
abbrev ht1 (h : Heap) (l : Addr) : Heap := h.push { cls := .type "tuple_iterator", data := .fields #[.ref l, .int 0 0] }
abbrev ht2 (h : Heap) (l : Addr) : Heap := (ht1 h l).push { cls := .type "enumerate", data := .fields #[.none, .bool false, .ref h.objs.size, rawInt 0, .none, .none] }
theorem new_enumT (l : Addr) (us : Array Value) :
    Meets (Builtin.«enumerate.__new__» ⟨[.type "enumerate", .ref l], []⟩) (fun _ R s => s.heap.IsTuple l us ∧ R (.ok (.ret (.ref (ht1 s.heap l).objs.size))) { s with heap := ht2 s.heap l }) :=
  .of_wp fun prog w A R s h => by
    obtain ⟨hp, g, d, tk, os⟩ := s; obtain ⟨h1, h⟩ := h
    have hsub := sub_enumerate
    have hL : Heap.IsTuple (Shared.heap ⟨hp, g, d, tk, os⟩) l us := h1
    wp_walk
    refine wpAny_stack_any fun st => wpAny_pure ?_
    split
    · rename_i c _ _ _ _ _
      cases (c == Value.type "enumerate")
      · wp_walk using wpAny_pyIter_tuple hL
        exact ⟨_, rfl, h⟩
      · wp_walk using wpAny_pyIter_tuple hL
        exact ⟨_, rfl, h⟩
    · wp_walk using wpAny_pyIter_tuple hL
      exact ⟨_, rfl, h⟩
section
variable {prog : Program} {w : World} {A : Around} {E : Value → Shared → Prop} {s : Shared}
theorem call_enumT {l : Addr} {us : Array Value} {Q : Value → Shared → Prop} (hL : s.heap.IsTuple l us)
    (h : ∀ h', IsEnum h' (s.heap.objs.size + 1) s.heap.objs.size 0 .none → h'.IsTupleIter s.heap.objs.size l 0 → h'.objs.size = s.heap.objs.size + 2 → (∀ b o, s.heap.get? b = some o → h'.get? b = some o) → Q (.ref (s.heap.objs.size + 1)) { s with heap := h' }) :
    wpAny (model prog w) A (call (.type "enumerate") [.ref l]) Q E s := by
  refine callType_new F.called_enumerate (by decide) (F.typeCall_enumerate_1 _) (F.newCall_enumerate_1 _) (fun obj => F.args_object_init_2 obj _) F.entry_enumerate_new (new_enumT l us) ⟨hL, ?_⟩
  have hz : (ht1 s.heap l).objs.size = s.heap.objs.size + 1 := Heap.size_push ..
  show _ ∧ _
  rw [hz]
  have he : IsEnum (ht2 s.heap l) (s.heap.objs.size + 1) s.heap.objs.size 0 .none := by
    have := Heap.get?_push_size (ht1 s.heap l) (o := { cls := .type "enumerate", data := .fields #[.none, .bool false, .ref s.heap.objs.size, rawInt 0, .none, .none] }) rfl
    rw [hz] at this
    exact this
  refine ⟨⟨_, he, rfl⟩, h _ he ⟨_, Heap.get?_push_of_some _ (Heap.get?_push_size _ rfl), rfl, rfl⟩ (by rw [Heap.size_push, hz]) fun b o q => Heap.get?_push_of_some _ (Heap.get?_push_of_some _ q)⟩
end
/-- the tuple at a as it stands at each turn, numbered -/
def ItE (K : PySem.W.Frag) (a : Addr) : It :=
  ⟨fun i H => ∃ (xs : List V) (x : V), SqT K H a xs ∧ xs[i]? = some x,
    fun i H v H' => ∃ T x, v = .ref T ∧ H T = none ∧ H' = upd H T (.tup [.int (i : Nat), x]) ∧ ∀ xs, SqT K H a xs → xs[i]? = some x,
    fun i H => ∃ xs : List V, SqT K H a xs ∧ i = xs.length⟩
theorem turn_E {P : Program} {w : World} {K : PySem.W.Frag} {elts : List Expr} {kk : Nat} {tpos : Pos} (a e it : Addr) (ha : a ≠ it) (hea : e ≠ a) :
    Turn P w K (.Tuple elts kk tpos) (ItE K a) [e, it] e (fun i h => (∃ old, IsEnum h e it ((i : Nat) : Int) old) ∧ h.IsTupleIter it a i ∧ e ≠ it) where
  mem := by simp
  obj := fun i h st b hb => by
    obtain ⟨⟨old, he⟩, ⟨o, ho, hc, hd⟩, _⟩ := st
    have e' : b = e ∨ b = it := by simpa using hb
    rcases e' with z | z
    · rw [z]; exact ⟨_, he, fun v q => nomatch q⟩
    · rw [z]; exact ⟨o, ho, fun v q => by rw [hd] at q; cases q⟩
  keep := fun i h h' st k => let ⟨⟨old, he⟩, hi, hne⟩ := st; ⟨⟨old, k e (by simp) _ he⟩, hi.at fun o q => k it (by simp) o q, hne⟩
  item := by
    intro X hP hw hK hc i pins s σ H E I hf st hg
    subst hP hw hK
    obtain ⟨⟨old, he⟩, hit, hne⟩ := st
    obtain ⟨xs, x, hqx, hx⟩ := hg
    obtain ⟨us, rv, p, _⟩ := I.tuple hqx
    obtain ⟨u, hu, ru⟩ := rv.get hx
    have hel : e < s.heap.objs.size := Heap.lt_size he
    have hil : it < s.heap.objs.size := by obtain ⟨_, q, _⟩ := hit; exact Heap.lt_size q
    have hh : X.A.in1.handled = none := I.ok.hd hc
    have li : i < us.toArray.size := by
      have := (List.getElem?_eq_some_iff.mp hu).1
      simpa using this
    refine wpAny_pyNext_enum_itemD (Draws.tuple hh it a ha us.toArray) he ⟨hit, p⟩ li hne (by simp [hne, hea]) fun v h' tk hPx ho hit' hT hsz hk => ?_
    have ev : v = u := by
      have : us.toArray[i]? = some u := by simpa using hu
      exact Option.some.inj (hPx.symm.trans this)
    subst ev
    refine ⟨_, rfl, wpAny_letOwnedTupleGo_enum (s := { s with heap := h', toks := tk + 1 }) ho fun h'' he' sb => ?_⟩
    have hT2 : h''.get? s.heap.objs.size = some { cls := .type "tuple", data := .seq #[.int i tk, v] } := (sb.2 _ (Nat.ne_of_gt hel)).trans hT
    have new : ObjOk X.prog X.w (upd H s.heap.objs.size (.tup [.int (i : Nat), x])) h'' s.heap.objs.size (.tup [.int (i : Nat), x]) := ⟨by show 2 ≤ sizeLine; decide, [.int i tk, v], .cons ⟨_, rfl⟩ (.cons ru .nil), ⟨_, hT2, rfl, _, rfl⟩⟩
    have I1 : Inv X pins σ (upd H s.heap.objs.size (.tup [.int (i : Nat), x])) { s with heap := h'', toks := tk + 1 } :=
      I.turnedNew (ch := [e, it]) (fun b ob hb q => (sb.2 b (fun z => hb (by simp [z]))).trans (hk b ob (fun z => hb (by simp [z])) (fun z => hb (by simp [z])) q)) hf (Nat.le_refl _) new
    refine ⟨.ref s.heap.objs.size, _, I1, rfl, ⟨_, x, rfl, I.hok.fresh (Nat.le_refl _), rfl, fun l hl => by rw [I.tuple_inj hl hqx]; exact hx⟩, ⟨⟨v, ?_⟩, ?_, hne⟩, fun b hb => ?_⟩
    · have e1 : ((i + 1 : Nat) : Int) = (i : Int) + 1 := by omega
      rw [e1]; exact he'
    · exact hit'.1.at fun o q => (sb.2 it (Ne.symm hne)).trans q
    · have hb' : b < s.heap.objs.size := by
        have e' : b = e ∨ b = it := by simpa using hb
        rcases e' with z | z
        · rw [z]; exact hel
        · rw [z]; exact hil
      rw [upd_ne (Nat.ne_of_lt hb')]
      exact (hf b hb).1
  done := by
    intro X hP hw hK hc i pins s σ H E I hf st hg
    subst hP hw hK
    obtain ⟨⟨old, he⟩, hit, hne⟩ := st
    obtain ⟨xs, hqx, rfl⟩ := hg
    obtain ⟨us, rv, p, _⟩ := I.tuple hqx
    obtain ⟨f0, f1, f2, f3, f4, f5⟩ := hf it (by simp)
    have hh : X.A.in1.handled = none := I.ok.hd hc
    have lu : us.toArray.size = xs.length := by rw [List.size_toArray, ← rv.length]
    exact wpAny_pyNext_enum_endD (Draws.tuple hh it a ha us.toArray) he (by rw [lu]; exact ⟨hit, p⟩) fun h' eb => ⟨rfl, I.turned (t' := s.toks) (fun b o hb q => eb b o hb q) f0 f1 f3 f4 f5⟩
  self := fun A i s Q E st h => let ⟨⟨_, he⟩, _⟩ := st; wpAny_pyIter_enum he h
end JsZ
namespace L2
open PySem PySem.Spec PyProof.Rows
def iEnumT (K : PySem.W.Frag) (ta : TA) : TI := fun σ H R => ta σ H fun vs H1 => ∃ a xs, vs = [.ref a] ∧ SqT K H1 a xs ∧ R (JsZ.ItE K a) H1
theorem pi_enumT {X : Cx} {e : Expr} {ta : TA} {p pos tpos : Pos} {elts : List Expr} {kk : Nat} (hg : Gl X "enumerate") (hm : X.mg "enumerate" = none) (ha : PA X [e] ta) (hs : starEach [e] X.env = [(false, eval e X.env)] := by rfl) :
    PI X (.Tuple elts kk tpos) (.Call (.Name "enumerate" p) [e] [] pos) (iEnumT X.K ta) := by
  refine ⟨fun pins s σ H R I h => ?_⟩
  refine Call_ (ld_blt I hg hm boot_enumerate (PyProof.Rows.callWith_type1 (thn (ha.run pos pins s σ H _ I h) fun us s1 ⟨vs, H1, I1, r1, q1⟩ => ?_) hs rfl))
  obtain ⟨a, xs, ex, hqx, q⟩ := q1
  subst ex
  obtain ⟨u, rfl, ru⟩ := vals1 r1
  cases (show u = Value.ref a from ru)
  obtain ⟨its, rv, p1, _⟩ := I1.tuple hqx
  obtain ⟨o1, ho1, _⟩ := id p1
  have la := Heap.lt_size ho1
  refine JsZ.call_enumT p1 fun h' he hit hsz hk => wpAny_pyIter_enum he ?_
  have I2 : Inv X pins σ H1 { s1 with heap := h' } := I1.kept (t' := s1.toks) hk
  refine ⟨s1.heap.objs.size + 1, [s1.heap.objs.size + 1, s1.heap.objs.size], _, _, H1, rfl, I2, JsZ.turn_E a (s1.heap.objs.size + 1) s1.heap.objs.size (Nat.ne_of_lt la) (fun z => absurd la (by rw [← z]; exact Nat.not_lt.mpr (Nat.le_succ _))), ⟨⟨.none, he⟩, hit, Nat.succ_ne_self _⟩, fun b hb => ?_, q⟩
  have e' : b = s1.heap.objs.size + 1 ∨ b = s1.heap.objs.size := by simpa using hb
  have hle : s1.heap.objs.size ≤ b := by
    rcases e' with z | z
    · rw [z]; exact Nat.le_add_right _ _
    · rw [z]; exact Nat.le_refl _
  exact I1.fpOk hle (I1.hok.fresh hle)
theorem walk_enumT {K : PySem.W.Frag} {a : Addr} {xs : List V} : Walk (JsZ.ItE K a) xs.length (fun H => SqT K H a xs) (fun i H v H' => ∃ T x, v = .ref T ∧ H T = none ∧ H' = upd H T (.tup [.int (i : Nat), x]) ∧ xs[i]? = some x) :=
  ⟨fun i H hi hq => ⟨xs, xs[i], hq, List.getElem?_eq_getElem hi⟩, fun H hq => ⟨xs, hq, rfl⟩, fun i H v H' hi hq y => by
      obtain ⟨T, x, e1, e2, e3, e4⟩ := y
      exact ⟨T, x, e1, e2, e3, e4 xs hq⟩⟩
end L2

set_option Elab.async false
set_option linter.all false
set_option maxRecDepth 100000
set_option maxHeartbeats 2000000
namespace Js
open PySem L2
abbrev sLay : Stmt := top 24
def Dd.isW : Dd → Bool
  | .wh _ _ => true
  | _ => false
def Dd.isF : Dd → Bool
  | .iff _ _ _ => true
  | _ => false
theorem kind_w : ∀ d : Dd, decide (V.str (kindOf d) = V.str "while") = d.isW
  | .told _ _ => (by decide +kernel : decide (V.str (("told" : Str)) = V.str "while") = false)
  | .take false _ _ => (by decide +kernel : decide (V.str (("first" : Str)) = V.str "while") = false)
  | .take true _ _ => (by decide +kernel : decide (V.str (("second" : Str)) = V.str "while") = false)
  | .two false _ _ _ => (by decide +kernel : decide (V.str (("pair" : Str)) = V.str "while") = false)
  | .two true _ _ _ => (by decide +kernel : decide (V.str (("same" : Str)) = V.str "while") = false)
  | .wh _ _ => (by decide +kernel : decide (V.str (("while" : Str)) = V.str "while") = true)
  | .iff _ _ _ => (by decide +kernel : decide (V.str (("if" : Str)) = V.str "while") = false)
theorem kind_f : ∀ d : Dd, (!decide (V.str (kindOf d) = V.str "if")) = !d.isF
  | .told _ _ => (by decide +kernel : (!decide (V.str (("told" : Str)) = V.str "if")) = true)
  | .take false _ _ => (by decide +kernel : (!decide (V.str (("first" : Str)) = V.str "if")) = true)
  | .take true _ _ => (by decide +kernel : (!decide (V.str (("second" : Str)) = V.str "if")) = true)
  | .two false _ _ _ => (by decide +kernel : (!decide (V.str (("pair" : Str)) = V.str "if")) = true)
  | .two true _ _ _ => (by decide +kernel : (!decide (V.str (("same" : Str)) = V.str "if")) = true)
  | .wh _ _ => (by decide +kernel : (!decide (V.str (("while" : Str)) = V.str "if")) = true)
  | .iff _ _ _ => (by decide +kernel : (!decide (V.str (("if" : Str)) = V.str "if")) = false)
def wayL : List (List Dd) → Nat → Nat → List Nat
  | [], _, _ => []
  | r :: rs, b, n => (if r.isEmpty then b else n) :: wayL rs b (n + manyR r)
def layL : List (List Dd) → Nat → Nat → List (Dd × List Nat)
  | [], _, _ => []
  | r :: rs, b, n => layR r b n ++ layL rs b (n + manyR r)
def Dd.back (d : Dd) (f n : Nat) : Nat := if d.isW then n else f
def Dd.ways (d : Dd) (f n : Nat) : List Nat := wayL d.rows (d.back f n) (n + 1) ++ (if d.isF then [] else [f])
theorem lay_rows : ∀ (d : Dd) (f n : Nat), d.lay f n = (d, d.ways f n) :: layL d.rows (d.back f n) (n + 1)
  | .told _ _, _, _ => rfl
  | .take _ _ _, _, _ => rfl
  | .two _ _ _ _, _, _ => rfl
  | .wh a r, f, n => by
    rw [Dd.lay]
    simp [Dd.ways, Dd.back, Dd.isW, Dd.isF, Dd.rows, wayL, layL]
  | .iff a r o, f, n => by
    rw [Dd.lay]
    simp [Dd.ways, Dd.back, Dd.isW, Dd.isF, Dd.rows, wayL, layL]
theorem layL_len : ∀ (rs : List (List Dd)) (b n : Nat), (layL rs b n).length = manyL rs
  | [], _, _ => rfl
  | r :: rs, b, n => by rw [layL, List.length_append, layR_len, layL_len rs, manyL]
theorem layL_app : ∀ (a c : List (List Dd)) (b n : Nat), layL (a ++ c) b n = layL a b n ++ layL c b (n + manyL a)
  | [], c, b, n => by rw [List.nil_append, manyL, layL, List.nil_append, Nat.add_zero]
  | r :: a, c, b, n => by rw [List.cons_append, layL, layL_app a c, layL, manyL, List.append_assoc, Nat.add_assoc]
theorem layL_one (r : List Dd) (b n : Nat) : layL [r] b n = layR r b n := by rw [layL, layL, List.append_nil]
theorem wayL_app : ∀ (a c : List (List Dd)) (b n : Nat), wayL (a ++ c) b n = wayL a b n ++ wayL c b (n + manyL a)
  | [], c, b, n => by rw [List.nil_append, manyL, wayL, List.nil_append, Nat.add_zero]
  | r :: a, c, b, n => by rw [List.cons_append, wayL, wayL_app a c, wayL, manyL, List.cons_append, Nat.add_assoc]
theorem wayL_one (r : List Dd) (b n : Nat) : wayL [r] b n = [if r.isEmpty then b else n] := rfl
theorem wayL_len : ∀ (rs : List (List Dd)) (b n : Nat), (wayL rs b n).length = rs.length
  | [], _, _ => rfl
  | r :: rs, b, n => by rw [wayL, List.length_cons, wayL_len rs, List.length_cons]
theorem take_over {α : Type} (L R : List α) (k m : Nat) (h : L.length = k) : (L ++ R).take (k + m) = L ++ R.take m := by
  subst h
  exact List.take_length_add_append m
theorem lay_step : ∀ (r : List Dd) (b n i : Nat) (d : Dd), r[i]? = some d →
    (layR r b n).take (manyR (r.take (i + 1))) = (layR r b n).take (manyR (r.take i)) ++ d.lay (if i + 1 < r.length then n + manyR (r.take i) + d.many else b) (n + manyR (r.take i))
  | e :: r, b, n, 0, d, h => by
    cases Option.some.inj h
    have t0 := take_over (e.lay (if r.isEmpty = true then b else n + e.many) n) (layR r b (n + e.many)) e.many 0 (lay_len _ _ _)
    rw [List.take_zero, List.append_nil] at t0
    show (layR (e :: r) b n).take (manyR [e]) = (layR (e :: r) b n).take 0 ++ e.lay (if 0 + 1 < (e :: r).length then n + 0 + e.many else b) (n + 0)
    rw [manyR_one, List.take_zero, List.nil_append, layR]
    refine t0.trans ?_
    cases r with
    | nil => rfl
    | cons x y =>
      rw [if_pos (show 0 + 1 < (e :: x :: y).length by simp only [List.length_cons]; omega)]
      rfl
  | e :: r, b, n, i + 1, d, h => by
    have ih := lay_step r b (n + e.many) i d h
    rw [List.take_succ_cons, List.take_succ_cons, many_cons, many_cons, layR, take_over _ _ _ _ (lay_len _ _ _), take_over _ _ _ _ (lay_len _ _ _), ih, List.append_assoc]
    have ec : (i + 1 + 1 < (e :: r).length) = (i + 1 < r.length) := by
      rw [List.length_cons]
      exact propext ⟨fun h => by omega, fun h => by omega⟩
    simp only [ec, Nat.add_assoc]
theorem seq_via {ta : TE} {g : TG} {rest : TS} {D : Ends} {σ : L2.St} {H : Hp} (v : V) (h : ∀ R : VK, R v H → ta σ H R) (k : g v σ H (rest D)) : tSeq (tAsg ta g) rest D σ H := h _ k
theorem via {T : VK → Prop} {K0 : VK} (v : V) (H : Hp) (h : ∀ R : VK, R v H → T R) (k : K0 v H) : T K0 := h K0 k
theorem ends_at : ∀ (r : List Dd) (n i : Nat) (d : Dd), r[i]? = some d → ∃ rest, endsR r n = endsR (r.take i) n ++ (d.ends (n + manyR (r.take i)) ++ rest)
  | e :: r, n, 0, d, h => by
    cases Option.some.inj h
    exact ⟨endsR r (n + e.many), by rw [List.take_zero, many_nil, endsR, endsR, List.nil_append, Nat.add_zero]⟩
  | e :: r, n, i + 1, d, h => by
    obtain ⟨rest, ih⟩ := ends_at r (n + e.many) i d h
    exact ⟨rest, by rw [List.take_succ_cons, many_cons, endsR, ih, endsR, List.append_assoc, Nat.add_assoc]⟩
theorem endsL_at : ∀ (rs : List (List Dd)) (n j : Nat) (r : List Dd), rs[j]? = some r → ∃ rest, endsL rs n = endsL (rs.take j) n ++ (endsR r (n + manyL (rs.take j)) ++ rest)
  | e :: rs, n, 0, r, h => by
    cases Option.some.inj h
    exact ⟨endsL rs (n + manyR e), by rw [List.take_zero, manyL, endsL, endsL, List.nil_append, Nat.add_zero]⟩
  | e :: rs, n, j + 1, r, h => by
    obtain ⟨rest, ih⟩ := endsL_at rs (n + manyR e) j r h
    exact ⟨rest, by rw [List.take_succ_cons, manyL, endsL, ih, endsL, List.append_assoc, Nat.add_assoc]⟩
/-- l stands in E from k on -/
def Pre (E : List Nat) (k : Nat) (l : List Nat) : Prop := ∀ i x, l[i]? = some x → E[k + i]? = some x
theorem Pre.right {E : List Nat} {k : Nat} {a b : List Nat} (h : Pre E k (a ++ b)) : Pre E (k + a.length) b := fun i x e => by
  have := h (a.length + i) x (by rw [List.getElem?_append_right (Nat.le_add_right _ _), Nat.add_sub_cancel_left]; exact e)
  rw [Nat.add_assoc]
  exact this
theorem Pre.left {E : List Nat} {k : Nat} {a b : List Nat} (h : Pre E k (a ++ b)) : Pre E k a := fun i x e => h i x (by
  rw [List.getElem?_append_left (List.getElem?_eq_some_iff.mp e).1]
  exact e)
theorem Pre.whole (E : List Nat) : Pre E 0 E := fun i x e => by
  rw [Nat.zero_add]
  exact e
/-- a deed in the plan, with its ways -/
def PlE (K : PySem.W.Frag) (C : Addr) (H : Hp) (v : V) (x : Dd × List Nat) : Prop := ∃ t wv dv, v = .ref t ∧ H t = some (.tup [dv, .ref wv]) ∧ H wv = some (.tup (numsV x.2)) ∧ DAt K C H dv x.1
theorem PlE.kt {K : PySem.W.Frag} {C : Addr} {H H' : Hp} (k : KT H H') {v : V} {x : Dd × List Nat} (h : PlE K C H v x) : PlE K C H' v x := by
  obtain ⟨t, wv, dv, e, h1, h2, h3⟩ := h
  exact ⟨t, wv, dv, e, k _ _ h1 (fun _ e => nomatch e), k _ _ h2 (fun _ e => nomatch e), DAt_kt k _ _ h3⟩
theorem pls_kt {K : PySem.W.Frag} {C : Addr} {H H' : Hp} (k : KT H H') : ∀ {ys : List V} {ps : List (Dd × List Nat)}, Paired (PlE K C H) ys ps → Paired (PlE K C H') ys ps
  | _, _, .nil => .nil
  | _, _, .cons h t => .cons (h.kt k) (pls_kt k t)
theorem paired_app {α β : Type} {R : α → β → Prop} : ∀ {xs : List α} {ys : List β} {xs' : List α} {ys' : List β}, Paired R xs ys → Paired R xs' ys' → Paired R (xs ++ xs') (ys ++ ys')
  | _, _, _, _, .nil, h => h
  | _, _, _, _, .cons h t, h' => .cons h (paired_app t h')
def spLay (K : PySem.W.Frag) (C : Addr) (n : Nat) : Sp := fun vs H Q _ => ∃ (q e p : Addr) (f : Nat) (r : List Dd) (E : List Nat) (xs : List V), vs = [.ref q, .int (f : Nat), .ref e, .ref p] ∧ RAt K C H q r ∧ deepR r < n ∧ H e = some (.lst (numsV E)) ∧ Pre E xs.length (endsR r xs.length) ∧
  H p = some (.lst xs) ∧ e ≠ p ∧ xs.length + manyR r ≤ 4000 ∧ ∀ H' ys, KB p H H' → H' p = some (.lst (xs ++ ys)) → Paired (PlE K C H') ys (layR r f xs.length) → Q .non H'
section
variable {P : Program} {w : World} {K : PySem.W.Frag} {mg : Str → Option Value} {base : Heap} {C : Addr}
theorem scLy : FnScope ["row", "behind", "ends", "plan", "at", "deed", "point", "after", "back", "ways", "part"] ["row", "behind", "ends", "plan"] (defScope sLay) := ⟨rfl, rfl, rfl, by decide +kernel, rfl, by decide +kernel, by decide +kernel⟩
theorem ok_lay {f : Addr} {fd : FuncData} (F : Fun K "lay_out" "lay_out" sLay f fd) (mgf : mg "lay_out" = some (.ref f)) (b : Binds K fd ["row", "behind", "ends", "plan"] []) (B : Blt mg) (G : FrmC K w mg)
    (DR : Def P w K mg base "rows_in" 1 ["deed"] (spRowsIn K C)) : ∀ n, FnOk P w K mg base CX0 (n + 2) f fd ["row", "behind", "ends", "plan"] (spLay K C n) := by
  intro n
  induction n with
  | zero =>
    refine F.ok scLy (fun vs H Q E h => ?_) (fun cdv A outer s H vs Q E hr h => ?_)
    · obtain ⟨q, e, p, f, r, E, xs, rfl, _⟩ := h
      rfl
    · obtain ⟨q, e, p, f, r, E, xs, _, _, h, _⟩ := h
      exact absurd h (Nat.not_lt_zero _)
  | succ n G' =>
  refine F.ok scLy (fun vs H Q E h => ?_) (fun cdv A outer s H vs Q E hr h => ?_)
  · obtain ⟨q, e, p, f, r, E, xs, rfl, _⟩ := h
    rfl
  · obtain ⟨q, e, p, f, r, En, xs, rfl, ⟨vs, hq, hvs⟩, hdp, he, hpre, hp, hep, hmany, k⟩ := h
    have hr1 : Room 1 _ := hr.mono (by omega)
    refine ⟨_, pss_one (ps_for PassesOwn.never rfl (pi_enumT rfl G.me (pa_cons (pv 0) pa_nil)) (pg_tup rfl (pgs_cons (pg_name (i := 4) scLy.nd rfl (Or.inl rfl)) (pgs_cons (pg_name (i := 5) scLy.nd rfl (Or.inl rfl)) pgs_nil))) (pss_cons (ps_set (i := 6) scLy.nd rfl (Or.inl rfl) (pe_callB call_len_seq (by rfl) B.len PySem.boot_len (pa_cons (pv 3) pa_nil))) (pss_cons (ps_set (i := 7) scLy.nd rfl (Or.inl rfl) (pe_ifExp (pt_cmpR op_lt (pe_op op_add (pv 4) pe_int) (pe_callB call_len_seq (by rfl) B.len PySem.boot_len (pa_cons (pv 0) pa_nil)) (nomark _)) (pe_ix (r := rIxL K) ix_list (pv 2) (pv 6) (fun _ _ => rfl)) (pv 1))) (pss_cons (ps_set (i := 8) scLy.nd rfl (Or.inl rfl) (pe_ifExp (pt_cmpR op_eq (pe_ix (r := rIxT K) ix_tup (pv 5) pe_int (fun _ _ => rfl)) pe_str (nomark _)) (pv 6) (pv 7))) (pss_cons (ps_expr (pe_bm PySem.F.plainAttrs_list PySem.F.slot_list_append PySem.F.type_list_append mt_append (pv 3) (pa_cons pe_non pa_nil))) (pss_cons (ps_set (i := 9) scLy.nd rfl (Or.inl rfl) (pe_lst pa_nil)) (pss_cons (ps_for PassesOwn.never rfl (pi_tup (pe_def DR hr1 rfl (pa_cons (pv 5) pa_nil))) (pg_name (i := 10) scLy.nd rfl (Or.inl rfl)) (pss_cons (ps_expr (pe_bm PySem.F.plainAttrs_list PySem.F.slot_list_append PySem.F.type_list_append mt_append (pv 9) (pa_cons (pe_ifExp (pt_truth (pv 10) (by intro _; rfl)) (pe_callB call_len_seq (by rfl) B.len PySem.boot_len (pa_cons (pv 3) pa_nil)) (pv 8)) pa_nil))) (pss_one (ps_expr (pe_call G' hr rfl mgf F.kp b .nil pass0 (pa_cons (pv 10) (pa_cons (pv 8) (pa_cons (pv 2) (pa_cons (pv 3) pa_nil))))))))) (pss_cons (ps_if (pt_cmpR op_ne (pe_ix (r := rIxT K) ix_tup (pv 5) pe_int (fun _ _ => rfl)) pe_str (nomark _)) (pss_one (ps_expr (pe_bm PySem.F.plainAttrs_list PySem.F.slot_list_append PySem.F.type_list_append mt_append (pv 9) (pa_cons (pv 7) pa_nil)))) pss_nil) (pss_one (ps_asg (pe_tup (pa_cons (pv 5) (pa_cons (pe_callTy call_tuple_of (by rfl) G.mt PyProof.Rows.boot_tuple (pa_cons (pv 9) pa_nil)) pa_nil))) (pg_sub (pv 3) (pv 6) set_list))))))))))), ?_⟩
    have hsl := line4
    have hlen := DsAt.length r vs hvs
    refine ⟨_, rfl, q, vs, rfl, hq, for_it (walk_enumT (K := K) (a := q) (xs := vs)) (fun i σ H' => ∃ x4 x5 x6 x7 x8 x9 x10 : Option V, ∃ ys : List V, σ = [some (.ref q), some (.int (f : Nat)), some (.ref e), some (.ref p), x4, x5, x6, x7, x8, x9, x10] ∧ KB p H H' ∧ H' p = some (.lst (xs ++ ys)) ∧ Paired (PlE K C H') ys ((layR r f xs.length).take (manyR (r.take i)))) ⟨none, none, none, none, none, none, none, [], rfl, KB.refl p H, by rw [List.append_nil]; exact hp, by rw [List.take_zero, many_nil, List.take_zero]; exact .nil⟩ ?_ ?_ ?_⟩
    · rintro i σ H1 _ ⟨x4, x5, x6, x7, x8, x9, x10, ys, rfl, kb1, hp1, hys⟩
      exact sqt_kt (kb1.kt hp) hq
    · rintro i y σ H1 H2 hi ⟨x4, x5, x6, x7, x8, x9, x10, ys, rfl, kb1, hp1, hys⟩ ⟨T, v, rfl, nT, rfl, hv⟩
      obtain ⟨d, hd, hdv⟩ := DsAt.get r vs i v hvs hv
      have hdd := deepR_mem r d (List.mem_of_getElem? hd)
      have hmt := manyR_take r i d hd
      have hpos := many_pos d
      have hmr := many_rows d
      have sT := Same.new nT (o := .tup [.int (i : Nat), v])
      have kb2 : KB p H (upd H1 T (.tup [.int (i : Nat), v])) := kb1.trans (KB.of sT)
      have hp2 := sT _ _ hp1
      have hys2 := pls_kt (KT.of sT) hys
      have hdv2 : DAt K C (upd H1 T (.tup [.int (i : Nat), v])) v d := DAt_kt (kb2.kt hp) d v hdv
      have hq2 : SqT K (upd H1 T (.tup [.int (i : Nat), v])) q vs := sqt_kt (kb2.kt hp) hq
      have he2 := kb2 _ _ hep he
      have hT2 : (upd H1 T (.tup [.int (i : Nat), v])) T = some (.tup [.int (i : Nat), v]) := upd_same
      revert kb2 hp2 hys2 hdv2 hq2 he2 hT2
      generalize upd H1 T (.tup [.int (i : Nat), v]) = H2
      intro kb2 hp2 hys2 hdv2 hq2 he2 hT2
      refine ⟨T, _, rfl, SqT.of hT2, rfl, _, _, rfl, _, _, rfl, rfl, ?_⟩
      obtain ⟨pt, hpt⟩ : ∃ pt, xs.length + manyR (r.take i) = pt := ⟨_, rfl⟩
      have lys : ys.length = manyR (r.take i) := by
        rw [Paired.length hys, List.length_take, layR_len]
        omega
      have lxy : (xs ++ ys).length = pt := by rw [List.length_append, lys, hpt]
      refine ⟨_, rfl, p, _, rfl, .inl (SqL.of hp2), ?_⟩
      rw [lxy]
      -- after
      obtain ⟨af, haf⟩ : ∃ af, (if i + 1 < r.length then pt + d.many else f) = af := ⟨_, rfl⟩
      obtain ⟨rest, hen⟩ := ends_at r xs.length i d hd
      have hpre2 : Pre En pt (d.ends pt) := by
        rw [hen] at hpre
        have := hpre.right
        rw [endsR_len, hpt] at this
        exact this.left
      have hpre3 : En[pt]? = some (pt + d.many) := by
        have := hpre2 0 (pt + d.many) (by rw [ends_rows]; rfl)
        exact this
      dsimp only [gName]
      refine seq_via (.int (af : Nat)) (fun R hR => ?_) ?_
      · refine ⟨_, rfl, _, _, rfl, rfl, _, rfl, q, vs, rfl, .inr hq2, _, _, rfl, rfl, _, rfl, ?_⟩
        rw [hlen]
        by_cases hlt : i + 1 < r.length
        · rw [decide_eq_true (show ((i : Nat) : Int) + 1 < ((r.length : Nat) : Int) by omega)]
          refine iteT ?_
          rw [if_pos hlt] at haf
          refine ⟨_, rfl, _, rfl, e, _, _, .int (af : Nat), rfl, rfl, SqL.of he2, ?_, hR⟩
          refine atI_nat ?_
          rw [numsV, List.getElem?_map, hpre3, ← haf]
          rfl
        · rw [decide_eq_false (show ¬ ((i : Nat) : Int) + 1 < ((r.length : Nat) : Int) by omega)]
          refine iteF ?_
          rw [if_neg hlt] at haf
          subst haf
          exact ⟨_, rfl, hR⟩
      -- back
      obtain ⟨pd, its, ev, hpd, _⟩ := shape d hdv2
      subst ev
      refine seq_via (.int ((d.back af pt : Nat) : Int)) (fun R hR => ?_) ?_
      · refine ⟨_, rfl, pd, _, 0, _, rfl, rfl, hpd, at0 _ _, rfl, _, rfl, ?_⟩
        rw [kind_w]
        unfold Dd.back at hR
        cases hw : d.isW with
        | true =>
          rw [hw] at hR
          exact iteT ⟨_, rfl, hR⟩
        | false =>
          rw [hw] at hR
          exact iteF ⟨_, rfl, hR⟩
      obtain ⟨bk, hbk⟩ : ∃ bk, d.back af pt = bk := ⟨_, rfl⟩
      rw [hbk]
      refine ⟨_, rfl, .inl ⟨rfl, _, SqL.of hp2⟩, p, _, _, rfl, rfl, hp2, by omega, ?_⟩
      have kb3 : KB p H (upd H2 p (.lst (xs ++ ys ++ [.non]))) := kb2.trans KB.set
      have kt3 : KT H2 (upd H2 p (.lst (xs ++ ys ++ [.non]))) := KT.lst hp2
      have hp3 : (upd H2 p (.lst (xs ++ ys ++ [.non]))) p = some (.lst (xs ++ ys ++ [.non])) := upd_same
      have he3 : (upd H2 p (.lst (xs ++ ys ++ [.non]))) e = some (.lst (numsV En)) := by rw [upd_ne hep]; exact he2
      revert kb3 kt3 hp3 he3
      generalize upd H2 p (.lst (xs ++ ys ++ [.non])) = H3
      intro kb3 kt3 hp3 he3
      refine ⟨Nat.zero_le _, fun wl nwl => ?_⟩
      have s4 : Same H3 (upd H3 wl (.lst [])) := Same.new nwl
      have hwl4 : (upd H3 wl (.lst [])) wl = some (.lst []) := upd_same
      have hwp : wl ≠ p := fun z => by rw [z, hp3] at nwl; cases nwl
      have hwe : wl ≠ e := fun z => by rw [z, he3] at nwl; cases nwl
      have nwH : H wl = none := by
        cases hw : H wl with
        | none => rfl
        | some o =>
          have := kb3 _ _ hwp hw
          rw [nwl] at this
          cases this
      revert s4 hwl4
      generalize upd H3 wl (.lst []) = H4
      intro s4 hwl4
      have kt24 : KT H2 H4 := kt3.trans (KT.of s4)
      have hdv4 := DAt_kt kt24 d _ hdv2
      refine ⟨_, rfl, _, d, rfl, hdv4, fun ip ws H5 s5 hip hws => ?_⟩
      have hwl5 := Paired.length hws
      have kb5 : KB p H H5 := (kb3.trans (KB.of s4)).trans (KB.of s5)
      have kt25 : KT H2 H5 := kt24.trans (KT.of s5)
      have hp5 := s5 _ _ (s4 _ _ hp3)
      have he5 := s5 _ _ (s4 _ _ he3)
      have hw5 := s5 _ _ hwl4
      refine ⟨ip, rfl, ⟨_, hip⟩, for_tup (K := K) (a := ip) (xs := ws) (fun j σ H' => ∃ (x10 : Option V) (zs : List V), σ = [some (.ref q), some (.int (f : Nat)), some (.ref e), some (.ref p), some (.int (i : Nat)), some (.ref pd), some (.int (pt : Nat)), some (.int (af : Nat)), some (.int (bk : Nat)), some (.ref wl), x10] ∧ KB p H H' ∧ KT H5 H' ∧ H' e = some (.lst (numsV En)) ∧ H' wl = some (.lst (numsV (wayL (d.rows.take j) bk (pt + 1)))) ∧ H' p = some (.lst (xs ++ ys ++ [.non] ++ zs)) ∧ Paired (PlE K C H') zs (layL (d.rows.take j) bk (pt + 1))) ⟨_, [], rfl, kb5, KT.refl H5, he5, hw5, by rw [List.append_nil]; exact hp5, .nil⟩ ?_ ?_ ?_⟩
      · rintro j σ H6 _ ⟨x10, zs, rfl, kb6, kt6, he6, hw6, hp6, hzs⟩
        exact sqt_kt kt6 hip
      · rintro j v10 σ H6 hv10 ⟨x10, zs, rfl, kb6, kt6, he6, hw6, hp6, hzs⟩
        obtain ⟨r6, hr6, q6, rfl, hq6⟩ := paired_get hws hv10
        have hml := manyL_take d.rows j r6 hr6
        have hdl := deepL_mem d.rows r6 (List.mem_of_getElem? hr6)
        have hne : d.rows ≠ [] := fun z => by
          rw [z] at hr6
          cases hr6
        have hdr := deep_rows d hne
        have hjl := (List.getElem?_eq_some_iff.mp hv10).1
        have lzs : zs.length = manyL (d.rows.take j) := by rw [Paired.length hzs, layL_len]
        have lp6 : (xs ++ ys ++ [V.non] ++ zs).length = pt + 1 + manyL (d.rows.take j) := by
          rw [List.length_append, List.length_append, lxy, lzs]
          rfl
        obtain ⟨vs6, hsq6, hds6⟩ := hq6.kt kt6
        have l6 := DsAt.length r6 vs6 hds6
        refine ⟨_, rfl, .inl ⟨rfl, _, SqL.of hw6⟩, ?_⟩
        refine via (T := (tIf _ _ _) _ H6) (.int (((if r6.isEmpty then bk else pt + 1 + manyL (d.rows.take j) : Nat)) : Int)) H6 (fun R hR => ?_) ?_
        · refine ⟨_, rfl, !vs6.isEmpty, .inr (.inl ⟨vs6, hsq6, rfl⟩), ?_⟩
          cases r6 with
          | nil =>
            cases vs6 with
            | nil => exact iteF ⟨_, rfl, hR⟩
            | cons x y => cases l6
          | cons x y =>
            cases vs6 with
            | nil => cases l6
            | cons x' y' =>
              refine iteT ⟨_, rfl, p, _, rfl, .inl (SqL.of hp6), ?_⟩
              rw [lp6]
              exact hR
        obtain ⟨wn, hwn⟩ : ∃ wn, (if r6.isEmpty then bk else pt + 1 + manyL (d.rows.take j) : Nat) = wn := ⟨_, rfl⟩
        rw [hwn]
        have hrl : d.rows.length ≤ 2 := by
          cases d <;> simp [Dd.rows]
        refine ⟨wl, _, _, rfl, rfl, hw6, by rw [numsV_len, wayL_len, List.length_take]; omega, ?_⟩
        have kt7 : KT H6 (upd H6 wl (.lst (numsV (wayL (d.rows.take j) bk (pt + 1)) ++ [.int (wn : Nat)]))) := KT.lst hw6
        have e7 : numsV (wayL (d.rows.take j) bk (pt + 1)) ++ [.int (wn : Nat)] = numsV (wayL (d.rows.take (j + 1)) bk (pt + 1)) := by
          rw [take_snoc hr6, wayL_app, wayL_one, numsV_app, hwn]
          rfl
        rw [e7] at kt7 ⊢
        have hw7 : (upd H6 wl (.lst (numsV (wayL (d.rows.take (j + 1)) bk (pt + 1))))) wl = some (.lst (numsV (wayL (d.rows.take (j + 1)) bk (pt + 1)))) := upd_same
        have he7 : (upd H6 wl (.lst (numsV (wayL (d.rows.take (j + 1)) bk (pt + 1))))) e = some (.lst (numsV En)) := by rw [upd_ne (Ne.symm hwe)]; exact he6
        have hp7 : (upd H6 wl (.lst (numsV (wayL (d.rows.take (j + 1)) bk (pt + 1))))) p = some (.lst (xs ++ ys ++ [.non] ++ zs)) := by rw [upd_ne (Ne.symm hwp)]; exact hp6
        have kb7 : KB p H (upd H6 wl (.lst (numsV (wayL (d.rows.take (j + 1)) bk (pt + 1))))) := fun a o na ha => by
          rw [upd_ne (ne_of_none ha nwH)]
          exact kb6 _ _ na ha
        revert kt7 hw7 he7 hp7 kb7
        generalize upd H6 wl (.lst (numsV (wayL (d.rows.take (j + 1)) bk (pt + 1)))) = H7
        intro kt7 hw7 he7 hp7 kb7
        have hpre7 : Pre En (xs ++ ys ++ [V.non] ++ zs).length (endsR r6 (xs ++ ys ++ [V.non] ++ zs).length) := by
          rw [lp6]
          have h1 : Pre En (pt + 1) (endsL d.rows (pt + 1)) := by
            have := hpre2
            rw [ends_rows] at this
            exact Pre.right (a := [pt + d.many]) this
          obtain ⟨rest2, hen2⟩ := endsL_at d.rows (pt + 1) j r6 hr6
          rw [hen2] at h1
          have h2 := h1.right
          rw [endsL_len] at h2
          exact h2.left
        refine ⟨_, rfl, _, rfl, _, rfl, _, rfl, q6, e, p, bk, r6, En, _, rfl, (hq6.kt kt6).kt kt7, by omega, he7, hpre7, hp7, hep, by rw [lp6]; omega, fun H8 zs2 kb8 hp8 hzs2 => ?_⟩
        have kt8 : KT H7 H8 := kb8.kt hp7
        rw [lp6] at hzs2
        refine ⟨_, zs ++ zs2, rfl, kb7.trans kb8, (kt6.trans kt7).trans kt8, kb8 _ _ hep he7, kb8 _ _ hwp hw7, by rw [hp8, List.append_assoc (xs ++ ys ++ [V.non])], ?_⟩
        rw [take_snoc hr6, layL_app, layL_one]
        exact paired_app (pls_kt (kt7.trans kt8) hzs) hzs2
      · rintro σ H6 ⟨x10, zs, rfl, kb6, kt6, he6, hw6, hp6, hzs⟩
        rw [hwl5, List.take_length] at hw6 hzs
        have hpd6 := sqt_kt (kt25.trans kt6) hpd
        refine ⟨_, rfl, pd, _, 0, _, rfl, rfl, hpd6, at0 _ _, rfl, _, rfl, ?_⟩
        rw [kind_f]
        cases hF : d.isF with
        | true =>
          refine iteF ?_
          have ew : wayL d.rows bk (pt + 1) = d.ways af pt := by
            rw [Dd.ways, hbk, hF, if_pos rfl, List.append_nil]
          rw [ew] at hw6
          refine ⟨_, rfl, _, rfl, wl, _, rfl, .inl ⟨SqL.of hw6, fun wt nwt => ?_⟩⟩
          have s8 : Same H6 (upd H6 wt (.tup (numsV (d.ways af pt)))) := Same.new nwt
          have hwt8 : (upd H6 wt (.tup (numsV (d.ways af pt)))) wt = some (.tup (numsV (d.ways af pt))) := upd_same
          revert s8 hwt8
          generalize upd H6 wt (.tup (numsV (d.ways af pt))) = H8
          intro s8 hwt8
          refine ⟨by show 2 ≤ sizeLine; decide, fun tt ntt => ?_⟩
          have s9 : Same H8 (upd H8 tt (.tup [.ref pd, .ref wt])) := Same.new ntt
          have htt9 : (upd H8 tt (.tup [.ref pd, .ref wt])) tt = some (.tup [.ref pd, .ref wt]) := upd_same
          revert s9 htt9
          generalize upd H8 tt (.tup [.ref pd, .ref wt]) = H9
          intro s9 htt9
          have s79 := s8.trans s9
          have hp9 := s79 _ _ hp6
          have kt9 : KT H9 (upd H9 p (.lst ((xs ++ ys ++ [V.non] ++ zs).set pt (.ref tt)))) := KT.lst hp9
          refine ⟨_, rfl, _, rfl, p, _, _, pt, rfl, rfl, hp9, ixN_at _ _ (by rw [List.length_append, List.length_append, lxy]; simp only [List.length_cons]; omega), ?_⟩
          have es : (xs ++ ys ++ [V.non] ++ zs).set pt (.ref tt) = xs ++ (ys ++ (.ref tt :: zs)) := by
            rw [List.append_assoc (xs ++ ys), List.set_append_right _ _ (by rw [lxy]; exact Nat.le_refl _), lxy, Nat.sub_self, List.append_assoc]
            rfl
          have ktz : KT H2 (upd H9 p (.lst ((xs ++ ys ++ [V.non] ++ zs).set pt (.ref tt)))) := ((kt25.trans kt6).trans (KT.of s79)).trans kt9
          refine ⟨_, _, _, _, _, _, _, ys ++ (.ref tt :: zs), rfl, (kb6.trans (KB.of s79)).trans KB.set, by rw [upd_same, es], ?_⟩
          rw [lay_step r f xs.length i d hd, hpt, haf, lay_rows, hbk]
          refine paired_app (pls_kt ktz hys2) (.cons ⟨tt, wt, .ref pd, rfl, kt9 _ _ htt9 (fun _ e => nomatch e), kt9 _ _ (s9 _ _ hwt8) (fun _ e => nomatch e), DAt_kt ktz d _ hdv2⟩ (pls_kt ((KT.of s79).trans kt9) hzs))
        | false =>
          refine iteT ?_
          have hrl : d.rows.length ≤ 2 := by
            cases d <;> simp [Dd.rows]
          refine ⟨_, rfl, .inl ⟨rfl, _, SqL.of hw6⟩, _, rfl, wl, _, _, rfl, rfl, hw6, by rw [numsV_len, wayL_len]; omega, ?_⟩
          have ew : numsV (wayL d.rows bk (pt + 1)) ++ [.int (af : Nat)] = numsV (d.ways af pt) := by
            rw [Dd.ways, hbk, hF, if_neg Bool.false_ne_true, numsV_app]
            rfl
          rw [ew]
          have kt7 : KT H6 (upd H6 wl (.lst (numsV (d.ways af pt)))) := KT.lst hw6
          have hw7 : (upd H6 wl (.lst (numsV (d.ways af pt)))) wl = some (.lst (numsV (d.ways af pt))) := upd_same
          have hp7 : (upd H6 wl (.lst (numsV (d.ways af pt)))) p = some (.lst (xs ++ ys ++ [.non] ++ zs)) := by rw [upd_ne (Ne.symm hwp)]; exact hp6
          have kb7 : KB p H (upd H6 wl (.lst (numsV (d.ways af pt)))) := fun a o na ha => by
            rw [upd_ne (ne_of_none ha nwH)]
            exact kb6 _ _ na ha
          have hzs7 := pls_kt kt7 hzs
          revert kt7 hw7 hp7 kb7 hzs7
          generalize upd H6 wl (.lst (numsV (d.ways af pt))) = H7
          intro kt7 hw7 hp7 kb7 hzs7
          refine ⟨_, rfl, _, rfl, wl, _, rfl, .inl ⟨SqL.of hw7, fun wt nwt => ?_⟩⟩
          have s8 : Same H7 (upd H7 wt (.tup (numsV (d.ways af pt)))) := Same.new nwt
          have hwt8 : (upd H7 wt (.tup (numsV (d.ways af pt)))) wt = some (.tup (numsV (d.ways af pt))) := upd_same
          revert s8 hwt8
          generalize upd H7 wt (.tup (numsV (d.ways af pt))) = H8
          intro s8 hwt8
          refine ⟨by show 2 ≤ sizeLine; decide, fun tt ntt => ?_⟩
          have s9 : Same H8 (upd H8 tt (.tup [.ref pd, .ref wt])) := Same.new ntt
          have htt9 : (upd H8 tt (.tup [.ref pd, .ref wt])) tt = some (.tup [.ref pd, .ref wt]) := upd_same
          revert s9 htt9
          generalize upd H8 tt (.tup [.ref pd, .ref wt]) = H9
          intro s9 htt9
          have s79 := s8.trans s9
          have hp9 := s79 _ _ hp7
          have kt9 : KT H9 (upd H9 p (.lst ((xs ++ ys ++ [V.non] ++ zs).set pt (.ref tt)))) := KT.lst hp9
          refine ⟨_, rfl, _, rfl, p, _, _, pt, rfl, rfl, hp9, ixN_at _ _ (by rw [List.length_append, List.length_append, lxy]; simp only [List.length_cons]; omega), ?_⟩
          have es : (xs ++ ys ++ [V.non] ++ zs).set pt (.ref tt) = xs ++ (ys ++ (.ref tt :: zs)) := by
            rw [List.append_assoc (xs ++ ys), List.set_append_right _ _ (by rw [lxy]; exact Nat.le_refl _), lxy, Nat.sub_self, List.append_assoc]
            rfl
          have ktz : KT H2 (upd H9 p (.lst ((xs ++ ys ++ [V.non] ++ zs).set pt (.ref tt)))) := ((kt25.trans (kt6.trans kt7)).trans (KT.of s79)).trans kt9
          refine ⟨_, _, _, _, _, _, _, ys ++ (.ref tt :: zs), rfl, (kb7.trans (KB.of s79)).trans KB.set, by rw [upd_same, es], ?_⟩
          rw [lay_step r f xs.length i d hd, hpt, haf, lay_rows, hbk]
          refine paired_app (pls_kt ktz hys2) (.cons ⟨tt, wt, .ref pd, rfl, kt9 _ _ htt9 (fun _ e => nomatch e), kt9 _ _ (s9 _ _ hwt8) (fun _ e => nomatch e), DAt_kt ktz d _ hdv2⟩ (pls_kt ((KT.of s79).trans kt9) hzs7))
    · rintro σ H1 ⟨x4, x5, x6, x7, x8, x9, x10, ys, rfl, kb1, hp1, hys⟩
      rw [hlen, List.take_length, List.take_of_length_le (by rw [layR_len]; exact Nat.le_refl _)] at hys
      exact k H1 ys kb1 hp1 hys
end
end Js

set_option Elab.async false
set_option linter.all false
set_option maxRecDepth 100000
set_option maxHeartbeats 2000000
/-! == of deeds, of rows of deeds -/
namespace Js
open PySem L2
noncomputable instance : DecidableEq Dd := Classical.typeDecidableEq Dd
def kindN : Dd → Nat
  | .told _ _ => 0
  | .take false _ _ => 1
  | .take true _ _ => 2
  | .two false _ _ _ => 3
  | .two true _ _ _ => 4
  | .wh _ _ => 5
  | .iff _ _ _ => 6
def kindI (x : Str) : Nat := (["told", "first", "second", "pair", "same", "while", "if"] : List Str).findIdx (· == x)
theorem kind_ix : ∀ d : Dd, kindI (kindOf d) = kindN d
  | .told _ _ => (by decide +kernel : kindI "told" = 0)
  | .take false _ _ => (by decide +kernel : kindI "first" = 1)
  | .take true _ _ => (by decide +kernel : kindI "second" = 2)
  | .two false _ _ _ => (by decide +kernel : kindI "pair" = 3)
  | .two true _ _ _ => (by decide +kernel : kindI "same" = 4)
  | .wh _ _ => (by decide +kernel : kindI "while" = 5)
  | .iff _ _ _ => (by decide +kernel : kindI "if" = 6)
theorem kind_eq {d e : Dd} (h : kindOf d = kindOf e) : kindN d = kindN e := by rw [← kind_ix, ← kind_ix, h]
section
variable {X : Cx} {pins : List (Addr × Obj)} {σ : L2.St} {H : Hp} {s : Shared} {C : Addr}
theorem DAt_kind (I : Inv X pins σ H s) {d e : Dd} {v : V} (h : DAt X.K C H v d) (g : DAt X.K C H v e) : kindN d = kindN e := by
  obtain ⟨p, its, rfl, h1, _⟩ := shape d h
  obtain ⟨p', its', e', g1, _⟩ := shape e g
  cases e'
  have := I.tuple_inj h1 g1
  simp only [List.cons.injEq, V.str.injEq] at this
  exact kind_eq this.1
mutual
theorem DAt_inj (I : Inv X pins σ H s) : ∀ (d e : Dd) (v : V), DAt X.K C H v d → DAt X.K C H v e → d = e
  | .told a t, e, v, h, g => by
    have hk := DAt_kind I h g
    cases e with
    | told b u =>
      obtain ⟨p, x, rfl, h1, h2, h3, h4⟩ := h
      obtain ⟨p', x', e', g1, g2, g3, g4⟩ := g
      cases e'
      have := I.tuple_inj h1 g1
      simp only [List.cons.injEq, V.int.injEq, V.ref.injEq, and_true, true_and] at this
      obtain ⟨ea, rfl⟩ := this
      cases Int.ofNat.inj ea
      rw [h3.inj g3]
    | take s _ _ => cases s <;> cases hk
    | two s _ _ _ => cases s <;> cases hk
    | wh _ _ => cases hk
    | iff _ _ _ => cases hk
  | .take k a b, e, v, h, g => by
    have hk := DAt_kind I h g
    cases e with
    | take s a' b' =>
      obtain ⟨p, rfl, h1, h2, h3⟩ := h
      obtain ⟨p', e', g1, g2, g3⟩ := g
      cases e'
      have := I.tuple_inj h1 g1
      simp only [List.cons.injEq, V.int.injEq, and_true] at this
      obtain ⟨_, ea, eb⟩ := this
      cases Int.ofNat.inj ea
      cases Int.ofNat.inj eb
      have : k = s := by cases k <;> cases s <;> first | rfl | cases hk
      rw [this]
    | told _ _ => cases k <;> cases hk
    | two s _ _ _ => cases k <;> cases s <;> cases hk
    | wh _ _ => cases k <;> cases hk
    | iff _ _ _ => cases k <;> cases hk
  | .two k a b c, e, v, h, g => by
    have hk := DAt_kind I h g
    cases e with
    | two s a' b' c' =>
      obtain ⟨p, rfl, h1, h2, h3, h4⟩ := h
      obtain ⟨p', e', g1, g2, g3, g4⟩ := g
      cases e'
      have := I.tuple_inj h1 g1
      simp only [List.cons.injEq, V.int.injEq, and_true] at this
      obtain ⟨_, ea, eb, ec⟩ := this
      cases Int.ofNat.inj ea
      cases Int.ofNat.inj eb
      cases Int.ofNat.inj ec
      have : k = s := by cases k <;> cases s <;> first | rfl | cases hk
      rw [this]
    | told _ _ => cases k <;> cases hk
    | take s _ _ => cases k <;> cases s <;> cases hk
    | wh _ _ => cases k <;> cases hk
    | iff _ _ _ => cases k <;> cases hk
  | .wh a r, e, v, h, g => by
    have hk := DAt_kind I h g
    cases e with
    | wh a' r' =>
      obtain ⟨p, q, vs, rfl, h1, h2, h3, h4⟩ := h
      obtain ⟨p', q', vs', e', g1, g2, g3, g4⟩ := g
      cases e'
      have := I.tuple_inj h1 g1
      simp only [List.cons.injEq, V.int.injEq, V.ref.injEq, and_true, true_and] at this
      obtain ⟨ea, rfl⟩ := this
      cases Int.ofNat.inj ea
      cases I.tuple_inj h3 g3
      rw [DsAt_inj I r r' vs h4 g4]
    | told _ _ => cases hk
    | take s _ _ => cases s <;> cases hk
    | two s _ _ _ => cases s <;> cases hk
    | iff _ _ _ => cases hk
  | .iff a r o, e, v, h, g => by
    have hk := DAt_kind I h g
    cases e with
    | iff a' r' o' =>
      obtain ⟨p, q, vs, q2, vs2, rfl, h1, h2, h3, h4, h5, h6⟩ := h
      obtain ⟨p', q', vs', q2', vs2', e', g1, g2, g3, g4, g5, g6⟩ := g
      cases e'
      have := I.tuple_inj h1 g1
      simp only [List.cons.injEq, V.int.injEq, V.ref.injEq, and_true, true_and] at this
      obtain ⟨ea, rfl, rfl⟩ := this
      cases Int.ofNat.inj ea
      cases I.tuple_inj h3 g3
      cases I.tuple_inj h5 g5
      rw [DsAt_inj I r r' vs h4 g4, DsAt_inj I o o' vs2 h6 g6]
    | told _ _ => cases hk
    | take s _ _ => cases s <;> cases hk
    | two s _ _ _ => cases s <;> cases hk
    | wh _ _ => cases hk
theorem DsAt_inj (I : Inv X pins σ H s) : ∀ (r u : List Dd) (vs : List V), DsAt X.K C H vs r → DsAt X.K C H vs u → r = u
  | [], u, vs, h, g => by
    have e : vs = [] := h
    subst e
    cases u with
    | nil => rfl
    | cons d u =>
      obtain ⟨v, us, e, _⟩ := g
      cases e
  | d :: r, u, vs, h, g => by
    obtain ⟨v, us, rfl, h1, h2⟩ := h
    cases u with
    | nil => cases (show v :: us = [] from g)
    | cons e u =>
      obtain ⟨v', us', e', g1, g2⟩ := g
      cases e'
      rw [DAt_inj I d e v h1 g1, DsAt_inj I r u us h2 g2]
end
theorem RAt_inj (I : Inv X pins σ H s) {q : Addr} {r u : List Dd} (h : RAt X.K C H q r) (g : RAt X.K C H q u) : r = u := by
  obtain ⟨vs, h1, h2⟩ := h
  obtain ⟨us, g1, g2⟩ := g
  cases I.tuple_inj h1 g1
  exact DsAt_inj I r u vs h2 g2
end
/-! what == tells -/
/-- rows of fewer than n floors -/
def TRow (K : PySem.W.Frag) (C : Addr) (n : Nat) : Tells := fun x y b H => ∃ q q2 r u, x = .ref q ∧ y = .ref q2 ∧ RAt K C H q r ∧ RAt K C H q2 u ∧ deepR r < n ∧ deepR u < n ∧ b = decide (r = u)
def TDd (K : PySem.W.Frag) (C : Addr) (n : Nat) : Tells := fun x y b H => ∃ d e, DAt K C H x d ∧ DAt K C H y e ∧ d.deep ≤ n ∧ e.deep ≤ n ∧ b = decide (d = e)
/-- the parts of a deed -/
def TPart (K : PySem.W.Frag) (C : Addr) (n : Nat) : Tells := fun x y b H => (TFlat x y b H ∨ DTh C x y b H) ∨ TRow K C n x y b H
theorem TRow_mon {K : PySem.W.Frag} {C : Addr} {n : Nat} : MonT (TRow K C n) := fun x y r H H' s d => by
  obtain ⟨q, q2, a, u, e1, e2, h1, h2, h3, h4, e3⟩ := d
  exact ⟨q, q2, a, u, e1, e2, h1.same s, h2.same s, h3, h4, e3⟩
theorem TDd_mon {K : PySem.W.Frag} {C : Addr} {n : Nat} : MonT (TDd K C n) := fun x y r H H' s d => by
  obtain ⟨a, u, h1, h2, h3, h4, e3⟩ := d
  exact ⟨a, u, DAt_kt (KT.of s) _ _ h1, DAt_kt (KT.of s) _ _ h2, h3, h4, e3⟩
theorem DThM {C : Addr} : MonT (DTh C) := fun x y r H H' s d => by
  obtain ⟨a, b, t, u, e1, e2, ha, hb, hz, e3⟩ := d
  exact ⟨a, b, t, u, e1, e2, ha.same s, hb.same s, hz, e3⟩
theorem TPart_mon {K : PySem.W.Frag} {C : Addr} {n : Nat} : MonT (TPart K C n) := fun x y r H H' s d => by
  rcases d with (d | d) | d
  · exact .inl (.inl d)
  · exact .inl (.inr (DThM _ _ _ _ _ s d))
  · exact .inr (TRow_mon _ _ _ _ _ s d)
theorem eqT_thing {X : Cx} {C : Addr} (S : Spc X.prog X.w X.K X.mg X.base C "__eq__" 2 ["self", "other"] (spEqT C)) : EqT X 2 (DTh C) := by
  obtain ⟨f, fd, ow, F, hb⟩ := S
  refine eqT_own ow F hb (pass0) fun x y r H d => ?_
  obtain ⟨a, b, t, u, rfl, rfl, ha, hb', hz, rfl⟩ := d
  obtain ⟨dx, f1, g1, h1⟩ := ha.obj
  obtain ⟨dy, f2, g2, h2⟩ := hb'.obj
  refine ⟨a, b, dx, dy, _, _, rfl, rfl, h1, h2, fun e => ?_, a, b, t, u, rfl, ha, hb', hz, fun H' s => ⟨_, rfl, rfl, s⟩⟩
  subst e
  exact decide_eq_true (ha.inj hb')
theorem flat_i {H : Hp} (a b : Nat) : TFlat (.int (a : Nat)) (.int (b : Nat)) (decide (a = b)) H := ⟨rfl, rfl, by
  show (((a : Nat) : Int) == ((b : Nat) : Int)) = decide (a = b)
  by_cases h : a = b
  · subst h; simp
  · rw [decide_eq_false h]
    exact beq_eq_false_iff_ne.mpr (by omega)⟩
theorem flat_s {H : Hp} (a b : Str) : TFlat (.str a) (.str b) (decide (a = b)) H := ⟨rfl, rfl, by
  show (a == b) = decide (a = b)
  by_cases h : a = b
  · subst h; simp
  · rw [decide_eq_false h]
    exact beq_eq_false_iff_ne.mpr h⟩
theorem prs_nil {D : Tells} {H : Hp} : PrsT D [] [] [] H := ⟨rfl, fun i x y b h1 _ _ _ => by simp at h1⟩
theorem prs_cons {D : Tells} {H : Hp} {x y : V} {b : Bool} {xs ys : List V} {bs : List Bool} (h : D x y b H) (t : b = true → PrsT D xs ys bs H) (hl : bs.length = min xs.length ys.length) : PrsT D (x :: xs) (y :: ys) (b :: bs) H := by
  refine ⟨by rw [List.length_cons, List.length_cons, List.length_cons, hl]; omega, fun i u v c h1 h2 h3 h4 => ?_⟩
  cases i with
  | zero =>
    cases Option.some.inj h1
    cases Option.some.inj h2
    cases Option.some.inj h3
    exact h
  | succ i =>
    rw [List.take_succ_cons, List.all_cons] at h4
    have hb : b = true := by
      cases b
      · cases h4
      · rfl
    subst hb
    exact (t rfl).2 i u v c h1 h2 h3 (by simpa using h4)
theorem tells_cons (x y : V) (xs ys : List V) (b : Bool) (bs : List Bool) : tells (x :: xs) (y :: ys) (b :: bs) = (b && tells xs ys bs) := by
  unfold tells
  simp only [List.length_cons, List.all_cons, id, Nat.add_right_cancel_iff]
  cases b <;> simp
theorem tells_nil : tells [] [] [] = true := rfl
/-- unlike kinds: the first word tells -/
theorem prs_kind {K : PySem.W.Frag} {C : Addr} {n : Nat} {H : Hp} {a b : Str} {xs ys : List V} (h : a ≠ b) : PrsT (TPart K C n) (.str a :: xs) (.str b :: ys) (false :: List.replicate (min xs.length ys.length) false) H :=
  prs_cons (.inl (.inl (by rw [← decide_eq_false h]; exact flat_s a b))) (fun z => by cases z) (by rw [List.length_replicate])
theorem kind_ne {d e : Dd} (h : kindOf d ≠ kindOf e) : decide (d = e) = false := decide_eq_false fun z => h (by rw [z])
/-- two deeds that stand, part by part -/
theorem deeds_prs {K : PySem.W.Frag} {C : Addr} {n : Nat} {H : Hp} {x y : V} {d e : Dd} (h : DAt K C H x d) (g : DAt K C H y e) (hd : d.deep ≤ n) (he : e.deep ≤ n) :
    ∃ p q xs ys bs, x = .ref p ∧ y = .ref q ∧ SqT K H p xs ∧ SqT K H q ys ∧ PrsT (TPart K C n) xs ys bs H ∧ tells xs ys bs = decide (d = e) := by
  by_cases hk : kindOf d = kindOf e
  · have hn := kind_eq hk
    have fi : ∀ a b : Nat, TPart K C n (.int (a : Nat)) (.int (b : Nat)) (decide (a = b)) H := fun a b => .inl (.inl (flat_i a b))
    have fs : TPart K C n (.str (kindOf d)) (.str (kindOf e)) true H := .inl (.inl (by rw [hk]; have := flat_s (H := H) (kindOf e) (kindOf e); rwa [decide_eq_true rfl] at this))
    cases d with
    | told a t =>
      cases e with
      | told b u =>
        obtain ⟨p, x1, rfl, h1, h2, h3, h4⟩ := h
        obtain ⟨q, y1, rfl, g1, g2, g3, g4⟩ := g
        refine ⟨p, q, _, _, [true, decide (a = b), decide (t = u)], rfl, rfl, h1, g1, prs_cons fs (fun _ => prs_cons (fi a b) (fun _ => prs_cons (.inl (.inr ⟨x1, y1, t, u, rfl, rfl, h3, g3, h4, rfl⟩)) (fun _ => prs_nil) rfl) rfl) rfl, ?_⟩
        rw [tells_cons, tells_cons, tells_cons, tells_nil]
        by_cases e1 : a = b <;> by_cases e2 : t = u <;> simp [e1, e2]
      | take s _ _ => cases s <;> cases hn
      | two s _ _ _ => cases s <;> cases hn
      | wh _ _ => cases hn
      | iff _ _ _ => cases hn
    | take k a b =>
      cases e with
      | take s a' b' =>
        obtain ⟨p, rfl, h1, h2, h3⟩ := h
        obtain ⟨q, rfl, g1, g2, g3⟩ := g
        have eks : k = s := by cases k <;> cases s <;> first | rfl | cases hn
        subst eks
        refine ⟨p, q, _, _, [true, decide (a = a'), decide (b = b')], rfl, rfl, h1, g1, prs_cons fs (fun _ => prs_cons (fi a a') (fun _ => prs_cons (fi b b') (fun _ => prs_nil) rfl) rfl) rfl, ?_⟩
        rw [tells_cons, tells_cons, tells_cons, tells_nil]
        by_cases e1 : a = a' <;> by_cases e2 : b = b' <;> simp [e1, e2]
      | told _ _ => cases k <;> cases hn
      | two s _ _ _ => cases k <;> cases s <;> cases hn
      | wh _ _ => cases k <;> cases hn
      | iff _ _ _ => cases k <;> cases hn
    | two k a b c =>
      cases e with
      | two s a' b' c' =>
        obtain ⟨p, rfl, h1, h2, h3, h4⟩ := h
        obtain ⟨q, rfl, g1, g2, g3, g4⟩ := g
        have eks : k = s := by cases k <;> cases s <;> first | rfl | cases hn
        subst eks
        refine ⟨p, q, _, _, [true, decide (a = a'), decide (b = b'), decide (c = c')], rfl, rfl, h1, g1, prs_cons fs (fun _ => prs_cons (fi a a') (fun _ => prs_cons (fi b b') (fun _ => prs_cons (fi c c') (fun _ => prs_nil) rfl) rfl) rfl) rfl, ?_⟩
        rw [tells_cons, tells_cons, tells_cons, tells_cons, tells_nil]
        by_cases e1 : a = a' <;> by_cases e2 : b = b' <;> by_cases e3 : c = c' <;> simp [e1, e2, e3]
      | told _ _ => cases k <;> cases hn
      | take s _ _ => cases k <;> cases s <;> cases hn
      | wh _ _ => cases k <;> cases hn
      | iff _ _ _ => cases k <;> cases hn
    | wh a r =>
      cases e with
      | wh a' r' =>
        obtain ⟨p, q1, vs, rfl, h1, h2, h3, h4⟩ := h
        obtain ⟨q, q2, us, rfl, g1, g2, g3, g4⟩ := g
        rw [Dd.deep] at hd he
        refine ⟨p, q, _, _, [true, decide (a = a'), decide (r = r')], rfl, rfl, h1, g1, prs_cons fs (fun _ => prs_cons (fi a a') (fun _ => prs_cons (.inr ⟨q1, q2, r, r', rfl, rfl, ⟨vs, h3, h4⟩, ⟨us, g3, g4⟩, by omega, by omega, rfl⟩) (fun _ => prs_nil) rfl) rfl) rfl, ?_⟩
        rw [tells_cons, tells_cons, tells_cons, tells_nil]
        by_cases e1 : a = a' <;> by_cases e2 : r = r' <;> simp [e1, e2]
      | told _ _ => cases hn
      | take s _ _ => cases s <;> cases hn
      | two s _ _ _ => cases s <;> cases hn
      | iff _ _ _ => cases hn
    | iff a r o =>
      cases e with
      | iff a' r' o' =>
        obtain ⟨p, q1, vs, q3, vs3, rfl, h1, h2, h3, h4, h5, h6⟩ := h
        obtain ⟨q, q2, us, q4, us4, rfl, g1, g2, g3, g4, g5, g6⟩ := g
        rw [Dd.deep] at hd he
        refine ⟨p, q, _, _, [true, decide (a = a'), decide (r = r'), decide (o = o')], rfl, rfl, h1, g1, prs_cons fs (fun _ => prs_cons (fi a a') (fun _ => prs_cons (.inr ⟨q1, q2, r, r', rfl, rfl, ⟨vs, h3, h4⟩, ⟨us, g3, g4⟩, by omega, by omega, rfl⟩) (fun _ => prs_cons (.inr ⟨q3, q4, o, o', rfl, rfl, ⟨vs3, h5, h6⟩, ⟨us4, g5, g6⟩, by omega, by omega, rfl⟩) (fun _ => prs_nil) rfl) rfl) rfl) rfl, ?_⟩
        rw [tells_cons, tells_cons, tells_cons, tells_cons, tells_nil]
        by_cases e1 : a = a' <;> by_cases e2 : r = r' <;> by_cases e3 : o = o' <;> simp [e1, e2, e3]
      | told _ _ => cases hn
      | take s _ _ => cases s <;> cases hn
      | two s _ _ _ => cases s <;> cases hn
      | wh _ _ => cases hn
  · obtain ⟨p, xs, rfl, h1, _⟩ := shape d h
    obtain ⟨q, ys, rfl, g1, _⟩ := shape e g
    refine ⟨p, q, _, _, _, rfl, rfl, h1, g1, prs_kind hk, ?_⟩
    rw [tells_cons, kind_ne hk]
    rfl
theorem rows_prs {K : PySem.W.Frag} {C : Addr} {n : Nat} {H : Hp} : ∀ (r u : List Dd) (xs ys : List V), DsAt K C H xs r → DsAt K C H ys u → deepR r ≤ n → deepR u ≤ n → ∃ bs, PrsT (TDd K C n) xs ys bs H ∧ tells xs ys bs = decide (r = u)
  | [], [], xs, ys, h, g, _, _ => by
    have e1 : xs = [] := h
    have e2 : ys = [] := g
    subst e1 e2
    exact ⟨[], prs_nil, by rw [tells_nil, decide_eq_true rfl]⟩
  | [], e :: u, xs, ys, h, g, _, _ => by
    have e1 : xs = [] := h
    obtain ⟨v, us, rfl, _⟩ := g
    subst e1
    exact ⟨[], ⟨by simp, fun i x y b h1 _ _ _ => by simp at h1⟩, by rw [decide_eq_false (by simp)]; rfl⟩
  | d :: r, [], xs, ys, h, g, _, _ => by
    have e2 : ys = [] := g
    obtain ⟨v, us, rfl, _⟩ := h
    subst e2
    exact ⟨[], ⟨by simp, fun i x y b _ h2 _ _ => by simp at h2⟩, by rw [decide_eq_false (by simp)]; rfl⟩
  | d :: r, e :: u, xs, ys, h, g, hr, hu => by
    obtain ⟨v, vs, rfl, h1, h2⟩ := h
    obtain ⟨v', us, rfl, g1, g2⟩ := g
    rw [deepR] at hr hu
    have m1 := Nat.le_max_left d.deep (deepR r)
    have m2 := Nat.le_max_right d.deep (deepR r)
    have m3 := Nat.le_max_left e.deep (deepR u)
    have m4 := Nat.le_max_right e.deep (deepR u)
    obtain ⟨bs, p, t⟩ := rows_prs (n := n) r u vs us h2 g2 (by omega) (by omega)
    refine ⟨decide (d = e) :: bs, prs_cons ⟨d, e, h1, g1, by omega, by omega, rfl⟩ (fun _ => p) p.1, ?_⟩
    rw [tells_cons, t]
    by_cases e1 : d = e <;> by_cases e2 : r = u <;> simp [e1, e2]
section
variable {X : Cx} {C : Addr}
/-- == of rows, of deeds, of their parts -/
theorem eqT_rows (S : Spc X.prog X.w X.K X.mg X.base C "__eq__" 2 ["self", "other"] (spEqT C)) : ∀ n, EqT X (2 * n + 2) (TRow X.K C n) ∧ RcT X .Eq id (2 * n + 2) (TRow X.K C n) ∧ RcT X .NotEq not (2 * n + 2) (TRow X.K C n) := by
  intro n
  induction n with
  | zero =>
    refine ⟨fun A pins s σ H x y u v r sb I rx ry d => ?_, fun A pins s σ H x y u v r sb I rx ry d => ?_, fun A pins s σ H x y u v r sb I rx ry d => ?_⟩ <;>
    · obtain ⟨q, q2, a, b, _, _, _, _, h, _⟩ := d
      exact absurd h (Nat.not_lt_zero _)
  | succ n ih =>
    have hp : EqT X (2 * n + 2) (TPart X.K C n) := ((eqT_flat.mono (Nat.zero_le _)).or ((eqT_thing S).mono (by omega))).or ih.1
    have hd1 : EqT X (2 * n + 3) (TDd X.K C n) := by
      refine EqT.imp (D := fun x y b H => TTup X.K (TPart X.K C n) x y b H ∧ TDd X.K C n x y b H) ?_ (fun x y b H d => ?_)
      · refine RcT.eqT (fun A pins s σ H x y u v r sb I rx ry d => rcT_tup_eq TPart_mon hp A pins s σ H x y u v r sb I rx ry d.1) (fun x y r H d => ?_) fun pins s σ H x r I d => ?_
        · obtain ⟨a, b, _, _, _, hx, hy, _⟩ := d.1
          exact ⟨a, b, hx, hy⟩
        · obtain ⟨_, d, e, h1, h2, _, _, rfl⟩ := d
          exact decide_eq_true (DAt_inj I d e x h1 h2)
      · obtain ⟨d', e, h, g, hd, he, rfl⟩ := id d
        obtain ⟨p, q, xs, ys, bs, ex, ey, h1, h2, h3, h4⟩ := deeds_prs h g hd he
        exact ⟨⟨p, q, xs, ys, bs, ex, ey, h1, h2, h3, h4.symm⟩, d⟩
    have tt : ∀ x y b H, TRow X.K C (n + 1) x y b H → TTup X.K (TDd X.K C n) x y b H := by
      intro x y b H d
      obtain ⟨q, q2, r, u, ex, ey, ⟨vs, h1, h2⟩, ⟨us, g1, g2⟩, h3, h4, rfl⟩ := d
      obtain ⟨bs, p, t⟩ := rows_prs r u vs us h2 g2 (Nat.lt_succ_iff.mp h3) (Nat.lt_succ_iff.mp h4)
      exact ⟨q, q2, vs, us, bs, ex, ey, h1, g1, p, t.symm⟩
    have r1 : RcT X .Eq id (2 * (n + 1) + 2) (TRow X.K C (n + 1)) := fun A pins s σ H x y u v r sb I rx ry d => rcT_tup_eq TDd_mon hd1 A pins s σ H x y u v r sb I rx ry (tt _ _ _ _ d)
    have r2 : RcT X .NotEq not (2 * (n + 1) + 2) (TRow X.K C (n + 1)) := fun A pins s σ H x y u v r sb I rx ry d => rcT_tup_ne TDd_mon hd1 A pins s σ H x y u v r sb I rx ry (tt _ _ _ _ d)
    refine ⟨RcT.eqT r1 (fun x y r H d => ?_) fun pins s σ H x r I d => ?_, r1, r2⟩
    · obtain ⟨q, q2, _, _, ex, ey, _⟩ := d
      exact ⟨q, q2, ex, ey⟩
    · obtain ⟨q, q2, a, b, ex, ey, h1, h2, _, _, rfl⟩ := d
      cases ex
      cases ey
      exact decide_eq_true (RAt_inj I h1 h2)
end
end Js

set_option Elab.async false
set_option linter.all false
set_option maxRecDepth 100000
set_option maxHeartbeats 2000000
namespace Js
open PySem L2
abbrev sPInit : Stmt := inClass (top 17) 0
abbrev sPLen : Stmt := inClass (top 17) 2
abbrev sPEq : Stmt := inClass (top 17) 3
theorem n_dp : ¬ (("deeds" : Str) = "plan") := by decide +kernel
theorem n_pd : ¬ (("plan" : Str) = "deeds") := by decide +kernel
def pf (q pl : Addr) : List (Str × V) := putF "plan" (.ref pl) (putF "deeds" (.ref q) [])
theorem pf_deeds (q pl : Addr) : (pf q pl).lookup ("deeds" : Str) = some (.ref q) := by
  unfold pf
  rw [lookup_putF, if_neg n_dp, lookup_putF, if_pos rfl]
theorem pf_plan (q pl : Addr) : (pf q pl).lookup ("plan" : Str) = some (.ref pl) := by
  unfold pf
  rw [lookup_putF, if_pos rfl]
/-- tuples and things stay -/
structure Fr (H H' : Hp) : Prop where
  t : ∀ a xs, H a = some (.tup xs) → H' a = some (.tup xs)
  z : ∀ a o xs, H a = some (.frz o (.tup xs)) → H' a = some (.frz o (.tup xs))
  i : ∀ a C dx f s n, H a = some (.ins C dx (tf f s n)) → H' a = some (.ins C dx (tf f s n))
theorem Fr.kb {H H' : Hp} {p D dx : Addr} (hp : H p = some (.ins D dx [])) (k : KB p H H') : Fr H H' :=
  ⟨fun a xs h => k _ _ (fun z => by rw [z, hp] at h; cases h) h, fun a o xs h => k _ _ (fun z => by rw [z, hp] at h; cases h) h, fun a C dx f s n h => k _ _ (fun z => by
    rw [z, hp] at h
    have e := Option.some.inj h
    injection e with _ _ e3
    have := tf_size f s n
    rw [← e3] at this
    cases this) h⟩
theorem Th.fr {C : Addr} {H H' : Hp} (k : Fr H H') {a : Addr} {t : Tr} (h : Th C H a t) : Th C H' a t := by
  induction h with
  | nil h => exact .nil (k.i _ _ _ _ _ _ h)
  | pr h _ _ ih1 ih2 => exact .pr (k.i _ _ _ _ _ _ h) ih1 ih2
theorem sqt_fr {K : PySem.W.Frag} {H H' : Hp} (k : Fr H H') {a : Addr} {xs : List V} (h : SqT K H a xs) : SqT K H' a xs :=
  h.elim (fun h => .inl (h.elim (fun h => .inl (k.t _ _ h)) fun ⟨o, h⟩ => .inr ⟨o, k.z _ _ _ h⟩)) fun h => .inr h
mutual
theorem DAt_fr {K : PySem.W.Frag} {C : Addr} {H H' : Hp} (k : Fr H H') : ∀ (d : Dd) (v : V), DAt K C H v d → DAt K C H' v d
  | .told a t, v, h => by
    obtain ⟨p, x, e, h1, h2, h3, h4⟩ := h
    exact ⟨p, x, e, sqt_fr k h1, h2, h3.fr k, h4⟩
  | .take s a b, v, h => by
    obtain ⟨p, e, h1, h2⟩ := h
    exact ⟨p, e, sqt_fr k h1, h2⟩
  | .two s a b c, v, h => by
    obtain ⟨p, e, h1, h2⟩ := h
    exact ⟨p, e, sqt_fr k h1, h2⟩
  | .wh a r, v, h => by
    obtain ⟨p, q, vs, e, h1, h2, h3, h4⟩ := h
    exact ⟨p, q, vs, e, sqt_fr k h1, h2, sqt_fr k h3, DsAt_fr k r vs h4⟩
  | .iff a r o, v, h => by
    obtain ⟨p, q, vs, q2, vs2, e, h1, h2, h3, h4, h5, h6⟩ := h
    exact ⟨p, q, vs, q2, vs2, e, sqt_fr k h1, h2, sqt_fr k h3, DsAt_fr k r vs h4, sqt_fr k h5, DsAt_fr k o vs2 h6⟩
theorem DsAt_fr {K : PySem.W.Frag} {C : Addr} {H H' : Hp} (k : Fr H H') : ∀ (r : List Dd) (vs : List V), DsAt K C H vs r → DsAt K C H' vs r
  | [], vs, h => h
  | d :: r, vs, h => by
    obtain ⟨v, us, e, h1, h2⟩ := h
    exact ⟨v, us, e, DAt_fr k d v h1, DsAt_fr k r us h2⟩
end
theorem RAt.fr {K : PySem.W.Frag} {C : Addr} {H H' : Hp} (k : Fr H H') {q : Addr} {r : List Dd} (h : RAt K C H q r) : RAt K C H' q r := by
  obtain ⟨vs, h1, h2⟩ := h
  exact ⟨vs, sqt_fr k h1, DsAt_fr k r vs h2⟩
theorem pls_fr {K : PySem.W.Frag} {C : Addr} {H H' : Hp} (k : Fr H H') : ∀ {ys : List V} {ps : List (Dd × List Nat)}, Paired (PlE K C H) ys ps → Paired (PlE K C H') ys ps
  | _, _, .nil => .nil
  | _, _, .cons ⟨t, wv, dv, e, h1, h2, h3⟩ u => .cons ⟨t, wv, dv, e, k.t _ _ h1, k.t _ _ h2, DAt_fr k _ _ h3⟩ (pls_fr k u)
/-- what the text says of Program -/
structure TxtP (K : PySem.W.Frag) (mg : Str → Option Value) (CP : Addr) : Prop where
  cl : Cls K CP
  nD : NoAttr K CP "deeds"
  nP : NoAttr K CP "plan"
  mgP : mg "Program" = some (.ref CP)
  ca : PySem.W.findIn K (.ref CP) "__class__" = some (some (.builtin "object.__class__"))
  cn : PySem.W.specialIn K (.builtin "object.__class__") "__get__" = some (some (.builtin "getset_descriptor.__get__"))
  ct : PySem.W.takesIn K (.builtin "object.__class__") = some true
  cm : PySem.W.mroIn K CP (.type "object") = some true
  ne : PySem.W.findIn K (.ref CP) "__ne__" = some (some (.builtin "object.__ne__"))
/-- a program stands at a -/
structure PgAt (K : PySem.W.Frag) (C CP : Addr) (H : Hp) (a : Addr) (r : List Dd) : Prop where
  ex : ∃ dx q pl ys, H a = some (.ins CP dx (pf q pl)) ∧ RAt K C H q r ∧ H pl = some (.tup ys) ∧ Paired (PlE K C H) ys (layR r (manyR r) 0)
  dp : deepR r ≤ 8
  mn : manyR r ≤ 4000
theorem PgAt.kt {K : PySem.W.Frag} {C CP : Addr} {H H' : Hp} (k : KT H H') {a : Addr} {r : List Dd} (h : PgAt K C CP H a r) : PgAt K C CP H' a r := by
  obtain ⟨dx, q, pl, ys, h1, h2, h3, h4⟩ := h.ex
  exact ⟨⟨dx, q, pl, ys, k _ _ h1 (fun _ e => nomatch e), h2.kt k, k _ _ h3 (fun _ e => nomatch e), pls_kt k h4⟩, h.dp, h.mn⟩
theorem PgAt.same {K : PySem.W.Frag} {C CP : Addr} {H H' : Hp} (s : Same H H') {a : Addr} {r : List Dd} (h : PgAt K C CP H a r) : PgAt K C CP H' a r := h.kt (KT.of s)
def spPInit (K : PySem.W.Frag) (C CP : Addr) : Sp := fun vs H Q _ => ∃ (p dx q : Addr) (r : List Dd), vs = [.ref p, .ref q] ∧ H p = some (.ins CP dx []) ∧ RAt K C H q r ∧ deepR r ≤ 8 ∧ manyR r ≤ 4000 ∧
  ∀ pl ys H', KB p H H' → H' p = some (.ins CP dx (pf q pl)) → H' pl = some (.tup ys) → RAt K C H' q r → Paired (PlE K C H') ys (layR r (manyR r) 0) → Q .non H'
def spPLen (K : PySem.W.Frag) (C CP : Addr) : Sp := fun vs H Q _ => ∃ a r, vs = [.ref a] ∧ PgAt K C CP H a r ∧ Q (.int ((manyR r : Nat) : Int)) H
def spPEq (K : PySem.W.Frag) (C CP : Addr) : Sp := fun vs H Q _ => ∃ a b r u, vs = [.ref a, .ref b] ∧ PgAt K C CP H a r ∧ PgAt K C CP H b u ∧ ∀ H', Same H H' → Q (.bl (decide (r = u))) H'
section
variable {P : Program} {w : World} {K : PySem.W.Frag} {mg : Str → Option Value} {base : Heap} {C CP : Addr}
theorem scPI : FnScope ["self", "deeds", "ends", "plan"] ["self", "deeds"] (defScope sPInit) := ⟨rfl, rfl, rfl, by decide +kernel, rfl, by decide +kernel, by decide +kernel⟩
theorem ok_pinit {f : Addr} {fd : FuncData} (F : Fun K "__init__" "Program.__init__" sPInit f fd) (B : Blt mg) (T : Txt K mg C) (G : FrmC K w mg) (TP : TxtP K mg CP) (DL : Def P w K mg base "look_through" 13 ["row", "floors", "ends"] (spLook K C 9)) (DY : Def P w K mg base "lay_out" 11 ["row", "behind", "ends", "plan"] (spLay K C 9)) : FnOk P w K mg base CX0 14 f fd ["self", "deeds"] (spPInit K C CP) := by
  refine F.ok scPI (fun vs H Q E h => ?_) (fun cdv A outer s H vs Q E hr h => ?_)
  · obtain ⟨p, dx, q, r, rfl, _⟩ := h
    rfl
  · obtain ⟨p, dx, q, r, rfl, hp, hq, hd, hm, k⟩ := h
    have hr11 : Room 11 _ := hr.mono (by decide)
    refine ⟨_, PSs.nox (pss_cons (ps_if (pt_not (pt_val (pe_callB (r := rIsi K) call_isi (by rfl) T.isi PyProof.Rows.boot_isinstance (pa_cons (pv 1) (pa_cons (pe_bltn (v := .ty "tuple") rfl G.mt PyProof.Rows.boot_tuple rfl) pa_nil))))) (pss_one ps_never) pss_nil) (pss_cons (ps_set (i := 2) scPI.nd rfl (Or.inl rfl) (pe_lst pa_nil)) (pss_cons (ps_expr (pe_def DL hr rfl (pa_cons (pv 1) (pa_cons pe_int (pa_cons (pv 2) pa_nil))))) (pss_cons (ps_set (i := 3) scPI.nd rfl (Or.inl rfl) (pe_lst pa_nil)) (pss_cons (ps_expr (pe_def DY hr11 rfl (pa_cons (pv 1) (pa_cons (pe_callB call_len_seq (by rfl) B.len PySem.boot_len (pa_cons (pv 2) pa_nil)) (pa_cons (pv 2) (pa_cons (pv 3) pa_nil)))))) (pss_cons (ps_fld (pv 0) (pv 1) rfl) (pss_one (ps_fld (pv 0) (pe_callTy call_tuple_of (by rfl) G.mt PyProof.Rows.boot_tuple (pa_cons (pv 3) pa_nil)) rfl)))))))), ?_⟩
    have hsl := line4
    obtain ⟨vs, hqv, hvs⟩ := id hq
    refine ⟨_, rfl, _, _, _, _, true, rfl, .ty "tuple", sqt_ty hqv, G.tt, _, rfl, iteF ?_⟩
    refine ⟨Nat.zero_le _, fun e ne => ?_⟩
    have s1 : Same H (upd H e (.lst [])) := Same.new ne
    have he1 : (upd H e (.lst [])) e = some (.lst (numsV [])) := upd_same
    revert s1 he1
    generalize upd H e (.lst []) = H1
    intro s1 he1
    refine ⟨_, rfl, _, rfl, q, e, 0, r, [], rfl, hq.same s1, by omega, by omega, he1, by simpa using hm, fun H2 kb2 he2 => ?_⟩
    rw [List.nil_append] at he2
    have kt2 : KT H1 H2 := kb2.kt he1
    have hep : e ≠ p := fun z => by rw [z, hp] at ne; cases ne
    refine ⟨Nat.zero_le _, fun pn npn => ?_⟩
    have s3 : Same H2 (upd H2 pn (.lst [])) := Same.new npn
    have hpn3 : (upd H2 pn (.lst [])) pn = some (.lst []) := upd_same
    have hpe : e ≠ pn := fun z => by rw [← z, he2] at npn; cases npn
    have hpp : pn ≠ p := fun z => by
      have : H2 p = some (.ins CP dx []) := kb2 _ _ (Ne.symm hep) (s1 _ _ hp)
      rw [z, this] at npn
      cases npn
    revert s3 hpn3
    generalize upd H2 pn (.lst []) = H3
    intro s3 hpn3
    have he3 := s3 _ _ he2
    have hq3 : RAt K C H3 q r := ((hq.same s1).kt kt2).same s3
    refine ⟨_, rfl, _, rfl, e, _, rfl, .inl (SqL.of he3), ?_⟩
    rw [numsV_len, endsR_len]
    refine ⟨_, rfl, _, rfl, q, e, pn, manyR r, r, endsR r 0, [], rfl, hq3, by omega, he3, Pre.whole _, hpn3, hpe, by simpa using hm, fun H4 ys kb4 hp4 hys => ?_⟩
    rw [List.nil_append] at hp4
    have kt4 : KT H3 H4 := kb4.kt hpn3
    have hpz : H4 p = some (.ins CP dx []) := kb4 _ _ (Ne.symm hpp) (s3 _ _ (kb2 _ _ (Ne.symm hep) (s1 _ _ hp)))
    refine ⟨_, rfl, _, rfl, p, CP, dx, [], rfl, hpz, TP.cl, TP.nD, (by show 0 < 1000; decide), ?_⟩
    have hp5 : (upd H4 p (.ins CP dx (putF "deeds" (.ref q) []))) pn = some (.lst ys) := by rw [upd_ne hpp]; exact hp4
    refine ⟨_, rfl, pn, _, rfl, .inl ⟨SqL.of hp5, fun pl npl => ?_⟩⟩
    have hplp : pl ≠ p := fun z => by rw [z, upd_same] at npl; cases npl
    refine ⟨_, rfl, p, CP, dx, _, rfl, by rw [upd_ne (Ne.symm hplp)]; exact upd_same, TP.cl, TP.nP, Nat.lt_of_le_of_lt (length_putF _ _ _) (by show 0 + 1 < 1000; decide), ?_⟩
    have kbz : KB p H4 (upd (upd (upd H4 p (.ins CP dx (putF "deeds" (.ref q) []))) pl (.tup ys)) p (.ins CP dx (pf q pl))) := fun a o na ha => by
      have npl4 : H4 pl = none := by
        rw [upd_ne hplp] at npl
        exact npl
      rw [upd_ne na, upd_ne (ne_of_none ha npl4), upd_ne na]
      exact ha
    have kbH : KB p H H4 := fun a o na ha => by
      have nae : a ≠ e := ne_of_none ha ne
      have h2 := kb2 _ _ nae (s1 _ _ ha)
      have nan : a ≠ pn := ne_of_none h2 npn
      exact kb4 _ _ nan (s3 _ _ h2)
    have fr := Fr.kb hpz kbz
    refine k pl ys _ (kbH.trans kbz) ?_ ?_ ((hq3.kt kt4).fr fr) (pls_fr fr hys)
    · exact upd_same
    · rw [upd_ne hplp, upd_same]
theorem scPL : FnScope ["self"] ["self"] (defScope sPLen) := ⟨rfl, rfl, rfl, by decide +kernel, rfl, by decide +kernel, by decide +kernel⟩
theorem ok_plen {f : Addr} {fd : FuncData} (F : Fun K "__len__" "Program.__len__" sPLen f fd) (B : Blt mg) (TP : TxtP K mg CP) : FnOk P w K mg base CX0 1 f fd ["self"] (spPLen K C CP) := by
  refine F.ok scPL (fun vs H Q E h => ?_) (fun cdv A outer s H vs Q E hr h => ?_)
  · obtain ⟨a, r, rfl, _⟩ := h
    rfl
  · obtain ⟨a, r, rfl, ha, k⟩ := h
    refine ⟨_, pss_one (ps_ret (pe_callB call_len_seq (by rfl) B.len PySem.boot_len (pa_cons (pe_fld (pv 0) rfl) pa_nil))), ?_⟩
    obtain ⟨dx, q, pl, ys, h1, h2, h3, h4⟩ := ha.ex
    refine ⟨_, rfl, _, _, _, _, _, rfl, h1, TP.cl, TP.nP, pf_plan _ _, pl, ys, rfl, .inr (SqT.of h3), ?_⟩
    rw [Paired.length h4, layR_len]
    exact k
theorem scPE : FnScope ["self", "other"] ["self", "other"] (defScope sPEq) := ⟨rfl, rfl, rfl, by decide +kernel, rfl, by decide +kernel, by decide +kernel⟩
theorem ok_peq {f : Addr} {fd : FuncData} (F : Fun K "__eq__" "Program.__eq__" sPEq f fd) (T : Txt K mg C) (TP : TxtP K mg CP) (SE : Spc P w K mg base C "__eq__" 2 ["self", "other"] (spEqT C)) : FnOk P w K mg base CX0 21 f fd ["self", "other"] (spPEq K C CP) := by
  refine F.ok scPE (fun vs H Q E h => ?_) (fun cdv A outer s H vs Q E hr h => ?_)
  · obtain ⟨a, b, r, u, rfl, _⟩ := h
    rfl
  · obtain ⟨a, b, r, u, rfl, ha, hb, k⟩ := h
    refine ⟨_, pss_one (ps_ret (pe_and (pe_callB (r := rIsi K) call_isi (by rfl) T.isi PyProof.Rows.boot_isinstance (pa_cons (pv 1) (pa_cons (pe_glob (v := .ref CP) rfl TP.mgP rfl) pa_nil))) (pe_one (pe_cmpR (op_eqTl (eqT_rows SE 9).2.1 hr) (pe_fld (pv 0) rfl) (pe_fld (pv 1) rfl) (nomark _))))), ?_⟩
    obtain ⟨dx, q, pl, ys, h1, h2, h3, h4⟩ := ha.ex
    obtain ⟨dy, q2, pl2, ys2, g1, g2, g3, g4⟩ := hb.ex
    have d1 := ha.dp
    have d2 := hb.dp
    refine ⟨_, rfl, _, _, _, _, true, rfl, ClsV.own CP, .base (.ins g1 TP.cl TP.ca TP.cn TP.ct TP.cm), kit_self _ _, _, rfl, iteT ?_⟩
    exact ⟨_, rfl, _, _, _, _, _, rfl, h1, TP.cl, TP.nD, pf_deeds _ _, _, rfl, _, _, _, _, _, rfl, g1, TP.cl, TP.nD, pf_deeds _ _, decide (r = u), ⟨q, q2, r, u, rfl, rfl, h2, g2, by omega, by omega, rfl⟩, fun H' s' => k H' s'⟩
end
/-! making a program -/
structure MakerP (P : Program) (w : World) (K : PySem.W.Frag) (mg : Str → Option Value) (base : Heap) (C CP fI : Addr) (fdI : FuncData) : Prop where
  M : Mk K CP fI
  G : FnOk P w K mg base CX0 14 fI fdI ["self", "deeds"] (spPInit K C CP)
  mgP : mg "Program" = some (.ref CP)
  b : Binds K fdI ["self", "deeds"] []
def tP (K : PySem.W.Frag) (C CP : Addr) (t : TA) : TE := fun σ H Q => t σ H fun vs H1 => ∃ q r, vs = [.ref q] ∧ RAt K C H1 q r ∧ deepR r ≤ 8 ∧ manyR r ≤ 4000 ∧ ∀ z H', Same H1 H' → H1 z = none → PgAt K C CP H' z r → Q (.ref z) H'
theorem mk_pg {K : PySem.W.Frag} {C CP q : Addr} {H : Hp} {r : List Dd} {Q : VK} {E : XK} (hq : RAt K C H q r) (hd : deepR r ≤ 8) (hm : manyR r ≤ 4000) (k : ∀ z H', Same H H' → H z = none → PgAt K C CP H' z r → Q (.ref z) H') :
    ∀ x dx, H x = none → H dx = none → dx ≠ x → spPInit K C CP (.ref x :: ([.ref q] ++ [])) (upd (upd H dx (.own x)) x (.ins CP dx [])) (fun v H3 => v = .non ∧ Q (.ref x) H3) E := by
  intro x dx nx ndx ne
  have s0 : Same H (upd (upd H dx (.own x)) x (.ins CP dx [])) := fun b o e => by
    rw [upd_ne (ne_of_none e nx), upd_ne (ne_of_none e ndx)]
    exact e
  refine ⟨x, dx, q, r, rfl, upd_same, hq.same s0, hd, hm, fun pl ys H' kb h1 h2 h3 h4 => ⟨rfl, k x H' (fun b o e => kb _ _ (ne_of_none e nx) (s0 _ _ e)) nx ⟨⟨dx, q, pl, ys, h1, h3, h2, h4⟩, hd, hm⟩⟩⟩
section
open PyProof.Rows
variable {X : Cx} {C CP fI : Addr} {fdI : FuncData} {p pos : Pos} {e : Expr} {es : List Expr} {t : TA}
theorem pe_P (mk : MakerP X.prog X.w X.K X.mg X.base C CP fI fdI) (hr : Room 15 X.A) (hg : Gl X "Program") (ha : PA X (e :: es) t)
    (he : starEach (e :: es) X.env = (false, eval e X.env) :: starEach es X.env := by rfl) (hpl : (backTo pos (starEach es X.env)).any (·.1) = false := by rfl) : PE X (.Call (.Name "Program" p) (e :: es) [] pos) (tP X.K C CP t) := by
  refine ⟨fun pins s σ H Q I h => ?_⟩
  refine wpAny_Call_Name_kw (ld_glob I hg mk.mgP ?_ (by decide))
  refine PySem.W.callWith_K (h₀ := X.base) I.ok.mod.kin mk.M.kp (thn (ha.run pos pins s σ H _ I h) fun us s1 ⟨vs, H1, I1, r, q⟩ => ⟨I1.kIn, ?_⟩) he hpl
  obtain ⟨q, r', rfl, h1, h2, hz, k⟩ := q
  exact run_make mk.M mk.G hr mk.b .nil pass0 I1 r (mk_pg h1 h2 hz k)
end
end Js

set_option Elab.async false
set_option linter.all false
set_option maxRecDepth 100000
set_option maxHeartbeats 2000000
namespace Js
open PySem L2
/-! ### texts, by their signs -/
def tx (cs : List Nat) : Str := ⟨cs.toArray⟩
theorem tx_list (cs : List Nat) : (tx cs).cps.toList = cs := rfl
theorem tx_len (cs : List Nat) : (tx cs).length = cs.length := by
  show cs.toArray.size = _
  rw [List.size_toArray]
theorem tx_of (x : Str) : tx x.cps.toList = x := PyProof.Rows.ext_toList (by rw [tx_list])
theorem tx_text (t : Tr) : t.text = tx t.codes := rfl
theorem tx_append (a b : List Nat) : tx a ++ tx b = tx (a ++ b) := by
  apply PyProof.Rows.ext_toList
  rw [tx_list]
  show (a.toArray ++ b.toArray).toList = a ++ b
  simp
theorem tx_inj {a b : List Nat} (h : tx a = tx b) : a = b := by rw [← tx_list a, ← tx_list b, h]
def repl (n : Nat) (xs : List Nat) : List Nat := (List.replicate n xs).flatten
theorem repl_succ (n : Nat) (xs : List Nat) : repl (n + 1) xs = xs ++ repl n xs := by simp [repl, List.replicate_succ]
theorem repl_len (n : Nat) (xs : List Nat) : (repl n xs).length = n * xs.length := by
  induction n with
  | zero => simp [repl]
  | succ n ih => rw [repl_succ, List.length_append, ih, Nat.succ_mul]; omega
theorem foldl_repl (xs : Array Nat) : ∀ (n : Nat) (acc : Array Nat), ((List.replicate n xs).foldl (· ++ ·) acc).toList = acc.toList ++ repl n xs.toList
  | 0, acc => by simp [repl]
  | n + 1, acc => by
    rw [List.replicate_succ, List.foldl_cons, foldl_repl xs n, repl_succ]
    simp
theorem mul_tx (cs : List Nat) (n : Nat) : PySem.Txt.mul (tx cs) (n : Nat) = tx (repl n cs) := by
  unfold PySem.Txt.mul
  by_cases h : ((n : Nat) : Int) < 1
  · rw [if_pos h]
    have : n = 0 := by omega
    subst this
    rfl
  · rw [if_neg h]
    by_cases h2 : ((((n : Nat) : Int) == 1 || (tx cs).length == 0) = true)
    · rw [if_pos h2]
      rcases Bool.or_eq_true_iff.mp h2 with h3 | h3
      · have : n = 1 := by
          have := eq_of_beq h3
          omega
        subst this
        simp [repl]
      · have h4 : cs.length = 0 := by
          have := eq_of_beq h3
          rw [tx_len] at this
          exact this
        have h5 : cs = [] := List.length_eq_zero_iff.mp h4
        subst h5
        have : repl n [] = [] := by
          apply List.length_eq_zero_iff.mp
          rw [repl_len]
          simp
        rw [this]
    · rw [if_neg h2]
      apply PyProof.Rows.ext_toList
      rw [tx_list]
      show ((List.replicate ((n : Nat) : Int).toNat cs.toArray).foldl (· ++ ·) #[]).toList = _
      rw [foldl_repl, Int.toNat_natCast]
      simp
theorem mul_ok (x : Str) (n : Nat) (h : x.length * n ≤ 1000000) (hn : n ≤ 1000000) (hx : x.length ≤ 1000000) : PySem.MulOk x (n : Nat) := by
  have hs := sizeLine_eq
  refine ⟨?_, fun h1 h2 => ?_, fun h1 h2 => ?_⟩
  · rw [decide_eq_false (by omega), decide_eq_false (by omega)]
    rfl
  · intro z
    have h3 : (1000000 : Int) ≤ (2 ^ 63 - 1) / (n : Nat) := by
      have hp : (0 : Int) < (n : Nat) := by omega
      rw [Int.le_ediv_iff_mul_le hp]
      omega
    omega
  · unfold PySem.Builtin.Str.tooLong
    rw [Int.toNat_natCast]
    exact decide_eq_false (by omega)
section
variable {X : Cx}
theorem op_mulS : OpR X (binaryOp .Mult) (fun x y H Q => ∃ (cs : List Nat) (n : Nat), x = .str (tx cs) ∧ y = .int (n : Nat) ∧ cs.length * n ≤ 1000000 ∧ n ≤ 1000000 ∧ cs.length ≤ 1000000 ∧ Q (.str (tx (repl n cs))) H) := by
  intro pins s σ H x y v u Q I rx ry h
  obtain ⟨cs, n, rfl, rfl, h1, h2, h3, q⟩ := h
  obtain ⟨t, rfl⟩ := rx
  obtain ⟨t', rfl⟩ := ry
  refine PySem.SB.mul (mul_ok _ n (by rw [tx_len]; exact h1) h2 (by rw [tx_len]; exact h3)) fun tk k => ?_
  rw [mul_tx]
  exact ⟨.str _, H, I.tok k, ⟨tk, rfl⟩, q⟩
/-- s + t by their signs -/
theorem op_addX : OpR X (binaryOp .Add) (fun x y H Q => ∃ (a b : List Nat), x = .str (tx a) ∧ y = .str (tx b) ∧ a.length + b.length ≤ 1000000 ∧ Q (.str (tx (a ++ b))) H) :=
  OpR.imp op_add_str fun x y H Q h => by
    obtain ⟨a, b, rfl, rfl, h1, q⟩ := h
    have hs := sizeLine_eq
    exact ⟨_, _, rfl, rfl, by rw [tx_len, tx_len]; omega, by rw [tx_append]; exact q⟩
end
/-! ### how often a sign stands in a text -/
theorem chain_count (x : Str) (c : Nat) (hi : Nat) (hh : hi = x.length) : ∀ (cuts : List Nat) (a f : Nat), PySem.StrLaws.ChainG x ⟨#[c]⟩ hi a cuts f → (∀ k, f ≤ k → ¬ PySem.StrLaws.At x ⟨#[c]⟩ hi k) → cuts.length = (x.cps.toList.drop a).count c
  | [], a, f, h, hn => by
    have e : f = a := h
    subst e
    symm
    rw [List.length_nil, List.count_eq_zero]
    intro hm
    obtain ⟨j, hj⟩ := List.getElem?_of_mem hm
    rw [List.getElem?_drop] at hj
    subst hh
    exact hn (f + j) (by omega) ((PySem.StrLaws.subAt_one x c (f + j)).mpr hj)
  | d :: r, a, f, h, hn => by
    obtain ⟨h1, h2, h3, h4⟩ := h
    have ih := chain_count x c hi hh r (d + 1) f h4 hn
    subst hh
    have hd : x.cps.toList[d]? = some c := (PySem.StrLaws.subAt_one x c d).mp h2
    have hlt := (List.getElem?_eq_some_iff.mp hd).1
    have e1 : x.cps.toList.drop a = (x.cps.toList.drop a).take (d - a) ++ x.cps.toList.drop d := by
      have := List.take_append_drop (d - a) (x.cps.toList.drop a)
      rw [List.drop_drop] at this
      have e : a + (d - a) = d := by omega
      rw [e] at this
      exact this.symm
    have e2 : ((x.cps.toList.drop a).take (d - a)).count c = 0 := by
      rw [List.count_eq_zero]
      intro hm
      obtain ⟨j, hj⟩ := List.getElem?_of_mem hm
      have hj1 : j < d - a := by
        have := (List.getElem?_eq_some_iff.mp hj).1
        rw [List.length_take] at this
        omega
      rw [List.getElem?_take_of_lt hj1, List.getElem?_drop] at hj
      exact h3 (a + j) (by omega) (by omega) ((PySem.StrLaws.subAt_one x c (a + j)).mpr hj)
    have e3 : x.cps.toList.drop d = c :: x.cps.toList.drop (d + 1) := by
      rw [List.drop_eq_getElem_cons hlt, (List.getElem?_eq_some_iff.mp hd).2]
    rw [e1, List.count_append, e2, e3, List.count_cons_self, List.length_cons, ih]
    omega
theorem count_tx (cs : List Nat) (c : Nat) : PySem.Txt.count (tx cs) ⟨#[c]⟩ = ((cs.count c : Nat) : Int) := by
  unfold PySem.Txt.count
  obtain ⟨f, h1, h2⟩ := PySem.StrLaws.occ_tight (tx cs) ⟨#[c]⟩ (by show 1 ≤ 1; decide)
  rw [chain_count (tx cs) c _ rfl _ 0 f h1 h2, List.drop_zero, tx_list]
theorem count_codes : ∀ t : Tr, t.codes.count 40 = t.size
  | .nil => by decide
  | .pr l r => by
    simp only [Tr.codes, Tr.size, List.count_cons, List.count_append, count_codes l, count_codes r]
    simp
    omega
/-! ### slices -/
theorem cut_tx (cs : List Nat) (i j : Nat) (h : i ≤ j) (hj : j ≤ cs.length) : cutS (tx cs) (some (i : Nat)) (some (j : Nat)) = tx ((cs.drop i).take (j - i)) := by
  unfold cutS
  have e1 : min i cs.length = i := Nat.min_eq_left (by omega)
  rw [HT.sIx_nat, HT.sIx_nat, tx_len, tx_list, e1, Nat.min_eq_left hj]
  rfl
theorem cut_neg (cs : List Nat) (i j : Nat) (h : i + j ≤ cs.length) (h0 : 0 < j) : cutS (tx cs) (some (i : Nat)) (some (-(j : Nat) : Int)) = tx ((cs.drop i).take (cs.length - j - i)) := by
  unfold cutS
  have e : HT.sIx (tx cs).length (tx cs).length (some (-((j : Nat) : Int))) = cs.length - j := by
    rw [tx_len]
    show (if (-((j : Nat) : Int)) < 0 then _ else _) = _
    rw [if_pos (by omega)]
    omega
  rw [HT.sIx_nat, e, tx_len, tx_list, Nat.min_eq_left (by omega)]
  rfl
/-! ### how deep -/
def dp1 (c : Nat) : Int := if c = 40 then 1 else if c = 41 then -1 else 0
def dep (cs : List Nat) : Int := (cs.map dp1).sum
theorem dp40 : dp1 40 = 1 := rfl
theorem dep_nil : dep [] = 0 := rfl
theorem dep_cons (c : Nat) (cs : List Nat) : dep (c :: cs) = dp1 c + dep cs := by simp [dep]
theorem dep_append (a b : List Nat) : dep (a ++ b) = dep a + dep b := by simp [dep]
theorem dep_codes : ∀ t : Tr, dep t.codes = 0
  | .nil => rfl
  | .pr l r => by
    simp only [Tr.codes, dep_cons, dep_append, dep_codes l, dep_codes r, dep_nil]
    decide
theorem dep_take_append (a b : List Nat) (j : Nat) : dep ((a ++ b).take j) = if j ≤ a.length then dep (a.take j) else dep a + dep (b.take (j - a.length)) := by
  by_cases h : j ≤ a.length
  · rw [if_pos h, List.take_append_of_le_length h]
  · rw [if_neg h, List.take_append, List.take_of_length_le (by omega), dep_append]
theorem dep_nn : ∀ (t : Tr) (j : Nat), 0 ≤ dep (t.codes.take j)
  | .nil, 0 => by decide
  | .nil, j + 1 => by simp [Tr.codes, dep]; decide
  | .pr l r, 0 => by simp [dep]
  | .pr l r, j + 1 => by
    have hl := dep_nn l
    have hr := dep_nn r
    simp only [Tr.codes, List.take_succ_cons, dep_cons]
    rw [dep_take_append]
    split
    · have := hl j
      simp only [dp1]
      omega
    · rw [dep_take_append, dep_codes l]
      split
      · have := hr (j - l.codes.length)
        simp only [dp1]
        omega
      · rw [dep_codes r]
        match j - l.codes.length - r.codes.length with
        | 0 => simp [dep, dp1]
        | n + 1 => simp [dep, dp1]
/-- between the first sign and the last one some bracket is open -/
theorem dep_pos (t : Tr) (j : Nat) (h0 : 0 < j) (h1 : j < t.codes.length) : 0 < dep (t.codes.take j) := by
  cases t with
  | nil => simp [Tr.codes] at h1; omega
  | pr l r =>
    obtain ⟨j, rfl⟩ : ∃ i, j = i + 1 := ⟨j - 1, by omega⟩
    have hl := dep_nn l
    have hr := dep_nn r
    simp only [Tr.codes, List.length_cons, List.length_append, List.length_nil] at h1
    simp only [Tr.codes, List.take_succ_cons, dep_cons]
    rw [dep_take_append]
    split
    · have := hl j
      rw [dp40]
      omega
    · rw [dep_take_append, dep_codes l]
      split
      · have := hr (j - l.codes.length)
        rw [dp40]
        omega
      · omega
theorem codes_sign : ∀ (t : Tr) (c : Nat), c ∈ t.codes → c = 46 ∨ c = 40 ∨ c = 41
  | .nil, c, h => by simp [Tr.codes] at h; exact .inl h
  | .pr l r, c, h => by
    simp only [Tr.codes, List.mem_cons, List.mem_append, List.not_mem_nil, or_false] at h
    rcases h with h | h | h | h
    · exact .inr (.inl h)
    · exact codes_sign l c h
    · exact codes_sign r c h
    · exact .inr (.inr h)
theorem dot_eq : ((("." : Str))) = Tr.nil.text := by decide +kernel
theorem pr_not_dot (l r : Tr) : decide (V.str (Tr.pr l r).text = V.str ".") = false := by
  rw [dot_eq]
  exact decide_eq_false fun z => Tr.noConfusion (Tr.text_inj (V.str.inj z))
theorem nil_dot : decide (V.str Tr.nil.text = V.str ".") = true := by
  rw [dot_eq]
  simp
end Js

set_option Elab.async false
set_option linter.all false
set_option maxRecDepth 100000
set_option maxHeartbeats 2000000
namespace Js
open PySem L2
abbrev sNamesIn : Stmt := top 21
/-- the names of a deed, in their order -/
def Dd.names : Dd → List Nat
  | .told a _ => [a]
  | .take _ a b => [a, b]
  | .two _ a b c => [a, b, c]
  | .wh a _ => [a]
  | .iff a _ _ => [a]
def namesV (ns : List Nat) : List V := ns.map fun a => V.int ((a : Nat) : Int)
theorem cn (s : Str) (cs : List Nat) (h : s.cps = cs.toArray) : PySem.Txt.count s "n" = ((cs.count 110 : Nat) : Int) := by
  rw [show s = tx cs from by cases s; simp only [tx]; exact congrArg _ h, c_n, count_tx]
theorem cut1n (x : V) (its : List V) (n : Nat) (hn : n ≤ its.length) : cutV (x :: its) (some 1) (some (1 + (n : Int))) = its.take n := by
  have e : HT.sIx (its.length + 1) 0 (some 1) = 1 := by
    show min 1 (its.length + 1) = 1
    omega
  have e2 : HT.sIx (its.length + 1) (its.length + 1) (some (1 + (n : Int))) = n + 1 := by
    have : (1 + (n : Int)) = ((n + 1 : Nat) : Int) := by omega
    rw [this]
    show min (n + 1) (its.length + 1) = n + 1
    omega
  unfold cutV
  rw [List.length_cons, e, e2, List.drop_succ_cons, List.drop_zero, Nat.add_sub_cancel]
/-- the names stand behind the kind -/
theorem names_look {K : PySem.W.Frag} {C : Addr} {H : Hp} {v : V} : ∀ (d : Dd), DAt K C H v d → ∃ p its n, v = .ref p ∧ SqT K H p (.str (kindOf d) :: its) ∧ PySem.Txt.count (formOf d) "n" = ((n : Nat) : Int) ∧ n ≤ its.length ∧ its.take n = namesV d.names ∧ its.length ≤ 3 ∧ 1 ≤ n ∧ n < its.length + 1 ∧ (∀ a ∈ d.names, a < 10)
  | .told a t, h => by
    obtain ⟨p, x, e, h1, h2, h3, h4⟩ := h
    exact ⟨p, _, 1, e, h1, by rw [formOf, cn _ [110, 116] cps_nt]; rfl, by simp, rfl, by simp, by simp, by simp, by simp [Dd.names]; omega⟩
  | .take s a b, h => by
    obtain ⟨p, e, h1, h2, h3⟩ := h
    exact ⟨p, _, 2, e, h1, by rw [formOf, cn _ [110, 110] cps_nn]; rfl, by simp, rfl, by simp, by simp, by simp, by simp [Dd.names]; omega⟩
  | .two s a b c, h => by
    obtain ⟨p, e, h1, h2, h3, h4⟩ := h
    exact ⟨p, _, 3, e, h1, by rw [formOf, cn _ [110, 110, 110] cps_nnn]; rfl, by simp, rfl, by simp, by simp, by simp, by simp [Dd.names]; omega⟩
  | .wh a r, h => by
    obtain ⟨p, q, vs, e, h1, h2, h3, h4⟩ := h
    exact ⟨p, _, 1, e, h1, by rw [formOf, cn _ [110, 114] cps_nr]; rfl, by simp, rfl, by simp, by simp, by simp, by simp [Dd.names]; omega⟩
  | .iff a r o, h => by
    obtain ⟨p, q, vs, q2, vs2, e, h1, h2, h3, h4, h5, h6⟩ := h
    exact ⟨p, _, 1, e, h1, by rw [formOf, cn _ [110, 114, 114] cps_nrr]; rfl, by simp, rfl, by simp, by simp, by simp, by simp [Dd.names]; omega⟩
def spNamesIn (K : PySem.W.Frag) (C : Addr) : Sp := fun vs H Q _ => ∃ v d, vs = [v] ∧ DAt K C H v d ∧ ∀ p H', Same H H' → SqT K H' p (namesV d.names) → Q (.ref p) H'
section
variable {P : Program} {w : World} {K : PySem.W.Frag} {mg : Str → Option Value} {base : Heap} {C : Addr}
theorem scNI : FnScope ["deed"] ["deed"] (defScope sNamesIn) := ⟨rfl, rfl, rfl, by decide +kernel, rfl, by decide +kernel, by decide +kernel⟩
theorem ok_namesIn {f : Addr} {fd : FuncData} (F : Fun K "names_in" "names_in" sNamesIn f fd) (G : FrmC K w mg) : FnOk P w K mg base CX0 1 f fd ["deed"] (spNamesIn K C) := by
  obtain ⟨dF, es, n, mF, kd, hk⟩ := G.ex
  refine F.ok scNI (fun vs H Q E h => ?_) (fun cdv A outer s H vs Q E hr h => ?_)
  · obtain ⟨v, d, rfl, _⟩ := h
    rfl
  · obtain ⟨v, d, rfl, hd, k⟩ := h
    refine ⟨_, pss_one (ps_ret (pe_slice sl_tup (pv 0) (po_some pe_int) (po_some (pe_op op_add pe_int (pe_m1 PySem.F.slot_str_count PySem.F.type_str_count mt_count (pe_ix (r := rIxD K w) ix_kdict (pe_glob (v := .ref dF) rfl mF rfl) (pe_ix (r := rIxT K) ix_tup (pv 0) pe_int (fun _ _ => rfl)) (fun _ _ => rfl)) pe_str))))), ?_⟩
    obtain ⟨p, its, m, rfl, hp, hc, hm, hn, hl3, hm1, hm2, _⟩ := names_look d hd
    obtain ⟨tk, hk⟩ := hk _ (form_in d)
    have hsl := line4
    refine ⟨_, rfl, _, rfl, _, rfl, p, _, 0, _, rfl, rfl, hp, at0 _ _, dF, _, .str (formOf d), rfl, rfl, ⟨es, n, _, kd.at_, kd.lit, hk, ⟨_, rfl⟩⟩, ?_⟩
    refine ⟨⟨_, rfl⟩, _, _, rfl, rfl, ?_⟩
    rw [hc]
    refine ⟨_, _, rfl, rfl, _, rfl, p, _, rfl, hp, ?_, fun q nq => ?_⟩
    · rintro ⟨h0, _⟩
      have e : HT.sIx (its.length + 1) 0 (some 1) = 1 := by
        show min 1 (its.length + 1) = 1
        omega
      rw [List.length_cons, e] at h0
      cases h0
    rw [cut1n _ _ _ hm, hn]
    exact k q _ (Same.new nq) (SqT.of upd_same)
end
end Js

set_option Elab.async false
set_option linter.all false
set_option maxRecDepth 100000
set_option maxHeartbeats 2000000
namespace Js
open PySem L2
/-- what stands in a deed behind its first name -/
inductive Pc where
  | nm (b : Nat)
  | th (t : Tr)
  | rw (r : List Dd)
def Dd.nm1 : Dd → Nat
  | .told a _ => a
  | .take _ a _ => a
  | .two _ a _ _ => a
  | .wh a _ => a
  | .iff a _ _ => a
def Dd.pcs : Dd → List Pc
  | .told _ t => [.th t]
  | .take _ _ b => [.nm b]
  | .two _ _ b c => [.nm b, .nm c]
  | .wh _ r => [.rw r]
  | .iff _ r o => [.rw r, .rw o]
def PcAt (K : PySem.W.Frag) (C : Addr) (H : Hp) (v : V) : Pc → Prop
  | .nm b => b < 10 ∧ v = .int (b : Nat)
  | .th t => t.size ≤ 4000 ∧ ∃ a, v = .ref a ∧ Th C H a t
  | .rw r => ∃ q, v = .ref q ∧ RAt K C H q r
theorem PcAt.kt {K : PySem.W.Frag} {C : Addr} {H H' : Hp} (k : KT H H') {v : V} : ∀ {x : Pc}, PcAt K C H v x → PcAt K C H' v x
  | .nm _, h => h
  | .th _, ⟨z, a, e, h⟩ => ⟨z, a, e, h.kt k⟩
  | .rw _, ⟨q, e, h⟩ => ⟨q, e, h.kt k⟩
theorem pcs_kt {K : PySem.W.Frag} {C : Addr} {H H' : Hp} (k : KT H H') : ∀ {vs : List V} {xs : List Pc}, Paired (PcAt K C H) vs xs → Paired (PcAt K C H') vs xs
  | _, _, .nil => .nil
  | _, _, .cons h t => .cons (h.kt k) (pcs_kt k t)
theorem DAt_split {K : PySem.W.Frag} {C : Addr} {H : Hp} {v : V} : ∀ (d : Dd), DAt K C H v d → ∃ p its, v = .ref p ∧ SqT K H p (.str (kindOf d) :: .int ((d.nm1 : Nat) : Int) :: its) ∧ d.nm1 < 10 ∧ Paired (PcAt K C H) its d.pcs ∧ its ≠ []
  | .told a t, h => by
    obtain ⟨p, x, e, h1, h2, h3, h4⟩ := h
    exact ⟨p, _, e, h1, h2, .cons ⟨h4, x, rfl, h3⟩ .nil, by simp⟩
  | .take s a b, h => by
    obtain ⟨p, e, h1, h2, h3⟩ := h
    exact ⟨p, _, e, h1, h2, .cons ⟨h3, rfl⟩ .nil, by simp⟩
  | .two s a b c, h => by
    obtain ⟨p, e, h1, h2, h3, h4⟩ := h
    exact ⟨p, _, e, h1, h2, .cons ⟨h3, rfl⟩ (.cons ⟨h4, rfl⟩ .nil), by simp⟩
  | .wh a r, h => by
    obtain ⟨p, q, vs, e, h1, h2, h3, h4⟩ := h
    exact ⟨p, _, e, h1, h2, .cons ⟨q, rfl, vs, h3, h4⟩ .nil, by simp⟩
  | .iff a r o, h => by
    obtain ⟨p, q, vs, q2, vs2, e, h1, h2, h3, h4, h5, h6⟩ := h
    exact ⟨p, _, e, h1, h2, .cons ⟨q, rfl, vs, h3, h4⟩ (.cons ⟨q2, rfl, vs2, h5, h6⟩ .nil), by simp⟩
theorem paired1 {α β : Type} {R : α → β → Prop} {xs : List α} {y : β} (h : Paired R xs [y]) : ∃ x, xs = [x] ∧ R x y := by
  cases h with
  | cons h t =>
    cases t
    exact ⟨_, rfl, h⟩
theorem paired2 {α β : Type} {R : α → β → Prop} {xs : List α} {y z : β} (h : Paired R xs [y, z]) : ∃ x x', xs = [x, x'] ∧ R x y ∧ R x' z := by
  cases h with
  | cons h t =>
    obtain ⟨x', rfl, h'⟩ := paired1 t
    exact ⟨_, x', rfl, h, h'⟩
theorem DAt_join {K : PySem.W.Frag} {C : Addr} {H : Hp} {p : Addr} {its : List V} : ∀ (d : Dd), SqT K H p (.str (kindOf d) :: .int ((d.nm1 : Nat) : Int) :: its) → d.nm1 < 10 → Paired (PcAt K C H) its d.pcs → DAt K C H (.ref p) d
  | .told a t, h1, h2, h => by
    obtain ⟨x, rfl, h4, x1, rfl, h3⟩ := paired1 h
    exact ⟨p, x1, rfl, h1, h2, h3, h4⟩
  | .take s a b, h1, h2, h => by
    obtain ⟨x, rfl, h3, rfl⟩ := paired1 h
    exact ⟨p, rfl, h1, h2, h3⟩
  | .two s a b c, h1, h2, h => by
    obtain ⟨x, x', rfl, ⟨h3, rfl⟩, h4, rfl⟩ := paired2 h
    exact ⟨p, rfl, h1, h2, h3, h4⟩
  | .wh a r, h1, h2, h => by
    obtain ⟨x, rfl, q, rfl, vs, h3, h4⟩ := paired1 h
    exact ⟨p, q, vs, rfl, h1, h2, h3, h4⟩
  | .iff a r o, h1, h2, h => by
    obtain ⟨x, x', rfl, ⟨q, rfl, vs, h3, h4⟩, q2, rfl, vs2, h5, h6⟩ := paired2 h
    exact ⟨p, q, vs, q2, vs2, rfl, h1, h2, h3, h4, h5, h6⟩
def Pc.deep : Pc → Nat
  | .rw r => deepR r + 1
  | _ => 0
theorem pcs_deep : ∀ (d : Dd) (x : Pc), x ∈ d.pcs → x.deep ≤ d.deep
  | .told a t, x, h => by simp [Dd.pcs] at h; subst h; exact Nat.zero_le _
  | .take s a b, x, h => by simp [Dd.pcs] at h; subst h; exact Nat.zero_le _
  | .two s a b c, x, h => by
    simp [Dd.pcs] at h
    rcases h with rfl | rfl <;> exact Nat.zero_le _
  | .wh a r, x, h => by
    simp [Dd.pcs] at h
    subst h
    rw [Pc.deep, Dd.deep]
    exact Nat.le_refl _
  | .iff a r o, x, h => by
    simp [Dd.pcs] at h
    rw [Dd.deep]
    rcases h with rfl | rfl
    · rw [Pc.deep]; have := Nat.le_max_left (deepR r) (deepR o); omega
    · rw [Pc.deep]; have := Nat.le_max_right (deepR r) (deepR o); omega
theorem pcs_len (d : Dd) : d.pcs.length ≤ 2 := by cases d <;> simp [Dd.pcs]
end Js

set_option Elab.async false
set_option linter.all false
set_option maxRecDepth 100000
set_option maxHeartbeats 2000000
namespace Js
open PySem L2
/-! the machine: where a run stands, and what comes of it -/
def nmA (ns : List Tr) (a : Nat) : Tr := ns.getD a .nil
def yesT : Tr := .pr .nil .nil
def Dd.look : Dd → Bool
  | .wh _ _ => true
  | .iff _ _ _ => true
  | _ => false
/-- what a deed that is no look makes -/
def Dd.made (ns : List Tr) : Dd → Tr
  | .told _ t => t
  | .take false _ b => (nmA ns b).head
  | .take true _ b => (nmA ns b).tail
  | .two false _ b c => .pr (nmA ns b) (nmA ns c)
  | .two true _ b c => if nmA ns b = nmA ns c then yesT else .nil
  | _ => .nil
/-- whether a pair would be too great -/
def Dd.grt (ns : List Tr) : Dd → Bool
  | .two false _ b c => decide (4000 < 1 + (nmA ns b).size + (nmA ns c).size)
  | _ => false
abbrev Pt := Dd × List Nat
def stepP (x : Pt) (ns : List Tr) : Nat := if x.1.look then (if 0 < (nmA ns x.1.nm1).size then x.2.getD 0 0 else x.2.getD 1 0) else x.2.getD 0 0
def stepN (x : Pt) (ns : List Tr) : List Tr := if x.1.look then ns else ns.set x.1.nm1 (x.1.made ns)
inductive Wd where
  | ended
  | opn
  | great
  deriving DecidableEq
def runM (pl : List Pt) : Nat → Nat → List Tr → Nat → Wd × Nat × Tr
  | 0, pt, ns, st => match pl[pt]? with
    | none => (.ended, st, nmA ns 0)
    | some _ => (.opn, st, .nil)
  | b + 1, pt, ns, st => match pl[pt]? with
    | none => (.ended, st, nmA ns 0)
    | some x => if x.1.grt ns then (.great, st, .nil) else runM pl b (stepP x ns) (stepN x ns) (st + 1)
theorem runM_end {pl : List Pt} {b pt st : Nat} {ns : List Tr} (h : pl[pt]? = none) : runM pl b pt ns st = (.ended, st, nmA ns 0) := by
  cases b <;> (rw [runM, h])
theorem runM_open {pl : List Pt} {pt st : Nat} {ns : List Tr} {x : Pt} (h : pl[pt]? = some x) : runM pl 0 pt ns st = (.opn, st, .nil) := by
  rw [runM, h]
theorem runM_great {pl : List Pt} {b pt st : Nat} {ns : List Tr} {x : Pt} (h : pl[pt]? = some x) (g : x.1.grt ns = true) : runM pl (b + 1) pt ns st = (.great, st, .nil) := by
  rw [runM, h]
  exact if_pos g
theorem runM_step {pl : List Pt} {b pt st : Nat} {ns : List Tr} {x : Pt} (h : pl[pt]? = some x) (g : x.1.grt ns = false) : runM pl (b + 1) pt ns st = runM pl b (stepP x ns) (stepN x ns) (st + 1) := by
  rw [runM, h]
  exact if_neg (by rw [g]; exact Bool.false_ne_true)
/-! where the deeds lead -/
theorem look_grt (d : Dd) (ns : List Tr) (h : d.look = true) : d.grt ns = false := by
  cases d <;> first | rfl | cases h
mutual
theorem lay_ways : ∀ (d : Dd) (f n : Nat) (x : Pt), x ∈ d.lay f n → x.2.length = (if x.1.look then 2 else 1) ∧ ∀ w ∈ x.2, w ≤ max f (n + d.many)
  | .told a t, f, n, x, h => by
    rw [Dd.lay, List.mem_singleton] at h
    subst h
    exact ⟨rfl, fun w hw => by rw [List.mem_singleton] at hw; subst hw; exact Nat.le_max_left _ _⟩
  | .take s a b, f, n, x, h => by
    rw [Dd.lay, List.mem_singleton] at h
    subst h
    exact ⟨rfl, fun w hw => by rw [List.mem_singleton] at hw; subst hw; exact Nat.le_max_left _ _⟩
  | .two s a b c, f, n, x, h => by
    rw [Dd.lay, List.mem_singleton] at h
    subst h
    exact ⟨rfl, fun w hw => by rw [List.mem_singleton] at hw; subst hw; exact Nat.le_max_left _ _⟩
  | .wh a r, f, n, x, h => by
    rw [Dd.lay] at h
    rcases List.mem_cons.mp h with rfl | h
    · refine ⟨rfl, fun w hw => ?_⟩
      rw [many_wh]
      simp only [List.mem_cons, List.not_mem_nil, or_false] at hw
      rcases hw with rfl | rfl
      · split <;> omega
      · omega
    · obtain ⟨h1, h2⟩ := layR_ways r n (n + 1) x h
      refine ⟨h1, fun w hw => ?_⟩
      have := h2 w hw
      rw [many_wh]
      omega
  | .iff a r o, f, n, x, h => by
    rw [Dd.lay] at h
    rcases List.mem_cons.mp h with rfl | h
    · refine ⟨rfl, fun w hw => ?_⟩
      rw [many_iff]
      simp only [List.mem_cons, List.not_mem_nil, or_false] at hw
      rcases hw with rfl | rfl
      · split <;> omega
      · split <;> omega
    · rcases List.mem_append.mp h with h | h
      · obtain ⟨h1, h2⟩ := layR_ways r f (n + 1) x h
        refine ⟨h1, fun w hw => ?_⟩
        have := h2 w hw
        rw [many_iff]
        omega
      · obtain ⟨h1, h2⟩ := layR_ways o f (n + 1 + manyR r) x h
        refine ⟨h1, fun w hw => ?_⟩
        have := h2 w hw
        rw [many_iff]
        omega
theorem layR_ways : ∀ (r : List Dd) (f n : Nat) (x : Pt), x ∈ layR r f n → x.2.length = (if x.1.look then 2 else 1) ∧ ∀ w ∈ x.2, w ≤ max f (n + manyR r)
  | [], f, n, x, h => by rw [layR] at h; cases h
  | d :: r, f, n, x, h => by
    rw [layR] at h
    rcases List.mem_append.mp h with h | h
    · obtain ⟨h1, h2⟩ := lay_ways d _ n x h
      refine ⟨h1, fun w hw => ?_⟩
      have := h2 w hw
      rw [many_cons]
      split at this <;> omega
    · obtain ⟨h1, h2⟩ := layR_ways r f _ x h
      refine ⟨h1, fun w hw => ?_⟩
      have := h2 w hw
      rw [many_cons]
      omega
end
/-- the plan of a program -/
def planR (r : List Dd) : List Pt := layR r (manyR r) 0
theorem planR_len (r : List Dd) : (planR r).length = manyR r := layR_len _ _ _
theorem plan_ways {r : List Dd} {pt : Nat} {x : Pt} (h : (planR r)[pt]? = some x) : x.2.length = (if x.1.look then 2 else 1) ∧ ∀ w ∈ x.2, w ≤ manyR r := by
  obtain ⟨h1, h2⟩ := layR_ways r (manyR r) 0 x (List.mem_of_getElem? h)
  exact ⟨h1, fun w hw => by have := h2 w hw; omega⟩
theorem getD_le {ws : List Nat} {m : Nat} (h : ∀ w ∈ ws, w ≤ m) (i : Nat) : ws.getD i 0 ≤ m := by
  rw [List.getD_eq_getElem?_getD]
  cases e : ws[i]? with
  | none => exact Nat.zero_le _
  | some w => exact h w (List.mem_of_getElem? e)
theorem stepP_le {r : List Dd} {pt : Nat} {x : Pt} (h : (planR r)[pt]? = some x) (ns : List Tr) : stepP x ns ≤ manyR r := by
  obtain ⟨_, h2⟩ := plan_ways h
  unfold stepP
  split
  · split
    · exact getD_le h2 0
    · exact getD_le h2 1
  · exact getD_le h2 0
/-! sizes -/
def NsOk (ns : List Tr) : Prop := ns.length = 10 ∧ ∀ t ∈ ns, t.size ≤ 4000
theorem nmA_le {ns : List Tr} (h : NsOk ns) (a : Nat) : (nmA ns a).size ≤ 4000 := by
  unfold nmA
  rw [List.getD_eq_getElem?_getD]
  cases e : ns[a]? with
  | none => exact Nat.zero_le _
  | some t => exact h.2 t (List.mem_of_getElem? e)
theorem nmA_at {ns : List Tr} (h : NsOk ns) {a : Nat} (ha : a < 10) : ns[a]? = some (nmA ns a) := by
  unfold nmA
  rw [List.getD_eq_getElem?_getD, List.getElem?_eq_getElem (by rw [h.1]; exact ha)]
  rfl
theorem made_le {ns : List Tr} (h : NsOk ns) (d : Dd) (ht : ∀ a t, d = .told a t → t.size ≤ 4000) (g : d.grt ns = false) : (d.made ns).size ≤ 4000 := by
  cases d with
  | told a t => exact ht a t rfl
  | take s a b =>
    have hb := nmA_le h b
    cases s with
    | false =>
      show ((nmA ns b).head).size ≤ 4000
      cases e : nmA ns b with
      | nil => exact Nat.zero_le _
      | pr l r => rw [e] at hb; simp only [Tr.size] at hb; simp only [Tr.head]; omega
    | true =>
      show ((nmA ns b).tail).size ≤ 4000
      cases e : nmA ns b with
      | nil => exact Nat.zero_le _
      | pr l r => rw [e] at hb; simp only [Tr.size] at hb; simp only [Tr.tail]; omega
  | two s a b c =>
    cases s with
    | false =>
      have := of_decide_eq_false g
      show (Tr.pr (nmA ns b) (nmA ns c)).size ≤ 4000
      simp only [Tr.size]
      omega
    | true =>
      show (if nmA ns b = nmA ns c then yesT else Tr.nil).size ≤ 4000
      split <;> simp [yesT, Tr.size]
  | wh a r => exact Nat.zero_le _
  | iff a r o => exact Nat.zero_le _
theorem stepN_ok {ns : List Tr} (h : NsOk ns) {x : Pt} (ht : ∀ a t, x.1 = .told a t → t.size ≤ 4000) (g : x.1.grt ns = false) : NsOk (stepN x ns) := by
  unfold stepN
  split
  · exact h
  · refine ⟨by rw [List.length_set]; exact h.1, fun t hm => ?_⟩
    rcases List.mem_or_eq_of_mem_set hm with hm | rfl
    · exact h.2 t hm
    · exact made_le h x.1 ht g
end Js

set_option Elab.async false
set_option linter.all false
set_option maxRecDepth 100000
set_option maxHeartbeats 2000000
namespace Js
open PySem L2
abbrev sNumber : Stmt := top 10
def num : Nat → Tr
  | 0 => .nil
  | n + 1 => .pr .nil (num n)
theorem num_size : ∀ n, (num n).size = n
  | 0 => rfl
  | n + 1 => by simp only [num, Tr.size, num_size n]; omega
def spNumber (C : Addr) : Sp := fun vs H Q _ => ∃ n : Nat, vs = [.int (n : Nat)] ∧ n ≤ 4000 ∧ ∀ a H', Same H H' → Th C H' a (num n) → Q (.ref a) H'
section
variable {P : Program} {w : World} {K : PySem.W.Frag} {mg : Str → Option Value} {base : Heap} {C fI : Addr} {fdI : FuncData}
theorem scN : FnScope ["n", "told", "step"] ["n"] (defScope sNumber) := ⟨rfl, rfl, rfl, by decide +kernel, rfl, by decide +kernel, by decide +kernel⟩
theorem ok_number {f : Addr} {fd : FuncData} (F : Fun K "number" "number" sNumber f fd) (T : Txt K mg C) (mk : Maker P w K mg base C fI fdI) : FnOk P w K mg base CX0 4 f fd ["n"] (spNumber C) := by
  refine F.ok scN (fun vs H Q E h => ?_) (fun cdv A outer s H vs Q E hr h => ?_)
  · obtain ⟨n, rfl, _⟩ := h
    rfl
  · obtain ⟨n, rfl, hn, k⟩ := h
    refine ⟨_, pss_cons (ps_set (i := 1) scN.nd rfl (Or.inl rfl) (pe_T0 mk hr rfl))
      (pss_cons (ps_for PassesOwn.never rfl (pi_range1 rfl T.range (pa_cons (pv 0) pa_nil)) (pg_name (i := 2) scN.nd rfl (Or.inl rfl))
        (pss_one (ps_set (i := 1) scN.nd rfl (Or.inl rfl) (pe_T2 mk hr rfl (pa_cons (pe_T0 mk hr rfl) (pa_cons (pv 1) pa_nil))))))
      (pss_one (ps_ret (pv 1)))), ?_⟩
    intro x0 H1 s1 _ h1
    refine ⟨_, rfl, _, rfl, by omega, by omega, for_range (n := ((n : Nat) : Int).toNat) (fun i σ H' => ∃ x a, σ = [some (.int (n : Nat)), some (.ref a), x] ∧ Same H H' ∧ Th C H' a (num i)) ⟨none, x0, rfl, s1, h1⟩ ?_ ?_⟩
    · rintro i σ H2 hi ⟨x, a, rfl, s2, h2⟩
      intro x1 H3 s3 _ h3
      refine ⟨_, rfl, _, _, _, _, rfl, h3, h2.same s3, ?_, fun x2 H4 s4 _ h4 => ?_⟩
      · rw [num_size]
        simp only [Tr.size]
        omega
      · exact ⟨_, x2, rfl, (s2.trans s3).trans s4, h4⟩
    · rintro σ H2 ⟨x, a, rfl, s2, h2⟩
      refine ⟨_, rfl, k a H2 s2 ?_⟩
      have e : ((n : Nat) : Int).toNat = n := by omega
      rw [e] at h2
      exact h2
end
end Js

set_option Elab.async false
set_option linter.all false
set_option maxRecDepth 100000
set_option maxHeartbeats 4000000
/-! tuple * int, any int from 0 to 1000, any tuple -/
namespace Js
open PySem L2
open PySem PySem.Spec PyProof.Rows L2
theorem tuple_mulSame (l : Addr) (items : Array Value) (n : Nat) (dd : Option Addr) (sl : Array (Option Value)) (x : Int) (u : Tok) (c0 : (decide (x < -(2 ^ 63)) || decide (x ≥ 2 ^ 63)) = false) (c1 : (items.isEmpty || x == 1) = true) :
    Meets (Builtin.«tuple.__mul__» ⟨[.ref l, .int x u], []⟩) (fun _ R s => s.heap.get? l = some { cls := .type "tuple", dict := dd, data := .seq items n, slots := sl } ∧ R (.ok (.ret (Value.ref l))) s) :=
  .of_wp fun prog w A R s h => by
    obtain ⟨hp, g, d, tk, os⟩ := s
    obtain ⟨hl, h⟩ := h
    have f1 := AutoSeq1.idx_int
    wp_walk using wpAny_loadPart' hl
    repeat (first
      | (refine wpAny_ite_false (decide_eq_false (by rw [c0]; exact Bool.false_ne_true)) ?_; wp_walk using wpAny_loadPart' hl)
      | (refine wpAny_ite_true (decide_eq_true c1) ?_; wp_walk using wpAny_loadPart' hl))
    exact ⟨_, rfl, h⟩
theorem tuple_mulNone (l : Addr) (items : Array Value) (n : Nat) (dd : Option Addr) (sl : Array (Option Value)) (x : Int) (u : Tok) (c0 : (decide (x < -(2 ^ 63)) || decide (x ≥ 2 ^ 63)) = false) (c1 : (items.isEmpty || x == 1) = false) (c2 : (decide (x ≤ 0) || items.isEmpty) = true) :
    Meets (Builtin.«tuple.__mul__» ⟨[.ref l, .int x u], []⟩) (fun _ R s => s.heap.get? l = some { cls := .type "tuple", dict := dd, data := .seq items n, slots := sl } ∧
      R (.ok (.ret (Value.ref s.heap.objs.size))) { s with heap := s.heap.push { cls := Value.type "tuple", data := Data.seq #[] }, toks := s.toks }) :=
  .of_wp fun prog w A R s h => by
    obtain ⟨hp, g, d, tk, os⟩ := s
    obtain ⟨hl, h⟩ := h
    have f1 := AutoSeq1.idx_int
    wp_walk using wpAny_loadPart' hl
    repeat (first
      | (refine wpAny_ite_false (decide_eq_false (by rw [c0]; exact Bool.false_ne_true)) ?_; wp_walk using wpAny_loadPart' hl)
      | (refine wpAny_ite_false (decide_eq_false (by rw [c1]; exact Bool.false_ne_true)) ?_; wp_walk using wpAny_loadPart' hl)
      | (refine wpAny_ite_true (decide_eq_true c2) ?_; wp_walk using wpAny_loadPart' hl))
    exact ⟨_, rfl, h⟩
def rMulT (K : PySem.W.Frag) : R2 := fun x y H Q => ∃ (l : Addr) (k : Nat) (xs : List V), x = .ref l ∧ y = .int (k : Nat) ∧ SqT K H l xs ∧ k ≤ 1000 ∧ xs.length ≤ 1000 ∧ ∀ p H', Same H H' → SqT K H' p (List.replicate k xs).flatten → Q (.ref p) H'
theorem flat_nil (k : Nat) : (List.replicate k ([] : List V)).flatten = [] := by
  induction k with
  | zero => rfl
  | succ k ih => rw [List.replicate_succ, List.flatten_cons, ih]; rfl
section
variable {X : Cx}
theorem op_mulT : OpR X (binaryOp .Mult) (rMulT X.K) := by
  intro pins s σ H x y v u Q I rx ry h
  obtain ⟨l, k, xs, rfl, rfl, hT, h2, hz, q⟩ := h
  have hsame : (xs = [] ∨ k = 1) → (List.replicate k xs).flatten = xs := fun e => by
    rcases e with rfl | rfl
    · exact flat_nil k
    · show (xs ++ ([] : List V)) = xs
      exact List.append_nil xs
  by_cases he : xs = [] ∨ k ≤ 1
  · cases rx
    obtain ⟨t, rfl⟩ := ry
    obtain ⟨its, r, ⟨⟨cls, dd, data, sl⟩, ho, hc, n, hd⟩, hs⟩ := I.tuple hT
    simp only at hc hd
    subst hc hd
    have hle : its.length = xs.length := r.length.symm
    have c0 : (decide (((k : Nat) : Int) < -(2 ^ 63)) || decide (((k : Nat) : Int) ≥ 2 ^ 63)) = false := by
      rw [decide_eq_false (by omega), decide_eq_false (by omega)] <;> rfl
    by_cases he2 : xs = [] ∨ k = 1
    · have c1 : (its.toArray.isEmpty || ((k : Nat) : Int) == 1) = true := by
        rcases he2 with rfl | rfl
        · have : its = [] := List.eq_nil_of_length_eq_zero hle
          rw [this]
          rfl
        · rw [show (((1 : Nat) : Int) == 1) = true from rfl, Bool.or_true]
      refine wpAny_binaryOp_repeat_ref (T := "tuple") (U := "int") (by decide) ⟨_, ho, rfl⟩ (fun s' => typeIs_int s' _ t) noFill_tuple_mul F.fills_int_mul F.slot_int_rmul repeat_tuple F.slot_int_index.lookup
        (call_meets F.slot_int_rmul (typeIs_int s _ t) F.entry_int_rmul (F.args_int_rmul_2 _ _) (int_rmul_tuple _ t l its.toArray n dd sl)
          ⟨ho, rfl, ⟨_, ho, rfl⟩, call_meets F.slot_tuple_mul ⟨_, ho, rfl⟩ F.entry_tuple_mul (F.args_tuple_mul_2 _ _) (tuple_mulSame l its.toArray n dd sl _ t c0 c1) ⟨ho, ?_⟩⟩)
      exact ⟨.ref l, H, I, rfl, q l H (Same.refl H) (by rw [hsame he2]; exact hT)⟩
    · have hx : xs ≠ [] := fun e => he2 (.inl e)
      have hk : k = 0 := by
        rcases he with e | e
        · exact absurd e hx
        · have : k ≠ 1 := fun e => he2 (.inr e)
          omega
      subst hk
      have hi : its.toArray.isEmpty = false := by
        cases its with
        | nil => exact absurd (List.eq_nil_of_length_eq_zero hle.symm) hx
        | cons a b => rfl
      have c1 : (its.toArray.isEmpty || ((0 : Nat) : Int) == 1) = false := by
        rw [hi]
        rfl
      refine wpAny_binaryOp_repeat_ref (T := "tuple") (U := "int") (by decide) ⟨_, ho, rfl⟩ (fun s' => typeIs_int s' _ t) noFill_tuple_mul F.fills_int_mul F.slot_int_rmul repeat_tuple F.slot_int_index.lookup
        (call_meets F.slot_int_rmul (typeIs_int s _ t) F.entry_int_rmul (F.args_int_rmul_2 _ _) (int_rmul_tuple _ t l its.toArray n dd sl)
          ⟨ho, rfl, ⟨_, ho, rfl⟩, call_meets F.slot_tuple_mul ⟨_, ho, rfl⟩ F.entry_tuple_mul (F.args_tuple_mul_2 _ _) (tuple_mulNone l its.toArray n dd sl _ t c0 c1 rfl) ⟨ho, ?_⟩⟩)
      have np : H s.heap.objs.size = none := I.hok.fresh (Nat.le_refl _)
      refine ⟨.ref s.heap.objs.size, _, I.laid (t' := s.toks) (o := .tup []) (fun b ob q => Heap.get?_push_of_some _ q) (Nat.le_refl _) ?_, rfl, q _ _ (Same.new np) (SqT.of upd_same)⟩
      exact ⟨Nat.zero_le _, _, .nil, IsTup.new _ _⟩
  · have hx : xs ≠ [] := fun e => he (.inl e)
    have hk : 2 ≤ k := by
      have : ¬ k ≤ 1 := fun e => he (.inr e)
      omega
    refine op_repT pins s σ H _ _ v u Q I rx ry ⟨l, _, xs, rfl, rfl, hT, hx, by omega, by omega, hz, fun p np => ?_⟩
    exact q p _ (Same.new np) (SqT.of upd_same)
/-! rows -/
theorem DsAt_app16 {K : PySem.W.Frag} {C : Addr} {H : Hp} : ∀ {xs : List V} {r : List Dd}, DsAt K C H xs r → ∀ {ys : List V} {u : List Dd}, DsAt K C H ys u → DsAt K C H (xs ++ ys) (r ++ u)
  | xs, [], h, ys, u, g => by cases h; exact g
  | xs, d :: r, h, ys, u, g => by
    obtain ⟨v, us, rfl, h1, h2⟩ := h
    exact ⟨v, us ++ ys, rfl, h1, DsAt_app16 h2 g⟩
theorem DsAt_mul {K : PySem.W.Frag} {C : Addr} {H : Hp} {xs : List V} {r : List Dd} (h : DsAt K C H xs r) : ∀ k : Nat, DsAt K C H (List.replicate k xs).flatten (List.replicate k r).flatten
  | 0 => rfl
  | k + 1 => by
    rw [List.replicate_succ, List.flatten_cons, List.replicate_succ, List.flatten_cons]
    exact DsAt_app16 h (DsAt_mul h k)
theorem op_mulR {C : Addr} : OpR X (binaryOp .Mult) (fun x y H Q => ∃ (q : Addr) (r : List Dd) (k : Nat), x = .ref q ∧ y = .int (k : Nat) ∧ RAt X.K C H q r ∧ k ≤ 1000 ∧ r.length ≤ 1000 ∧ ∀ q' H', Same H H' → RAt X.K C H' q' (List.replicate k r).flatten → Q (.ref q') H') :=
  OpR.imp op_mulT fun x y H Q h => by
    obtain ⟨q, r, k, rfl, rfl, ⟨vs, h1, h2⟩, h3, h4, kk⟩ := h
    have lv := DsAt.length r vs h2
    refine ⟨q, k, vs, rfl, rfl, h1, h3, by omega, fun p H' s hp => kk p H' s ⟨_, hp, DsAt_mul (DsAt_kt (KT.of s) r vs h2) k⟩⟩
end
end Js

set_option Elab.async false
set_option linter.all false
set_option maxRecDepth 100000
set_option maxHeartbeats 4000000
/-! a tuple taken once, or not at all -/
namespace L2
open PySem PySem.Spec PyProof.Rows
theorem tuple_mul1 (l : Addr) (items : Array Value) (n : Nat) (dd : Option Addr) (sl : Array (Option Value)) (u : Tok) :
    Meets (Builtin.«tuple.__mul__» ⟨[.ref l, .int 1 u], []⟩) (fun _ R s => s.heap.get? l = some { cls := .type "tuple", dict := dd, data := .seq items n, slots := sl } ∧ R (.ok (.ret (Value.ref l))) s) :=
  .of_wp fun prog w A R s h => by
    obtain ⟨hp, g, d, tk, os⟩ := s
    obtain ⟨hl, h⟩ := h
    have f1 := AutoSeq1.idx_int
    wp_walk using wpAny_loadPart' hl
    exact ⟨_, rfl, h⟩
theorem tuple_mul0 (l : Addr) (items : Array Value) (n : Nat) (dd : Option Addr) (sl : Array (Option Value)) (u : Tok) (hi : items.isEmpty = false) :
    Meets (Builtin.«tuple.__mul__» ⟨[.ref l, .int 0 u], []⟩) (fun _ R s => s.heap.get? l = some { cls := .type "tuple", dict := dd, data := .seq items n, slots := sl } ∧
      R (.ok (.ret (Value.ref s.heap.objs.size))) { s with heap := s.heap.push { cls := Value.type "tuple", data := Data.seq #[] }, toks := s.toks }) :=
  .of_wp fun prog w A R s h => by
    obtain ⟨hp, g, d, tk, os⟩ := s
    obtain ⟨hl, h⟩ := h
    have f1 := AutoSeq1.idx_int
    wp_walk using wpAny_loadPart' hl
    exact ⟨_, rfl, h⟩
def rRep01 (K : PySem.W.Frag) : R2 := fun x y H Q => ∃ l k xs, x = .ref l ∧ y = .int k ∧ SqT K H l xs ∧ xs ≠ [] ∧ ((k = 1 ∧ Q (.ref l) H) ∨ (k = 0 ∧ ∀ p, H p = none → Q (.ref p) (upd H p (.tup []))))
section
variable {X : Cx}
theorem op_rep01 : OpR X (binaryOp .Mult) (rRep01 X.K) := by
  intro pins s σ H x y v u Q I rx ry h
  obtain ⟨l, k, xs, rfl, rfl, hT, hne, q⟩ := h
  cases rx
  obtain ⟨t, rfl⟩ := ry
  obtain ⟨its, r, ⟨⟨cls, dd, data, sl⟩, ho, hc, n, hd⟩, hs⟩ := I.tuple hT
  simp only at hc hd
  subst hc hd
  have hle : its.length = xs.length := r.length.symm
  have hn : its ≠ [] := fun e => hne (by
    rw [e] at hle
    exact List.eq_nil_of_length_eq_zero hle.symm)
  have hi : its.toArray.isEmpty = false := by
    cases its with
    | nil => exact absurd rfl hn
    | cons a b => rfl
  rcases q with ⟨rfl, q⟩ | ⟨rfl, q⟩
  · refine wpAny_binaryOp_repeat_ref (T := "tuple") (U := "int") (by decide) ⟨_, ho, rfl⟩ (fun s' => typeIs_int s' 1 t) noFill_tuple_mul F.fills_int_mul F.slot_int_rmul repeat_tuple F.slot_int_index.lookup
      (call_meets F.slot_int_rmul (typeIs_int s 1 t) F.entry_int_rmul (F.args_int_rmul_2 _ _) (int_rmul_tuple 1 t l its.toArray n dd sl)
        ⟨ho, rfl, ⟨_, ho, rfl⟩, call_meets F.slot_tuple_mul ⟨_, ho, rfl⟩ F.entry_tuple_mul (F.args_tuple_mul_2 _ _) (tuple_mul1 l its.toArray n dd sl t) ⟨ho, ?_⟩⟩)
    exact ⟨.ref l, H, I, rfl, q⟩
  · refine wpAny_binaryOp_repeat_ref (T := "tuple") (U := "int") (by decide) ⟨_, ho, rfl⟩ (fun s' => typeIs_int s' 0 t) noFill_tuple_mul F.fills_int_mul F.slot_int_rmul repeat_tuple F.slot_int_index.lookup
      (call_meets F.slot_int_rmul (typeIs_int s 0 t) F.entry_int_rmul (F.args_int_rmul_2 _ _) (int_rmul_tuple 0 t l its.toArray n dd sl)
        ⟨ho, rfl, ⟨_, ho, rfl⟩, call_meets F.slot_tuple_mul ⟨_, ho, rfl⟩ F.entry_tuple_mul (F.args_tuple_mul_2 _ _) (tuple_mul0 l its.toArray n dd sl t hi) ⟨ho, ?_⟩⟩)
    refine ⟨.ref s.heap.objs.size, _, I.laid (t' := s.toks) (o := .tup []) (fun b ob q => Heap.get?_push_of_some _ q) (Nat.le_refl _) ?_, rfl, q _ (I.hok.fresh (Nat.le_refl _))⟩
    exact ⟨Nat.zero_le _, _, .nil, IsTup.new _ _⟩
end
end L2

set_option Elab.async false
set_option linter.all false
set_option maxRecDepth 100000
set_option maxHeartbeats 2000000
namespace Js
open PySem L2
/-! told things are small -/
mutual
def Dd.sm : Dd → Prop
  | .told _ t => t.size ≤ 3
  | .take _ _ _ => True
  | .two _ _ _ _ => True
  | .wh _ r => smR r
  | .iff _ r o => smR r ∧ smR o
def smR : List Dd → Prop
  | [] => True
  | d :: r => d.sm ∧ smR r
end
theorem smR_app : ∀ (a b : List Dd), smR a → smR b → smR (a ++ b)
  | [], _, _, h => h
  | _ :: a, b, h, h2 => ⟨h.1, smR_app a b h.2 h2⟩
theorem smR_tk : ∀ (n : Nat) (a : List Dd), smR a → smR (a.take n)
  | 0, a, _ => by rw [List.take_zero]; trivial
  | n + 1, [], _ => trivial
  | n + 1, d :: a, h => ⟨h.1, smR_tk n a h.2⟩
/-- all but what stands at p and f stays -/
def KC (p f : Addr) (H H' : Hp) : Prop := ∀ a o, a ≠ p → a ≠ f → H a = some o → H' a = some o
theorem KC.refl (p f : Addr) (H : Hp) : KC p f H H := fun _ _ _ _ h => h
theorem KC.of {p f : Addr} {H H' : Hp} (s : Same H H') : KC p f H H' := fun _ _ _ _ h => s _ _ h
theorem KC.kb {p f : Addr} {H H' : Hp} (k : KB p H H') : KC p f H H' := fun _ _ n _ h => k _ _ n h
theorem KC.trans {p f : Addr} {H H1 H2 : Hp} (a : KC p f H H1) (b : KC p f H1 H2) : KC p f H H2 := fun x o n m h => b x o n m (a x o n m h)
theorem KC.set {p f : Addr} {H : Hp} {o : HO} : KC p f H (upd H f o) := fun x u _ m h => by rw [upd_ne m]; exact h
theorem KC.kt {p f : Addr} {H H' : Hp} (k : KC p f H H') {xs ys : List V} (hp : H p = some (.lst xs)) (hf : H f = some (.lst ys)) : KT H H' := fun a o h n => k a o (fun z => by subst z; exact n _ (Option.some.inj (h.symm.trans hp))) (fun z => by subst z; exact n _ (Option.some.inj (h.symm.trans hf))) h
/-- how many deeds are left -/
def Lf (H : Hp) (f : Addr) (l : Nat) : Prop := H f = some (.lst [.int (l : Nat)])
def spName : Sp := fun vs H Q _ => ∃ p, vs = [.ref p] ∧ BagOk H p ∧ ∀ (a : Nat) H', KB p H H' → BagOk H' p → a < 10 → Q (.int (a : Nat)) H'
def spDeed (K : PySem.W.Frag) (C : Addr) (m : Nat) : Sp := fun vs H Q _ => ∃ (p f : Addr) (dp l : Nat), vs = [.ref p, .ref f, .int (dp : Nat)] ∧ BagOk H p ∧ Lf H f l ∧ p ≠ f ∧ dp + m = 5 ∧ l ≤ 1000 ∧
  ∀ v d l' H', KC p f H H' → BagOk H' p → Lf H' f l' → l' ≤ l → DAt K C H' v d → d.deep ≤ m → d.many ≤ 2 * (l - l') + 2 → d.sm → Q v H'
def spDeeds (K : PySem.W.Frag) (C : Addr) (m : Nat) : Sp := fun vs H Q _ => ∃ (p f : Addr) (dp l : Nat), vs = [.ref p, .ref f, .int (dp : Nat)] ∧ BagOk H p ∧ Lf H f l ∧ p ≠ f ∧ dp + m = 6 ∧ 1 ≤ m ∧ l ≤ 1000 ∧
  ∀ q r l' H', KC p f H H' → BagOk H' p → Lf H' f l' → l' ≤ l → RAt K C H' q r → deepR r + 1 ≤ m → manyR r ≤ 2 * (l - l') → smR r → Q (.ref q) H'
theorem name_at (d : Int) (h0 : 0 ≤ d) (h1 : d < 8) : ∃ a : Nat, atI [V.int 0, V.int 0, V.int 0, V.int 1, V.int 1, V.int 2, V.int 2, V.int 3] d = some (.int (a : Nat)) ∧ a < 10 := by
  obtain ⟨n, rfl⟩ := Int.eq_ofNat_of_zero_le h0
  match n, h1 with
  | 0, _ => exact ⟨0, rfl, by decide⟩
  | 1, _ => exact ⟨0, rfl, by decide⟩
  | 2, _ => exact ⟨0, rfl, by decide⟩
  | 3, _ => exact ⟨1, rfl, by decide⟩
  | 4, _ => exact ⟨1, rfl, by decide⟩
  | 5, _ => exact ⟨2, rfl, by decide⟩
  | 6, _ => exact ⟨2, rfl, by decide⟩
  | 7, _ => exact ⟨3, rfl, by decide⟩
  | n + 8, h => exact absurd h (by omega)
/-- one of the four short kinds -/
theorem kind_at (d : Int) (h0 : 0 ≤ d) (h1 : d < 6) : ∃ k : Str, atI [V.str "first", V.str "second", V.str "second", V.str "pair", V.str "pair", V.str "same"] d = some (.str k) ∧ ((∃ s, k = takeS s) ∨ ∃ s, k = twoS s) := by
  obtain ⟨n, rfl⟩ := Int.eq_ofNat_of_zero_le h0
  match n, h1 with
  | 0, _ => exact ⟨_, rfl, .inl ⟨false, rfl⟩⟩
  | 1, _ => exact ⟨_, rfl, .inl ⟨true, rfl⟩⟩
  | 2, _ => exact ⟨_, rfl, .inl ⟨true, rfl⟩⟩
  | 3, _ => exact ⟨_, rfl, .inr ⟨false, rfl⟩⟩
  | 4, _ => exact ⟨_, rfl, .inr ⟨false, rfl⟩⟩
  | 5, _ => exact ⟨_, rfl, .inr ⟨true, rfl⟩⟩
  | n + 6, h => exact absurd h (by omega)
theorem in_take (s : Bool) : inV (.str (takeS s)) [V.str "pair", V.str "same"] = false := by cases s <;> decide +kernel
theorem in_two (s : Bool) : inV (.str (twoS s)) [V.str "pair", V.str "same"] = true := by cases s <;> decide +kernel
theorem DsAt_snoc {K : PySem.W.Frag} {C : Addr} {H : Hp} {v : V} {d : Dd} (hd : DAt K C H v d) : ∀ (r : List Dd) (vs : List V), DsAt K C H vs r → DsAt K C H (vs ++ [v]) (r ++ [d])
  | [], vs, h => by
    have e : vs = [] := h
    subst e
    exact ⟨v, [], rfl, hd, rfl⟩
  | e :: r, vs, h => by
    obtain ⟨u, us, rfl, h1, h2⟩ := h
    exact ⟨u, us ++ [v], rfl, h1, DsAt_snoc hd r us h2⟩
theorem DsAt_app {K : PySem.W.Frag} {C : Addr} {H : Hp} : ∀ (r u : List Dd) (vs us : List V), DsAt K C H vs r → DsAt K C H us u → DsAt K C H (vs ++ us) (r ++ u)
  | [], u, vs, us, h, g => by
    have e : vs = [] := h
    subst e
    exact g
  | e :: r, u, vs, us, h, g => by
    obtain ⟨v, ws, rfl, h1, h2⟩ := h
    exact ⟨v, ws ++ us, rfl, h1, DsAt_app r u ws us h2 g⟩
theorem deepR_app : ∀ (a b : List Dd), deepR (a ++ b) = max (deepR a) (deepR b)
  | [], b => by rw [List.nil_append, deepR, Nat.max_eq_right (Nat.zero_le _)]
  | d :: a, b => by rw [List.cons_append, deepR, deepR_app a b, deepR, Nat.max_assoc]
theorem len_many : ∀ r : List Dd, r.length ≤ manyR r
  | [] => Nat.zero_le _
  | d :: r => by
    have := len_many r
    have := many_pos d
    rw [List.length_cons, many_cons]
    omega
theorem deepR_one (d : Dd) : deepR [d] = d.deep := by rw [deepR, deepR, Nat.max_eq_left (Nat.zero_le _)]
theorem bag_upd {H : Hp} {p L : Addr} {o : HO} (b : BagOk H p) (n : L ≠ p) : BagOk (upd H L o) p := by
  obtain ⟨x0, x1', pr, x3', hx, rest⟩ := b.ex
  exact ⟨⟨x0, x1', pr, x3', by rw [upd_ne (Ne.symm n)]; exact hx, rest⟩⟩
section
variable {X : Cx} {C : Addr}
/-- a row behind a row -/
theorem op_catR : OpR X (binaryOp .Add) (fun x y H Q => ∃ q q2 r u, x = .ref q ∧ y = .ref q2 ∧ RAt X.K C H q r ∧ RAt X.K C H q2 u ∧ r.length + u.length ≤ 100000 ∧ ∀ q' H', Same H H' → RAt X.K C H' q' (r ++ u) → Q (.ref q') H') :=
  OpR.imp op_catA fun x y H Q h => by
    obtain ⟨q, q2, r, u, rfl, rfl, ⟨vs, h1, h2⟩, ⟨us, g1, g2⟩, hl, k⟩ := h
    have lv := DsAt.length r vs h2
    have lu := DsAt.length u us g2
    have hsl := line4
    refine ⟨q, q2, vs, us, rfl, rfl, h1, g1, by omega, fun e0 => ?_, fun _ e1 => ?_, fun _ _ U nU => ?_⟩
    · subst e0
      have er : r = [] := List.length_eq_zero_iff.mp lv.symm
      subst er
      exact k q2 H (Same.refl H) ⟨us, g1, g2⟩
    · subst e1
      have er : u = [] := List.length_eq_zero_iff.mp lu.symm
      subst er
      exact k q H (Same.refl H) (by rw [List.append_nil]; exact ⟨vs, h1, h2⟩)
    · have sU := Same.new nU (o := .tup (vs ++ us))
      exact k U _ sU ⟨_, SqT.of upd_same, DsAt_app r u vs us (DsAt_kt (KT.of sU) r vs h2) (DsAt_kt (KT.of sU) u us g2)⟩
/-- a row of one deed, taken once or not at all -/
theorem op_rep01R : OpR X (binaryOp .Mult) (fun x y H Q => ∃ l k d, x = .ref l ∧ y = .int k ∧ RAt X.K C H l [d] ∧ (k = 1 ∨ k = 0) ∧ ∀ q r H', Same H H' → RAt X.K C H' q r → (r = [] ∨ r = [d]) → Q (.ref q) H') :=
  OpR.imp op_rep01 fun x y H Q h => by
    obtain ⟨l, k, d, rfl, rfl, ⟨vs, h1, h2⟩, hk, q⟩ := h
    have lv := DsAt.length [d] vs h2
    refine ⟨l, k, vs, rfl, rfl, h1, fun e => (by rw [e] at lv; cases lv), ?_⟩
    rcases hk with rfl | rfl
    · exact .inl ⟨rfl, q l [d] H (Same.refl H) ⟨vs, h1, h2⟩ (.inr rfl)⟩
    · exact .inr ⟨rfl, fun p np => q p [] _ (Same.new np) ⟨[], SqT.of upd_same, rfl⟩ (.inl rfl)⟩
end
end Js

set_option Elab.async false
set_option linter.all false
set_option maxRecDepth 100000
set_option maxHeartbeats 2000000
namespace Js
open PySem L2
open PySem.Spec PyProof.Rows
abbrev sFetch : Stmt := top 33
abbrev sGoTo : Stmt := top 30
abbrev sMake44 : Stmt := top 34
abbrev sStore : Stmt := top 35
theorem flat_rl {α : Type} (d : α) : ∀ n : Nat, (List.replicate n [d]).flatten = List.replicate n d
  | 0 => rfl
  | n + 1 => by
    rw [List.replicate_succ, List.flatten_cons, List.replicate_succ, flat_rl d n]
    rfl
theorem iteT' {b : Bool} {X Y : Prop} (e : b = true) (h : X) : if b = true then X else Y := by rw [if_pos e]; exact h
theorem iteF' {b : Bool} {X Y : Prop} (e : b = false) (h : Y) : if b = true then X else Y := by rw [if_neg (by rw [e]; decide)]; exact h
theorem iop_catR {X : Cx} {C : Addr} : OpR X (inplaceOp .Add) (fun x y H Q => ∃ q q2 r u, x = .ref q ∧ y = .ref q2 ∧ RAt X.K C H q r ∧ RAt X.K C H q2 u ∧ r.length + u.length ≤ 100000 ∧ ∀ q' H', Same H H' → RAt X.K C H' q' (r ++ u) → Q (.ref q') H') :=
  OpR.imp iop_catA fun x y H Q h => by
    obtain ⟨q, q2, r, u, rfl, rfl, ⟨vs, h1, h2⟩, ⟨us, g1, g2⟩, hl, k⟩ := h
    have lv := DsAt.length r vs h2
    have lu := DsAt.length u us g2
    have hsl := line4
    refine ⟨q, q2, vs, us, rfl, rfl, h1, g1, by omega, fun e0 => ?_, fun _ e1 => ?_, fun _ _ U nU => ?_⟩
    · subst e0
      have er : r = [] := List.length_eq_zero_iff.mp lv.symm
      subst er
      exact k q2 H (Same.refl H) ⟨us, g1, g2⟩
    · subst e1
      have er : u = [] := List.length_eq_zero_iff.mp lu.symm
      subst er
      exact k q H (Same.refl H) (by rw [List.append_nil]; exact ⟨vs, h1, h2⟩)
    · have sU := Same.new nU (o := .tup (vs ++ us))
      exact k U _ sU ⟨_, SqT.of upd_same, DsAt_app r u vs us (DsAt_kt (KT.of sU) r vs h2) (DsAt_kt (KT.of sU) u us g2)⟩
/-! ### what they make -/
def fetchR (i n : Nat) : List Dd := ([.take true i 1] ++ List.replicate n (.take true i i)) ++ [.take false i i]
def gotoR (p e : Nat) : List Dd := [.told 2 (num p), .two false 1 2 0] ++ (if p = e then [.told 0 .nil] else [])
def makeR : Dd → List Dd
  | .told _ t => [.told 0 t]
  | .take s _ b => fetchR 0 b ++ [.take s 0 0]
  | .two s _ b c => (fetchR 0 b ++ fetchR 2 c) ++ [.two s 0 0 2]
  | _ => []
def stL (n : Nat) : Nat → List Dd
  | 0 => []
  | i + 1 => stL n i ++ (fetchR 2 (n - 1 - i) ++ [.two false 0 2 0])
def stB (n : Nat) : List Dd := ([.take true 2 1] ++ List.replicate (n + 1) (.take true 2 2)) ++ [.two false 0 0 2]
def storeR (n : Nat) : List Dd := stB n ++ stL n n
theorem fetch_len (i n : Nat) : (fetchR i n).length = n + 2 := by simp [fetchR]
theorem goto_le (p e : Nat) : (gotoR p e).length = 2 + (if p = e then 1 else 0) := by
  unfold gotoR
  split <;> rfl
theorem stB_len (n : Nat) : (stB n).length = n + 3 := by simp [stB]
theorem stL_le (n : Nat) : ∀ i, (stL n i).length ≤ (n + 3) * i
  | 0 => Nat.zero_le _
  | i + 1 => by
    rw [stL, List.length_append, List.length_append, fetch_len, List.length_singleton, Nat.mul_succ]
    have := stL_le n i
    omega
def spFetch (K : PySem.W.Frag) (C : Addr) : Sp := fun vs H Q _ => ∃ i n : Nat, vs = [.int (i : Nat), .int (n : Nat)] ∧ i < 10 ∧ n < 10 ∧ ∀ q H', Same H H' → RAt K C H' q (fetchR i n) → Q (.ref q) H'
def spGoTo (K : PySem.W.Frag) (C : Addr) : Sp := fun vs H Q _ => ∃ p e : Nat, vs = [.int (p : Nat), .int (e : Nat)] ∧ p ≤ 4000 ∧ ∀ q H', Same H H' → RAt K C H' q (gotoR p e) → Q (.ref q) H'
def spMake44 (K : PySem.W.Frag) (C : Addr) : Sp := fun vs H Q _ => ∃ v d, vs = [v] ∧ DAt K C H v d ∧ d.look = false ∧ ∀ q H', Same H H' → RAt K C H' q (makeR d) → Q (.ref q) H'
def spStore (K : PySem.W.Frag) (C : Addr) : Sp := fun vs H Q _ => ∃ n : Nat, vs = [.int (n : Nat)] ∧ n < 10 ∧ ∀ q H', Same H H' → RAt K C H' q (storeR n) → Q (.ref q) H'
section
variable {P : Program} {w : World} {K : PySem.W.Frag} {mg : Str → Option Value} {base : Heap} {C fI : Addr} {fdI : FuncData}
theorem scFe : FnScope ["into", "name"] ["into", "name"] (defScope sFetch) := ⟨rfl, rfl, rfl, by decide +kernel, rfl, by decide +kernel, by decide +kernel⟩
theorem ok_fetch {f : Addr} {fd : FuncData} (F : Fun K "fetch" "fetch" sFetch f fd) : FnOk P w K mg base CX0 1 f fd ["into", "name"] (spFetch K C) := by
  refine F.ok scFe (fun vs H Q E h => ?_) (fun cdv A outer s H vs Q E hr h => ?_)
  · obtain ⟨i, n, rfl, _⟩ := h
    rfl
  · obtain ⟨i, n, rfl, hi, hn, k⟩ := h
    refine ⟨_, pss_one (ps_ret (pe_op (op_catR (C := C)) (pe_op (op_catR (C := C)) (pe_tup (pa_cons (pe_tup (pa_cons pe_str (pa_cons (pv 0) (pa_cons pe_int pa_nil)))) pa_nil)) (pe_op (op_mulR (C := C)) (pe_tup (pa_cons (pe_tup (pa_cons pe_str (pa_cons (pv 0) (pa_cons (pv 0) pa_nil)))) pa_nil)) (pv 1))) (pe_tup (pa_cons (pe_tup (pa_cons pe_str (pa_cons (pv 0) (pa_cons (pv 0) pa_nil)))) pa_nil)))), ?_⟩
    have hsl := line4
    refine ⟨_, rfl, by show 3 ≤ sizeLine; decide, fun T1 nT1 => ?_⟩
    have s1 := Same.new nT1 (o := .tup [V.str "second", V.int ((i : Nat) : Int), V.int (1)])
    have e1 : (upd H T1 (.tup [V.str "second", V.int ((i : Nat) : Int), V.int (1)])) T1 = some (.tup [V.str "second", V.int ((i : Nat) : Int), V.int (1)]) := upd_same
    revert s1 e1
    generalize upd H T1 (.tup [V.str "second", V.int ((i : Nat) : Int), V.int (1)]) = G1
    intro s1 e1
    have dT1 : DAt K C G1 (.ref T1) (.take true i 1) := ⟨T1, rfl, SqT.of e1, by omega, by omega⟩
    refine ⟨by show 1 ≤ sizeLine; decide, fun T2 nT2 => ?_⟩
    have s2 := Same.new nT2 (o := .tup [.ref T1])
    have e2 : (upd G1 T2 (.tup [.ref T1])) T2 = some (.tup [.ref T1]) := upd_same
    revert s2 e2
    generalize upd G1 T2 (.tup [.ref T1]) = G2
    intro s2 e2
    replace dT1 := DAt_kt (KT.of s2) _ _ dT1
    have rT2 : RAt K C G2 T2 [.take true i 1] := ⟨_, SqT.of e2, ⟨_, _, rfl, dT1, rfl⟩⟩
    refine ⟨_, rfl, _, rfl, by show 3 ≤ sizeLine; decide, fun T3 nT3 => ?_⟩
    have s3 := Same.new nT3 (o := .tup [V.str "second", V.int ((i : Nat) : Int), V.int ((i : Nat) : Int)])
    have e3 : (upd G2 T3 (.tup [V.str "second", V.int ((i : Nat) : Int), V.int ((i : Nat) : Int)])) T3 = some (.tup [V.str "second", V.int ((i : Nat) : Int), V.int ((i : Nat) : Int)]) := upd_same
    revert s3 e3
    generalize upd G2 T3 (.tup [V.str "second", V.int ((i : Nat) : Int), V.int ((i : Nat) : Int)]) = G3
    intro s3 e3
    replace rT2 := RAt.same s3 rT2
    have dT3 : DAt K C G3 (.ref T3) (.take true i i) := ⟨T3, rfl, SqT.of e3, by omega, by omega⟩
    refine ⟨by show 1 ≤ sizeLine; decide, fun T4 nT4 => ?_⟩
    have s4 := Same.new nT4 (o := .tup [.ref T3])
    have e4 : (upd G3 T4 (.tup [.ref T3])) T4 = some (.tup [.ref T3]) := upd_same
    revert s4 e4
    generalize upd G3 T4 (.tup [.ref T3]) = G4
    intro s4 e4
    replace rT2 := RAt.same s4 rT2
    replace dT3 := DAt_kt (KT.of s4) _ _ dT3
    have rT4 : RAt K C G4 T4 [.take true i i] := ⟨_, SqT.of e4, ⟨_, _, rfl, dT3, rfl⟩⟩
    refine ⟨_, rfl, T4, _, n, rfl, rfl, rT4, by omega, by simp, fun T5 G5 s5 rT5 => ?_⟩
    rw [flat_rl] at rT5
    replace rT2 := RAt.same s5 rT2
    refine ⟨T2, T5, _, _, rfl, rfl, rT2, rT5, by simp only [List.length_append, List.length_replicate, List.length_cons, List.length_nil]; omega, fun T6 G6 s6 rT6 => ?_⟩
    refine ⟨_, rfl, _, rfl, by show 3 ≤ sizeLine; decide, fun T7 nT7 => ?_⟩
    have s7 := Same.new nT7 (o := .tup [V.str "first", V.int ((i : Nat) : Int), V.int ((i : Nat) : Int)])
    have e7 : (upd G6 T7 (.tup [V.str "first", V.int ((i : Nat) : Int), V.int ((i : Nat) : Int)])) T7 = some (.tup [V.str "first", V.int ((i : Nat) : Int), V.int ((i : Nat) : Int)]) := upd_same
    revert s7 e7
    generalize upd G6 T7 (.tup [V.str "first", V.int ((i : Nat) : Int), V.int ((i : Nat) : Int)]) = G7
    intro s7 e7
    replace rT6 := RAt.same s7 rT6
    have dT7 : DAt K C G7 (.ref T7) (.take false i i) := ⟨T7, rfl, SqT.of e7, by omega, by omega⟩
    refine ⟨by show 1 ≤ sizeLine; decide, fun T8 nT8 => ?_⟩
    have s8 := Same.new nT8 (o := .tup [.ref T7])
    have e8 : (upd G7 T8 (.tup [.ref T7])) T8 = some (.tup [.ref T7]) := upd_same
    revert s8 e8
    generalize upd G7 T8 (.tup [.ref T7]) = G8
    intro s8 e8
    replace rT6 := RAt.same s8 rT6
    replace dT7 := DAt_kt (KT.of s8) _ _ dT7
    have rT8 : RAt K C G8 T8 [.take false i i] := ⟨_, SqT.of e8, ⟨_, _, rfl, dT7, rfl⟩⟩
    refine ⟨T6, T8, _, _, rfl, rfl, rT6, rT8, by simp only [List.length_append, List.length_replicate, List.length_cons, List.length_nil]; omega, fun T9 G9 s9 rT9 => ?_⟩
    exact k T9 G9 (((((((((s1).trans s2).trans s3).trans s4).trans s5).trans s6).trans s7).trans s8).trans s9) rT9
theorem scGt : FnScope ["point", "end", "over"] ["point", "end"] (defScope sGoTo) := ⟨rfl, rfl, rfl, by decide +kernel, rfl, by decide +kernel, by decide +kernel⟩
theorem ok_goTo {f : Addr} {fd : FuncData} (F : Fun K "go_to" "go_to" sGoTo f fd) (mk : Maker P w K mg base C fI fdI) (DNu : Def P w K mg base "number" 4 ["n"] (spNumber C)) : FnOk P w K mg base CX0 5 f fd ["point", "end"] (spGoTo K C) := by
  refine F.ok scGt (fun vs H Q E h => ?_) (fun cdv A outer s H vs Q E hr h => ?_)
  · obtain ⟨p, e, rfl, _⟩ := h
    rfl
  · obtain ⟨p, e, rfl, hp, k⟩ := h
    have hr3 : Room 3 _ := hr.mono (by decide)
    have hr4 : Room 4 _ := hr
    refine ⟨_, pss_cons (ps_set (i := 2) scGt.nd rfl (Or.inl rfl) (pe_ifExp (pt_cmpR op_eq (pv 0) (pv 1) (nomark _)) (pe_tup (pa_cons (pe_tup (pa_cons pe_str (pa_cons pe_int (pa_cons (pe_T0 mk hr3 rfl) pa_nil)))) pa_nil)) (pe_tup pa_nil))) (pss_one (ps_ret (pe_op (op_catR (C := C)) (pe_tup (pa_cons (pe_tup (pa_cons pe_str (pa_cons pe_int (pa_cons (pe_def DNu hr4 rfl (pa_cons (pv 0) pa_nil)) pa_nil)))) (pa_cons (pe_tup (pa_cons pe_str (pa_cons pe_int (pa_cons pe_int (pa_cons pe_int pa_nil))))) pa_nil))) (pv 2)))), ?_⟩
    have hsl := line4
    refine ⟨_, rfl, _, rfl, rfl, _, rfl, ?_⟩
    rw [dec_int]
    by_cases he : p = e
    · subst he
      refine iteT' (beq_self_eq_true _) ?_
      refine fun x0 H0 s0 _ hx0 => ?_
      refine ⟨by show 3 ≤ sizeLine; decide, fun T1 nT1 => ?_⟩
      have s1 := Same.new nT1 (o := .tup [V.str "told", V.int (0), .ref x0])
      have e1 : (upd H0 T1 (.tup [V.str "told", V.int (0), .ref x0])) T1 = some (.tup [V.str "told", V.int (0), .ref x0]) := upd_same
      revert s1 e1
      generalize upd H0 T1 (.tup [V.str "told", V.int (0), .ref x0]) = G1
      intro s1 e1
      replace hx0 := hx0.same s1
      have dT1 : DAt K C G1 (.ref T1) (.told 0 .nil) := ⟨T1, x0, rfl, SqT.of e1, by decide, hx0, by decide⟩
      refine ⟨by show 1 ≤ sizeLine; decide, fun T2 nT2 => ?_⟩
      have s2 := Same.new nT2 (o := .tup [.ref T1])
      have e2 : (upd G1 T2 (.tup [.ref T1])) T2 = some (.tup [.ref T1]) := upd_same
      revert s2 e2
      generalize upd G1 T2 (.tup [.ref T1]) = G2
      intro s2 e2
      replace hx0 := hx0.same s2
      replace dT1 := DAt_kt (KT.of s2) _ _ dT1
      have rT2 : RAt K C G2 T2 [.told 0 .nil] := ⟨_, SqT.of e2, ⟨_, _, rfl, dT1, rfl⟩⟩
      refine ⟨_, rfl, p, rfl, hp, fun xp HNp sNp hxp => ?_⟩
      replace rT2 := RAt.same sNp rT2
      refine ⟨by show 3 ≤ sizeLine; decide, fun T11 nT11 => ?_⟩
      have s11 := Same.new nT11 (o := .tup [V.str "told", V.int (2), .ref xp])
      have e11 : (upd HNp T11 (.tup [V.str "told", V.int (2), .ref xp])) T11 = some (.tup [V.str "told", V.int (2), .ref xp]) := upd_same
      revert s11 e11
      generalize upd HNp T11 (.tup [V.str "told", V.int (2), .ref xp]) = G11
      intro s11 e11
      replace rT2 := RAt.same s11 rT2
      replace hxp := hxp.same s11
      have dT11 : DAt K C G11 (.ref T11) (.told 2 (num p)) := ⟨T11, xp, rfl, SqT.of e11, by decide, hxp, by rw [num_size]; omega⟩
      refine ⟨by show 4 ≤ sizeLine; decide, fun T12 nT12 => ?_⟩
      have s12 := Same.new nT12 (o := .tup [V.str "pair", V.int (1), V.int (2), V.int (0)])
      have e12 : (upd G11 T12 (.tup [V.str "pair", V.int (1), V.int (2), V.int (0)])) T12 = some (.tup [V.str "pair", V.int (1), V.int (2), V.int (0)]) := upd_same
      revert s12 e12
      generalize upd G11 T12 (.tup [V.str "pair", V.int (1), V.int (2), V.int (0)]) = G12
      intro s12 e12
      replace rT2 := RAt.same s12 rT2
      replace hxp := hxp.same s12
      replace dT11 := DAt_kt (KT.of s12) _ _ dT11
      have dT12 : DAt K C G12 (.ref T12) (.two false 1 2 0) := ⟨T12, rfl, SqT.of e12, by decide, by decide, by decide⟩
      refine ⟨by show 2 ≤ sizeLine; decide, fun T13 nT13 => ?_⟩
      have s13 := Same.new nT13 (o := .tup [.ref T11, .ref T12])
      have e13 : (upd G12 T13 (.tup [.ref T11, .ref T12])) T13 = some (.tup [.ref T11, .ref T12]) := upd_same
      revert s13 e13
      generalize upd G12 T13 (.tup [.ref T11, .ref T12]) = G13
      intro s13 e13
      replace rT2 := RAt.same s13 rT2
      replace hxp := hxp.same s13
      replace dT11 := DAt_kt (KT.of s13) _ _ dT11
      replace dT12 := DAt_kt (KT.of s13) _ _ dT12
      have rT13 : RAt K C G13 T13 [.told 2 (num p), .two false 1 2 0] := ⟨_, SqT.of e13, ⟨_, _, rfl, dT11, ⟨_, _, rfl, dT12, rfl⟩⟩⟩
      refine ⟨_, rfl, T13, T2, _, _, rfl, rfl, rT13, rT2, by show 2 + 1 ≤ 100000; omega, fun T14 G14 s14 rT14 => ?_⟩
      refine k T14 G14 ((((s0).trans s1).trans s2).trans (((((sNp).trans s11).trans s12).trans s13).trans s14)) ?_
      unfold gotoR
      rw [if_pos rfl]
      exact rT14
    · refine iteF' (by rw [beq_eq_false_iff_ne]; omega) ?_
      refine ⟨by show 0 ≤ sizeLine; decide, fun T1 nT1 => ?_⟩
      have s1 := Same.new nT1 (o := .tup [])
      have e1 : (upd H T1 (.tup [])) T1 = some (.tup []) := upd_same
      revert s1 e1
      generalize upd H T1 (.tup []) = G1
      intro s1 e1
      have hz : RAt K C G1 T1 [] := ⟨[], SqT.of e1, rfl⟩
      refine ⟨_, rfl, p, rfl, hp, fun xp HNp sNp hxp => ?_⟩
      replace hz := RAt.same sNp hz
      refine ⟨by show 3 ≤ sizeLine; decide, fun T11 nT11 => ?_⟩
      have s11 := Same.new nT11 (o := .tup [V.str "told", V.int (2), .ref xp])
      have e11 : (upd HNp T11 (.tup [V.str "told", V.int (2), .ref xp])) T11 = some (.tup [V.str "told", V.int (2), .ref xp]) := upd_same
      revert s11 e11
      generalize upd HNp T11 (.tup [V.str "told", V.int (2), .ref xp]) = G11
      intro s11 e11
      replace hz := RAt.same s11 hz
      replace hxp := hxp.same s11
      have dT11 : DAt K C G11 (.ref T11) (.told 2 (num p)) := ⟨T11, xp, rfl, SqT.of e11, by decide, hxp, by rw [num_size]; omega⟩
      refine ⟨by show 4 ≤ sizeLine; decide, fun T12 nT12 => ?_⟩
      have s12 := Same.new nT12 (o := .tup [V.str "pair", V.int (1), V.int (2), V.int (0)])
      have e12 : (upd G11 T12 (.tup [V.str "pair", V.int (1), V.int (2), V.int (0)])) T12 = some (.tup [V.str "pair", V.int (1), V.int (2), V.int (0)]) := upd_same
      revert s12 e12
      generalize upd G11 T12 (.tup [V.str "pair", V.int (1), V.int (2), V.int (0)]) = G12
      intro s12 e12
      replace hz := RAt.same s12 hz
      replace hxp := hxp.same s12
      replace dT11 := DAt_kt (KT.of s12) _ _ dT11
      have dT12 : DAt K C G12 (.ref T12) (.two false 1 2 0) := ⟨T12, rfl, SqT.of e12, by decide, by decide, by decide⟩
      refine ⟨by show 2 ≤ sizeLine; decide, fun T13 nT13 => ?_⟩
      have s13 := Same.new nT13 (o := .tup [.ref T11, .ref T12])
      have e13 : (upd G12 T13 (.tup [.ref T11, .ref T12])) T13 = some (.tup [.ref T11, .ref T12]) := upd_same
      revert s13 e13
      generalize upd G12 T13 (.tup [.ref T11, .ref T12]) = G13
      intro s13 e13
      replace hz := RAt.same s13 hz
      replace hxp := hxp.same s13
      replace dT11 := DAt_kt (KT.of s13) _ _ dT11
      replace dT12 := DAt_kt (KT.of s13) _ _ dT12
      have rT13 : RAt K C G13 T13 [.told 2 (num p), .two false 1 2 0] := ⟨_, SqT.of e13, ⟨_, _, rfl, dT11, ⟨_, _, rfl, dT12, rfl⟩⟩⟩
      refine ⟨_, rfl, T13, T1, _, _, rfl, rfl, rT13, hz, by show 2 + 0 ≤ 100000; omega, fun T14 G14 s14 rT14 => ?_⟩
      refine k T14 G14 ((s1).trans (((((sNp).trans s11).trans s12).trans s13).trans s14)) ?_
      unfold gotoR
      rw [if_neg he]
      exact rT14
theorem scMa : FnScope ["deed", "kind"] ["deed"] (defScope sMake44) := ⟨rfl, rfl, rfl, by decide +kernel, rfl, by decide +kernel, by decide +kernel⟩
theorem ok_make {f : Addr} {fd : FuncData} (F : Fun K "make" "make" sMake44 f fd) (DFe : Def P w K mg base "fetch" 1 ["into", "name"] (spFetch K C)) : FnOk P w K mg base CX0 2 f fd ["deed"] (spMake44 K C) := by
  refine F.ok scMa (fun vs H Q E h => ?_) (fun cdv A outer s H vs Q E hr h => ?_)
  · obtain ⟨v, d, rfl, _⟩ := h
    rfl
  · obtain ⟨v, d, rfl, hdd, hlk, k⟩ := h
    have hr1 : Room 1 _ := hr
    refine ⟨_, pss_cons (ps_set (i := 1) scMa.nd rfl (Or.inl rfl) (pe_ix (r := rIxT K) ix_tup (pv 0) pe_int (fun _ _ => rfl))) (pss_cons (ps_if (pt_cmpR op_eq (pv 1) pe_str (nomark _)) (pss_one (ps_ret (pe_tup (pa_cons (pe_tup (pa_cons pe_str (pa_cons pe_int (pa_cons (pe_ix (r := rIxT K) ix_tup (pv 0) pe_int (fun _ _ => rfl)) pa_nil)))) pa_nil)))) pss_nil) (pss_cons (ps_if (pt_cmpR op_in_seq (pv 1) (pe_tup (pa_cons pe_str (pa_cons pe_str pa_nil))) rfl) (pss_one (ps_ret (pe_op (op_catR (C := C)) (pe_def DFe hr1 rfl (pa_cons pe_int (pa_cons (pe_ix (r := rIxT K) ix_tup (pv 0) pe_int (fun _ _ => rfl)) pa_nil))) (pe_tup (pa_cons (pe_tup (pa_cons (pv 1) (pa_cons pe_int (pa_cons pe_int pa_nil)))) pa_nil))))) pss_nil) (pss_one (ps_ret (pe_op (op_catR (C := C)) (pe_op (op_catR (C := C)) (pe_def DFe hr1 rfl (pa_cons pe_int (pa_cons (pe_ix (r := rIxT K) ix_tup (pv 0) pe_int (fun _ _ => rfl)) pa_nil))) (pe_def DFe hr1 rfl (pa_cons pe_int (pa_cons (pe_ix (r := rIxT K) ix_tup (pv 0) pe_int (fun _ _ => rfl)) pa_nil)))) (pe_tup (pa_cons (pe_tup (pa_cons (pv 1) (pa_cons pe_int (pa_cons pe_int (pa_cons pe_int pa_nil))))) pa_nil))))))), ?_⟩
    have hsl := line4
    cases d with
    | wh a r => cases hlk
    | iff a r o => cases hlk
    | told a t =>
      obtain ⟨dp, x, rfl, hd, ha, hx, hz⟩ := hdd
      refine ⟨_, rfl, dp, _, 0, _, rfl, rfl, hd, rfl, ?_⟩
      refine ⟨_, rfl, rfl, _, rfl, iteT' (by decide +kernel) ?_⟩
      refine ⟨_, rfl, dp, _, 2, _, rfl, rfl, hd, rfl, by show 3 ≤ sizeLine; decide, fun T1 nT1 => ?_⟩
      have s1 := Same.new nT1 (o := .tup [V.str "told", V.int (0), .ref x])
      have e1 : (upd H T1 (.tup [V.str "told", V.int (0), .ref x])) T1 = some (.tup [V.str "told", V.int (0), .ref x]) := upd_same
      revert s1 e1
      generalize upd H T1 (.tup [V.str "told", V.int (0), .ref x]) = G1
      intro s1 e1
      have dK : DAt K C G1 (.ref T1) (.told 0 t) := ⟨T1, x, rfl, SqT.of e1, by decide, hx.same s1, hz⟩
      refine ⟨by show 1 ≤ sizeLine; decide, fun T2 nT2 => ?_⟩
      have s2 := Same.new nT2 (o := .tup [.ref T1])
      have e2 : (upd G1 T2 (.tup [.ref T1])) T2 = some (.tup [.ref T1]) := upd_same
      revert s2 e2
      generalize upd G1 T2 (.tup [.ref T1]) = G2
      intro s2 e2
      replace dK := DAt_kt (KT.of s2) _ _ dK
      exact k T2 G2 ((s1).trans s2) ⟨_, SqT.of e2, ⟨_, _, rfl, dK, rfl⟩⟩
    | take s a b =>
      obtain ⟨dp, rfl, hd, ha, hb⟩ := hdd
      cases s
      · have ek : V.str (takeS false) = V.str (takeS false) := rfl
        refine ⟨_, rfl, dp, _, 0, _, rfl, rfl, hd, rfl, ?_⟩
        refine ⟨_, rfl, rfl, _, rfl, iteF' (by decide +kernel) ?_⟩
        refine ⟨_, rfl, by show 2 ≤ sizeLine; decide, fun T21 nT21 => ?_⟩
        have s21 := Same.new nT21 (o := .tup [V.str "first", V.str "second"])
        have e21 : (upd H T21 (.tup [V.str "first", V.str "second"])) T21 = some (.tup [V.str "first", V.str "second"]) := upd_same
        revert s21 e21
        generalize upd H T21 (.tup [V.str "first", V.str "second"]) = G21
        intro s21 e21
        refine ⟨T21, _, rfl, .inr (SqT.of e21), rfl, by decide +kernel, _, rfl, iteT' (by decide +kernel) ?_⟩
        replace hd := sqt_kt (KT.of s21) hd
        refine ⟨_, rfl, dp, _, 2, _, rfl, rfl, hd, rfl, 0, b, rfl, by decide, hb, fun T1 G1 s1 rT1 => ?_⟩
        replace hd := sqt_kt (KT.of s1) hd
        refine ⟨_, rfl, by show 3 ≤ sizeLine; decide, fun T2 nT2 => ?_⟩
        have s2 := Same.new nT2 (o := .tup [V.str (takeS false), V.int (0), V.int (0)])
        have e2 : (upd G1 T2 (.tup [V.str (takeS false), V.int (0), V.int (0)])) T2 = some (.tup [V.str (takeS false), V.int (0), V.int (0)]) := upd_same
        revert s2 e2
        generalize upd G1 T2 (.tup [V.str (takeS false), V.int (0), V.int (0)]) = G2
        intro s2 e2
        replace rT1 := RAt.same s2 rT1
        have dK : DAt K C G2 (.ref T2) (.take false 0 0) := ⟨T2, rfl, SqT.of e2, by decide, by decide⟩
        refine ⟨by show 1 ≤ sizeLine; decide, fun T3 nT3 => ?_⟩
        have s3 := Same.new nT3 (o := .tup [.ref T2])
        have e3 : (upd G2 T3 (.tup [.ref T2])) T3 = some (.tup [.ref T2]) := upd_same
        revert s3 e3
        generalize upd G2 T3 (.tup [.ref T2]) = G3
        intro s3 e3
        replace rT1 := RAt.same s3 rT1
        replace dK := DAt_kt (KT.of s3) _ _ dK
        have rK : RAt K C G3 T3 [.take false 0 0] := ⟨_, SqT.of e3, ⟨_, _, rfl, dK, rfl⟩⟩
        refine ⟨T1, T3, _, _, rfl, rfl, rT1, rK, by simp only [List.length_append, List.length_cons, List.length_nil, fetch_len]; omega, fun T4 G4 s4 rT4 => ?_⟩
        exact k T4 G4 (s21.trans ((((s1).trans s2).trans s3).trans s4)) rT4
      · have ek : V.str (takeS true) = V.str (takeS true) := rfl
        refine ⟨_, rfl, dp, _, 0, _, rfl, rfl, hd, rfl, ?_⟩
        refine ⟨_, rfl, rfl, _, rfl, iteF' (by decide +kernel) ?_⟩
        refine ⟨_, rfl, by show 2 ≤ sizeLine; decide, fun T21 nT21 => ?_⟩
        have s21 := Same.new nT21 (o := .tup [V.str "first", V.str "second"])
        have e21 : (upd H T21 (.tup [V.str "first", V.str "second"])) T21 = some (.tup [V.str "first", V.str "second"]) := upd_same
        revert s21 e21
        generalize upd H T21 (.tup [V.str "first", V.str "second"]) = G21
        intro s21 e21
        refine ⟨T21, _, rfl, .inr (SqT.of e21), rfl, by decide +kernel, _, rfl, iteT' (by decide +kernel) ?_⟩
        replace hd := sqt_kt (KT.of s21) hd
        refine ⟨_, rfl, dp, _, 2, _, rfl, rfl, hd, rfl, 0, b, rfl, by decide, hb, fun T1 G1 s1 rT1 => ?_⟩
        replace hd := sqt_kt (KT.of s1) hd
        refine ⟨_, rfl, by show 3 ≤ sizeLine; decide, fun T2 nT2 => ?_⟩
        have s2 := Same.new nT2 (o := .tup [V.str (takeS true), V.int (0), V.int (0)])
        have e2 : (upd G1 T2 (.tup [V.str (takeS true), V.int (0), V.int (0)])) T2 = some (.tup [V.str (takeS true), V.int (0), V.int (0)]) := upd_same
        revert s2 e2
        generalize upd G1 T2 (.tup [V.str (takeS true), V.int (0), V.int (0)]) = G2
        intro s2 e2
        replace rT1 := RAt.same s2 rT1
        have dK : DAt K C G2 (.ref T2) (.take true 0 0) := ⟨T2, rfl, SqT.of e2, by decide, by decide⟩
        refine ⟨by show 1 ≤ sizeLine; decide, fun T3 nT3 => ?_⟩
        have s3 := Same.new nT3 (o := .tup [.ref T2])
        have e3 : (upd G2 T3 (.tup [.ref T2])) T3 = some (.tup [.ref T2]) := upd_same
        revert s3 e3
        generalize upd G2 T3 (.tup [.ref T2]) = G3
        intro s3 e3
        replace rT1 := RAt.same s3 rT1
        replace dK := DAt_kt (KT.of s3) _ _ dK
        have rK : RAt K C G3 T3 [.take true 0 0] := ⟨_, SqT.of e3, ⟨_, _, rfl, dK, rfl⟩⟩
        refine ⟨T1, T3, _, _, rfl, rfl, rT1, rK, by simp only [List.length_append, List.length_cons, List.length_nil, fetch_len]; omega, fun T4 G4 s4 rT4 => ?_⟩
        exact k T4 G4 (s21.trans ((((s1).trans s2).trans s3).trans s4)) rT4
    | two s a b c =>
      obtain ⟨dp, rfl, hd, ha, hb, hc⟩ := hdd
      cases s
      · have ek : V.str (twoS false) = V.str (twoS false) := rfl
        refine ⟨_, rfl, dp, _, 0, _, rfl, rfl, hd, rfl, ?_⟩
        refine ⟨_, rfl, rfl, _, rfl, iteF' (by decide +kernel) ?_⟩
        refine ⟨_, rfl, by show 2 ≤ sizeLine; decide, fun T21 nT21 => ?_⟩
        have s21 := Same.new nT21 (o := .tup [V.str "first", V.str "second"])
        have e21 : (upd H T21 (.tup [V.str "first", V.str "second"])) T21 = some (.tup [V.str "first", V.str "second"]) := upd_same
        revert s21 e21
        generalize upd H T21 (.tup [V.str "first", V.str "second"]) = G21
        intro s21 e21
        refine ⟨T21, _, rfl, .inr (SqT.of e21), rfl, by decide +kernel, _, rfl, iteF' (by decide +kernel) ?_⟩
        replace hd := sqt_kt (KT.of s21) hd
        refine ⟨_, rfl, dp, _, 2, _, rfl, rfl, hd, rfl, 0, b, rfl, by decide, hb, fun T1 G1 s1 rT1 => ?_⟩
        replace hd := sqt_kt (KT.of s1) hd
        refine ⟨_, rfl, dp, _, 3, _, rfl, rfl, hd, rfl, 2, c, rfl, by decide, hc, fun T2 G2 s2 rT2 => ?_⟩
        replace hd := sqt_kt (KT.of s2) hd
        replace rT1 := RAt.same s2 rT1
        refine ⟨T1, T2, _, _, rfl, rfl, rT1, rT2, by simp only [List.length_append, List.length_cons, List.length_nil, fetch_len]; omega, fun T3 G3 s3 rT3 => ?_⟩
        replace hd := sqt_kt (KT.of s3) hd
        refine ⟨_, rfl, by show 4 ≤ sizeLine; decide, fun T4 nT4 => ?_⟩
        have s4 := Same.new nT4 (o := .tup [V.str (twoS false), V.int (0), V.int (0), V.int (2)])
        have e4 : (upd G3 T4 (.tup [V.str (twoS false), V.int (0), V.int (0), V.int (2)])) T4 = some (.tup [V.str (twoS false), V.int (0), V.int (0), V.int (2)]) := upd_same
        revert s4 e4
        generalize upd G3 T4 (.tup [V.str (twoS false), V.int (0), V.int (0), V.int (2)]) = G4
        intro s4 e4
        replace rT3 := RAt.same s4 rT3
        have dK : DAt K C G4 (.ref T4) (.two false 0 0 2) := ⟨T4, rfl, SqT.of e4, by decide, by decide, by decide⟩
        refine ⟨by show 1 ≤ sizeLine; decide, fun T5 nT5 => ?_⟩
        have s5 := Same.new nT5 (o := .tup [.ref T4])
        have e5 : (upd G4 T5 (.tup [.ref T4])) T5 = some (.tup [.ref T4]) := upd_same
        revert s5 e5
        generalize upd G4 T5 (.tup [.ref T4]) = G5
        intro s5 e5
        replace rT3 := RAt.same s5 rT3
        replace dK := DAt_kt (KT.of s5) _ _ dK
        have rK : RAt K C G5 T5 [.two false 0 0 2] := ⟨_, SqT.of e5, ⟨_, _, rfl, dK, rfl⟩⟩
        refine ⟨T3, T5, _, _, rfl, rfl, rT3, rK, by simp only [List.length_append, List.length_cons, List.length_nil, fetch_len]; omega, fun T6 G6 s6 rT6 => ?_⟩
        exact k T6 G6 (s21.trans ((((((s1).trans s2).trans s3).trans s4).trans s5).trans s6)) rT6
      · have ek : V.str (twoS true) = V.str (twoS true) := rfl
        refine ⟨_, rfl, dp, _, 0, _, rfl, rfl, hd, rfl, ?_⟩
        refine ⟨_, rfl, rfl, _, rfl, iteF' (by decide +kernel) ?_⟩
        refine ⟨_, rfl, by show 2 ≤ sizeLine; decide, fun T21 nT21 => ?_⟩
        have s21 := Same.new nT21 (o := .tup [V.str "first", V.str "second"])
        have e21 : (upd H T21 (.tup [V.str "first", V.str "second"])) T21 = some (.tup [V.str "first", V.str "second"]) := upd_same
        revert s21 e21
        generalize upd H T21 (.tup [V.str "first", V.str "second"]) = G21
        intro s21 e21
        refine ⟨T21, _, rfl, .inr (SqT.of e21), rfl, by decide +kernel, _, rfl, iteF' (by decide +kernel) ?_⟩
        replace hd := sqt_kt (KT.of s21) hd
        refine ⟨_, rfl, dp, _, 2, _, rfl, rfl, hd, rfl, 0, b, rfl, by decide, hb, fun T1 G1 s1 rT1 => ?_⟩
        replace hd := sqt_kt (KT.of s1) hd
        refine ⟨_, rfl, dp, _, 3, _, rfl, rfl, hd, rfl, 2, c, rfl, by decide, hc, fun T2 G2 s2 rT2 => ?_⟩
        replace hd := sqt_kt (KT.of s2) hd
        replace rT1 := RAt.same s2 rT1
        refine ⟨T1, T2, _, _, rfl, rfl, rT1, rT2, by simp only [List.length_append, List.length_cons, List.length_nil, fetch_len]; omega, fun T3 G3 s3 rT3 => ?_⟩
        replace hd := sqt_kt (KT.of s3) hd
        refine ⟨_, rfl, by show 4 ≤ sizeLine; decide, fun T4 nT4 => ?_⟩
        have s4 := Same.new nT4 (o := .tup [V.str (twoS true), V.int (0), V.int (0), V.int (2)])
        have e4 : (upd G3 T4 (.tup [V.str (twoS true), V.int (0), V.int (0), V.int (2)])) T4 = some (.tup [V.str (twoS true), V.int (0), V.int (0), V.int (2)]) := upd_same
        revert s4 e4
        generalize upd G3 T4 (.tup [V.str (twoS true), V.int (0), V.int (0), V.int (2)]) = G4
        intro s4 e4
        replace rT3 := RAt.same s4 rT3
        have dK : DAt K C G4 (.ref T4) (.two true 0 0 2) := ⟨T4, rfl, SqT.of e4, by decide, by decide, by decide⟩
        refine ⟨by show 1 ≤ sizeLine; decide, fun T5 nT5 => ?_⟩
        have s5 := Same.new nT5 (o := .tup [.ref T4])
        have e5 : (upd G4 T5 (.tup [.ref T4])) T5 = some (.tup [.ref T4]) := upd_same
        revert s5 e5
        generalize upd G4 T5 (.tup [.ref T4]) = G5
        intro s5 e5
        replace rT3 := RAt.same s5 rT3
        replace dK := DAt_kt (KT.of s5) _ _ dK
        have rK : RAt K C G5 T5 [.two true 0 0 2] := ⟨_, SqT.of e5, ⟨_, _, rfl, dK, rfl⟩⟩
        refine ⟨T3, T5, _, _, rfl, rfl, rT3, rK, by simp only [List.length_append, List.length_cons, List.length_nil, fetch_len]; omega, fun T6 G6 s6 rT6 => ?_⟩
        exact k T6 G6 (s21.trans ((((((s1).trans s2).trans s3).trans s4).trans s5).trans s6)) rT6
theorem scSto : FnScope ["name", "behind", "deeds", "ahead"] ["name"] (defScope sStore) := ⟨rfl, rfl, rfl, by decide +kernel, rfl, by decide +kernel, by decide +kernel⟩
theorem ok_store {f : Addr} {fd : FuncData} (F : Fun K "store" "store" sStore f fd) (B : Blt mg) (mrev : mg "reversed" = none) (DFe : Def P w K mg base "fetch" 1 ["into", "name"] (spFetch K C)) : FnOk P w K mg base CX0 2 f fd ["name"] (spStore K C) := by
  refine F.ok scSto (fun vs H Q E h => ?_) (fun cdv A outer s H vs Q E hr h => ?_)
  · obtain ⟨n, rfl, _⟩ := h
    rfl
  · obtain ⟨n, rfl, hn, k⟩ := h
    have hr1 : Room 1 _ := hr
    refine ⟨_, pss_cons (ps_set (i := 1) scSto.nd rfl (Or.inl rfl) (pe_op (op_catR (C := C)) (pe_tup (pa_cons (pe_tup (pa_cons pe_str (pa_cons pe_int (pa_cons pe_int pa_nil)))) pa_nil)) (pe_op (op_mulR (C := C)) (pe_tup (pa_cons (pe_tup (pa_cons pe_str (pa_cons pe_int (pa_cons pe_int pa_nil)))) pa_nil)) (pe_op op_add (pv 0) pe_int)))) (pss_cons (ps_set (i := 2) scSto.nd rfl (Or.inl rfl) (pe_op (op_catR (C := C)) (pv 1) (pe_tup (pa_cons (pe_tup (pa_cons pe_str (pa_cons pe_int (pa_cons pe_int (pa_cons pe_int pa_nil))))) pa_nil)))) (pss_cons (ps_for PassesOwn.never rfl (pi_revR rfl mrev (prg_1 rfl B.range (pv 0))) (pg_name (i := 3) scSto.nd rfl (Or.inl rfl)) (pss_one (ps_aug (i := 2) scSto.nd rfl (Or.inl rfl) (pe_op (op_catR (C := C)) (pe_def DFe hr1 rfl (pa_cons pe_int (pa_cons (pv 3) pa_nil))) (pe_tup (pa_cons (pe_tup (pa_cons pe_str (pa_cons pe_int (pa_cons pe_int (pa_cons pe_int pa_nil))))) pa_nil))) (iop_catR (C := C))))) (pss_one (ps_ret (pv 2))))), ?_⟩
    have hsl := line4
    refine ⟨by show 3 ≤ sizeLine; decide, fun T1 nT1 => ?_⟩
    have s1 := Same.new nT1 (o := .tup [V.str "second", V.int (2), V.int (1)])
    have e1 : (upd H T1 (.tup [V.str "second", V.int (2), V.int (1)])) T1 = some (.tup [V.str "second", V.int (2), V.int (1)]) := upd_same
    revert s1 e1
    generalize upd H T1 (.tup [V.str "second", V.int (2), V.int (1)]) = G1
    intro s1 e1
    have dT1 : DAt K C G1 (.ref T1) (.take true 2 1) := ⟨T1, rfl, SqT.of e1, by decide, by decide⟩
    refine ⟨by show 1 ≤ sizeLine; decide, fun T2 nT2 => ?_⟩
    have s2 := Same.new nT2 (o := .tup [.ref T1])
    have e2 : (upd G1 T2 (.tup [.ref T1])) T2 = some (.tup [.ref T1]) := upd_same
    revert s2 e2
    generalize upd G1 T2 (.tup [.ref T1]) = G2
    intro s2 e2
    replace dT1 := DAt_kt (KT.of s2) _ _ dT1
    have rT2 : RAt K C G2 T2 [.take true 2 1] := ⟨_, SqT.of e2, ⟨_, _, rfl, dT1, rfl⟩⟩
    refine ⟨by show 3 ≤ sizeLine; decide, fun T3 nT3 => ?_⟩
    have s3 := Same.new nT3 (o := .tup [V.str "second", V.int (2), V.int (2)])
    have e3 : (upd G2 T3 (.tup [V.str "second", V.int (2), V.int (2)])) T3 = some (.tup [V.str "second", V.int (2), V.int (2)]) := upd_same
    revert s3 e3
    generalize upd G2 T3 (.tup [V.str "second", V.int (2), V.int (2)]) = G3
    intro s3 e3
    replace rT2 := RAt.same s3 rT2
    have dT3 : DAt K C G3 (.ref T3) (.take true 2 2) := ⟨T3, rfl, SqT.of e3, by decide, by decide⟩
    refine ⟨by show 1 ≤ sizeLine; decide, fun T4 nT4 => ?_⟩
    have s4 := Same.new nT4 (o := .tup [.ref T3])
    have e4 : (upd G3 T4 (.tup [.ref T3])) T4 = some (.tup [.ref T3]) := upd_same
    revert s4 e4
    generalize upd G3 T4 (.tup [.ref T3]) = G4
    intro s4 e4
    replace rT2 := RAt.same s4 rT2
    replace dT3 := DAt_kt (KT.of s4) _ _ dT3
    have rT4 : RAt K C G4 T4 [.take true 2 2] := ⟨_, SqT.of e4, ⟨_, _, rfl, dT3, rfl⟩⟩
    refine ⟨_, rfl, _, _, rfl, rfl, T4, _, n + 1, rfl, congrArg V.int (by omega), rT4, by omega, by simp, fun T5 G5 s5 rT5 => ?_⟩
    rw [flat_rl] at rT5
    replace rT2 := RAt.same s5 rT2
    refine ⟨T2, T5, _, _, rfl, rfl, rT2, rT5, by simp only [List.length_append, List.length_replicate, List.length_cons, List.length_nil]; omega, fun T6 G6 s6 rT6 => ?_⟩
    refine ⟨_, rfl, by show 4 ≤ sizeLine; decide, fun T7 nT7 => ?_⟩
    have s7 := Same.new nT7 (o := .tup [V.str "pair", V.int (0), V.int (0), V.int (2)])
    have e7 : (upd G6 T7 (.tup [V.str "pair", V.int (0), V.int (0), V.int (2)])) T7 = some (.tup [V.str "pair", V.int (0), V.int (0), V.int (2)]) := upd_same
    revert s7 e7
    generalize upd G6 T7 (.tup [V.str "pair", V.int (0), V.int (0), V.int (2)]) = G7
    intro s7 e7
    replace rT6 := RAt.same s7 rT6
    have dT7 : DAt K C G7 (.ref T7) (.two false 0 0 2) := ⟨T7, rfl, SqT.of e7, by decide, by decide, by decide⟩
    refine ⟨by show 1 ≤ sizeLine; decide, fun T8 nT8 => ?_⟩
    have s8 := Same.new nT8 (o := .tup [.ref T7])
    have e8 : (upd G7 T8 (.tup [.ref T7])) T8 = some (.tup [.ref T7]) := upd_same
    revert s8 e8
    generalize upd G7 T8 (.tup [.ref T7]) = G8
    intro s8 e8
    replace rT6 := RAt.same s8 rT6
    replace dT7 := DAt_kt (KT.of s8) _ _ dT7
    have rT8 : RAt K C G8 T8 [.two false 0 0 2] := ⟨_, SqT.of e8, ⟨_, _, rfl, dT7, rfl⟩⟩
    refine ⟨T6, T8, _, _, rfl, rfl, rT6, rT8, by simp only [List.length_append, List.length_replicate, List.length_cons, List.length_nil]; omega, fun T9 G9 s9 rT9 => ?_⟩
    have sA : Same H G9 := ((((((((s1).trans s2).trans s3).trans s4).trans s5).trans s6).trans s7).trans s8).trans s9
    have hb0 : RAt K C G9 T9 (stB n) := rT9
    refine ⟨_, rfl, _, rfl, by decide, by decide, by omega, by omega, for_rangeC (n := (((n : Nat) : Int) - 0).toNat) (fun i σ H' => ∃ (x1 : Option V) (q : Addr) (x3 : Option V), σ = [some (.int (n : Nat)), x1, some (.ref q), x3] ∧ Same H H' ∧ RAt K C H' q (stB n ++ stL n i)) ⟨_, T9, none, rfl, sA, by rw [stL, List.append_nil]; exact hb0⟩ ?_ ?_⟩
    · rintro i σ H2 hi ⟨x1, q, x3, rfl, s2, hq⟩
      have ei : (0 + (((((n : Nat) : Int) - 0).toNat : Nat) : Int) - 1 + ((i : Nat) : Int) * -1) = ((n - 1 - i : Nat) : Int) := by omega
      have h1 := stB_len n
      have h2 := stL_le n i
      have h3 : (n + 3) * i ≤ 13 * 10 := Nat.mul_le_mul (by omega) (by omega)
      refine ⟨_, rfl, _, rfl, 2, n - 1 - i, congrArg (fun z => [V.int 2, V.int z]) ei, by decide, by omega, fun qf H3 s3 hqf => ?_⟩
      replace hq := hq.same s3
      refine ⟨by show 4 ≤ sizeLine; decide, fun T31 nT31 => ?_⟩
      have s31 := Same.new nT31 (o := .tup [V.str "pair", V.int (0), V.int (2), V.int (0)])
      have e31 : (upd H3 T31 (.tup [V.str "pair", V.int (0), V.int (2), V.int (0)])) T31 = some (.tup [V.str "pair", V.int (0), V.int (2), V.int (0)]) := upd_same
      revert s31 e31
      generalize upd H3 T31 (.tup [V.str "pair", V.int (0), V.int (2), V.int (0)]) = G31
      intro s31 e31
      replace hqf := RAt.same s31 hqf
      replace hq := RAt.same s31 hq
      have dT31 : DAt K C G31 (.ref T31) (.two false 0 2 0) := ⟨T31, rfl, SqT.of e31, by decide, by decide, by decide⟩
      refine ⟨by show 1 ≤ sizeLine; decide, fun T32 nT32 => ?_⟩
      have s32 := Same.new nT32 (o := .tup [.ref T31])
      have e32 : (upd G31 T32 (.tup [.ref T31])) T32 = some (.tup [.ref T31]) := upd_same
      revert s32 e32
      generalize upd G31 T32 (.tup [.ref T31]) = G32
      intro s32 e32
      replace hqf := RAt.same s32 hqf
      replace hq := RAt.same s32 hq
      replace dT31 := DAt_kt (KT.of s32) _ _ dT31
      have rT32 : RAt K C G32 T32 [.two false 0 2 0] := ⟨_, SqT.of e32, ⟨_, _, rfl, dT31, rfl⟩⟩
      refine ⟨qf, T32, _, _, rfl, rfl, hqf, rT32, by simp only [List.length_append, List.length_cons, List.length_nil, fetch_len]; omega, fun T33 G33 s33 rT33 => ?_⟩
      replace hq := RAt.same s33 hq
      refine ⟨q, T33, _, _, rfl, rfl, hq, rT33, by rw [List.length_append, List.length_append, fetch_len, List.length_singleton]; omega, fun q9 H9 s9 hq9 => ?_⟩
      refine ⟨_, q9, _, rfl, ((s2.trans s3).trans (((s31).trans s32).trans s33)).trans s9, ?_⟩
      rw [List.append_assoc] at hq9
      exact hq9
    · rintro σ H2 ⟨x1, q, x3, rfl, s2, hq⟩
      refine ⟨_, rfl, k q H2 s2 ?_⟩
      rw [show (((n : Nat) : Int) - 0).toNat = n by omega] at hq
      exact hq
end
end Js

set_option Elab.async false
set_option linter.all false
set_option maxRecDepth 100000
set_option maxHeartbeats 2000000
namespace Js
open PySem L2 PyProof.Rows
/-- a value that is no Thing, and whose kind stands under no Thing -/
def NoTh (K : PySem.W.Frag) (C : Addr) (H : Hp) (y : V) : Prop := ∃ t : Value, TyX K H y t ∧ PySem.W.notFirst K C t = true ∧ PySem.W.kitOne K t (.ref C) = some false
/-- thing == what is no thing -/
def spEqN (K : PySem.W.Frag) (C : Addr) : Sp := fun vs H Q _ => ∃ a y, vs = [.ref a, y] ∧ NoTh K C H y ∧ Q (.bl false) H
section
variable {P : Program} {w : World} {K : PySem.W.Frag} {mg : Str → Option Value} {base : Heap} {C : Addr}
theorem ok_eqN {f fA : Addr} {fd fdA : FuncData} (F : Fun K "__eq__" "Thing.__eq__" sEq f fd) (T : Txt K mg C) (AA : At K mg "alike" sAlike ["one", "other"] fA fdA) : FnOk P w K mg base CX0 2 f fd ["self", "other"] (spEqN K C) := by
  have GA : FnOk P w K mg base CX0 1 fA fdA ["one", "other"] (spAlike C) := ok_alike AA.F T
  refine F.ok scE (fun vs H Q E h => ?_) (fun cdv A outer s H vs Q E hr h => ?_)
  · obtain ⟨a, y, rfl, _⟩ := h
    rfl
  · obtain ⟨a, y, rfl, ⟨t, hty, hnf, hkt⟩, k⟩ := h
    refine ⟨_, pss_one (ps_ret (pe_and (pe_callB call_isi (by rfl) T.isi PyProof.Rows.boot_isinstance (pa_cons (pv 1) (pa_cons (pe_glob (v := .ref C) rfl T.mgC rfl) pa_nil)))
      (pe_one (pe_call GA hr rfl AA.mgf AA.F.kp AA.b .nil pass0 (pa_cons (pv 0) (pa_cons (pv 1) pa_nil)))))), ?_⟩
    exact ⟨_, rfl, _, _, _, _, false, rfl, ClsV.own C, hty, hkt, false, rfl, iteF k⟩
end
section
variable {X : Cx} {C : Addr}
def rEqN (K : PySem.W.Frag) (C : Addr) : R2 := fun x y H Q => ∃ a dx fs, x = .ref a ∧ H a = some (.ins C dx fs) ∧ NoTh K C H y ∧ Q (.bl false) H
theorem op_eqN (S : Spc X.prog X.w X.K X.mg X.base C "__eq__" 2 ["self", "other"] (spEqN X.K C)) (hr : Room 2 X.A) : OpR X (compareOp .Eq) (rEqN X.K C) := by
  obtain ⟨f, fd, o, F, hb⟩ := S
  intro pins s σ H x y v u Q I rx ry h
  obtain ⟨a, dx, fs, rfl, ha, ⟨t, hty, hnf, hkt⟩, q⟩ := h
  cases (show v = Value.ref a from rx)
  show wpAny _ _ (richCompare .Eq (.ref a) u) _ _ _
  obtain ⟨od, J⟩ := inst_of I ha
  obtain ⟨m, hF⟩ := I.fr
  obtain ⟨Z, kx, hZ, _⟩ := kit_of I ry hty
  refine PySem.W.cmp_K (op := .Eq) (tb := t) hr.units0 hF I.ok.mod.kin J (kx.ty _ _ I.kIn hZ) hnf o.at_ o.fn (wpAny_mono (run_fnA (us := [.ref a, u]) (vs := [.ref a, y]) (Q := fun z H' => z = .bl false ∧ Q (.bl false) H') F hr I.env0 hb pass0 I (.cons rfl (.cons ry .nil)) ⟨a, y, rfl, ⟨t, hty, hnf, hkt⟩, rfl, q⟩) (fun w s' z => ?_) fun _ _ x => x)
  obtain ⟨z', H', I', rz, rfl, qz⟩ := z
  cases (show w = Value.bool false from rz)
  exact ⟨.bl false, H', I', rfl, qz⟩
end
end Js

set_option Elab.async false
set_option linter.all false
set_option maxRecDepth 100000
set_option maxHeartbeats 2000000
/-! u == x, u of a built-in kind that declines, x an instance with its own == -/
namespace JsLow
open PySem PySem.Spec PyProof.Rows PySem.W
section
variable {prog : Program} {w : World} {A : Around} {E : Value → Shared → Prop} {s : Shared} {K : Frag} {x C f : Addr} {ox : Obj} {od : Option Obj} {u : Value} {T : String}
theorem none_eq_ref (a : Addr) : Gives (Builtin.«NoneType.__eq__» ⟨[.none, .ref a], []⟩) (.val (Value.notImplemented)) :=
  .of_wp fun M A E s Q h => by obtain ⟨hp, g, d, tk, os⟩ := s; wp_walk; exact ⟨_, rfl, h⟩
/-- the left one declines, the right one's == is asked -/
theorem refl_K {Q : Value → Shared → Prop} (hu : A.units < cLine) (X : K.In s.heap) (I : InstAt s.heap x ox C od) (hT : s.TypeIs u T) (one : oneThing? .Eq u (.ref x) = none) (hs : subIn K (.ref C) (.type T) = some false)
    (dec : ∀ {Q' : Option Value → Shared → Prop}, (∀ tk, Q' none { s with toks := tk }) → wpAny (model prog w) A (tryCompare u "__eq__" (.ref x)) Q' E s)
    (he : findIn K (.ref C) "__eq__" = some (some (.ref f))) (hf : isFn K (.ref f) = true)
    (h : ∀ tk, wpAny (model prog w) A (call (.ref f) [.ref x, u]) (PySem.W.CmpBack Q) E { s with toks := tk }) : wpAny (model prog w) A (richCompare .Eq u (.ref x)) Q E s := by
  unfold richCompare
  refine wpAny_holding (wpAny_bind (wpAny_cRoomFor hu ?_))
  rw [one]
  refine wpAny_bind (wpAny_typeOf hT (wpAny_bind (I.type.here ?_)))
  have ne : (Value.type T != Value.ref C) = true := by simp
  try dsimp only
  rw [if_pos ne]
  refine wpAny_bind ((looks_subIn X hs).here ?_)
  simp only [Bool.false_eq_true, if_false, Bool.not_false, if_true]
  refine wpAny_bind (dec fun tk => ?_)
  try dsimp only
  refine wpAny_bind ?_
  unfold tryCompare
  refine wpAny_bind (ifBound_K (s := { s with toks := tk }) X (show InstAt ({ s with toks := tk } : Shared).heap x ox C od from I) he hf (wpAny_mono (h tk) (fun v s' hv => ?_) fun _ _ e => e))
  cases v <;> first | exact hv.elim | exact wpAny_pure (wpAny_pure hv)
theorem dec_none {Q' : Option Value → Shared → Prop} (h : ∀ tk, Q' none { s with toks := tk }) : wpAny (model prog w) A (tryCompare .none "__eq__" (.ref x)) Q' E s :=
  wpAny_tryCompare_declines (T := "NoneType") rfl F.slot_NoneType_eq (call_gives F.slot_NoneType_eq rfl F.entry_NoneType_eq (F.args_NoneType_eq_2 _ _) (none_eq_ref x) ⟨rfl, h _⟩)
theorem dec_str {a : Str} {t : Tok} {dx : Addr} {Q' : Option Value → Shared → Prop} (hx : s.heap.get? x = some (PySem.W.instObj C dx)) (h : ∀ tk, Q' none { s with toks := tk }) : wpAny (model prog w) A (tryCompare (.str a t) "__eq__" (.ref x)) Q' E s := by
  refine wpAny_tryCompare_declines (typeIs_str s a t) F.slot_str_eq (wpAny_call_entry F.slot_str_eq (typeIs_str s a t) F.entry_str_eq ?_ (F.args_str_eq_2 _ _))
  unfold Builtin.«str.__eq__» Builtin.Str.strCompare
  refine wpAny_bind (wpAny_of_eq (a := (Value.str a t, a, [Value.ref x])) (by first | rfl | kernel_rfl) ?_)
  try dsimp only
  show wpAny _ _ (asStr? (.ref x) >>= _) _ _ _
  unfold asStr?
  refine wpAny_bind (wpAny_bind (wpAny_load hx (wpAny_pure ?_)))
  exact wpAny_bind (wpAny_rule (wpAny_pure ⟨_, rfl, rfl, h _⟩))
end
end JsLow
namespace Js
open PySem L2 PySem.Spec PyProof.Rows
section
variable {X : Cx} {C : Addr}
/-- y == thing, y None or a text -/
def DRef (K : PySem.W.Frag) (C : Addr) : Tells := fun y x r H => ∃ a t, x = .ref a ∧ Th C H a t ∧ r = false ∧ (y = .non ∨ ∃ z, y = .str z) ∧ NoTh K C H y
theorem eqT_ref (S : Spc X.prog X.w X.K X.mg X.base C "__eq__" 2 ["self", "other"] (spEqN X.K C)) (h1 : PySem.W.subIn X.K (.ref C) (.type "NoneType") = some false) (h2 : PySem.W.subIn X.K (.ref C) (.type "str") = some false) : EqT X 2 (DRef X.K C) := by
  obtain ⟨f, fd, o, F, hb⟩ := S
  intro A pins s σ H y x u v r sb I ry rx d
  obtain ⟨a, t, rfl, ha, rfl, hy, hn⟩ := d
  cases (show v = Value.ref a from rx)
  obtain ⟨dx, f1, g1, h0⟩ := ha.obj
  obtain ⟨od, J⟩ := inst_of I h0
  have hx : s.heap.get? a = some (PySem.W.instObj C dx) := (show ObjOk X.prog X.w H s.heap a (.ins C dx _) from I.hok a _ h0).2.2.2.1
  have e0 : ∀ tk, Env0 X.prog X.w X.K X.mg X.base A X.stack { s with toks := tk } H := fun tk => by
    have e := (I.tok tk).env0
    exact ⟨by rw [sb.fr]; exact e.frames, e.mod, e.bs, e.bsz, e.funs, e.frf, e.hok, e.bare⟩
  have fin : ∀ {Q : Value → Shared → Prop}, (∀ s' H', Inv X pins σ H' s' → Same H H' → Q (.bool false) s') → ∀ tk, wpAny (model X.prog X.w) A (call (.ref f) [.ref a, u]) (PySem.W.CmpBack Q) X.xe { s with toks := tk } := by
    intro Q k tk
    refine wpAny_mono (run_fnA (us := [.ref a, u]) (vs := [.ref a, y]) (Q := fun z H' => z = .bl false ∧ H' = H) F sb.room (e0 tk) hb pass0 (I.tok tk) (.cons rfl (.cons ry .nil)) ⟨a, y, rfl, hn, rfl, rfl⟩) (fun w s' z => ?_) fun _ _ x => x
    obtain ⟨z', H', I', rz, rfl, rfl⟩ := z
    cases (show w = Value.bool false from rz)
    exact k s' _ I' (Same.refl _)
  rcases hy with rfl | ⟨z, rfl⟩
  · cases (show u = Value.none from ry)
    unfold eqBool
    refine wpAny_holding (wpAny_ite_split (fun hab => absurd (eq_of_beq hab) (by simp)) fun _ => wpAny_bind (wpAny_mono (Q := fun w s' => w = .bool false ∧ ∃ H', Inv X pins σ H' s' ∧ Same H H') ?_ (fun w s' z => ?_) fun _ _ x => x))
    · exact JsLow.refl_K (T := "NoneType") sb.room.units0 I.kIn J rfl rfl h1 JsLow.dec_none o.at_ o.fn (fin fun s' H' I' sm => ⟨rfl, H', I', sm⟩)
    · obtain ⟨rfl, H', I', sm⟩ := z
      exact wpAny_truthy_bool ⟨rfl, H', I', sm⟩
  · obtain ⟨t', rfl⟩ := (show ∃ t', u = Value.str z t' from ry)
    unfold eqBool
    refine wpAny_holding (wpAny_ite_split (fun hab => absurd (eq_of_beq hab) (by simp)) fun _ => wpAny_bind (wpAny_mono (Q := fun w s' => w = .bool false ∧ ∃ H', Inv X pins σ H' s' ∧ Same H H') ?_ (fun w s' z => ?_) fun _ _ x => x))
    · exact JsLow.refl_K (T := "str") sb.room.units0 I.kIn J (typeIs_str s z t') rfl h2 (JsLow.dec_str hx) o.at_ o.fn (fin fun s' H' I' sm => ⟨rfl, H', I', sm⟩)
    · obtain ⟨rfl, H', I', sm⟩ := z
      exact wpAny_truthy_bool ⟨rfl, H', I', sm⟩
end
end Js

set_option Elab.async false
set_option linter.all false
set_option maxRecDepth 100000
set_option maxHeartbeats 2000000
/-! u == x: whole numbers, tuples, lists decline, too -/
namespace JsLow
open PySem PySem.Spec PyProof.Rows PySem.W
open AutoSeq1 (wpAny_loadPart')
section
variable {prog : Program} {w : World} {A : Around} {E : Value → Shared → Prop} {s : Shared} {K : Frag} {x C f : Addr} {ox : Obj} {od : Option Obj} {u : Value} {T : String}
theorem isInst_K {M : Model} {b : Bool} {Q : Bool → Shared → Prop} (X : K.In s.heap) (I : InstAt s.heap x ox C od) (hs : subIn K (.ref C) (.type T) = some b) (h : Q b s) : wpAny M A (isInstance (.ref x) (.type T)) Q E s :=
  wpAny_bind (I.type.here ((looks_subIn X hs).here h))
theorem dec_tup {l : Addr} {Q' : Option Value → Shared → Prop} (X : K.In s.heap) (I : InstAt s.heap x ox C od) (hT : s.TypeIs (.ref l) "tuple") (hs : subIn K (.ref C) (.type "tuple") = some false) (h : ∀ tk, Q' none { s with toks := tk }) : wpAny (model prog w) A (tryCompare (.ref l) "__eq__" (.ref x)) Q' E s := by
  refine wpAny_tryCompare_declines hT F.slot_tuple_eq (wpAny_call_entry F.slot_tuple_eq hT F.entry_tuple_eq ?_ (F.args_tuple_eq_2 _ _))
  have h0 := h s.toks
  obtain ⟨hp, g, d, tk, os⟩ := s
  wp_walk using isInst_K X I hs
  exact ⟨_, rfl, rfl, h0⟩
theorem dec_lst {l : Addr} {Q' : Option Value → Shared → Prop} (X : K.In s.heap) (I : InstAt s.heap x ox C od) (hT : s.TypeIs (.ref l) "list") (hs : subIn K (.ref C) (.type "list") = some false) (h : ∀ tk, Q' none { s with toks := tk }) : wpAny (model prog w) A (tryCompare (.ref l) "__eq__" (.ref x)) Q' E s := by
  refine wpAny_tryCompare_declines hT F.slot_list_eq (wpAny_call_entry F.slot_list_eq hT F.entry_list_eq ?_ (F.args_list_eq_2 _ _))
  have h0 := h s.toks
  obtain ⟨hp, g, d, tk, os⟩ := s
  wp_walk using isInst_K X I hs
  exact ⟨_, rfl, rfl, h0⟩
theorem dec_int {i : Int} {t : Tok} {dx : Addr} {Q' : Option Value → Shared → Prop} (hx : s.heap.get? x = some (PySem.W.instObj C dx)) (h : ∀ tk, Q' none { s with toks := tk }) : wpAny (model prog w) A (tryCompare (.int i t) "__eq__" (.ref x)) Q' E s := by
  refine wpAny_tryCompare_declines (typeIs_int s i t) F.slot_int_eq (wpAny_call_entry F.slot_int_eq (typeIs_int s i t) F.entry_int_eq ?_ (F.args_int_eq_2 _ _))
  have h0 := h s.toks
  obtain ⟨hp, g, d, tk, os⟩ := s
  wp_walk using wpAny_load hx
  exact ⟨_, rfl, rfl, h0⟩
end
end JsLow

set_option Elab.async false
set_option linter.all false
set_option maxRecDepth 100000
set_option maxHeartbeats 2000000
/-! the truth of an instance, by its own len -/
namespace JsLow
open PySem PySem.Spec PyProof.Rows PySem.W
section
variable {prog : Program} {w : World} {A : Around} {E : Value → Shared → Prop} {s : Shared} {K : Frag} {x C f : Addr} {ox : Obj} {od : Option Obj}
theorem truth_len {Q : Bool → Shared → Prop} (X : K.In s.heap) (I : InstAt s.heap x ox C od) (nb : findIn K (.ref C) "__bool__" = some none) (hl : findIn K (.ref C) "__len__" = some (some (.ref f))) (hf : isFn K (.ref f) = true)
    (h : wpAny (model prog w) A.in1 (call (.ref f) [.ref x]) (fun v s' => ∃ n t, v = .int n t ∧ 0 ≤ n ∧ n < 2 ^ 63 ∧ ∀ tk, Q (n != 0) { s' with toks := tk }) E s) : wpAny (model prog w) A (truthy (.ref x)) Q E s := by
  unfold truthy
  refine wpAny_bind (m := callSpecial? (.ref x) "__bool__") (wpAny_bind (wpAny_bind (I.type.here ((looks_findIn X nb).here (wpAny_pure ?_)))))
  refine wpAny_bind (wpAny_bind (I.type.here ((looks_findIn X hl).here ?_)))
  rw [if_neg (show ¬ ((some (Value.ref f)).isNone = true) by simp)]
  refine wpAny_bind (wpAny_mono (Q := fun r s' => ∃ n t, r = .int n t ∧ Q (n != 0) s') (wpAny_runValue (codeAny_builtin entry_len ?_)) (fun r s' z => ?_) fun _ _ e => e)
  · rw [Around.under_plainId plain_len _]
    unfold Builtin.«len»
    refine wpAny_bind (m := oneArg "len" _) (wpAny_pure (wpAny_bind (m := callSpecial? (.ref x) (Str.ofString "__len__")) (special_fn X I hl (beq_iff_eq.mp hf) (wpAny_mono h ?_ fun _ _ y => y))))
    rintro r s' ⟨n, t, rfl, h0, h1, hq⟩
    refine wpAny_bind (wpAny_holding (wpAny_pure (wpAny_bind (wpAny_letGo ?_))))
    show wpAny _ _ (if n < 0 then _ else _) _ _ _
    rw [if_neg (by omega)]
    show wpAny _ _ (if n ≥ 2 ^ 63 then _ else _) _ _ _
    rw [if_neg (by omega)]
    exact wpAny_bind (wpAny_mkInt (wpAny_pure ⟨n, _, rfl, hq _⟩))
  · obtain ⟨n, t, rfl, hq⟩ := z
    exact wpAny_pure hq
theorem new_bool {v : Value} {Q₁ : Value → Shared → Prop} (h : wpAny (model prog w) A.in1 (truthy v) (fun b s' => Q₁ (.bool b) s') E s) : codeAny (model prog w) A (.call (.builtin "bool.__new__") ⟨[.type "bool", v], []⟩) (wants Q₁ E) s := by
  refine codeAny_of_tree ?_
  show wpAny _ A.in1 (do checkBuiltinCall "bool.__new__" ⟨[.type "bool", v], []⟩; again (.builtin "bool.__new__" ⟨[.type "bool", v], []⟩)) _ _ s
  refine wpAny_bind (wpAny_of_eq (F.newCall_bool_1 _) (wpAny_pure ⟨Code.quiet_builtin _ (by decide +kernel), codeAny_builtin F.entry_bool_new ?_⟩))
  have pl : plainId "bool.__new__" := by
    first
    | exact F.plain_bool_new
    | decide +kernel
  rw [Around.under_plainId pl _]
  unfold Builtin.«bool.__new__»
  have e1 : isType (.type "bool") = (pure true : Sem Bool) := by first | rfl | kernel_rfl
  refine wpAny_bind (wpAny_of_eq e1 ?_)
  simp only [Bool.not_true, Bool.false_eq_true, if_false]
  refine wpAny_bind (wpAny_of_eq F.conv_sub_bool ?_)
  simp only [Bool.not_true, Bool.false_eq_true, if_false]
  refine wpAny_bind (wpAny_of_eq (a := [v]) (by first | rfl | kernel_rfl) ?_)
  try dsimp only
  exact wpAny_bind (wpAny_mono h (fun b s' q => wpAny_pure q) fun _ _ e => e)
theorem call_boolV {v : Value} {Q : Value → Shared → Prop} (h : wpAny (model prog w) A.in1.in1 (truthy v) (fun b s' => Q (.bool b) s') E s) : wpAny (model prog w) A (call (.type "bool") [v]) Q E s := by
  have first := new_bool (prog := prog) (w := w) (A := A.in1) (E := E) (s := s) (v := v) (Q₁ := fun obj s₁ => s₁.TypeIs obj "bool" ∧ Q obj s₁) (wpAny_mono h (fun b s' q => ⟨rfl, q⟩) fun _ _ e => e)
  refine callType_codes F.called_bool (F.typeCall_bool_1 v) F.entry_object_init first fun obj s₁ hh => ⟨hh.1, F.args_object_init_2 obj _, ?_⟩
  exact object_init_meets F.called_bool.init.lookup F.called_bool.made (by decide) prog w A.in1 _ s₁ ⟨hh.1, rfl, hh.2⟩
end
end JsLow
namespace Js
open PySem PySem.Spec PyProof.Rows L2
section
variable {X : Cx} {C : Addr}
def rTruT (C : Addr) : V → Hp → (Bool → Hp → Prop) → Prop := fun x H Q => ∃ a t, x = .ref a ∧ Th C H a t ∧ t.size ≤ 4000 ∧ Q (((t.size : Nat) : Int) != 0) H
theorem tru_T (S : Spc X.prog X.w X.K X.mg X.base C "__len__" 1 ["self"] (spLen C)) (nb : PySem.W.findIn X.K (.ref C) "__bool__" = some none) (hr : Room 2 X.A) : TruR X (rTruT C) := by
  obtain ⟨f, fd, o, F, hb⟩ := S
  intro pins s σ H x v Q I rx h
  obtain ⟨a, t, rfl, ha, hz, q⟩ := h
  cases (show v = Value.ref a from rx)
  obtain ⟨dx, f1, g1, h0⟩ := ha.obj
  obtain ⟨od, J⟩ := inst_of I h0
  refine JsLow.truth_len I.kIn J nb o.at_ o.fn (wpAny_mono (run_fnA (us := [.ref a]) (vs := [.ref a]) (Q := fun z H' => z = .int ((t.size : Nat) : Int) ∧ H' = H) F hr.in1 I.env0.in1 hb pass0 I (.cons rfl .nil) ⟨a, t, rfl, ha, hz, rfl, rfl⟩) (fun w s' z => ?_) fun _ _ x => x)
  obtain ⟨z', H', I', rz, rfl, rfl⟩ := z
  obtain ⟨t', rfl⟩ := (show ∃ t', w = Value.int ((t.size : Nat) : Int) t' from rz)
  exact ⟨_, _, rfl, by omega, by omega, fun tk => ⟨_, I'.tok tk, q⟩⟩
end
end Js
namespace Js
open PySem PySem.Spec PyProof.Rows L2
section
variable {X : Cx} {C : Addr}
/-- bool(thing) -/
theorem call_boolT (S : Spc X.prog X.w X.K X.mg X.base C "__len__" 1 ["self"] (spLen C)) (nb : PySem.W.findIn X.K (.ref C) "__bool__" = some none) (hr : Room 4 X.A) : CallR X (.type "bool") (fun xs H Q => ∃ a t, xs = [.ref a] ∧ Th C H a t ∧ t.size ≤ 4000 ∧ Q (.bl (((t.size : Nat) : Int) != 0)) H) := by
  obtain ⟨f, fd, o, F, hb⟩ := S
  intro pins s σ H xs us Q I r h
  obtain ⟨a, t, rfl, ha, hz, q⟩ := h
  obtain ⟨u, rfl, ru⟩ := vals1 r
  cases (show u = Value.ref a from ru)
  obtain ⟨dx, f1, g1, h0⟩ := ha.obj
  obtain ⟨od, J⟩ := inst_of I h0
  have hr3 : Room 1 X.A.in1.in1.in1 := (show Room 2 X.A.in1.in1 from (show Room 3 X.A.in1 from hr.in1).in1).in1
  refine JsLow.call_boolV (JsLow.truth_len I.kIn J nb o.at_ o.fn (wpAny_mono (run_fnA (us := [.ref a]) (vs := [.ref a]) (Q := fun z H' => z = .int ((t.size : Nat) : Int) ∧ H' = H) F hr3 I.env0.in1.in1.in1 hb pass0 I (.cons rfl .nil) ⟨a, t, rfl, ha, hz, rfl, rfl⟩) (fun w s' z => ?_) fun _ _ x => x))
  obtain ⟨z', H', I', rz, rfl, rfl⟩ := z
  obtain ⟨t', rfl⟩ := (show ∃ t', w = Value.int ((t.size : Nat) : Int) t' from rz)
  exact ⟨_, _, rfl, by omega, by omega, fun tk => ⟨.bl _, _, I'.tok tk, rfl, q⟩⟩
end
end Js

set_option Elab.async false
set_option linter.all false
set_option maxRecDepth 100000
set_option maxHeartbeats 2000000
/-! programs: ==, !=, in, len, bool; beside what is none -/
namespace GQ
open PySem PySem.SeqAt PyProof.Rows
section
variable {prog : Program} {w : World} {A : Around} {R : Result → Shared → Prop}
theorem op_notin_listG {E : Value → Shared → Prop} {s : Shared} {l : Addr} {x : Value} {N : Nat} {Q : Value → Shared → Prop} (I : Nat → Shared → Prop)
    (hl : InI prog w A (wants (fun v s' => ∃ b, v = .bool b ∧ Q (.bool (!b)) s') E) l x N I)
    (fin : ∀ s, I N s → Q (.bool true) s) (h : I 0 s) : wpAny (model prog w) A (compareOp .NotIn x (.ref l)) Q E s := by
  obtain ⟨items, n, hl1, hs1, _⟩ := hl _ _ h
  show wpAny _ A (do return .bool (!(← contains (.ref l) x))) Q E s
  refine wpAny_bind (wpAny_contains_slot ⟨_, hl1, rfl⟩ F.slot_list_contains (wpAny_mono (call_here F.slot_list_contains ⟨_, hl1, rfl⟩ F.entry_list_contains (F.args_list_contains_2 _ _)
    (list_inG (R := wants (fun v s' => ∃ b, v = .bool b ∧ Q (.bool (!b)) s') E) l x N I hl (fun s' q => ⟨false, rfl, fin s' q⟩) h)) (fun v s' hv => ?_) fun _ _ e => e))
  obtain ⟨b, rfl, hq⟩ := hv
  exact wpAny_truthy_bool (wpAny_pure hq)
end
end GQ
namespace Js
open PySem PySem.Spec PyProof.Rows L2
def rNotInT (D : Tells) : R2 := fun x y H Q => ∃ (p : Addr) (xs : List V) (bs : List Bool), y = .ref p ∧ H p = some (.lst xs) ∧ bs.length = xs.length ∧ (∀ (i : Nat) z b, xs[i]? = some z → bs[i]? = some b → D z x b H) ∧ ∀ H', Same H H' → Q (.bl (!bs.any id)) H'
theorem op_notInT {X : Cx} {n : Nat} {D : Tells} (h : EqT X n D) (mon : MonT D) (hr : Room (n + 1) X.A) : OpR X (compareOp .NotIn) (rNotInT D) := by
  intro pins s σ H x y v u Q I rx ry hq
  obtain ⟨p, xs, bs, rfl, hp, hl, hd, q⟩ := hq
  cases (show u = Value.ref p from ry)
  refine GQ.op_notin_listG (N := xs.length) (fun i s' => (∃ H', Inv X pins σ H' s' ∧ Same H H') ∧ (bs.take i).any id = false) (fun i s' z => ?_) (fun s' z => ?_) ⟨⟨H, I, Same.refl H⟩, by simp⟩
  · obtain ⟨⟨H1, I1, e1⟩, nb⟩ := z
    obtain ⟨z, its, k, r, e⟩ := I1.hok p _ (e1 _ _ hp)
    refine ⟨its.toArray, k, e, by rw [List.size_toArray, ← r.length], fun h1 => ?_⟩
    have h1' : i < its.length := by simpa using h1
    have k1 : i < xs.length := by rw [r.length]; exact h1'
    have k2 : i < bs.length := by rw [hl]; exact k1
    obtain ⟨w', hw, rw'⟩ := r.get (List.getElem?_eq_getElem k1)
    have g1 : its[i]? = some its.toArray[i] := by rw [List.getElem?_eq_getElem h1'] <;> simp
    rw [g1] at hw
    rw [Option.some.inj hw]
    refine wpAny_mono (h X.A.in1 pins s' σ H1 _ x w' v _ ⟨hr.in1, rfl⟩ I1 rw' rx (mon _ _ _ _ _ e1 (hd i _ _ (List.getElem?_eq_getElem k1) (List.getElem?_eq_getElem k2)))) (fun r' s2 q2 => ?_) fun _ _ x => x
    obtain ⟨er, H2, I2, e2⟩ := q2
    subst er
    have tk : (bs.take (i + 1)).any id = bs[i] := by
      rw [List.take_succ_eq_append_getElem k2, List.any_append, nb]
      simp
    cases hb : bs[i] with
    | true =>
      rw [if_pos rfl]
      refine ⟨true, rfl, .bl false, H2, I2, rfl, ?_⟩
      have qq := q H2 (e1.trans e2)
      have : bs.any id = true := List.any_eq_true.mpr ⟨bs[i], List.getElem_mem k2, by rw [hb]; rfl⟩
      rw [this] at qq
      exact qq
    | false =>
      rw [if_neg Bool.false_ne_true]
      exact ⟨⟨H2, I2, e1.trans e2⟩, by rw [tk, hb]⟩
  · obtain ⟨⟨H1, I1, e1⟩, nb⟩ := z
    rw [← hl, List.take_length] at nb
    have qq := q H1 e1
    rw [nb] at qq
    exact ⟨.bl true, H1, I1, rfl, qq⟩
section
variable {X : Cx} {C CP : Addr} {k : Nat}
def DPg (K : PySem.W.Frag) (C CP : Addr) : Tells := fun x y b H => ∃ a c r u, x = .ref a ∧ y = .ref c ∧ PgAt K C CP H a r ∧ PgAt K C CP H c u ∧ b = decide (r = u)
theorem DPg_mon {K : PySem.W.Frag} : MonT (DPg K C CP) := fun x y b H H' s d => by
  obtain ⟨a, c, r, u, e1, e2, h1, h2, e3⟩ := d
  exact ⟨a, c, r, u, e1, e2, h1.same s, h2.same s, e3⟩
theorem PgAt_inj {pins : List (Addr × Obj)} {σ : L2.St} {H : Hp} {s : Shared} (I : Inv X pins σ H s) {a : Addr} {r u : List Dd} (h : PgAt X.K C CP H a r) (g : PgAt X.K C CP H a u) : r = u := by
  obtain ⟨dx, q, pl, ys, h1, h2, _⟩ := h.ex
  obtain ⟨dx', q', pl', ys', g1, g2, _⟩ := g.ex
  have e := Option.some.inj (h1.symm.trans g1)
  injection e with _ _ e3
  have e4 := congrArg (List.lookup ("deeds" : Str)) e3
  rw [pf_deeds, pf_deeds] at e4
  cases V.ref.inj (Option.some.inj e4)
  exact RAt_inj I h2 g2
theorem rcT_P (S : Spc X.prog X.w X.K X.mg X.base CP "__eq__" k ["self", "other"] (spPEq X.K C CP)) : RcT X .Eq id k (DPg X.K C CP) := by
  obtain ⟨f, fd, ow, F, hb⟩ := S
  intro A pins s σ H x y u v r sb I rx ry d
  obtain ⟨a, c, r1, r2, rfl, rfl, h1, h2, rfl⟩ := d
  cases rx
  cases ry
  obtain ⟨dx, q, pl, ys, g1, _⟩ := h1.ex
  obtain ⟨dy, q', pl', ys', g2, _⟩ := h2.ex
  have e0 : Env0 X.prog X.w X.K X.mg X.base A X.stack s H := by
    have e := I.env0
    exact ⟨by rw [sb.fr]; exact e.frames, e.mod, e.bs, e.bsz, e.funs, e.frf, e.hok, e.bare⟩
  refine wpAny_mono (rc_own (Q := fun b H' => b = decide (r1 = r2) ∧ Same H H') ow F hb sb.room e0 pass0 I g1 g2 ⟨a, c, r1, r2, rfl, h1, h2, fun H' s' => ⟨_, rfl, rfl, s'⟩⟩) (fun w s' z => ?_) fun _ _ x => x
  obtain ⟨b, rfl, H', I', rfl, sm⟩ := z
  exact ⟨rfl, H', I', sm⟩
theorem eqT_P (S : Spc X.prog X.w X.K X.mg X.base CP "__eq__" k ["self", "other"] (spPEq X.K C CP)) : EqT X k (DPg X.K C CP) :=
  RcT.eqT (rcT_P S) (fun x y r H d => let ⟨a, c, _, _, e1, e2, _⟩ := d; ⟨a, c, e1, e2⟩) fun pins s σ H x r I d => by
    obtain ⟨a, c, r1, r2, e1, e2, h1, h2, rfl⟩ := d
    cases e1
    cases e2
    exact decide_eq_true (PgAt_inj I h1 h2)
theorem op_neP (S : Spc X.prog X.w X.K X.mg X.base CP "__eq__" k ["self", "other"] (spPEq X.K C CP)) (TP : TxtP X.K X.mg CP) (hr : Room (k + 1) X.A) : OpR X (compareOp .NotEq) (rCmpT (DPg X.K C CP) not) := by
  obtain ⟨f, fd, ow, F, hb⟩ := S
  refine OpR.imp (op_neOwn ow ⟨TP.ne, TP.cm⟩ F hb hr (pass0)) fun x y H Q h => ?_
  obtain ⟨b, ⟨a, c, r, u, rfl, rfl, h1, h2, rfl⟩, q⟩ := h
  obtain ⟨dx, q1, pl, ys, g1, _⟩ := h1.ex
  obtain ⟨dy, q', pl', ys', g2, _⟩ := h2.ex
  exact ⟨a, dx, _, c, dy, _, rfl, rfl, g1, g2, a, c, r, u, rfl, h1, h2, fun H' s => ⟨_, rfl, q H' s⟩⟩
theorem call_lenP (S : Spc X.prog X.w X.K X.mg X.base CP "__len__" 1 ["self"] (spPLen X.K C CP)) (hr : Room 2 X.A) : CallR X (.builtin "len") (fun xs H Q => ∃ a r, xs = [.ref a] ∧ PgAt X.K C CP H a r ∧ Q (.int ((manyR r : Nat) : Int)) H) := by
  obtain ⟨f, fd, ow, F, hb⟩ := S
  refine CallR.imp (call_lenOwn ow F hb hr (pass0)) fun xs H Q h => ?_
  obtain ⟨a, r, rfl, ha, q⟩ := h
  obtain ⟨dx, q1, pl, ys, g1, _⟩ := ha.ex
  have := ha.mn
  exact ⟨a, dx, _, rfl, g1, a, r, rfl, ha, _, rfl, by omega, q⟩
theorem call_boolP (S : Spc X.prog X.w X.K X.mg X.base CP "__len__" 1 ["self"] (spPLen X.K C CP)) (nb : PySem.W.findIn X.K (.ref CP) "__bool__" = some none) (hr : Room 4 X.A) : CallR X (.type "bool") (fun xs H Q => ∃ a r, xs = [.ref a] ∧ PgAt X.K C CP H a r ∧ Q (.bl (((manyR r : Nat) : Int) != 0)) H) := by
  obtain ⟨f, fd, o, F, hb⟩ := S
  intro pins s σ H xs us Q I r h
  obtain ⟨a, t, rfl, ha, q⟩ := h
  obtain ⟨u, rfl, ru⟩ := vals1 r
  cases (show u = Value.ref a from ru)
  obtain ⟨dx, q1, pl, ys, g1, _⟩ := ha.ex
  have hm := ha.mn
  obtain ⟨od, J⟩ := inst_of I g1
  have hr3 : Room 1 X.A.in1.in1.in1 := (show Room 2 X.A.in1.in1 from (show Room 3 X.A.in1 from hr.in1).in1).in1
  refine JsLow.call_boolV (JsLow.truth_len I.kIn J nb o.at_ o.fn (wpAny_mono (run_fnA (us := [.ref a]) (vs := [.ref a]) (Q := fun z H' => z = .int ((manyR t : Nat) : Int) ∧ H' = H) F hr3 I.env0.in1.in1.in1 hb pass0 I (.cons rfl .nil) ⟨a, t, rfl, ha, rfl, rfl⟩) (fun w s' z => ?_) fun _ _ x => x))
  obtain ⟨z', H', I', rz, rfl, rfl⟩ := z
  obtain ⟨t', rfl⟩ := (show ∃ t', w = Value.int ((manyR t : Nat) : Int) t' from rz)
  exact ⟨_, _, rfl, by omega, by omega, fun tk => ⟨.bl _, _, I'.tok tk, rfl, q⟩⟩
/-- x == y, x of the class at C with its own ==, y of another kind -/
theorem op_eqNk (S : Spc X.prog X.w X.K X.mg X.base C "__eq__" k ["self", "other"] (spEqN X.K C)) (hr : Room k X.A) : OpR X (compareOp .Eq) (rEqN X.K C) := by
  obtain ⟨f, fd, o, F, hb⟩ := S
  intro pins s σ H x y v u Q I rx ry h
  obtain ⟨a, dx, fs, rfl, ha, ⟨t, hty, hnf, hkt⟩, q⟩ := h
  cases (show v = Value.ref a from rx)
  show wpAny _ _ (richCompare .Eq (.ref a) u) _ _ _
  obtain ⟨od, J⟩ := inst_of I ha
  obtain ⟨m, hF⟩ := I.fr
  obtain ⟨Z, kx, hZ, _⟩ := kit_of I ry hty
  refine PySem.W.cmp_K (op := .Eq) (tb := t) hr.units0 hF I.ok.mod.kin J (kx.ty _ _ I.kIn hZ) hnf o.at_ o.fn (wpAny_mono (run_fnA (us := [.ref a, u]) (vs := [.ref a, y]) (Q := fun z H' => z = .bl false ∧ Q (.bl false) H') F hr I.env0 hb pass0 I (.cons rfl (.cons ry .nil)) ⟨a, y, rfl, ⟨t, hty, hnf, hkt⟩, rfl, q⟩) (fun w s' z => ?_) fun _ _ x => x)
  obtain ⟨z', H', I', rz, rfl, qz⟩ := z
  cases (show w = Value.bool false from rz)
  exact ⟨.bl false, H', I', rfl, qz⟩
/-- a built-in value ahead of a program: None, a text, a whole number, a tuple, a list -/
def Blt5 (K : PySem.W.Frag) (H : Hp) (x : V) : Prop := x = .non ∨ (∃ z, x = .str z) ∨ (∃ i, x = .int i) ∨ (∃ p xs, x = .ref p ∧ SqT K H p xs) ∨ ∃ p xs, x = .ref p ∧ SqL K H p xs
def rEqBf (K : PySem.W.Frag) (CP : Addr) : R2 := fun x y H Q => ∃ a dx fs, y = .ref a ∧ H a = some (.ins CP dx fs) ∧ Blt5 K H x ∧ NoTh K CP H x ∧ Q (.bl false) H
theorem op_eqBf (S : Spc X.prog X.w X.K X.mg X.base CP "__eq__" k ["self", "other"] (spEqN X.K CP)) (hs : ∀ n ∈ ["NoneType", "str", "int", "tuple", "list"], PySem.W.subIn X.K (.ref CP) (.type n) = some false) (hr : Room k X.A) : OpR X (compareOp .Eq) (rEqBf X.K CP) := by
  obtain ⟨f, fd, o, F, hb⟩ := S
  intro pins s σ H x y u v Q I rx ry h
  obtain ⟨a, dx, fs, rfl, ha, h5, hn, q⟩ := h
  cases (show v = Value.ref a from ry)
  obtain ⟨od, J⟩ := inst_of I ha
  have hx : s.heap.get? a = some (PySem.W.instObj CP dx) := (show ObjOk X.prog X.w H s.heap a (.ins CP dx _) from I.hok a _ ha).2.2.2.1
  have fin : ∀ tk, wpAny (model X.prog X.w) X.A (call (.ref f) [.ref a, u]) (PySem.W.CmpBack (EP X pins σ Q)) X.xe { s with toks := tk } := by
    intro tk
    refine wpAny_mono (run_fnA (us := [.ref a, u]) (vs := [.ref a, x]) (Q := fun z H' => z = .bl false ∧ H' = H) F hr (I.tok tk).env0 hb pass0 (I.tok tk) (.cons rfl (.cons rx .nil)) ⟨a, x, rfl, hn, rfl, rfl⟩) (fun w s' z => ?_) fun _ _ x => x
    obtain ⟨z', H', I', rz, rfl, rfl⟩ := z
    cases (show w = Value.bool false from rz)
    exact ⟨.bl false, _, I', rfl, q⟩
  show wpAny _ _ (richCompare .Eq u (.ref a)) _ _ _
  rcases h5 with rfl | ⟨z, rfl⟩ | ⟨i, rfl⟩ | ⟨p, xs, rfl, hp⟩ | ⟨p, xs, rfl, hp⟩
  · cases (show u = Value.none from rx)
    exact JsLow.refl_K (T := "NoneType") hr.units0 I.kIn J rfl rfl (hs _ (by simp)) JsLow.dec_none o.at_ o.fn fin
  · obtain ⟨t', rfl⟩ := (show ∃ t', u = Value.str z t' from rx)
    exact JsLow.refl_K (T := "str") hr.units0 I.kIn J (typeIs_str s z t') rfl (hs _ (by simp)) (JsLow.dec_str hx) o.at_ o.fn fin
  · obtain ⟨t', rfl⟩ := (show ∃ t', u = Value.int i t' from rx)
    exact JsLow.refl_K (T := "int") hr.units0 I.kIn J (typeIs_int s i t') rfl (hs _ (by simp)) (JsLow.dec_int hx) o.at_ o.fn fin
  · cases (show u = Value.ref p from rx)
    obtain ⟨us, _, ht, _⟩ := I.tuple hp
    exact JsLow.refl_K (T := "tuple") hr.units0 I.kIn J ht.typeIs rfl (hs _ (by simp)) (JsLow.dec_tup I.kIn J ht.typeIs (hs _ (by simp))) o.at_ o.fn fin
  · cases (show u = Value.ref p from rx)
    obtain ⟨us, _, ht, _⟩ := I.list hp
    exact JsLow.refl_K (T := "list") hr.units0 I.kIn J ht.isList.typeIs rfl (hs _ (by simp)) (JsLow.dec_lst I.kIn J ht.isList.typeIs (hs _ (by simp))) o.at_ o.fn fin
theorem OpR.or {f : Value → Value → Sem Value} {r r' : R2} (h : OpR X f r) (h' : OpR X f r') : OpR X f (fun x y H Q => r x y H Q ∨ r' x y H Q) := fun pins s σ H x y v u Q I rx ry q => q.elim (h pins s σ H x y v u Q I rx ry) (h' pins s σ H x y v u Q I rx ry)
end
section
variable {P : Program} {w : World} {K : PySem.W.Frag} {mg : Str → Option Value} {base : Heap} {C CP : Addr}
theorem ok_peqN {f : Addr} {fd : FuncData} (F : Fun K "__eq__" "Program.__eq__" sPEq f fd) (T : Txt K mg C) (TP : TxtP K mg CP) (SE : Spc P w K mg base C "__eq__" 2 ["self", "other"] (spEqT C)) : FnOk P w K mg base CX0 21 f fd ["self", "other"] (spEqN K CP) := by
  refine F.ok scPE (fun vs H Q E h => ?_) (fun cdv A outer s H vs Q E hr h => ?_)
  · obtain ⟨a, y, rfl, _⟩ := h
    rfl
  · obtain ⟨a, y, rfl, ⟨t, hty, hnf, hkt⟩, k⟩ := h
    refine ⟨_, pss_one (ps_ret (pe_and (pe_callB (r := rIsi K) call_isi (by rfl) T.isi PyProof.Rows.boot_isinstance (pa_cons (pv 1) (pa_cons (pe_glob (v := .ref CP) rfl TP.mgP rfl) pa_nil))) (pe_one (pe_cmpR (op_eqTl (eqT_rows SE 9).2.1 hr) (pe_fld (pv 0) rfl) (pe_fld (pv 1) rfl) (nomark _))))), ?_⟩
    exact ⟨_, rfl, _, _, _, _, false, rfl, ClsV.own CP, hty, hkt, false, rfl, iteF k⟩
end
end Js

set_option Elab.async false
set_option linter.all false
set_option maxRecDepth 100000
set_option maxHeartbeats 2000000
namespace Js
open PySem L2
open PySem.Spec PyProof.Rows
abbrev sDeedDone : Stmt := top 32
abbrev sChoose : Stmt := top 31
def doneR (e : Nat) (x : Pt) : List Dd := if x.1.look then ([.take true 0 1] ++ fetchR 2 x.1.nm1) ++ [.iff 2 (gotoR (x.2.getD 0 0) e) (gotoR (x.2.getD 1 0) e)] else (makeR x.1 ++ storeR x.1.nm1) ++ gotoR (x.2.getD 0 0) e
def doneAt (pl : List Pt) (e lo : Nat) : List Dd := match pl[lo]? with
  | some x => doneR e x
  | none => []
def chooseR (d : Nat → List Dd) : Nat → Nat → Nat → List Dd
  | 0, _, _ => []
  | f + 1, lo, n => if n = 1 then d lo else if n / 2 = 1 then [.iff 2 ([.take true 2 2] ++ chooseR d f (lo + n / 2) (n - n / 2)) (chooseR d f lo (n / 2))]
    else ([.take true 0 2] ++ List.replicate (n / 2 - 2) (.take true 0 0)) ++ [.iff 0 ([.take true 2 0] ++ chooseR d f (lo + n / 2) (n - n / 2)) (chooseR d f lo (n / 2))]
theorem atI1s (x y : V) (xs : List V) : atI (x :: y :: xs) 1 = some y := by
  have h : atI (x :: y :: xs) ((1 : Nat) : Int) = some y := atI_nat rfl
  exact h
/-! ### how great they are -/
def Dd.n10 : Dd → Prop
  | .told a _ => a < 10
  | .take _ a b => a < 10 ∧ b < 10
  | .two _ a b c => a < 10 ∧ b < 10 ∧ c < 10
  | .wh a _ => a < 10
  | .iff a _ _ => a < 10
theorem n10_of {K : PySem.W.Frag} {C : Addr} {H : Hp} {v : V} : ∀ {d : Dd}, DAt K C H v d → d.n10
  | .told a t, h => by obtain ⟨_, _, _, _, h, _⟩ := h; exact h
  | .take s a b, h => by obtain ⟨_, _, _, h1, h2⟩ := h; exact ⟨h1, h2⟩
  | .two s a b c, h => by obtain ⟨_, _, _, h1, h2, h3⟩ := h; exact ⟨h1, h2, h3⟩
  | .wh a r, h => by obtain ⟨_, _, _, _, _, h, _⟩ := h; exact h
  | .iff a r u, h => by obtain ⟨_, _, _, _, _, _, _, h, _⟩ := h; exact h
theorem n10_nm1 {d : Dd} (h : d.n10) : d.nm1 < 10 := by
  cases d with
  | told a t => exact h
  | take s a b => exact h.1
  | two s a b c => exact h.1
  | wh a r => exact h
  | iff a r u => exact h
theorem plan_n10 {K : PySem.W.Frag} {C CP : Addr} {H : Hp} {a : Addr} {r : List Dd} (h : PgAt K C CP H a r) : ∀ x ∈ planR r, x.1.n10 := by
  obtain ⟨dx, q, pl, ys, h1, h2, h3, h4⟩ := h.ex
  intro x hx
  obtain ⟨i, hi⟩ := List.mem_iff_getElem?.mp hx
  have hl := Paired.length h4
  have hil : i < ys.length := by rw [hl]; exact (List.getElem?_eq_some_iff.mp hi).1
  obtain ⟨x', hx', t, wv, dv, hyt, ht, hw, hdv⟩ := paired_get h4 (List.getElem?_eq_getElem hil)
  cases Option.some.inj (hx'.symm.trans hi)
  exact n10_of hdv
theorem make_len {d : Dd} (h : d.n10) : (makeR d).length ≤ 23 := by
  cases d with
  | told a t => show 1 ≤ 23; omega
  | take s a b =>
    have := h.2
    rw [makeR, List.length_append, fetch_len, List.length_singleton]
    omega
  | two s a b c =>
    obtain ⟨_, _, _⟩ := h
    rw [makeR, List.length_append, List.length_append, fetch_len, fetch_len, List.length_singleton]
    omega
  | wh a r => show 0 ≤ 23; omega
  | iff a r u => show 0 ≤ 23; omega
theorem store_len {n : Nat} (h : n < 10) : (storeR n).length ≤ 143 := by
  have h1 := stB_len n
  have h2 := stL_le n n
  have h3 : (n + 3) * n ≤ 13 * 10 := Nat.mul_le_mul (by omega) (by omega)
  rw [storeR, List.length_append]
  omega
theorem goto_len3 (p e : Nat) : (gotoR p e).length ≤ 3 := by
  rw [goto_le]
  split <;> omega
theorem done_len {e : Nat} {x : Pt} (h : x.1.n10) : (doneR e x).length ≤ 200 := by
  have h0 := n10_nm1 h
  unfold doneR
  split
  · rw [List.length_append, List.length_append, fetch_len, List.length_singleton, List.length_singleton]
    omega
  · have := make_len h
    have := store_len h0
    have := goto_len3 (x.2.getD 0 0) e
    rw [List.length_append, List.length_append]
    omega
theorem doneAt_len {pl : List Pt} {e lo : Nat} (h : ∀ x ∈ pl, x.1.n10) : (doneAt pl e lo).length ≤ 200 := by
  unfold doneAt
  split
  · rename_i x hx
    exact done_len (h x (List.mem_of_getElem? hx))
  · show 0 ≤ 200; omega
theorem choose_len {d : Nat → List Dd} (h : ∀ lo, (d lo).length ≤ 200) : ∀ f lo n, (chooseR d f lo n).length ≤ 200 + n
  | 0, lo, n => by
    show 0 ≤ _
    omega
  | f + 1, lo, n => by
    have := h lo
    rw [chooseR]
    split
    · omega
    · split
      · show 1 ≤ 200 + n
        omega
      · rw [List.length_append, List.length_append, List.length_replicate, List.length_singleton, List.length_singleton]
        omega
def spDone (K : PySem.W.Frag) (C CP : Addr) : Sp := fun vs H Q _ => ∃ (a : Addr) (r : List Dd) (pt : Nat), vs = [.ref a, .int (pt : Nat)] ∧ PgAt K C CP H a r ∧ pt < manyR r ∧ ∀ q H', Same H H' → RAt K C H' q (doneAt (planR r) (manyR r) pt) → Q (.ref q) H'
def spChoose (K : PySem.W.Frag) (C CP : Addr) (f : Nat) : Sp := fun vs H Q _ => ∃ (a : Addr) (r : List Dd) (lo n : Nat), vs = [.ref a, .int (lo : Nat), .int ((lo + n : Nat) : Int)] ∧ PgAt K C CP H a r ∧ 1 ≤ n ∧ n ≤ 2 ^ f / 2 ∧ lo + n ≤ manyR r ∧ n ≤ 100 ∧ ∀ q H', Same H H' → RAt K C H' q (chooseR (doneAt (planR r) (manyR r)) f lo n) → Q (.ref q) H'
section
variable {P : Program} {w : World} {K : PySem.W.Frag} {mg : Str → Option Value} {base : Heap} {C CP : Addr}
theorem scDd : FnScope ["program", "point", "deed", "ways", "end", "row_and_look"] ["program", "point"] (defScope sDeedDone) := ⟨rfl, rfl, rfl, by decide +kernel, rfl, by decide +kernel, by decide +kernel⟩
theorem ok_done {f : Addr} {fd : FuncData} (F : Fun K "deed_done" "deed_done" sDeedDone f fd) (B : Blt mg) (TP : TxtP K mg CP) (SPL : Spc P w K mg base CP "__len__" 1 ["self"] (spPLen K C CP)) (DFe : Def P w K mg base "fetch" 1 ["into", "name"] (spFetch K C)) (DGt : Def P w K mg base "go_to" 5 ["point", "end"] (spGoTo K C)) (DMa : Def P w K mg base "make" 2 ["deed"] (spMake44 K C)) (DSt : Def P w K mg base "store" 2 ["name"] (spStore K C)) : FnOk P w K mg base CX0 6 f fd ["program", "point"] (spDone K C CP) := by
  refine F.ok scDd (fun vs H Q E h => ?_) (fun cdv A outer s H vs Q E hr h => ?_)
  · obtain ⟨a, r, pt, rfl, _⟩ := h
    rfl
  · obtain ⟨a, r, pt, rfl, ha, hpt, k⟩ := h
    have hr1 : Room 1 _ := hr.mono (by decide)
    have hr2 : Room 2 _ := hr.mono (by decide)
    have hr5 : Room 5 _ := hr
    refine ⟨_, pss_cons (ps_asg (pe_ix (r := rIxT K) ix_tup (pe_fld (pv 0) rfl) (pv 1) (fun _ _ => rfl)) (pg_tup rfl (pgs_cons (pg_name (i := 2) scDd.nd rfl (Or.inl rfl)) (pgs_cons (pg_name (i := 3) scDd.nd rfl (Or.inl rfl)) pgs_nil)))) (pss_cons (ps_set (i := 4) scDd.nd rfl (Or.inl rfl) (pe_callB (call_lenP SPL hr2) (by rfl) B.len PySem.boot_len (pa_cons (pv 0) pa_nil))) (pss_cons (ps_if (pt_cmpR op_eq (pe_callB call_len_seq (by rfl) B.len PySem.boot_len (pa_cons (pv 3) pa_nil)) pe_int (nomark _)) (pss_cons (ps_set (i := 5) scDd.nd rfl (Or.inl rfl) (pe_op (op_catR (C := C)) (pe_tup (pa_cons (pe_tup (pa_cons pe_str (pa_cons pe_int (pa_cons pe_int pa_nil)))) pa_nil)) (pe_def DFe hr1 rfl (pa_cons pe_int (pa_cons (pe_ix (r := rIxT K) ix_tup (pv 2) pe_int (fun _ _ => rfl)) pa_nil))))) (pss_one (ps_ret (pe_op (op_catR (C := C)) (pv 5) (pe_tup (pa_cons (pe_tup (pa_cons pe_str (pa_cons pe_int (pa_cons (pe_def DGt hr5 rfl (pa_cons (pe_ix (r := rIxT K) ix_tup (pv 3) pe_int (fun _ _ => rfl)) (pa_cons (pv 4) pa_nil))) (pa_cons (pe_def DGt hr5 rfl (pa_cons (pe_ix (r := rIxT K) ix_tup (pv 3) pe_int (fun _ _ => rfl)) (pa_cons (pv 4) pa_nil))) pa_nil))))) pa_nil)))))) pss_nil) (pss_one (ps_ret (pe_op (op_catR (C := C)) (pe_op (op_catR (C := C)) (pe_def DMa hr2 rfl (pa_cons (pv 2) pa_nil)) (pe_def DSt hr2 rfl (pa_cons (pe_ix (r := rIxT K) ix_tup (pv 2) pe_int (fun _ _ => rfl)) pa_nil))) (pe_def DGt hr5 rfl (pa_cons (pe_ix (r := rIxT K) ix_tup (pv 3) pe_int (fun _ _ => rfl)) (pa_cons (pv 4) pa_nil)))))))), ?_⟩
    have hsl := line4
    obtain ⟨dx, q0, pl, ys, h1, h2, h3, h4⟩ := id ha.ex
    have hmn := ha.mn
    have hlen := Paired.length h4
    have hpy : pt < ys.length := by
      rw [hlen]
      show pt < (layR r (manyR r) 0).length
      rw [layR_len]
      exact hpt
    obtain ⟨x, hx, t, wv, dv, hyt, ht, hw, hdv⟩ := paired_get h4 (List.getElem?_eq_getElem hpy)
    obtain ⟨hwl, hwm⟩ := plan_ways hx
    obtain ⟨dp, its, rfl, hdp, hn1, _, _⟩ := DAt_split x.1 hdv
    have e0 : doneAt (planR r) (manyR r) pt = doneR (manyR r) x := by
      have hx' : (planR r)[pt]? = some x := hx
      unfold doneAt
      simp only [hx']
    rw [e0] at k
    have hn10 := n10_of hdv
    refine ⟨_, rfl, _, _, _, _, _, rfl, h1, TP.cl, TP.nP, pf_plan _ _, _, rfl, pl, _, _, _, rfl, rfl, SqT.of h3, atI_nat (by rw [List.getElem?_eq_getElem hpy, hyt]), ?_⟩
    refine ⟨t, _, rfl, SqT.of ht, rfl, _, _, rfl, _, _, rfl, rfl, ?_⟩
    refine ⟨_, rfl, a, r, rfl, ha, ?_⟩
    refine ⟨_, rfl, wv, _, rfl, .inr (SqT.of hw), rfl, _, rfl, ?_⟩
    rw [numsV_len, hwl]
    have wat : ∀ {G : Hp}, Same H G → ∀ i, i < x.2.length → atI (numsV x.2) ((i : Nat) : Int) = some (.int ((x.2.getD i 0 : Nat) : Int)) := by
      intro G _ i hi
      refine atI_nat ?_
      rw [numsV, List.getElem?_map, List.getElem?_eq_getElem hi, List.getD_eq_getElem?_getD, List.getElem?_eq_getElem hi]
      rfl
    cases hlk : x.1.look with
    | true =>
      rw [hlk] at hwl
      have hwl2 : x.2.length = 2 := hwl
      have hg0 := getD_le hwm 0
      have hg1 := getD_le hwm 1
      refine iteT ?_
      refine ⟨by show 3 ≤ sizeLine; decide, fun T1 nT1 => ?_⟩
      have s1 := Same.new nT1 (o := .tup [V.str "second", V.int (0), V.int (1)])
      have e1 : (upd H T1 (.tup [V.str "second", V.int (0), V.int (1)])) T1 = some (.tup [V.str "second", V.int (0), V.int (1)]) := upd_same
      revert s1 e1
      generalize upd H T1 (.tup [V.str "second", V.int (0), V.int (1)]) = G1
      intro s1 e1
      have dT1 : DAt K C G1 (.ref T1) (.take true 0 1) := ⟨T1, rfl, SqT.of e1, by decide, by decide⟩
      refine ⟨by show 1 ≤ sizeLine; decide, fun T2 nT2 => ?_⟩
      have s2 := Same.new nT2 (o := .tup [.ref T1])
      have e2 : (upd G1 T2 (.tup [.ref T1])) T2 = some (.tup [.ref T1]) := upd_same
      revert s2 e2
      generalize upd G1 T2 (.tup [.ref T1]) = G2
      intro s2 e2
      replace dT1 := DAt_kt (KT.of s2) _ _ dT1
      have rT2 : RAt K C G2 T2 [.take true 0 1] := ⟨_, SqT.of e2, ⟨_, _, rfl, dT1, rfl⟩⟩
      refine ⟨_, rfl, dp, _, 1, _, rfl, rfl, sqt_kt (KT.of ((s1).trans s2)) hdp, atI1s _ _ _, 2, x.1.nm1, rfl, by decide, hn1, fun T3 G3 s3 rT3 => ?_⟩
      replace rT2 := RAt.same s3 rT2
      refine ⟨T2, T3, _, _, rfl, rfl, rT2, rT3, by simp only [List.length_append, List.length_cons, List.length_nil, fetch_len]; omega, fun T4 G4 s4 rT4 => ?_⟩
      refine ⟨_, rfl, _, rfl, wv, _, 0, _, rfl, rfl, SqT.of (((((s1).trans s2).trans s3).trans s4) _ _ hw), wat (Same.refl H) 0 (by omega), _, rfl, x.2.getD 0 0, manyR r, rfl, by omega, fun T5 G5 s5 rT5 => ?_⟩
      replace rT4 := RAt.same s5 rT4
      refine ⟨_, rfl, wv, _, 1, _, rfl, rfl, SqT.of ((((((s1).trans s2).trans s3).trans s4).trans s5) _ _ hw), wat (Same.refl H) 1 (by omega), _, rfl, x.2.getD 1 0, manyR r, rfl, by omega, fun T6 G6 s6 rT6 => ?_⟩
      replace rT4 := RAt.same s6 rT4
      replace rT5 := RAt.same s6 rT5
      refine ⟨by show 4 ≤ sizeLine; decide, fun T7 nT7 => ?_⟩
      have s7 := Same.new nT7 (o := .tup [V.str "if", V.int (2), .ref T5, .ref T6])
      have e7 : (upd G6 T7 (.tup [V.str "if", V.int (2), .ref T5, .ref T6])) T7 = some (.tup [V.str "if", V.int (2), .ref T5, .ref T6]) := upd_same
      revert s7 e7
      generalize upd G6 T7 (.tup [V.str "if", V.int (2), .ref T5, .ref T6]) = G7
      intro s7 e7
      replace rT4 := RAt.same s7 rT4
      replace rT5 := RAt.same s7 rT5
      replace rT6 := RAt.same s7 rT6
      have dK : DAt K C G7 (.ref T7) (.iff 2 (gotoR (x.2.getD 0 0) (manyR r)) (gotoR (x.2.getD 1 0) (manyR r))) := (let ⟨vs, h1, h2⟩ := rT5; let ⟨us, h3, h4⟩ := rT6; ⟨T7, T5, vs, T6, us, rfl, SqT.of e7, by decide, h1, h2, h3, h4⟩)
      refine ⟨by show 1 ≤ sizeLine; decide, fun T8 nT8 => ?_⟩
      have s8 := Same.new nT8 (o := .tup [.ref T7])
      have e8 : (upd G7 T8 (.tup [.ref T7])) T8 = some (.tup [.ref T7]) := upd_same
      revert s8 e8
      generalize upd G7 T8 (.tup [.ref T7]) = G8
      intro s8 e8
      replace rT4 := RAt.same s8 rT4
      replace dK := DAt_kt (KT.of s8) _ _ dK
      have rK : RAt K C G8 T8 [.iff 2 (gotoR (x.2.getD 0 0) (manyR r)) (gotoR (x.2.getD 1 0) (manyR r))] := ⟨_, SqT.of e8, ⟨_, _, rfl, dK, rfl⟩⟩
      refine ⟨T4, T8, _, _, rfl, rfl, rT4, rK, by simp only [List.length_append, List.length_cons, List.length_nil, fetch_len]; omega, fun T9 G9 s9 rT9 => ?_⟩
      refine k T9 G9 (((((((((s1).trans s2).trans s3).trans s4).trans s5).trans s6).trans s7).trans s8).trans s9) ?_
      unfold doneR
      rw [hlk, if_pos rfl]
      exact rT9
    | false =>
      rw [hlk] at hwl
      have hwl2 : x.2.length = 1 := hwl
      have hg0 := getD_le hwm 0
      have hml := make_len hn10
      have hsl2 := store_len hn1
      refine iteF ?_
      refine ⟨_, rfl, _, x.1, rfl, hdv, hlk, fun T1 G1 s1 rT1 => ?_⟩
      refine ⟨_, rfl, dp, _, 1, _, rfl, rfl, sqt_kt (KT.of (s1)) hdp, atI1s _ _ _, x.1.nm1, rfl, hn1, fun T2 G2 s2 rT2 => ?_⟩
      replace rT1 := RAt.same s2 rT1
      refine ⟨T1, T2, _, _, rfl, rfl, rT1, rT2, by omega, fun T3 G3 s3 rT3 => ?_⟩
      refine ⟨_, rfl, wv, _, 0, _, rfl, rfl, SqT.of ((((s1).trans s2).trans s3) _ _ hw), wat (Same.refl H) 0 (by omega), _, rfl, x.2.getD 0 0, manyR r, rfl, by omega, fun T4 G4 s4 rT4 => ?_⟩
      replace rT3 := RAt.same s4 rT3
      refine ⟨T3, T4, _, _, rfl, rfl, rT3, rT4, by have := goto_len3 (x.2.getD 0 0) (manyR r); rw [List.length_append]; omega, fun T5 G5 s5 rT5 => ?_⟩
      refine k T5 G5 (((((s1).trans s2).trans s3).trans s4).trans s5) ?_
      unfold doneR
      rw [hlk, if_neg (by decide)]
      exact rT5
theorem scCh : FnScope ["program", "low", "high", "half", "above", "below", "tails"] ["program", "low", "high"] (defScope sChoose) := ⟨rfl, rfl, rfl, by decide +kernel, rfl, by decide +kernel, by decide +kernel⟩
theorem ok_choose {f : Addr} {fd : FuncData} (F : Fun K "choose" "choose" sChoose f fd) (mgf : mg "choose" = some (.ref f)) (b : Binds K fd ["program", "low", "high"] []) (B : Blt mg) (DDd : Def P w K mg base "deed_done" 6 ["program", "point"] (spDone K C CP)) : ∀ n, FnOk P w K mg base CX0 (n + 6) f fd ["program", "low", "high"] (spChoose K C CP n) := by
  intro g
  induction g with
  | zero =>
    refine F.ok scCh (fun vs H Q E h => ?_) (fun cdv A outer s H vs Q E hr h => ?_)
    · obtain ⟨a, r, lo, n, rfl, _⟩ := h
      rfl
    · obtain ⟨a, r, lo, n, rfl, ha, hn1, hn2, hle, hnn, k⟩ := h
      exact absurd hn2 (by show ¬ n ≤ 0; omega)
  | succ g G' =>
    refine F.ok scCh (fun vs H Q E h => ?_) (fun cdv A outer s H vs Q E hr h => ?_)
    · obtain ⟨a, r, lo, n, rfl, _⟩ := h
      rfl
    · obtain ⟨a, r, lo, n, rfl, ha, hn1, hn2, hle, hnn, k⟩ := h
      have hr6 : Room 6 _ := hr.mono (by omega)
      refine ⟨_, pss_cons (ps_if (pt_cmpR op_eq (pe_op op_sub (pv 2) (pv 1)) pe_int (nomark _)) (pss_one (ps_ret (pe_def DDd hr6 rfl (pa_cons (pv 0) (pa_cons (pv 1) pa_nil))))) pss_nil) (pss_cons (ps_set (i := 3) scCh.nd rfl (Or.inl rfl) (pe_op op_fdiv (pe_op op_sub (pv 2) (pv 1)) pe_int)) (pss_cons (ps_par (i := 4) (j := 5) (by rfl) scCh.nd rfl rfl (by decide) rfl rfl (pa_cons (pe_call G' hr rfl mgf F.kp b .nil pass0 (pa_cons (pv 0) (pa_cons (pe_op op_add (pv 1) (pv 3)) (pa_cons (pv 2) pa_nil)))) (pa_cons (pe_call G' hr rfl mgf F.kp b .nil pass0 (pa_cons (pv 0) (pa_cons (pv 1) (pa_cons (pe_op op_add (pv 1) (pv 3)) pa_nil)))) pa_nil)) (by rfl)) (pss_cons (ps_if (pt_cmpR op_eq (pv 3) pe_int (nomark _)) (pss_one (ps_ret (pe_tup (pa_cons (pe_tup (pa_cons pe_str (pa_cons pe_int (pa_cons (pe_op (op_catR (C := C)) (pe_tup (pa_cons (pe_tup (pa_cons pe_str (pa_cons pe_int (pa_cons pe_int pa_nil)))) pa_nil)) (pv 4)) (pa_cons (pv 5) pa_nil))))) pa_nil)))) pss_nil) (pss_cons (ps_set (i := 6) scCh.nd rfl (Or.inl rfl) (pe_op (op_catR (C := C)) (pe_tup (pa_cons (pe_tup (pa_cons pe_str (pa_cons pe_int (pa_cons pe_int pa_nil)))) pa_nil)) (pe_op (op_mulR (C := C)) (pe_tup (pa_cons (pe_tup (pa_cons pe_str (pa_cons pe_int (pa_cons pe_int pa_nil)))) pa_nil)) (pe_op op_sub (pv 3) pe_int)))) (pss_one (ps_ret (pe_op (op_catR (C := C)) (pv 6) (pe_tup (pa_cons (pe_tup (pa_cons pe_str (pa_cons pe_int (pa_cons (pe_op (op_catR (C := C)) (pe_tup (pa_cons (pe_tup (pa_cons pe_str (pa_cons pe_int (pa_cons pe_int pa_nil)))) pa_nil)) (pv 4)) (pa_cons (pv 5) pa_nil))))) pa_nil))))))))), ?_⟩
      have hsl := line4
      have hdl : ∀ lo, (doneAt (planR r) (manyR r) lo).length ≤ 200 := fun lo => doneAt_len (plan_n10 ha)
      refine ⟨_, rfl, _, rfl, _, _, rfl, rfl, rfl, _, rfl, ?_⟩
      rw [dec_int]
      have hmn := ha.mn
      by_cases h1 : n = 1
      · subst h1
        refine iteT' (by rw [beq_iff_eq]; omega) ?_
        refine ⟨_, rfl, _, rfl, a, r, lo, rfl, ha, by omega, fun q H1 s1 hq => k q H1 s1 ?_⟩
        rw [chooseR, if_pos rfl]
        exact hq
      · refine iteF' (by rw [beq_eq_false_iff_ne]; omega) ?_
        refine ⟨_, rfl, _, rfl, _, _, rfl, rfl, _, _, rfl, rfl, ⟨by decide, by decide⟩, ?_⟩
        show gName 3 (V.int ((((lo + n : Nat) : Int) - ((lo : Nat) : Int)) / 2)) _ _ _
        have eh : (((lo + n : Nat) : Int) - (lo : Nat)) / 2 = ((n / 2 : Nat) : Int) := by omega
        rw [eh]
        obtain ⟨j, rfl⟩ : ∃ j, g = j + 1 := by
          cases g with
          | zero => exact absurd hn2 (by show ¬ n ≤ 1; omega)
          | succ j => exact ⟨j, rfl⟩
        have hp2 : 2 ^ (j + 1 + 1) = 2 * 2 ^ (j + 1) := Nat.pow_succ'
        have hp3 : 2 ^ (j + 1) = 2 * 2 ^ j := Nat.pow_succ'
        refine ⟨_, rfl, _, rfl, _, rfl, _, _, rfl, rfl, _, rfl, a, r, lo + n / 2, n - n / 2, ?_, ha, by omega, by omega, by omega, by omega, fun q1 H1 s1 hq1 => ?_⟩
        · rw [show lo + n / 2 + (n - n / 2) = lo + n by omega]
          rfl
        refine ⟨_, rfl, _, rfl, _, rfl, _, rfl, _, _, rfl, rfl, a, r, lo, n / 2, rfl, ha.same s1, by omega, by omega, by omega, by omega, fun q2 H2 s2 hq2 => ?_⟩
        replace hq1 := hq1.same s2
        have hl1 := choose_len hdl (j + 1) (lo + n / 2) (n - n / 2)
        have hl2 := choose_len hdl (j + 1) lo (n / 2)
        refine ⟨_, _, rfl, _, rfl, rfl, _, rfl, ?_⟩
        rw [dec_int]
        by_cases hh : n / 2 = 1
        · refine iteT' (by rw [beq_iff_eq]; omega) ?_
          refine ⟨by show 3 ≤ sizeLine; decide, fun T41 nT41 => ?_⟩
          have s41 := Same.new nT41 (o := .tup [V.str "second", V.int (2), V.int (2)])
          have e41 : (upd H2 T41 (.tup [V.str "second", V.int (2), V.int (2)])) T41 = some (.tup [V.str "second", V.int (2), V.int (2)]) := upd_same
          revert s41 e41
          generalize upd H2 T41 (.tup [V.str "second", V.int (2), V.int (2)]) = G41
          intro s41 e41
          replace hq1 := RAt.same s41 hq1
          replace hq2 := RAt.same s41 hq2
          have dT41 : DAt K C G41 (.ref T41) (.take true 2 2) := ⟨T41, rfl, SqT.of e41, by decide, by decide⟩
          refine ⟨by show 1 ≤ sizeLine; decide, fun T42 nT42 => ?_⟩
          have s42 := Same.new nT42 (o := .tup [.ref T41])
          have e42 : (upd G41 T42 (.tup [.ref T41])) T42 = some (.tup [.ref T41]) := upd_same
          revert s42 e42
          generalize upd G41 T42 (.tup [.ref T41]) = G42
          intro s42 e42
          replace hq1 := RAt.same s42 hq1
          replace hq2 := RAt.same s42 hq2
          replace dT41 := DAt_kt (KT.of s42) _ _ dT41
          have rT42 : RAt K C G42 T42 [.take true 2 2] := ⟨_, SqT.of e42, ⟨_, _, rfl, dT41, rfl⟩⟩
          refine ⟨_, rfl, T42, q1, _, _, rfl, rfl, rT42, hq1, by rw [List.length_singleton]; omega, fun T43 G43 s43 rT43 => ?_⟩
          replace hq2 := RAt.same s43 hq2
          refine ⟨_, rfl, by show 4 ≤ sizeLine; decide, fun T44 nT44 => ?_⟩
          have s44 := Same.new nT44 (o := .tup [V.str "if", V.int (2), .ref T43, .ref q2])
          have e44 : (upd G43 T44 (.tup [V.str "if", V.int (2), .ref T43, .ref q2])) T44 = some (.tup [V.str "if", V.int (2), .ref T43, .ref q2]) := upd_same
          revert s44 e44
          generalize upd G43 T44 (.tup [V.str "if", V.int (2), .ref T43, .ref q2]) = G44
          intro s44 e44
          replace hq2 := RAt.same s44 hq2
          replace rT43 := RAt.same s44 rT43
          have dK : DAt K C G44 (.ref T44) (.iff 2 ([.take true 2 2] ++ (chooseR (doneAt (planR r) (manyR r)) (j + 1) (lo + n / 2) (n - n / 2))) (chooseR (doneAt (planR r) (manyR r)) (j + 1) lo (n / 2))) := (let ⟨vs, h1, h2⟩ := rT43; let ⟨us, h3, h4⟩ := hq2; ⟨T44, T43, vs, q2, us, rfl, SqT.of e44, by decide, h1, h2, h3, h4⟩)
          refine ⟨by show 1 ≤ sizeLine; decide, fun T45 nT45 => ?_⟩
          have s45 := Same.new nT45 (o := .tup [.ref T44])
          have e45 : (upd G44 T45 (.tup [.ref T44])) T45 = some (.tup [.ref T44]) := upd_same
          revert s45 e45
          generalize upd G44 T45 (.tup [.ref T44]) = G45
          intro s45 e45
          replace dK := DAt_kt (KT.of s45) _ _ dK
          have rK : RAt K C G45 T45 [.iff 2 ([.take true 2 2] ++ (chooseR (doneAt (planR r) (manyR r)) (j + 1) (lo + n / 2) (n - n / 2))) (chooseR (doneAt (planR r) (manyR r)) (j + 1) lo (n / 2))] := ⟨_, SqT.of e45, ⟨_, _, rfl, dK, rfl⟩⟩
          refine k T45 G45 (s1.trans (s2.trans (((((s41).trans s42).trans s43).trans s44).trans s45))) ?_
          rw [chooseR, if_neg h1, if_pos hh]
          exact rK
        · refine iteF' (by rw [beq_eq_false_iff_ne]; omega) ?_
          refine ⟨by show 3 ≤ sizeLine; decide, fun T61 nT61 => ?_⟩
          have s61 := Same.new nT61 (o := .tup [V.str "second", V.int (0), V.int (2)])
          have e61 : (upd H2 T61 (.tup [V.str "second", V.int (0), V.int (2)])) T61 = some (.tup [V.str "second", V.int (0), V.int (2)]) := upd_same
          revert s61 e61
          generalize upd H2 T61 (.tup [V.str "second", V.int (0), V.int (2)]) = G61
          intro s61 e61
          replace hq1 := RAt.same s61 hq1
          replace hq2 := RAt.same s61 hq2
          have dT61 : DAt K C G61 (.ref T61) (.take true 0 2) := ⟨T61, rfl, SqT.of e61, by decide, by decide⟩
          refine ⟨by show 1 ≤ sizeLine; decide, fun T62 nT62 => ?_⟩
          have s62 := Same.new nT62 (o := .tup [.ref T61])
          have e62 : (upd G61 T62 (.tup [.ref T61])) T62 = some (.tup [.ref T61]) := upd_same
          revert s62 e62
          generalize upd G61 T62 (.tup [.ref T61]) = G62
          intro s62 e62
          replace hq1 := RAt.same s62 hq1
          replace hq2 := RAt.same s62 hq2
          replace dT61 := DAt_kt (KT.of s62) _ _ dT61
          have rT62 : RAt K C G62 T62 [.take true 0 2] := ⟨_, SqT.of e62, ⟨_, _, rfl, dT61, rfl⟩⟩
          refine ⟨by show 3 ≤ sizeLine; decide, fun T63 nT63 => ?_⟩
          have s63 := Same.new nT63 (o := .tup [V.str "second", V.int (0), V.int (0)])
          have e63 : (upd G62 T63 (.tup [V.str "second", V.int (0), V.int (0)])) T63 = some (.tup [V.str "second", V.int (0), V.int (0)]) := upd_same
          revert s63 e63
          generalize upd G62 T63 (.tup [V.str "second", V.int (0), V.int (0)]) = G63
          intro s63 e63
          replace hq1 := RAt.same s63 hq1
          replace hq2 := RAt.same s63 hq2
          replace rT62 := RAt.same s63 rT62
          have dT63 : DAt K C G63 (.ref T63) (.take true 0 0) := ⟨T63, rfl, SqT.of e63, by decide, by decide⟩
          refine ⟨by show 1 ≤ sizeLine; decide, fun T64 nT64 => ?_⟩
          have s64 := Same.new nT64 (o := .tup [.ref T63])
          have e64 : (upd G63 T64 (.tup [.ref T63])) T64 = some (.tup [.ref T63]) := upd_same
          revert s64 e64
          generalize upd G63 T64 (.tup [.ref T63]) = G64
          intro s64 e64
          replace hq1 := RAt.same s64 hq1
          replace hq2 := RAt.same s64 hq2
          replace rT62 := RAt.same s64 rT62
          replace dT63 := DAt_kt (KT.of s64) _ _ dT63
          have rT64 : RAt K C G64 T64 [.take true 0 0] := ⟨_, SqT.of e64, ⟨_, _, rfl, dT63, rfl⟩⟩
          refine ⟨_, rfl, _, _, rfl, rfl, T64, _, n / 2 - 2, rfl, congrArg V.int (by omega), rT64, by omega, by simp, fun T65 G65 s65 rT65 => ?_⟩
          rw [flat_rl] at rT65
          replace hq1 := RAt.same s65 hq1
          replace hq2 := RAt.same s65 hq2
          replace rT62 := RAt.same s65 rT62
          refine ⟨T62, T65, _, _, rfl, rfl, rT62, rT65, by rw [List.length_replicate, List.length_singleton]; omega, fun T66 G66 s66 rT66 => ?_⟩
          replace hq1 := RAt.same s66 hq1
          replace hq2 := RAt.same s66 hq2
          refine ⟨_, rfl, by show 3 ≤ sizeLine; decide, fun T67 nT67 => ?_⟩
          have s67 := Same.new nT67 (o := .tup [V.str "second", V.int (2), V.int (0)])
          have e67 : (upd G66 T67 (.tup [V.str "second", V.int (2), V.int (0)])) T67 = some (.tup [V.str "second", V.int (2), V.int (0)]) := upd_same
          revert s67 e67
          generalize upd G66 T67 (.tup [V.str "second", V.int (2), V.int (0)]) = G67
          intro s67 e67
          replace hq1 := RAt.same s67 hq1
          replace hq2 := RAt.same s67 hq2
          replace rT66 := RAt.same s67 rT66
          have dT67 : DAt K C G67 (.ref T67) (.take true 2 0) := ⟨T67, rfl, SqT.of e67, by decide, by decide⟩
          refine ⟨by show 1 ≤ sizeLine; decide, fun T68 nT68 => ?_⟩
          have s68 := Same.new nT68 (o := .tup [.ref T67])
          have e68 : (upd G67 T68 (.tup [.ref T67])) T68 = some (.tup [.ref T67]) := upd_same
          revert s68 e68
          generalize upd G67 T68 (.tup [.ref T67]) = G68
          intro s68 e68
          replace hq1 := RAt.same s68 hq1
          replace hq2 := RAt.same s68 hq2
          replace rT66 := RAt.same s68 rT66
          replace dT67 := DAt_kt (KT.of s68) _ _ dT67
          have rT68 : RAt K C G68 T68 [.take true 2 0] := ⟨_, SqT.of e68, ⟨_, _, rfl, dT67, rfl⟩⟩
          refine ⟨_, rfl, T68, q1, _, _, rfl, rfl, rT68, hq1, by rw [List.length_singleton]; omega, fun T69 G69 s69 rT69 => ?_⟩
          replace hq2 := RAt.same s69 hq2
          replace rT66 := RAt.same s69 rT66
          refine ⟨_, rfl, by show 4 ≤ sizeLine; decide, fun T70 nT70 => ?_⟩
          have s70 := Same.new nT70 (o := .tup [V.str "if", V.int (0), .ref T69, .ref q2])
          have e70 : (upd G69 T70 (.tup [V.str "if", V.int (0), .ref T69, .ref q2])) T70 = some (.tup [V.str "if", V.int (0), .ref T69, .ref q2]) := upd_same
          revert s70 e70
          generalize upd G69 T70 (.tup [V.str "if", V.int (0), .ref T69, .ref q2]) = G70
          intro s70 e70
          replace hq2 := RAt.same s70 hq2
          replace rT66 := RAt.same s70 rT66
          replace rT69 := RAt.same s70 rT69
          have dK : DAt K C G70 (.ref T70) (.iff 0 ([.take true 2 0] ++ (chooseR (doneAt (planR r) (manyR r)) (j + 1) (lo + n / 2) (n - n / 2))) (chooseR (doneAt (planR r) (manyR r)) (j + 1) lo (n / 2))) := (let ⟨vs, h1, h2⟩ := rT69; let ⟨us, h3, h4⟩ := hq2; ⟨T70, T69, vs, q2, us, rfl, SqT.of e70, by decide, h1, h2, h3, h4⟩)
          refine ⟨by show 1 ≤ sizeLine; decide, fun T71 nT71 => ?_⟩
          have s71 := Same.new nT71 (o := .tup [.ref T70])
          have e71 : (upd G70 T71 (.tup [.ref T70])) T71 = some (.tup [.ref T70]) := upd_same
          revert s71 e71
          generalize upd G70 T71 (.tup [.ref T70]) = G71
          intro s71 e71
          replace rT66 := RAt.same s71 rT66
          replace dK := DAt_kt (KT.of s71) _ _ dK
          have rK : RAt K C G71 T71 [.iff 0 ([.take true 2 0] ++ (chooseR (doneAt (planR r) (manyR r)) (j + 1) (lo + n / 2) (n - n / 2))) (chooseR (doneAt (planR r) (manyR r)) (j + 1) lo (n / 2))] := ⟨_, SqT.of e71, ⟨_, _, rfl, dK, rfl⟩⟩
          refine ⟨T66, T71, _, _, rfl, rfl, rT66, rK, by rw [List.length_append, List.length_replicate, List.length_singleton, List.length_singleton]; omega, fun T72 G72 s72 rT72 => ?_⟩
          refine k T72 G72 (s1.trans (s2.trans ((((((((((((s61).trans s62).trans s63).trans s64).trans s65).trans s66).trans s67).trans s68).trans s69).trans s70).trans s71).trans s72))) ?_
          rw [chooseR, if_neg h1, if_neg hh]
          exact rT72
end
end Js

set_option Elab.async false
set_option linter.all false
set_option maxRecDepth 100000
set_option maxHeartbeats 2000000
namespace Js
open PySem L2
theorem nat_log (n : Nat) (h : n ≤ 1000000) : ((n : Nat) : Int).natAbs.log2 < 1920 := by
  rw [Int.natAbs_natCast]
  by_cases h0 : n = 0
  · subst h0; decide
  · exact Nat.lt_of_lt_of_le ((Nat.log2_lt h0).mpr (show n < 2 ^ 20 by omega)) (by decide)
/-! ### isinstance of a caught one -/
section
variable {X : Cx} {a D : Addr} {oe : Obj} {pn : List (Addr × Obj)} {d : Option Addr} {cls : Value}
def rIsX (K : PySem.W.Frag) (D a : Addr) (cls : Value) (d : Option Addr) : List V → Hp → VK → Prop := fun xs H Q => ∃ (c : V) (cv : Value) (b : Bool) (dd : Addr) (fs : List (Str × V)), xs = [.ref a, c] ∧ ClsV c cv ∧ cls = .ref D ∧ d = some dd ∧ H dd = some (.xd fs) ∧ PySem.W.kitOne K (.ref D) cv = some b ∧ Q (.bl b) H
theorem inst_x {s : Shared} {H : Hp} {dd : Addr} {fs : List (Str × V)} {pins : List (Addr × Obj)} {σ : St} (I : Inv (X.suite a ((a, oe) :: pn)) pins σ H s) (hz : Zc (.ref D) d oe) (hf : ∃ vs, oe.data = .fields vs) (e1 : d = some dd) (e2 : H dd = some (.xd fs)) : ∃ od, PySem.W.InstAt s.heap a oe D (some od) := by
  subst e1
  obtain ⟨hget, _⟩ := I.pin (a, oe) (List.mem_append_left _ List.mem_cons_self)
  obtain ⟨vs, hd⟩ := hf
  have hx : ObjOk X.prog X.w H s.heap dd (.xd fs) := I.hok dd _ e2
  obtain ⟨mA, hns, hr⟩ := hx
  obtain ⟨od, ho, hl⟩ := lookIn_ns hns
  exact ⟨od, hget, hz.1, by unfold PySem.W.notCls; rw [hd] <;> rfl, by rw [hz.2]; exact ho⟩
/-- what the class says, so that isinstance asks its instances rightly -/
structure XcC (K : PySem.W.Frag) (D : Addr) : Prop where
  hc : (PySem.W.clsIn K D).isSome = true
  hg : PySem.W.findIn K (.ref D) "__getattribute__" = some (some (.builtin "BaseException.__getattribute__"))
  hk : PySem.W.findIn K (.ref D) "__getattr__" = some none
  hs : PySem.W.subIn K (.ref D) (.type "BaseException") = some true
  ha : PySem.W.findIn K (.ref D) "__class__" = some (some (.builtin "object.__class__"))
  hn : PySem.W.specialIn K (.builtin "object.__class__") "__get__" = some (some (.builtin "getset_descriptor.__get__"))
  ht : PySem.W.takesIn K (.builtin "object.__class__") = some true
  hm : PySem.W.mroIn K D (.type "object") = some true
theorem call_isX (C : XcC X.K D) (hz : Zc cls d oe) (hf : ∃ vs, oe.data = .fields vs) : CallR (X.suite a ((a, oe) :: pn)) (.builtin "isinstance") (rIsX X.K D a cls d) := by
  intro pins s σ H xs us Q I r h
  obtain ⟨c, cv, b, dd, fs, rfl, hcv, rfl, e1, e2, e, q⟩ := h
  obtain ⟨od, J⟩ := inst_x I hz hf e1 e2
  cases r with
  | cons rx rr =>
    cases rr with
    | cons rt rr =>
      cases rr
      cases rx
      have ec := hcv.eq rt
      subst ec
      exact PySem.W.kia_one (PySem.W.kitx_exc C.hc C.hg C.hk C.hs C.ha C.hn C.ht C.hm) I.kIn J e (fun z => nomatch z) fun tk => ⟨.bl b, H, I.kept (t' := tk) fun _ _ z => z, rfl, q⟩
/-- isinstance(e, (C1, ..)) -/
def rIsXt (K : PySem.W.Frag) (D a : Addr) (cls : Value) (d : Option Addr) : List V → Hp → VK → Prop := fun xs H Q => ∃ (tp : Addr) (cs : List V) (cvs : List Value) (b : Bool) (dd : Addr) (fs : List (Str × V)), xs = [.ref a, .ref tp] ∧ H tp = some (.tup cs) ∧ Paired ClsV cs cvs ∧ cls = .ref D ∧ d = some dd ∧ H dd = some (.xd fs) ∧ PySem.W.kitAny K (.ref D) cvs = some b ∧ Q (.bl b) H
theorem call_isXt (C : XcC X.K D) (hz : Zc cls d oe) (hf : ∃ vs, oe.data = .fields vs) : CallR (X.suite a ((a, oe) :: pn)) (.builtin "isinstance") (rIsXt X.K D a cls d) := by
  intro pins s σ H xs us Q I r h
  obtain ⟨tp, cs, cvs, b, dd, fs, rfl, ht, hcv, rfl, e1, e2, e, q⟩ := h
  obtain ⟨od, J⟩ := inst_x I hz hf e1 e2
  cases r with
  | cons rx rr =>
    cases rr with
    | cons rt rr =>
      cases rr
      cases rx
      cases rt
      obtain ⟨its, rv, ⟨o, ho, hcl, n, hdt⟩, _⟩ := I.tuple (SqT.of ht)
      have ev := ClsV.all hcv rv
      subst ev
      obtain ⟨oc, od', oda, osl⟩ := o
      dsimp only at hcl hdt
      subst hcl hdt
      exact PySem.W.kia_tup (PySem.W.kitx_exc C.hc C.hg C.hk C.hs C.ha C.hn C.ht C.hm) I.kIn J ho e (fun z => nomatch z) fun tk => ⟨.bl b, H, I.kept (t' := tk) fun _ _ z => z, rfl, q⟩
end
end Js

set_option Elab.async false
set_option linter.all false
set_option maxRecDepth 100000
set_option maxHeartbeats 4000000
/-! own exception classes over any built-in one -/
namespace JsGx
open PySem PySem.W PyProof.Rows PySem.HandSPX Builtin Builtin.ObjectAttr
section
variable {prog : Program} {w : World} {A : Around} {E : Value → Shared → Prop}
variable {h0 : Heap} {gs : Array GenState} {dr : Drawn} {tt : Nat} {os : OsState} {K : W.Frag}
/-- the first field of an exception without a dict -/
theorem own_first {nm : Str} {tk : Tok} {v : Value} {x C : Addr} {fv : Array Value} {cd : ClassData} {b : Bool} {Q : Fin → Shared → Prop}
    (kin : K.In h0) (at_ : h0.get? x = some { cls := .ref C, data := .fields fv }) (hcd : W.clsIn K C = some cd) (hh : cd.hasDict = true)
    (q : ∀ h1 tk1 dx, (∀ c o, c ≠ x → h0.get? c = some o → h1.get? c = some o) → h0.objs.size ≤ dx → dx ≠ x →
      h1.get? x = some { cls := .ref C, dict := some dx, data := .fields fv } → h1.Ns1 dx (fun y => if y = nm then some v else none) → Q (.done (.ret .none)) ⟨h1, gs, dr, tk1, os⟩) :
    wpAny (model prog w) A (storeInOwnDict (.ref x) (.ref C) (.str nm tk) nm v b) Q E ⟨h0, gs, dr, tt, os⟩ := by
  have lc : W.Looks (model prog w) h0 (classData C) cd := W.looks_clsIn kin hcd
  have nx : x ≠ h0.objs.size := Nat.ne_of_lt (Heap.lt_size at_)
  obtain ⟨n1, bs, mro, ns, qn, hd, sn, sb, ab, col, del⟩ := cd
  cases (show hd = true from hh)
  unfold storeInOwnDict ownDictForStores
  repeat first
    | with_reducible refine store_in_new ?_ ?_
    | with_reducible refine wpAny_loadPart_at at_ ?_
    | with_reducible refine lc.at ?_
    | wp_step
  · exact ⟨_, #[], _, (Heap.get?_update_ne _ _ _ _ nx.symm).trans (Heap.get?_push_at rfl rfl), rfl, fun e he => absurd he (by simp), fun _ => rfl⟩
  · intro h1 tk1 hn1 hs1
    have there := Heap.get?_push_of_some { cls := .type "dict", data := .dict #[] } at_
    have kept : ∀ c o, c ≠ x → h0.get? c = some o → h1.get? c = some o := fun c o nc hc =>
      (hs1.2 c (Nat.ne_of_lt (Heap.lt_size hc))).trans ((Heap.get?_update_ne _ _ _ _ nc).trans (Heap.get?_push_of_some _ hc))
    exact q h1 tk1 h0.objs.size kept (Nat.le_refl _) nx.symm ((hs1.2 x nx).trans (Heap.get?_update_self _ there rfl)) hn1
end
end JsGx
namespace Js
open PySem L2 PySem.Spec PyProof.Rows
/-- an own class at C over the built-in exception B -/
structure GexC (K : PySem.W.Frag) (C : Addr) (B nw ini : String) (tl : List Value) : Prop where
  F : ExcBaseFacts B nw ini tl
  SF : StoreFacts B tl "object.__setattr__" "object"
  cls : ∃ nm q N bs bm sn sub ab col dd k0 k1 k2 k3 k5, K.lookup C = some (excClassObj nm q C N bs bm true sn sub ab col dd k0 k1 k2 k3 k5 nw) ∧ ∀ Y : String, bm.contains (.type Y) = tl.contains (.type Y)
  ov : PySem.W.excOver K C tl = true
  st : PySem.W.findIn K (.ref C) "__setattr__" = some (some (.builtin "object.__setattr__"))
  be : PySem.W.subIn K (.ref C) (.type "BaseException") = some true
  ty : PySem.W.typeIn K (.ref C) = some (.type "type")
  kp : PySem.W.keepIn K (.ref C) = true
section
variable {X : Cx} {pins : List (Addr × Obj)} {σ : L2.St} {H : Hp} {s : Shared} {a C : Addr} {f : Str} {y : V} {u : Value} {B nw ini : String} {tl : List Value}
theorem g_first {A : Around} {Q : Unit → Shared → Prop} {E : Value → Shared → Prop} (T : GexC X.K C B nw ini tl) (I : Inv X pins σ H s) (e : H a = some (exo a C none)) (hno : PySem.W.findIn X.K (.ref C) f = some none) (ry : RelV y u)
    (k : ∀ dx s', H dx = none → dx ≠ a → Inv X pins σ (upd (upd H dx (exd dx [(f, y)])) a (exo a C (some dx))) s' → Q () s') : wpAny (model X.prog X.w) A (setAttr (.ref a) f u) Q E s := by
  obtain ⟨nm, q, N, bs, bm, sn, sub, ab, col, dd, k0, k1, k2, k3, k5, hC, _⟩ := T.cls
  obtain ⟨t1, ho⟩ := exo_at I.hok e
  obtain ⟨hp, g, d, t, os⟩ := s
  have IA : PySem.W.InstAt hp a _ C none := ⟨ho, rfl, rfl, trivial⟩
  refine PySem.W.set_plain I.kIn IA T.st ?_
  refine PySem.W.osa_openX (r := none) T.SF I.kIn IA T.ov (by unfold PySem.W.takerIn; rw [hno]; rfl) fun b => ?_
  refine JsGx.own_first I.kIn ho (by unfold PySem.W.clsIn; rw [hC] <;> rfl) rfl fun h1 tk1 dx kept dn dne hx hn => ?_
  have hnd : H dx = none := I.hok.fresh dn
  have off : ∀ {c : Addr}, H c = none → c ≠ a := fun {c} n z => nomatch (z ▸ n).symm.trans e
  have old : ∀ {c : Addr} {o : Obj}, hp.get? c = some o → c ≠ dx := fun {c o} z => Nat.ne_of_lt (Nat.lt_of_lt_of_le (Heap.lt_size z) dn)
  have U : Un X.fs [] H (upd (upd H dx (exd dx [(f, y)])) a (exo a C (some dx))) hp h1 := by
    refine { keep := ?_, slot := ?_, free := ?_, there := ?_, tups := ?_, frzs := ?_, tbls := ?_ }
    · intro c o z n _ _
      exact kept c o (off n) z
    · intro c o z n _ _
      exact ⟨o.slots, kept c o (off n) z⟩
    · intro c o z n _
      rw [upd_ne (off n), upd_ne (old z)]
      exact n
    · intro c o z _
      by_cases hc : c = a
      · exact ⟨_, hc ▸ hx⟩
      · exact ⟨o, kept c o hc z⟩
    · intro c xs z
      rw [upd_ne (at_ne e z exo_tup), upd_ne (ne_of_none z hnd)]
      exact z
    · intro c o v z
      rw [upd_ne (at_ne e z exo_frz), upd_ne (ne_of_none z hnd)]
      exact z
    · intro c ps z
      refine ⟨#[], ?_⟩
      rw [upd_ne (at_ne e z exo_tbl), upd_ne (ne_of_none z hnd), z]
      simp
  refine k dx _ hnd dne (I.un (t' := tk1) U fun c o z => ?_)
  by_cases hc : c = a
  · subst hc
    cases upd_same.symm.trans z
    exact exo_ok hx
  · rw [upd_ne hc] at z
    by_cases hd : c = dx
    · subst hd
      cases upd_same.symm.trans z
      exact exd_ok hn (relO_put (fs := []) ry fun _ => True.intro)
    · rw [upd_ne hd] at z
      refine (I.hok c o z).stay (fun m v hm zz => kept m v ?_ zz) (fun m hm => ?_) (fun m xs hm => ?_)
      · rcases hm with hm | hm
        · exact hm ▸ hc
        · exact at_ne e hm exo_own
      · rw [upd_ne (at_ne e hm exo_own), upd_ne (ne_of_none hm hnd)]
        exact hm
      · rw [upd_ne (at_ne e hm exo_tup), upd_ne (ne_of_none hm hnd)]
        exact hm
/-- B.__init__(self, ..) -/
theorem g_init {A : Around} {E : Value → Shared → Prop} {us : List Value} {Q : Value → Shared → Prop} (T : GexC X.K C B nw ini tl) (I : Inv X pins σ H s) (e : H a = some (exo a C none)) (hl : us.length ≤ sizeLine) (k : ∀ s', Inv X pins σ H s' → Q .none s') :
    wpAny (model X.prog X.w) A (call (.builtin ini) (.ref a :: us)) Q E s := by
  obtain ⟨nm, q, N, bs, bm, sn, sub, ab, col, dd, k0, k1, k2, k3, k5, hC, hT⟩ := T.cls
  obtain ⟨t1, ho⟩ := exo_at I.hok e
  obtain ⟨hp, g, d, t, os⟩ := s
  refine wpAny_call (PySem.HandSPX.init_base T.F hT (I.kIn _ _ hC) ho hl fun h1 t2 kept hx => k _ ?_)
  have eu : upd H a (exo a C none) = H := funext fun c => by
    by_cases hc : c = a
    · rw [hc, upd_same, e]
    · exact upd_ne hc
  exact eu ▸ I.write (t' := t) (x := a) (e := a) (o := exo a C none) (by rw [e]; exact True.intro) (.inl rfl) kept ⟨_, hx⟩ (exo_ok hx)
end
/-! the rules -/
/-- B.__init__(self, ..), by its signs -/
def tGi (K : PySem.W.Frag) (B nw ini : String) (tl : List Value) (ta : TA) : TE := fun σ H Q => ta σ H fun vs H1 => ∃ (a C : Addr) (r : List V), vs = .ref a :: r ∧ r.length ≤ 1000 ∧ GexC K C B nw ini tl ∧ H1 a = some (exo a C none) ∧ Q .non H1
/-- self.f = e, nothing stored as yet -/
def tGs (K : PySem.W.Frag) (B nw ini : String) (tl : List Value) (f : Str) (to te : TE) : TS := fun D σ H => te σ H fun y H1 => to σ H1 fun x H2 => ∃ a C : Addr, x = .ref a ∧ GexC K C B nw ini tl ∧ PySem.W.findIn K (.ref C) f = some none ∧ H2 a = some (exo a C none) ∧
  ∀ dx, H2 dx = none → dx ≠ a → D.nx σ (upd (upd H2 dx (exd dx [(f, y)])) a (exo a C (some dx)))
section
variable {X : Cx} {o e : Expr} {es : List Expr} {to te : TE} {ta : TA} {f : Str} {p p' p1 p2 pos : Pos} {B nw ini : String} {tl : List Value}
theorem ps_gst (ho : PE X o to) (he : PE X e te) (hs : swapsWith e (some (.Attribute o f p')) pos.line X.env = pure false := by rfl) : PS X (.Assign [.Attribute o f p'] e pos) (tGs X.K B nw ini tl f to te) := by
  constructor
  intro pins s σ H D I h
  refine plainObj_wpAny_Assign_Attribute (thn (he.run pins s σ H _ I h) ?_) hs
  rintro v s1 ⟨y, H1, I1, r1, q1⟩
  refine thn (ho.run pins s1 σ H1 _ I1 q1) ?_
  rintro u s2 ⟨x, H2, I2, r2, a, C, rfl, T, hno, ea, q⟩
  cases (show u = Value.ref a from r2)
  exact g_first T I2 ea hno r1 fun dx s' n ne J => ⟨σ, _, J, q dx n ne⟩
theorem typ_OE : typeOf (.type "OverflowError") = pure (.type "type") := by kernel_rfl
theorem pe_oeinit {pl : Sem Bool} (hg : Gl X "OverflowError") (hm : X.mg "OverflowError" = none) (vV : PySem.W.findCls X.K (.type "OverflowError") (.type "type") "__init__" = some (.val (.builtin "OverflowError.__init__"))) (ha : PA X (e :: es) ta)
    (hc : eval (.Call (.Attribute (.Name "OverflowError" p1) "__init__" p2) (e :: es) [] pos) X.env = (do
      let ov ← eval (.Name "OverflowError" p1) X.env; standAt p2.atName
      let (f, first) ← holding [ov] (getMethod ov "__init__" pl); callWith pos f first (backTo pos (starEach (e :: es) X.env)) (backToKw pos (keywordEach [] X.env))) := by rfl)
    (he : starEach (e :: es) X.env = (false, eval e X.env) :: starEach es X.env := by rfl) (hpl : (backTo pos (starEach es X.env)).any (·.1) = false := by rfl) :
    PE X (.Call (.Attribute (.Name "OverflowError" p1) "__init__" p2) (e :: es) [] pos) (tGi X.K "OverflowError" nw "OverflowError.__init__" tl ta) := by
  constructor
  intro pins s σ H Q I h
  refine PySem.W.methodCall_KW (ld_blt I hg hm PyProof.Rows.Boot.«OverflowError» ?_ (by decide) (by decide)) hc
  obtain ⟨m, fr⟩ := I.fr
  refine PySem.W.method_type fr I.ok.mod.kin typ_OE (by decide +kernel) vV (by decide +kernel) ?_
  show wpAny _ _ (callWith pos (Value.builtin "OverflowError.__init__") [] (backTo pos (starEach (e :: es) X.env)) []) _ _ _
  refine PyProof.Rows.callWith_method1 (thn (ha.run pos pins _ σ H _ (I.tok _) h) ?_) he hpl
  rintro us s1 ⟨vs, H1, I1, r1, a, C, r, rfl, hl, T, ea, q⟩
  cases r1 with
  | @cons _ u0 _ ur ra rr =>
    cases (show u0 = Value.ref a from ra)
    refine g_init T I1 ea ?_ fun s' J => ⟨.non, H1, J, rfl, q⟩
    have e1 := Paired.length rr
    have e2 := sizeLine_eq
    omega
/-- C(e, ..) is made, to be raised -/
theorem pmk_gex {CX : CXT} {x : Str} {C fI : Addr} {k : Nat} {fd : FuncData} {ps : List Str} {sp : Sp} {ds : List Value} {dvs : List V} (T : GexC X.K C B nw ini tl) (iC : PySem.W.findIn X.K (.ref C) "__init__" = some (some (.ref fI))) (tI : PySem.W.typeIn X.K (.ref fI) = some (.type "function"))
    (G : FnOk X.prog X.w X.K X.mg X.base CX k fI fd ps sp) (hr : Room (k + 1) X.A) (hb : Binds X.K fd ps ds) (hd : Vals dvs ds) (hx : Passes CX X (fun _ _ _ => False)) (hg : Gl X x) (hm : X.mg x = some (.ref C)) (ha : PA X (e :: es) ta)
    (hdb : (x == ("__debug__" : Str)) = false := by decide) (he : starEach (e :: es) X.env = (false, eval e X.env) :: starEach es X.env := by rfl) (hpl : (backTo pos (starEach es X.env)).any (·.1) = false := by rfl) :
    PMk X (.Call (.Name x p) (e :: es) [] pos) (tMkO C sp dvs ta) := by
  obtain ⟨nm, q, N, bs, bm, sn, sub, ab, col, dd, k0, k1, k2, k3, k5, hC, hT⟩ := T.cls
  intro pins s σ H Q I h
  refine wpAny_Call_Name_kw (ld_glob I hg hm ?_ hdb)
  refine PySem.W.callWith_K (h₀ := X.base) I.ok.mod.kin T.kp (thn (ha.run pos pins s σ H _ I h) ?_) he hpl
  rintro us ⟨hp, g, dr, tk, os⟩ ⟨vs, H1, I1, r1, hz, q1⟩
  refine ⟨I1.kIn, ?_⟩
  show wpAny _ _ (call (.ref C) us) _ _ _
  have up := Nat.le_succ hp.objs.size
  have hq := q1 (hp.objs.size + 1) (I1.hok.fresh up)
  have kk : ∀ c z, hp.get? c = some z → ((hp.push (PySem.W.kdv_tup us)).push (PySem.HandSPX.excO C hp.objs.size)).get? c = some z := fun c z h => Heap.get?_push_of_some _ (Heap.get?_push_of_some _ h)
  have at1 : ((hp.push (PySem.W.kdv_tup us)).push (PySem.HandSPX.excO C hp.objs.size)).get? (hp.objs.size + 1) = some (PySem.HandSPX.excO C hp.objs.size) := by heap_get
  have I2 : Inv X pins σ (upd H1 (hp.objs.size + 1) (exo (hp.objs.size + 1) C none)) ⟨(hp.push (PySem.W.kdv_tup us)).push (PySem.HandSPX.excO C hp.objs.size), g, dr, tk, os⟩ :=
    I1.laid (t' := tk) kk up (exo_ok at1)
  have r2 : Vals (V.ref (hp.objs.size + 1) :: (vs ++ dvs)) (Value.ref (hp.objs.size + 1) :: (us ++ ds)) := .cons rfl (r1.append hd)
  have hl : (Value.ref (hp.objs.size + 1) :: us ++ ds).length = ps.length := (r2.length.symm.trans (G.len _ _ _ _ hq))
  have hus : us.length ≤ sizeLine := by
    have e1 := Paired.length r1
    have e2 := sizeLine_eq
    omega
  refine wpAny_call (PySem.HandSPX.call_own T.F hT (I1.kIn _ _ hC) (PySem.W.looks_findIn I1.kIn iC) (fun self => PySem.W.bind_fn I1.kIn self tI) hus ?_)
  refine codeAny_mono (G.run _ X.stack _ _ ⟨Value.ref (hp.objs.size + 1) :: us, []⟩ (Value.ref (hp.objs.size + 1) :: (us ++ ds)) _ _ (fun _ _ _ => False) (hr.make C us []) (I2.env0.make C us []) (hb _ (Value.ref (hp.objs.size + 1) :: us) I2.kIn hl) r2 hq) ?_
  rintro (er | fl) s' hq'
  · exact hx pins σ _ _ er s' I2 hq'
  · cases fl with
    | ret u =>
      obtain ⟨v, H2, os2, bare2, un2, hok2, rv, rfl, d, fs, ea, ed, hd1, q2⟩ := hq'
      obtain ⟨h2, g2, d2, t2, os'⟩ := s'
      exact ⟨rv, mk_end (raises_own T.be T.ty) I1 up kk un2 hok2 os2 bare2 ea ed hd1 q2⟩
    | next => exact hq'.elim
    | brk => exact hq'.elim
    | cont => exact hq'.elim
end
end Js

set_option Elab.async false
set_option linter.all false
set_option maxRecDepth 100000
set_option maxHeartbeats 2000000
namespace Js
open PySem L2
/-! ### TooGreat -/
abbrev sTg : Stmt := inClass (top 3) 0
abbrev tlO : List Value := [.type "OverflowError", .type "ArithmeticError", .type "Exception", .type "BaseException", .type "object"]
abbrev GexO (K : PySem.W.Frag) (N : Addr) : Prop := GexC K N "OverflowError" "OverflowError.__new__" "OverflowError.__init__" tlO
structure TgC (K : PySem.W.Frag) (mg : Str → Option Value) (N : Addr) : Prop where
  mgN : mg "TooGreat" = some (.ref N)
  O : GexO K N
  bd : PySem.W.findIn K (.ref N) "bound" = some none
  mOE : mg "OverflowError" = none
  vV : PySem.W.findCls K (.type "OverflowError") (.type "type") "__init__" = some (.val (.builtin "OverflowError.__init__"))
def spTg (K : PySem.W.Frag) : Sp := fun vs H Q _ => ∃ (a N : Addr) (n : Nat), vs = [.ref a, .int (n : Nat)] ∧ n ≤ 1000000 ∧ GexO K N ∧ PySem.W.findIn K (.ref N) "bound" = some none ∧ H a = some (exo a N none) ∧
  ∀ dx, H dx = none → dx ≠ a → Q .non (upd (upd H dx (exd dx [("bound", .int (n : Nat))])) a (exo a N (some dx)))
section
variable {P : Program} {w : World} {K : PySem.W.Frag} {mg : Str → Option Value} {base : Heap} {N C : Addr}
theorem scTg : FnScope ["self", "bound"] ["self", "bound"] (defScope sTg) := ⟨rfl, rfl, rfl, by decide +kernel, rfl, by decide +kernel, by decide +kernel⟩
theorem ok_tg {f : Addr} {fd : FuncData} (F : Fun K "__init__" "TooGreat.__init__" sTg f fd) (T : TgC K mg N) : FnOk P w K mg base CX0 1 f fd ["self", "bound"] (spTg K) := by
  refine F.ok scTg (fun vs H Q E h => ?_) (fun cdv A outer s H vs Q E hr h => ?_)
  · obtain ⟨a, N, n, rfl, _⟩ := h
    rfl
  · obtain ⟨a, N, n, rfl, hn, hO, hno, ha, k⟩ := h
    refine ⟨_, pss_cons (ps_expr (pe_oeinit (nw := "OverflowError.__new__") (tl := tlO) rfl T.mOE T.vV (pa_cons (pv 0) (pa_cons (pe_joined (.cons pe_str (.cons (pe_fmt (pv 1)) .nil))) pa_nil)))) (pss_one (ps_gst (B := "OverflowError") (nw := "OverflowError.__new__") (ini := "OverflowError.__init__") (tl := tlO) (pv 0) (pv 1))), ?_⟩
    have hlg := nat_log n hn
    have hl := PyProof.Rows.int_text_len_1921 hlg
    have hs := sizeLine_eq
    refine ⟨_, rfl, _, rfl, by decide +kernel, _, rfl, .inr ⟨_, rfl, hlg, _, rfl, ?_, ?_⟩⟩
    · rw [PySem.Str.length_append]
      have e : (Str.empty ++ ("greater than " : Str)).length = 13 := by decide +kernel
      omega
    · refine ⟨a, N, _, rfl, by simp, hO, ha, ?_⟩
      exact ⟨_, rfl, _, rfl, a, N, rfl, hO, hno, ha, fun dx h1 h2 => k dx h1 h2⟩
/-- TooGreat(n) is made -/
theorem raise_tg {H1 : Hp} {n : Nat} {Q : XK} (hO : GexO K N) (hno : PySem.W.findIn K (.ref N) "bound" = some none) (hn : n ≤ 1000000)
    (q : ∀ d H', Same H1 H' → H' d = some (.xd [("bound", .int (n : Nat))]) → Q (.ref N) (some d) H') :
    ∀ a, H1 a = none → spTg K [.ref a, .int (n : Nat)] (upd H1 a (exo a N none)) (fun v H2 => v = .non ∧ ∃ (d : Addr) (fs : List (Str × V)), H2 a = some (exo a N (some d)) ∧ H2 d = some (exd d fs) ∧ H1 d = none ∧ Q (.ref N) (some d) (upd (del H2 a) d (.xd fs))) (fun _ _ _ => False) := by
  intro a ha
  refine ⟨a, N, n, rfl, hn, hO, hno, upd_same, fun dx hd ne => ⟨rfl, dx, _, upd_same, (upd_ne ne).trans upd_same, ?_, q dx _ ?_ upd_same⟩⟩
  · rw [upd_ne ne] at hd
    exact hd
  · rw [upd_ne ne] at hd
    intro b o h
    have e1 := ne_of_none h hd
    have e2 := ne_of_none h ha
    rw [upd_ne e1, del_ne e2, upd_ne e2, upd_ne e1, upd_ne e2]
    exact h
/-- the class TooGreat and its __init__ -/
structure TgM (P : Program) (w : World) (K : PySem.W.Frag) (mg : Str → Option Value) (base : Heap) (N fN : Addr) (fdN : FuncData) : Prop where
  T : TgC K mg N
  iN : PySem.W.findIn K (.ref N) "__init__" = some (some (.ref fN))
  tN : PySem.W.typeIn K (.ref fN) = some (.type "function")
  ok : FnOk P w K mg base CX0 1 fN fdN ["self", "bound"] (spTg K)
  bN : Binds K fdN ["self", "bound"] []
/-- Thing.__init__, whatever the size -/
def spInitX (C N : Addr) : Sp := fun vs H Q E => ∃ (p dx : Addr) (x y : V) (n : Nat), vs = [.ref p, x, y] ∧ H p = some (.ins C dx []) ∧ PairsOf C H x y n ∧ n ≤ 100000 ∧ (n ≤ 4000 → Q .non (upd H p (.ins C dx (tf x y (n : Nat))))) ∧
  (4000 < n → ∀ d H', Same H H' → H' d = some (.xd [("bound", .int ((4000 : Nat) : Int))]) → E (.ref N) (some d) H')
theorem ok_initX {f fP fN : Addr} {fd fdP fdN : FuncData} (F : FunD K "__init__" "Thing.__init__" (defArgs sInit) (defBody sInit) (defScope sInit) [.non, .non] [] f fd) (T : Txt K mg C) (AP : At K mg "pairs_in" sPairs ["first", "second"] fP fdP) (M : TgM P w K mg base N fN fdN) :
    FnOk P w K mg base (L2.CX P w) 3 f fd ["self", "first", "second"] (spInitX C N) := by
  have GP : FnOk P w K mg base CX0 1 fP fdP ["first", "second"] (spPairs C) := ok_pairs AP.F T
  obtain ⟨tm, mgM⟩ := T.mgM
  refine F.ok scI (fun vs H Q E h => ?_) (fun cdv A outer s H vs Q E hr h => ?_)
  · obtain ⟨p, dx, x, y, n, rfl, _⟩ := h
    rfl
  · obtain ⟨p, dx, x, y, n, rfl, hp, hxy, hn, k, ke⟩ := h
    have hr1 : Room 1 _ := hr.mono (by decide)
    refine ⟨_, pss_cons (ps_set (i := 3) scI.nd rfl (Or.inl rfl) (pe_call GP hr1 rfl AP.mgf AP.F.kp AP.b .nil pass0 (pa_cons (pv 1) (pa_cons (pv 2) pa_nil))))
      (pss_cons (ps_if (pt_cmpR op_gt (pv 3) (pe_glob (v := .int 4000) rfl mgM ⟨_, rfl⟩) (nomark _)) (pss_one (ps_raise rfl (takes_of rfl rfl rfl rfl) (pmk_gex M.T.O M.iN M.tN M.ok hr M.bN .nil pass0 rfl M.T.mgN (pa_cons (pe_glob (v := .int ((4000 : Nat) : Int)) rfl mgM ⟨_, rfl⟩) pa_nil)))) pss_nil)
      (pss_cons (ps_fld (pv 0) (pv 1) rfl) (pss_cons (ps_fld (pv 0) (pv 2) rfl) (pss_one (ps_fld (pv 0) (pv 3) rfl))))), ?_⟩
    refine ⟨_, rfl, _, rfl, x, y, n, rfl, hxy, ?_⟩
    refine ⟨_, rfl, _, _, rfl, rfl, _, rfl, ?_⟩
    by_cases h4 : n ≤ 4000
    · have ed : decide ((4000 : Int) < (n : Nat)) = false := decide_eq_false (by omega)
      rw [ed]
      refine iteF ?_
      refine ⟨_, rfl, _, rfl, p, C, dx, [], rfl, hp, T.cl, T.nF, (by show 0 < 1000; decide), ?_⟩
      refine ⟨_, rfl, _, rfl, p, C, dx, _, rfl, upd_same, T.cl, T.nS, Nat.lt_of_le_of_lt (length_putF _ _ _) (by show 0 + 1 < 1000; decide), ?_⟩
      refine ⟨_, rfl, _, rfl, p, C, dx, _, rfl, upd_same, T.cl, T.nZ, ?_, ?_⟩
      · have h1 := length_putF "first" x []
        have h2 := length_putF "second" y (putF "first" x [])
        simp only [List.length_nil] at h1
        omega
      · show Q .non (upd (upd (upd H p _) p _) p (.ins C dx (tf x y (n : Nat))))
        rw [upd_upd, upd_upd]
        exact k h4
    · have ed : decide ((4000 : Int) < (n : Nat)) = true := decide_eq_true (by omega)
      rw [ed]
      refine iteT ?_
      exact ⟨by simp, raise_tg M.T.O M.T.bd (by decide) fun d H' sH hd => ke (by omega) d H' sH hd⟩
end
/-! ### made, at given slots -/
section
open PyProof.Rows
variable {X : Cx} {CX : CXT} {C f : Addr} {k : Nat} {fd : FuncData} {ps : List Str} {sp : Sp} {ds us : List Value} {dvs vs : List V} {E : XK} {pins : List (Addr × Obj)} {σ : L2.St} {H : Hp} {s : Shared} {Q : VK}
/-- as run_make, what may be let out told at these slots alone -/
theorem make_at (M : Mk X.K C f) (G : FnOk X.prog X.w X.K X.mg X.base CX k f fd ps sp) (hr : Room (k + 1) X.A) (hb : Binds X.K fd ps ds) (hd : Vals dvs ds) (out : PassesAt CX X σ E) (I : Inv X pins σ H s) (r : Vals vs us)
    (h : ∀ x dx, H x = none → H dx = none → dx ≠ x → sp (.ref x :: (vs ++ dvs)) (upd (upd H dx (.own x)) x (.ins C dx [])) (fun v H2 => v = .non ∧ Q (.ref x) H2) E) : wpAny (model X.prog X.w) X.A (call (.ref C) us) (EP X pins σ Q) X.xe s := by
  have I2 := Inv.made (C := C) I
  have hq := h _ _ (I.hok.fresh (Nat.le_succ _)) (I.hok.fresh (Nat.le_refl _)) (Nat.ne_of_lt (Nat.lt_succ_self s.heap.objs.size))
  have r2 : Vals (V.ref (s.heap.objs.size + 1) :: (vs ++ dvs)) (Value.ref (s.heap.objs.size + 1) :: (us ++ ds)) := .cons rfl (r.append hd)
  have hl : (Value.ref (s.heap.objs.size + 1) :: us ++ ds).length = ps.length := r2.length.symm.trans (G.len _ _ _ _ hq)
  have ran := G.run _ X.stack _ _ ⟨Value.ref (s.heap.objs.size + 1) :: us, []⟩ (Value.ref (s.heap.objs.size + 1) :: (us ++ ds)) _ _ E (hr.make C us []) (I2.env0.make C us []) (hb _ (Value.ref (s.heap.objs.size + 1) :: us) I2.kIn hl) r2 hq
  refine wpAny_call (make_map (f := f) I.kIn M.makes M.init (beq_iff_eq.mp M.fn) (codeAny_mono ran ?_))
  rintro (er | fl) s' z
  · exact out pins _ _ er s' I2 z
  · cases fl with
    | ret u =>
      obtain ⟨v, H3, I3, rv, rfl, q3⟩ := I2.after z
      exact ⟨rv, ⟨V.ref (s.heap.objs.size + 1), H3, I3, rfl, q3⟩⟩
    | next => exact z.elim
    | brk => exact z.elim
    | cont => exact z.elim
end
end Js

set_option Elab.async false
set_option linter.all false
set_option maxRecDepth 100000
set_option maxHeartbeats 2000000
namespace Js
open PySem L2
/-- a Thing of any size made, or refused -/
structure MakerX (P : Program) (w : World) (K : PySem.W.Frag) (mg : Str → Option Value) (base : Heap) (C fI N : Addr) (fdI : FuncData) : Prop where
  M : Mk K C fI
  G : FnOk P w K mg base (L2.CX P w) 3 fI fdI ["self", "first", "second"] (spInitX C N)
  mgC : mg "Thing" = some (.ref C)
  b2 : Binds K fdI ["self", "first", "second"] []
def tTX (C N : Addr) (E : L2.St → XK) (t : TA) : TE := fun σ H Q => t σ H fun vs H1 => ∃ a b t u, vs = [.ref a, .ref b] ∧ Th C H1 a t ∧ Th C H1 b u ∧ 1 + t.size + u.size ≤ 100000 ∧
  (1 + t.size + u.size ≤ 4000 → ∀ z H', Same H1 H' → H1 z = none → Th C H' z (.pr t u) → Q (.ref z) H') ∧
  (4000 < 1 + t.size + u.size → ∀ d H', Same H1 H' → H' d = some (.xd [("bound", .int ((4000 : Nat) : Int))]) → E σ (.ref N) (some d) H')
theorem mk_prX {C N a b : Addr} {H : Hp} {t u : Tr} {Q : VK} {E : XK} (ha : Th C H a t) (hb : Th C H b u) (hz : 1 + t.size + u.size ≤ 100000)
    (k : 1 + t.size + u.size ≤ 4000 → ∀ x H', Same H H' → H x = none → Th C H' x (.pr t u) → Q (.ref x) H')
    (ke : 4000 < 1 + t.size + u.size → ∀ d H', Same H H' → H' d = some (.xd [("bound", .int ((4000 : Nat) : Int))]) → E (.ref N) (some d) H') :
    ∀ x dx, H x = none → H dx = none → dx ≠ x → spInitX C N (.ref x :: ([.ref a, .ref b] ++ [])) (upd (upd H dx (.own x)) x (.ins C dx [])) (fun v H3 => v = .non ∧ Q (.ref x) H3) E := by
  intro x dx nx ndx ne
  have s0 : Same H (upd (upd H dx (.own x)) x (.ins C dx [])) := (Same.new ndx).trans (Same.new (by rw [upd_ne (Ne.symm ne)]; exact nx))
  refine ⟨x, dx, _, _, 1 + t.size + u.size, rfl, upd_same, .inr ⟨a, b, t, u, rfl, rfl, ha.same s0, hb.same s0, rfl⟩, hz, fun h4 => ⟨rfl, ?_⟩, fun h4 d H' sH hd => ke h4 d H' (s0.trans sH) hd⟩
  rw [upd_upd]
  have s1 : Same H (upd (upd H dx (.own x)) x (.ins C dx (tf (.ref a) (.ref b) ((1 + t.size + u.size : Nat) : Int)))) := (Same.new ndx).trans (Same.new (by rw [upd_ne (Ne.symm ne)]; exact nx))
  exact k h4 x _ s1 nx (.pr upd_same (ha.same s1) (hb.same s1))
section
open PyProof.Rows
variable {X : Cx} {C N fI : Addr} {fdI : FuncData} {p pos : Pos} {e : Expr} {es : List Expr} {t : TA} {E : L2.St → XK}
theorem pe_T2X (mk : MakerX X.prog X.w X.K X.mg X.base C fI N fdI) (hr : Room 4 X.A) (hg : Gl X "Thing") (out : ∀ σ, PassesAt (L2.CX X.prog X.w) X σ (E σ)) (ha : PA X (e :: es) t)
    (he : starEach (e :: es) X.env = (false, eval e X.env) :: starEach es X.env := by rfl) (hpl : (backTo pos (starEach es X.env)).any (·.1) = false := by rfl) : PE X (.Call (.Name "Thing" p) (e :: es) [] pos) (tTX C N E t) := by
  refine ⟨fun pins s σ H Q I h => ?_⟩
  refine wpAny_Call_Name_kw (ld_glob I hg mk.mgC ?_ (by decide))
  refine PySem.W.callWith_K (h₀ := X.base) I.ok.mod.kin mk.M.kp (thn (ha.run pos pins s σ H _ I h) fun us s1 ⟨vs, H1, I1, r, q⟩ => ⟨I1.kIn, ?_⟩) he hpl
  obtain ⟨a, b, t, u, rfl, h1, h2, hz, k, ke⟩ := q
  exact make_at mk.M mk.G hr mk.b2 .nil (out σ) I1 r (mk_prX h1 h2 hz k ke)
end
/-- what the top says of TooGreat and the other refusals -/
structure RfC (K : PySem.W.Frag) (mg : Str → Option Value) (N : Addr) : Prop where
  tg : TgC K mg N
  xf : XfC K N
  xc : XcC K N
  ex : PySem.W.exmOne K (.ref N) (.ref N) = some true
  oe : PySem.W.kitOne K (.ref N) (.type "OverflowError") = some true
  oth : ∃ n1 n2 n3 n4 n5 n6 : Addr, mg "NoName" = some (.ref n1) ∧ mg "NoProgram" = some (.ref n2) ∧ mg "NoRoom" = some (.ref n3) ∧ mg "NoSaying" = some (.ref n4) ∧ mg "NoStep" = some (.ref n5) ∧ mg "NoText" = some (.ref n6) ∧
    PySem.W.kitAny K (.ref N) [.ref n1, .ref n2, .ref n3, .ref n4, .ref n5, .ref n6] = some false
end Js

set_option Elab.async false
set_option linter.all false
set_option maxRecDepth 100000
set_option maxHeartbeats 4000000
/-! refusals whose context is None; objects made while one is handled -/
namespace Js
open PySem L2 PySem.Spec PyProof.Rows
/-- a def, whatever it may let out -/
theorem okC {CX : CXT} {P : Program} {w : World} {K : PySem.W.Frag} {mg : Str → Option Value} {base : Heap} {x ql : Str} {st : Stmt} {f : Addr} {fd : FuncData} {N ps : List Str} {k : Nat} {sp : Sp} (F : Fun K x ql st f fd) (S : FnScope N ps (defScope st)) (hl : ∀ vs H Q E, sp vs H Q E → vs.length = ps.length)
    (hb : ∀ (cdv : Value) (A : Around) (outer : List Env) (s : Shared) (H : Hp) (vs : List V) (Q : VK) (E : XK), Room k (A.deeper (envOfC ql (defScope st) s.heap.objs.size f cdv)) → sp vs H Q E →
      ∃ t, PSs (cxOf CX P w K mg base N ql (defScope st) f cdv A outer s H E) (defBody st) t ∧ t { nx := fun _ H' => Q .non H', rt := Q } (start N vs) H) :
    FnOk P w K mg base CX (k + 1) f fd ps sp := by
  obtain ⟨o1, o2, o3, o4, o5, o6, o7, o8, o9, e, look, code⟩ := F.ex
  subst e
  exact fn_of look code S hl (fun A outer s H vs Q E room h => hb _ A outer s H vs Q E room h)
section
variable {X : Cx} {e : Expr} {es : List Expr} {ta : TA} {p pos : Pos} {B nw ini : String} {tl : List Value}
/-- an own exception over B, its context None -/
theorem pmk_gexN {CX : CXT} {x : Str} {C fI : Addr} {k : Nat} {fd : FuncData} {ps : List Str} {sp : Sp} {ds : List Value} {dvs : List V} (T : GexC X.K C B nw ini tl) (iC : PySem.W.findIn X.K (.ref C) "__init__" = some (some (.ref fI))) (tI : PySem.W.typeIn X.K (.ref fI) = some (.type "function"))
    (G : FnOk X.prog X.w X.K X.mg X.base CX k fI fd ps sp) (hr : Room (k + 1) X.A) (hb : Binds X.K fd ps ds) (hd : Vals dvs ds) (hx : Passes CX X (fun _ _ _ => False)) (hg : Gl X x) (hm : X.mg x = some (.ref C)) (ha : PA X (e :: es) ta)
    (hdb : (x == ("__debug__" : Str)) = false := by decide) (he : starEach (e :: es) X.env = (false, eval e X.env) :: starEach es X.env := by rfl) (hpl : (backTo pos (starEach es X.env)).any (·.1) = false := by rfl) :
    L2N.PMk X (.Call (.Name x p) (e :: es) [] pos) (tMkO C sp dvs ta) := by
  obtain ⟨nm, q, N, bs, bm, sn, sub, ab, col, dd, k0, k1, k2, k3, k5, hC, hT⟩ := T.cls
  intro pins s σ H Q I h
  refine wpAny_Call_Name_kw (ld_glob I hg hm ?_ hdb)
  refine PySem.W.callWith_K (h₀ := X.base) I.ok.mod.kin T.kp (thn (ha.run pos pins s σ H _ I h) ?_) he hpl
  rintro us ⟨hp, g, dr, tk, os⟩ ⟨vs, H1, I1, r1, hz, q1⟩
  refine ⟨I1.kIn, ?_⟩
  show wpAny _ _ (call (.ref C) us) _ _ _
  have up := Nat.le_succ hp.objs.size
  have hq := q1 (hp.objs.size + 1) (I1.hok.fresh up)
  have kk : ∀ c z, hp.get? c = some z → ((hp.push (PySem.W.kdv_tup us)).push (PySem.HandSPX.excO C hp.objs.size)).get? c = some z := fun c z h => Heap.get?_push_of_some _ (Heap.get?_push_of_some _ h)
  have at1 : ((hp.push (PySem.W.kdv_tup us)).push (PySem.HandSPX.excO C hp.objs.size)).get? (hp.objs.size + 1) = some (PySem.HandSPX.excO C hp.objs.size) := by heap_get
  have I2 : Inv X pins σ (upd H1 (hp.objs.size + 1) (exo (hp.objs.size + 1) C none)) ⟨(hp.push (PySem.W.kdv_tup us)).push (PySem.HandSPX.excO C hp.objs.size), g, dr, tk, os⟩ :=
    I1.laid (t' := tk) kk up (exo_ok at1)
  have r2 : Vals (V.ref (hp.objs.size + 1) :: (vs ++ dvs)) (Value.ref (hp.objs.size + 1) :: (us ++ ds)) := .cons rfl (r1.append hd)
  have hl : (Value.ref (hp.objs.size + 1) :: us ++ ds).length = ps.length := (r2.length.symm.trans (G.len _ _ _ _ hq))
  have hus : us.length ≤ sizeLine := by
    have e1 := Paired.length r1
    have e2 := sizeLine_eq
    omega
  refine wpAny_call (PySem.HandSPX.call_own T.F hT (I1.kIn _ _ hC) (PySem.W.looks_findIn I1.kIn iC) (fun self => PySem.W.bind_fn I1.kIn self tI) hus ?_)
  refine codeAny_mono (G.run _ X.stack _ _ ⟨Value.ref (hp.objs.size + 1) :: us, []⟩ (Value.ref (hp.objs.size + 1) :: (us ++ ds)) _ _ (fun _ _ _ => False) (hr.make C us []) (I2.env0.make C us []) (hb _ (Value.ref (hp.objs.size + 1) :: us) I2.kIn hl) r2 hq) ?_
  rintro (er | fl) s' hq'
  · exact hx pins σ _ _ er s' I2 hq'
  · cases fl with
    | ret u =>
      obtain ⟨v, H2, os2, bare2, un2, hok2, rv, rfl, d, fs, ea, ed, hd1, q2⟩ := hq'
      obtain ⟨h2, g2, d2, t2, os'⟩ := s'
      obtain ⟨t0, G2, J, kG, ge, hoe, na⟩ := mk_end0 (d2 := d2) (t2 := t2) I1 up kk un2 hok2 os2 bare2 ea ed hd1
      exact ⟨rv, ⟨_, _, _, ⟨G2, g2, d2, t2, os'⟩, _, .ref C, some d, rfl, J, kG, ge, hoe, ⟨rfl, rfl, fun vs e => by cases e; rfl⟩, rfl, rfl, na, rfl, bare2, raises_own T.be T.ty, q2⟩⟩
    | next => exact hq'.elim
    | brk => exact hq'.elim
    | cont => exact hq'.elim
end
section
variable {P : Program} {w : World} {K : PySem.W.Frag} {mg : Str → Option Value} {base : Heap} {N C : Addr}
theorem ok_initN {f fP fN : Addr} {fd fdP fdN : FuncData} (F : FunD K "__init__" "Thing.__init__" (defArgs sInit) (defBody sInit) (defScope sInit) [.non, .non] [] f fd) (T : Txt K mg C) (AP : At K mg "pairs_in" sPairs ["first", "second"] fP fdP) (M : TgM P w K mg base N fN fdN) :
    FnOk P w K mg base (L2N.CX P w) 3 f fd ["self", "first", "second"] (spInitX C N) := by
  have GP : FnOk P w K mg base CX0 1 fP fdP ["first", "second"] (spPairs C) := ok_pairs AP.F T
  obtain ⟨tm, mgM⟩ := T.mgM
  refine F.ok scI (fun vs H Q E h => ?_) (fun cdv A outer s H vs Q E hr h => ?_)
  · obtain ⟨p, dx, x, y, n, rfl, _⟩ := h
    rfl
  · obtain ⟨p, dx, x, y, n, rfl, hp, hxy, hn, k, ke⟩ := h
    have hr1 : Room 1 _ := hr.mono (by decide)
    refine ⟨_, pss_cons (ps_set (i := 3) scI.nd rfl (Or.inl rfl) (pe_call GP hr1 rfl AP.mgf AP.F.kp AP.b .nil pass0 (pa_cons (pv 1) (pa_cons (pv 2) pa_nil))))
      (pss_cons (ps_if (pt_cmpR op_gt (pv 3) (pe_glob (v := .int 4000) rfl mgM ⟨_, rfl⟩) (nomark _)) (pss_one (L2N.ps_raise rfl (L2N.takes_of rfl rfl rfl rfl) (pmk_gexN M.T.O M.iN M.tN M.ok hr M.bN .nil pass0 rfl M.T.mgN (pa_cons (pe_glob (v := .int ((4000 : Nat) : Int)) rfl mgM ⟨_, rfl⟩) pa_nil)))) pss_nil)
      (pss_cons (ps_fld (pv 0) (pv 1) rfl) (pss_cons (ps_fld (pv 0) (pv 2) rfl) (pss_one (ps_fld (pv 0) (pv 3) rfl))))), ?_⟩
    refine ⟨_, rfl, _, rfl, x, y, n, rfl, hxy, ?_⟩
    refine ⟨_, rfl, _, _, rfl, rfl, _, rfl, ?_⟩
    by_cases h4 : n ≤ 4000
    · have ed : decide ((4000 : Int) < (n : Nat)) = false := decide_eq_false (by omega)
      rw [ed]
      refine iteF ?_
      refine ⟨_, rfl, _, rfl, p, C, dx, [], rfl, hp, T.cl, T.nF, (by show 0 < 1000; decide), ?_⟩
      refine ⟨_, rfl, _, rfl, p, C, dx, _, rfl, upd_same, T.cl, T.nS, Nat.lt_of_le_of_lt (length_putF _ _ _) (by show 0 + 1 < 1000; decide), ?_⟩
      refine ⟨_, rfl, _, rfl, p, C, dx, _, rfl, upd_same, T.cl, T.nZ, ?_, ?_⟩
      · have h1 := length_putF "first" x []
        have h2 := length_putF "second" y (putF "first" x [])
        simp only [List.length_nil] at h1
        omega
      · show Q .non (upd (upd (upd H p _) p _) p (.ins C dx (tf x y (n : Nat))))
        rw [upd_upd, upd_upd]
        exact k h4
    · have ed : decide ((4000 : Int) < (n : Nat)) = true := decide_eq_true (by omega)
      rw [ed]
      refine iteT ?_
      exact ⟨by simp, raise_tg M.T.O M.T.bd (by decide) fun d H' sH hd => ke (by omega) d H' sH hd⟩
end
/-- a Thing of any size made, or refused; the refusal's context is None -/
structure MakerN (P : Program) (w : World) (K : PySem.W.Frag) (mg : Str → Option Value) (base : Heap) (C fI N : Addr) (fdI : FuncData) : Prop where
  M : Mk K C fI
  G : FnOk P w K mg base (L2N.CX P w) 3 fI fdI ["self", "first", "second"] (spInitX C N)
  mgC : mg "Thing" = some (.ref C)
  b2 : Binds K fdI ["self", "first", "second"] []
section
variable {X : Cx} {C N fI : Addr} {fdI : FuncData} {p pos : Pos} {e : Expr} {es : List Expr} {t : TA} {E : L2.St → XK}
theorem pe_T2N (mk : MakerN X.prog X.w X.K X.mg X.base C fI N fdI) (hr : Room 4 X.A) (hg : Gl X "Thing") (out : ∀ σ, PassesAt (L2N.CX X.prog X.w) X σ (E σ)) (ha : PA X (e :: es) t)
    (he : starEach (e :: es) X.env = (false, eval e X.env) :: starEach es X.env := by rfl) (hpl : (backTo pos (starEach es X.env)).any (·.1) = false := by rfl) : PE X (.Call (.Name "Thing" p) (e :: es) [] pos) (tTX C N E t) := by
  refine ⟨fun pins s σ H Q I h => ?_⟩
  refine wpAny_Call_Name_kw (ld_glob I hg mk.mgC ?_ (by decide))
  refine PySem.W.callWith_K (h₀ := X.base) I.ok.mod.kin mk.M.kp (thn (ha.run pos pins s σ H _ I h) fun us s1 ⟨vs, H1, I1, r, q⟩ => ⟨I1.kIn, ?_⟩) he hpl
  obtain ⟨a, b, t, u, rfl, h1, h2, hz, k, ke⟩ := q
  exact make_at mk.M mk.G hr mk.b2 .nil (out σ) I1 r (mk_prX h1 h2 hz k ke)
end
/-! ### made while a refusal is handled -/
open L2H in
section
variable {X : Cx} {C f : Addr} {k : Nat} {fd : FuncData} {ps : List Str} {sp : Sp} {ds : List Value} {dvs : List V} {p pos : Pos} {x : Str} {e : Expr} {es : List Expr} {t : TA}
theorem hot_suite {a : Addr} {oe : Obj} {cls : Value} {d : Option Addr} {pn : List (Addr × Obj)} (hz : L2N.Zn cls d oe) (hf : ∃ vs, oe.data = .fields vs) : HotC (X.suite a ((a, oe) :: pn)) := by
  obtain ⟨vs, hv⟩ := hf
  exact ⟨(a, oe), ⟨rfl, vs, hv, hz.2.2 vs hv⟩, List.mem_cons_self⟩
theorem make_hot {us : List Value} {vs : List V} {pins : List (Addr × Obj)} {σ : L2.St} {H : Hp} {s : Shared} {Q : VK} (M : Mk X.K C f) (G : FnH X.prog X.w X.K X.mg X.base CX0 k f fd ps sp) (hr : RoomH (k + 1) X.A) (hc : HotC X) (hb : Binds X.K fd ps ds) (hd : Vals dvs ds) (I : Inv X pins σ H s) (r : Vals vs us)
    (h : ∀ x dx, H x = none → H dx = none → dx ≠ x → sp (.ref x :: (vs ++ dvs)) (upd (upd H dx (.own x)) x (.ins C dx [])) (fun v H2 => v = .non ∧ Q (.ref x) H2) E0) : wpAny (model X.prog X.w) X.A (call (.ref C) us) (EP X pins σ Q) X.xe s := by
  obtain ⟨pp, hot, hin⟩ := hc
  have I2 := Inv.made (C := C) I
  have hq := h _ _ (I.hok.fresh (Nat.le_succ _)) (I.hok.fresh (Nat.le_refl _)) (Nat.ne_of_lt (Nat.lt_succ_self s.heap.objs.size))
  have r2 : Vals (V.ref (s.heap.objs.size + 1) :: (vs ++ dvs)) (Value.ref (s.heap.objs.size + 1) :: (us ++ ds)) := .cons rfl (r.append hd)
  have hl : (Value.ref (s.heap.objs.size + 1) :: us ++ ds).length = ps.length := r2.length.symm.trans (G.len _ _ _ _ hq)
  obtain ⟨g1, g2, g3, g4, g5⟩ := I2.pin pp (List.mem_append_left _ hin)
  have pinned : PinOk X.stack _ _ pp := ⟨g1, g2, fun hm => Or.elim (List.mem_cons.mp (I2.stkSub pp.1 hm)) g3 g4, g5⟩
  have ran := G.run (X.A.under (.builtin "type.__call__" ⟨.ref C :: us, []⟩)) X.stack _ _ ⟨Value.ref (s.heap.objs.size + 1) :: us, []⟩ (Value.ref (s.heap.objs.size + 1) :: (us ++ ds)) _ _ E0 pp (hr.make C us []) hot pinned (I2.env0.make C us []) (hb _ (Value.ref (s.heap.objs.size + 1) :: us) I2.kIn hl) r2 hq
  refine wpAny_call (make_map (f := f) I.kIn M.makes M.init (beq_iff_eq.mp M.fn) (codeAny_mono ran ?_))
  rintro (er | fl) s' z
  · exact pass0 _ _ _ _ er s' I2 z
  · cases fl with
    | ret u =>
      obtain ⟨v, H3, I3, rv, rfl, q3⟩ := I2.after z
      exact ⟨rv, ⟨V.ref (s.heap.objs.size + 1), H3, I3, rfl, q3⟩⟩
    | next => exact z.elim
    | brk => exact z.elim
    | cont => exact z.elim
/-- C(x, ..) in the suite of an except -/
theorem pe_makeH (M : Mk X.K C f) (G : FnH X.prog X.w X.K X.mg X.base CX0 k f fd ps sp) (hr : RoomH (k + 1) X.A) (hc : HotC X) (hg : Gl X x) (hm : X.mg x = some (.ref C)) (hb : Binds X.K fd ps ds) (hd : Vals dvs ds) (ha : PA X (e :: es) t)
    (hdb : (x == ("__debug__" : Str)) = false := by decide) (he : starEach (e :: es) X.env = (false, eval e X.env) :: starEach es X.env := by rfl) (hpl : (backTo pos (starEach es X.env)).any (·.1) = false := by rfl) : PE X (.Call (.Name x p) (e :: es) [] pos) (tMake C sp dvs E0 t) := by
  refine ⟨fun pins s σ H Q I h => ?_⟩
  refine wpAny_Call_Name_kw (ld_glob I hg hm ?_ hdb)
  refine PySem.W.callWith_K (h₀ := X.base) I.ok.mod.kin M.kp (thn (ha.run pos pins s σ H _ I h) fun us s1 ⟨vs, H1, I1, r, q⟩ => ⟨I1.kIn, ?_⟩) he hpl
  exact make_hot M G hr hc hb hd I1 r q
end
end Js

set_option Elab.async false
set_option linter.all false
set_option maxRecDepth 100000
set_option maxHeartbeats 2000000
namespace Js
open PySem L2
open PySem.Spec PyProof.Rows
abbrev sSmall : Stmt := top 29
def beginR (e : Nat) : List Dd := [.told 2 (num 9), .two false 0 0 2] ++ gotoR 0 e
def innerR (r : List Dd) : List Dd := if manyR r = 0 then [] else [.take false 2 1] ++ chooseR (doneAt (planR r) (manyR r)) 6 0 (manyR r)
def smallR (r : List Dd) : List Dd := beginR (manyR r) ++ [.wh 0 (innerR r), .take true 0 1, .take false 0 0]
theorem begin_len (e : Nat) : (beginR e).length ≤ 5 := by
  have := goto_len3 0 e
  rw [beginR, List.length_append]
  show 2 + _ ≤ 5
  omega
/-! ### how great it is, which names it has -/
def Dd.lo3 : Dd → Bool
  | .told a _ => decide (a < 3)
  | .take _ a b => decide (a < 3) && decide (b < 3)
  | .two _ a b c => decide (a < 3) && decide (b < 3) && decide (c < 3)
  | .wh a _ => decide (a < 3)
  | .iff a _ _ => decide (a < 3)
def Dd.isWh : Dd → Bool
  | .wh _ _ => true
  | _ => false
/-- without floors, with low names -/
def Dd.lw (d : Dd) : Bool := match d with
  | .told a _ => decide (a < 3)
  | .take _ a b => decide (a < 3) && decide (b < 3)
  | .two _ a b c => decide (a < 3) && decide (b < 3) && decide (c < 3)
  | .wh _ _ => false
  | .iff _ _ _ => false
theorem flatR_ap : ∀ a b : List Dd, flatR (a ++ b) = flatR a ++ flatR b
  | [], b => rfl
  | d :: a, b => by rw [List.cons_append, flatR, flatR, flatR_ap a b, List.append_assoc]
/-- deeds, all laid flat: low names, w whiles, at most m -/
structure Fi (r : List Dd) (w m : Nat) : Prop where
  lo : (flatR r).all Dd.lo3 = true
  cw : (flatR r).countP Dd.isWh = w
  le : manyR r ≤ m
theorem Fi.app {a b : List Dd} {v w m n : Nat} (h : Fi a v m) (g : Fi b w n) : Fi (a ++ b) (v + w) (m + n) :=
  ⟨by rw [flatR_ap, List.all_append, h.lo, g.lo]; rfl, by rw [flatR_ap, List.countP_append, h.cw, g.cw], by rw [manyR_app]; exact Nat.add_le_add h.le g.le⟩
theorem Fi.mono {a : List Dd} {w m n : Nat} (h : Fi a w m) (e : m ≤ n) : Fi a w n := ⟨h.lo, h.cw, Nat.le_trans h.le e⟩
theorem Fi.nil (m : Nat) : Fi [] 0 m := ⟨rfl, rfl, Nat.zero_le _⟩
theorem lw_flat : ∀ {r : List Dd}, r.all Dd.lw = true → flatR r = r ∧ deepR r = 0 ∧ r.all Dd.lo3 = true ∧ r.countP Dd.isWh = 0
  | [], _ => ⟨rfl, rfl, rfl, rfl⟩
  | d :: r, h => by
    rw [List.all_cons, Bool.and_eq_true] at h
    obtain ⟨h1, h2, h3, h4⟩ := lw_flat h.2
    have hd := h.1
    cases d with
    | wh a r => cases hd
    | iff a r u => cases hd
    | told a t => exact ⟨by rw [flatR, h1]; rfl, by rw [deepR, h2]; rfl, by rw [List.all_cons, h3, Bool.and_true]; exact hd, by rw [List.countP_cons, h4]; rfl⟩
    | take s a b => exact ⟨by rw [flatR, h1]; rfl, by rw [deepR, h2]; rfl, by rw [List.all_cons, h3, Bool.and_true]; exact hd, by rw [List.countP_cons, h4]; rfl⟩
    | two s a b c => exact ⟨by rw [flatR, h1]; rfl, by rw [deepR, h2]; rfl, by rw [List.all_cons, h3, Bool.and_true]; exact hd, by rw [List.countP_cons, h4]; rfl⟩
theorem fi_lw {r : List Dd} {m : Nat} (h : r.all Dd.lw = true) (hl : r.length ≤ m) : Fi r 0 m := by
  obtain ⟨h1, h2, h3, h4⟩ := lw_flat h
  exact ⟨by rw [h1]; exact h3, by rw [h1]; exact h4, by rw [manyR, h1]; exact hl⟩
theorem all_repB {α : Type} {p : α → Bool} {a : α} (h : p a = true) (n : Nat) : (List.replicate n a).all p = true := by
  rw [List.all_eq_true]
  intro x hx
  rw [(List.mem_replicate.mp hx).2]
  exact h
theorem lw_fetch {i : Nat} (n : Nat) (hi : i < 3) : (fetchR i n).all Dd.lw = true := by
  have h : (Dd.take true i i).lw = true := by simp [Dd.lw, hi]
  rw [fetchR, List.all_append, List.all_append, all_repB h]
  simp [Dd.lw, hi]
theorem lw_goto (p e : Nat) : (gotoR p e).all Dd.lw = true := by
  unfold gotoR
  split <;> rfl
theorem lw_make {d : Dd} (h : d.look = false) : (makeR d).all Dd.lw = true := by
  cases d with
  | wh a r => cases h
  | iff a r u => cases h
  | told a t => rfl
  | take s a b => rw [makeR, List.all_append, lw_fetch _ (by decide)]; rfl
  | two s a b c => rw [makeR, List.all_append, List.all_append, lw_fetch _ (by decide), lw_fetch _ (by decide)]; rfl
theorem lw_stL (n : Nat) : ∀ i, (stL n i).all Dd.lw = true
  | 0 => rfl
  | i + 1 => by rw [stL, List.all_append, List.all_append, lw_stL n i, lw_fetch _ (by decide)]; rfl
theorem lw_store (n : Nat) : (storeR n).all Dd.lw = true := by
  rw [storeR, stB, List.all_append, List.all_append, List.all_append, all_repB rfl, lw_stL]
  rfl
theorem store_75 {n : Nat} (h : n < 10) : (storeR n).length ≤ 75 :=
  (show ∀ n : Fin 10, (storeR n.val).length ≤ 75 by decide +kernel) ⟨n, h⟩
theorem fi_iff {a : Nat} {r u : List Dd} {m n : Nat} (ha : a < 3) (h : Fi r 0 m) (g : Fi u 0 n) : Fi [.iff a r u] 0 (m + n + 1) := by
  have e : flatR [.iff a r u] = .iff a r u :: (flatR r ++ flatR u) := by
    rw [flatR, Dd.flat, flatR, List.append_nil]
  refine ⟨?_, ?_, ?_⟩
  · rw [e, List.all_cons, List.all_append, h.lo, g.lo, Bool.and_true, Bool.and_true]
    exact decide_eq_true ha
  · rw [e, List.countP_cons, List.countP_append, h.cw, g.cw]
    rfl
  · rw [many_cons, many_iff, many_nil]
    have := h.le
    have := g.le
    omega
theorem fi_done {e : Nat} {x : Pt} (h : x.1.n10) : Fi (doneR e x) 0 101 := by
  have h0 := n10_nm1 h
  have g0 := goto_len3 (x.2.getD 0 0) e
  have g1 := goto_len3 (x.2.getD 1 0) e
  have f0 := fi_lw (m := 3) (lw_goto (x.2.getD 0 0) e) g0
  have f1 := fi_lw (m := 3) (lw_goto (x.2.getD 1 0) e) g1
  unfold doneR
  cases hl : x.1.look with
  | true =>
    rw [if_pos rfl]
    exact (((fi_lw (m := 1) (r := [.take true 0 1]) rfl (by decide)).app (fi_lw (m := 11) (lw_fetch (i := 2) x.1.nm1 (by decide)) (by rw [fetch_len]; omega))).app (fi_iff (by decide) f0 f1)).mono (by decide)
  | false =>
    rw [if_neg (by decide)]
    exact (((fi_lw (m := 23) (lw_make hl) (make_len h)).app (fi_lw (m := 75) (lw_store x.1.nm1) (store_75 h0))).app f0).mono (by decide)
theorem fi_doneAt {pl : List Pt} {e : Nat} (h : ∀ x ∈ pl, x.1.n10) (lo : Nat) : Fi (doneAt pl e lo) 0 101 := by
  unfold doneAt
  split
  · rename_i x hx
    exact fi_done (h x (List.mem_of_getElem? hx))
  · exact Fi.nil _
theorem fi_choose {d : Nat → List Dd} (h : ∀ lo, Fi (d lo) 0 101) : ∀ f lo n, 1 ≤ n → Fi (chooseR d f lo n) 0 (101 * n + n * n)
  | 0, lo, n, _ => Fi.nil _
  | f + 1, lo, n, hn => by
    rw [chooseR]
    by_cases h1 : n = 1
    · rw [if_pos h1]
      exact (h lo).mono (by subst h1; decide)
    · rw [if_neg h1]
      obtain ⟨a, b, ha, hb, hab, eb, ea⟩ : ∃ a b : Nat, 1 ≤ a ∧ a ≤ b ∧ n = a + b ∧ n - n / 2 = b ∧ n / 2 = a := ⟨n / 2, n - n / 2, by omega, by omega, by omega, rfl, rfl⟩
      rw [eb, ea]
      have fa := fi_choose h f lo a ha
      have fb := fi_choose h f (lo + a) b (by omega)
      have hq : a ≤ a * b := Nat.le_mul_of_pos_right a (by omega)
      have hs : (a + b) * (a + b) = a * a + a * b + (a * b + b * b) := by
        rw [Nat.add_mul, Nat.mul_add, Nat.mul_add, Nat.mul_comm b a]
      subst hab
      rw [hs]
      by_cases h2 : a = 1
      · rw [if_pos h2]
        exact (fi_iff (by decide) ((fi_lw (m := 1) (r := [.take true 2 2]) rfl (by decide)).app fb) fa).mono (by omega)
      · rw [if_neg h2]
        exact ((((fi_lw (m := 1) (r := [.take true 0 2]) rfl (by decide)).app (fi_lw (m := a - 2) (r := List.replicate (a - 2) (.take true 0 0)) (all_repB rfl _) (by rw [List.length_replicate]; omega)))).app (fi_iff (by decide) ((fi_lw (m := 1) (r := [.take true 2 0]) rfl (by decide)).app fb) fa)).mono (by omega)
theorem fi_inner {r : List Dd} (hn : ∀ x ∈ planR r, x.1.n10) (h : manyR r ≤ 30) : Fi (innerR r) 0 3931 := by
  unfold innerR
  by_cases hz : manyR r = 0
  · rw [if_pos hz]
    exact Fi.nil _
  · rw [if_neg hz]
    have hm : manyR r * manyR r ≤ 30 * 30 := Nat.mul_le_mul h h
    exact ((fi_lw (m := 1) (r := [.take false 2 1]) rfl (by decide)).app (fi_choose (fi_doneAt hn) 6 0 (manyR r) (by omega))).mono (by omega)
theorem fi_small {r : List Dd} (hn : ∀ x ∈ planR r, x.1.n10) (h : manyR r ≤ 30) : Fi (smallR r) 1 4000 := by
  have hi := fi_inner hn h
  have hg := goto_len3 0 (manyR r)
  have hb : Fi (beginR (manyR r)) 0 5 := ((fi_lw (m := 2) (r := [.told 2 (num 9), .two false 0 0 2]) rfl (by decide)).app (fi_lw (m := 3) (lw_goto 0 (manyR r)) hg)).mono (by decide)
  have hw : Fi [.wh 0 (innerR r)] 1 3932 := by
    have e : flatR [.wh 0 (innerR r)] = .wh 0 (innerR r) :: flatR (innerR r) := by
      rw [flatR, Dd.flat, flatR, List.append_nil]
    refine ⟨?_, ?_, ?_⟩
    · rw [e, List.all_cons, hi.lo]
      rfl
    · rw [e, List.countP_cons, hi.cw]
      rfl
    · rw [many_cons, many_wh, many_nil]
      have := hi.le
      omega
  exact (hb.app (hw.app (fi_lw (m := 2) (r := [.take true 0 1, .take false 0 0]) rfl (by decide)))).mono (by decide)
theorem small_many {r : List Dd} (hn : ∀ x ∈ planR r, x.1.n10) (h : manyR r ≤ 30) : manyR (smallR r) ≤ 4000 := (fi_small hn h).le
theorem deep_iff1 (a : Nat) (r u : List Dd) : deepR [.iff a r u] = max (deepR r) (deepR u) + 1 := by
  simp [deepR, Dd.deep]
theorem deep_wh3 (r : List Dd) : deepR [.wh 0 r, .take true 0 1, .take false 0 0] = deepR r + 1 := by
  simp [deepR, Dd.deep]
theorem deep_done (e : Nat) (x : Pt) : deepR (doneR e x) ≤ 1 := by
  unfold doneR
  cases hl : x.1.look with
  | true =>
    rw [if_pos rfl, deepR_app, deepR_app, (lw_flat (lw_fetch _ (by decide))).2.1, deep_iff1, (lw_flat (lw_goto _ _)).2.1, (lw_flat (lw_goto _ _)).2.1]
    decide
  | false =>
    rw [if_neg (by decide), deepR_app, deepR_app, (lw_flat (lw_make hl)).2.1, (lw_flat (lw_store _)).2.1, (lw_flat (lw_goto _ _)).2.1]
    decide
theorem deep_doneAt (pl : List Pt) (e lo : Nat) : deepR (doneAt pl e lo) ≤ 1 := by
  unfold doneAt
  split
  · exact deep_done _ _
  · exact Nat.zero_le _
theorem deep_choose {d : Nat → List Dd} (h : ∀ lo, deepR (d lo) ≤ 1) : ∀ f lo n, deepR (chooseR d f lo n) ≤ f + 1
  | 0, lo, n => Nat.zero_le _
  | f + 1, lo, n => by
    have h0 := h lo
    have h1 := deep_choose h f lo (n / 2)
    have h2 := deep_choose h f (lo + n / 2) (n - n / 2)
    have hb : ∀ (a : Nat) (d0 : Dd), d0.deep = 0 → deepR [.iff a ([d0] ++ chooseR d f (lo + n / 2) (n - n / 2)) (chooseR d f lo (n / 2))] ≤ f + 1 + 1 := by
      intro a d0 e0
      have e1 : deepR [d0] = 0 := by rw [deepR, e0, deepR]; rfl
      rw [deep_iff1, deepR_app, e1]
      omega
    rw [chooseR]
    split
    · omega
    · split
      · exact hb _ _ rfl
      · rw [deepR_app, deepR_app, (lw_flat (r := List.replicate (n / 2 - 2) (.take true 0 0)) (all_repB rfl _)).2.1]
        have := hb 0 (.take true 2 0) rfl
        rw [show deepR [Dd.take true 0 2] = 0 from rfl]
        omega
theorem small_deep (r : List Dd) : deepR (smallR r) ≤ 8 := by
  have hi : deepR (innerR r) ≤ 7 := by
    unfold innerR
    split
    · exact Nat.zero_le _
    · have := deep_choose (deep_doneAt (planR r) (manyR r)) 6 0 (manyR r)
      rw [deepR_app, show deepR [Dd.take false 2 1] = 0 from rfl]
      omega
  rw [smallR, beginR, deepR_app, deepR_app, (lw_flat (lw_goto _ _)).2.1, deep_wh3, show deepR [Dd.told 2 (num 9), .two false 0 0 2] = 0 from rfl]
  omega
def spSmall (K : PySem.W.Frag) (C CP : Addr) : Sp := fun vs H Q _ => ∃ a r, vs = [.ref a] ∧ PgAt K C CP H a r ∧ manyR r ≤ 30 ∧ ∀ z H', Same H H' → PgAt K C CP H' z (smallR r) → Q (.ref z) H'
def spSmallX (K : PySem.W.Frag) (C CP N : Addr) : Sp := fun vs H Q E => ∃ a r, vs = [.ref a] ∧ PgAt K C CP H a r ∧ (manyR r ≤ 30 → ∀ z H', Same H H' → PgAt K C CP H' z (smallR r) → Q (.ref z) H') ∧ (30 < manyR r → ∀ d H', Same H H' → H' d = some (.xd [("bound", .int ((30 : Nat) : Int))]) → E (.ref N) (some d) H')
section
variable {P : Program} {w : World} {K : PySem.W.Frag} {mg : Str → Option Value} {base : Heap} {C CP N fN fP : Addr} {fdN fdP : FuncData} {t1 t2 : Tok}
theorem scSm : FnScope ["program", "end", "begin", "inner"] ["program"] (defScope sSmall) := ⟨rfl, rfl, rfl, by decide +kernel, rfl, by decide +kernel, by decide +kernel⟩
theorem ok_small {f : Addr} {fd : FuncData} (F : Fun K "small" "small" sSmall f fd) (B : Blt mg) (m30 : mg "MOST_TOLD_ANEW" = some (.int 30 t1)) (m10 : mg "MANY_NAMES" = some (.int 10 t2)) (SPL : Spc P w K mg base CP "__len__" 1 ["self"] (spPLen K C CP)) (MP : MakerP P w K mg base C CP fP fdP) (DNu : Def P w K mg base "number" 4 ["n"] (spNumber C)) (DGt : Def P w K mg base "go_to" 5 ["point", "end"] (spGoTo K C)) (DCh : Def P w K mg base "choose" 12 ["program", "low", "high"] (spChoose K C CP 6)) : FnOk P w K mg base CX0 16 f fd ["program"] (spSmall K C CP) := by
  refine F.ok scSm (fun vs H Q E h => ?_) (fun cdv A outer s H vs Q E hr h => ?_)
  · obtain ⟨a, r, rfl, _⟩ := h
    rfl
  · obtain ⟨a, r, rfl, ha, h30, k⟩ := h
    have hr2 : Room 2 _ := hr.mono (by decide)
    have hr4 : Room 4 _ := hr.mono (by decide)
    have hr5 : Room 5 _ := hr.mono (by decide)
    have hr12 : Room 12 _ := hr.mono (by decide)
    have hr15 : Room 15 _ := hr
    refine ⟨_, PSs.nox (pss_cons (ps_set (i := 1) scSm.nd rfl (Or.inl rfl) (pe_callB (call_lenP SPL hr2) (by rfl) B.len PySem.boot_len (pa_cons (pv 0) pa_nil))) (pss_cons (ps_if (pt_cmpR op_gt (pv 1) (pe_glob (v := .int 30) rfl m30 ⟨_, rfl⟩) (nomark _)) (pss_one ps_never) pss_nil) (pss_cons (ps_set (i := 2) scSm.nd rfl (Or.inl rfl) (pe_op (op_catR (C := C)) (pe_tup (pa_cons (pe_tup (pa_cons pe_str (pa_cons pe_int (pa_cons (pe_def DNu hr4 rfl (pa_cons (pe_op op_sub (pe_glob (v := .int 10) rfl m10 ⟨_, rfl⟩) pe_int) pa_nil)) pa_nil)))) (pa_cons (pe_tup (pa_cons pe_str (pa_cons pe_int (pa_cons pe_int (pa_cons pe_int pa_nil))))) pa_nil))) (pe_def DGt hr5 rfl (pa_cons pe_int (pa_cons (pv 1) pa_nil))))) (pss_cons (ps_set (i := 3) scSm.nd rfl (Or.inl rfl) (pe_ifExp (pt_truth (pv 1) (by intro _; rfl)) (pe_op (op_catR (C := C)) (pe_tup (pa_cons (pe_tup (pa_cons pe_str (pa_cons pe_int (pa_cons pe_int pa_nil)))) pa_nil)) (pe_def DCh hr12 rfl (pa_cons (pv 0) (pa_cons pe_int (pa_cons (pv 1) pa_nil))))) (pe_tup pa_nil))) (pss_one (ps_ret (pe_P MP hr15 rfl (pa_cons (pe_op (op_catR (C := C)) (pv 2) (pe_tup (pa_cons (pe_tup (pa_cons pe_str (pa_cons pe_int (pa_cons (pv 3) pa_nil)))) (pa_cons (pe_tup (pa_cons pe_str (pa_cons pe_int (pa_cons pe_int pa_nil)))) (pa_cons (pe_tup (pa_cons pe_str (pa_cons pe_int (pa_cons pe_int pa_nil)))) pa_nil))))) pa_nil)))))))), ?_⟩
    have hsl := line4
    have hn10 := plan_n10 ha
    refine ⟨_, rfl, a, r, rfl, ha, _, rfl, _, _, rfl, rfl, _, rfl, ?_⟩
    refine iteF' (decide_eq_false (by omega)) ?_
    refine ⟨_, _, rfl, rfl, 9, rfl, by decide, fun x9 HN9 sN9 hx9 => ?_⟩
    refine ⟨by show 3 ≤ sizeLine; decide, fun T1 nT1 => ?_⟩
    have s1 := Same.new nT1 (o := .tup [V.str "told", V.int (2), .ref x9])
    have e1 : (upd HN9 T1 (.tup [V.str "told", V.int (2), .ref x9])) T1 = some (.tup [V.str "told", V.int (2), .ref x9]) := upd_same
    revert s1 e1
    generalize upd HN9 T1 (.tup [V.str "told", V.int (2), .ref x9]) = G1
    intro s1 e1
    replace hx9 := hx9.same s1
    have dT1 : DAt K C G1 (.ref T1) (.told 2 (num 9)) := ⟨T1, x9, rfl, SqT.of e1, by decide, hx9, by decide⟩
    refine ⟨by show 4 ≤ sizeLine; decide, fun T2 nT2 => ?_⟩
    have s2 := Same.new nT2 (o := .tup [V.str "pair", V.int (0), V.int (0), V.int (2)])
    have e2 : (upd G1 T2 (.tup [V.str "pair", V.int (0), V.int (0), V.int (2)])) T2 = some (.tup [V.str "pair", V.int (0), V.int (0), V.int (2)]) := upd_same
    revert s2 e2
    generalize upd G1 T2 (.tup [V.str "pair", V.int (0), V.int (0), V.int (2)]) = G2
    intro s2 e2
    replace hx9 := hx9.same s2
    replace dT1 := DAt_kt (KT.of s2) _ _ dT1
    have dT2 : DAt K C G2 (.ref T2) (.two false 0 0 2) := ⟨T2, rfl, SqT.of e2, by decide, by decide, by decide⟩
    refine ⟨by show 2 ≤ sizeLine; decide, fun T3 nT3 => ?_⟩
    have s3 := Same.new nT3 (o := .tup [.ref T1, .ref T2])
    have e3 : (upd G2 T3 (.tup [.ref T1, .ref T2])) T3 = some (.tup [.ref T1, .ref T2]) := upd_same
    revert s3 e3
    generalize upd G2 T3 (.tup [.ref T1, .ref T2]) = G3
    intro s3 e3
    replace hx9 := hx9.same s3
    replace dT1 := DAt_kt (KT.of s3) _ _ dT1
    replace dT2 := DAt_kt (KT.of s3) _ _ dT2
    have rT3 : RAt K C G3 T3 [.told 2 (num 9), .two false 0 0 2] := ⟨_, SqT.of e3, ⟨_, _, rfl, dT1, ⟨_, _, rfl, dT2, rfl⟩⟩⟩
    refine ⟨_, rfl, 0, manyR r, rfl, by omega, fun T4 G4 s4 rT4 => ?_⟩
    replace rT3 := RAt.same s4 rT3
    refine ⟨T3, T4, _, _, rfl, rfl, rT3, rT4, by have := goto_len3 0 (manyR r); show 2 + _ ≤ 100000; omega, fun T5 G5 s5 rT5 => ?_⟩
    have hbg : RAt K C G5 T5 (beginR (manyR r)) := rT5
    have sA : Same H G5 := (((((sN9).trans s1).trans s2).trans s3).trans s4).trans s5
    have hmn := ha.mn
    refine ⟨_, rfl, ?_⟩
    by_cases hz : manyR r = 0
    · have e1 : ((((manyR r : Nat) : Int)) != 0) = false := by
        rw [hz]
        rfl
      refine ⟨false, e1.symm, iteF ?_⟩
      refine ⟨by show 0 ≤ sizeLine; decide, fun T31 nT31 => ?_⟩
      have s31 := Same.new nT31 (o := .tup [])
      have e31 : (upd G5 T31 (.tup [])) T31 = some (.tup []) := upd_same
      revert s31 e31
      generalize upd G5 T31 (.tup []) = G31
      intro s31 e31
      replace hbg := RAt.same s31 hbg
      have hin : RAt K C G31 T31 [] := ⟨[], SqT.of e31, rfl⟩
      refine ⟨_, rfl, _, rfl, by show 3 ≤ sizeLine; decide, fun T51 nT51 => ?_⟩
      have s51 := Same.new nT51 (o := .tup [V.str "while", V.int (0), .ref T31])
      have e51 : (upd G31 T51 (.tup [V.str "while", V.int (0), .ref T31])) T51 = some (.tup [V.str "while", V.int (0), .ref T31]) := upd_same
      revert s51 e51
      generalize upd G31 T51 (.tup [V.str "while", V.int (0), .ref T31]) = G51
      intro s51 e51
      replace hbg := RAt.same s51 hbg
      replace hin := RAt.same s51 hin
      have dT51 : DAt K C G51 (.ref T51) (.wh 0 []) := (let ⟨vs, h1, h2⟩ := hin; ⟨T51, T31, vs, rfl, SqT.of e51, by decide, h1, h2⟩)
      refine ⟨by show 3 ≤ sizeLine; decide, fun T52 nT52 => ?_⟩
      have s52 := Same.new nT52 (o := .tup [V.str "second", V.int (0), V.int (1)])
      have e52 : (upd G51 T52 (.tup [V.str "second", V.int (0), V.int (1)])) T52 = some (.tup [V.str "second", V.int (0), V.int (1)]) := upd_same
      revert s52 e52
      generalize upd G51 T52 (.tup [V.str "second", V.int (0), V.int (1)]) = G52
      intro s52 e52
      replace hbg := RAt.same s52 hbg
      replace hin := RAt.same s52 hin
      replace dT51 := DAt_kt (KT.of s52) _ _ dT51
      have dT52 : DAt K C G52 (.ref T52) (.take true 0 1) := ⟨T52, rfl, SqT.of e52, by decide, by decide⟩
      refine ⟨by show 3 ≤ sizeLine; decide, fun T53 nT53 => ?_⟩
      have s53 := Same.new nT53 (o := .tup [V.str "first", V.int (0), V.int (0)])
      have e53 : (upd G52 T53 (.tup [V.str "first", V.int (0), V.int (0)])) T53 = some (.tup [V.str "first", V.int (0), V.int (0)]) := upd_same
      revert s53 e53
      generalize upd G52 T53 (.tup [V.str "first", V.int (0), V.int (0)]) = G53
      intro s53 e53
      replace hbg := RAt.same s53 hbg
      replace hin := RAt.same s53 hin
      replace dT51 := DAt_kt (KT.of s53) _ _ dT51
      replace dT52 := DAt_kt (KT.of s53) _ _ dT52
      have dT53 : DAt K C G53 (.ref T53) (.take false 0 0) := ⟨T53, rfl, SqT.of e53, by decide, by decide⟩
      refine ⟨by show 3 ≤ sizeLine; decide, fun T54 nT54 => ?_⟩
      have s54 := Same.new nT54 (o := .tup [.ref T51, .ref T52, .ref T53])
      have e54 : (upd G53 T54 (.tup [.ref T51, .ref T52, .ref T53])) T54 = some (.tup [.ref T51, .ref T52, .ref T53]) := upd_same
      revert s54 e54
      generalize upd G53 T54 (.tup [.ref T51, .ref T52, .ref T53]) = G54
      intro s54 e54
      replace hbg := RAt.same s54 hbg
      replace hin := RAt.same s54 hin
      replace dT51 := DAt_kt (KT.of s54) _ _ dT51
      replace dT52 := DAt_kt (KT.of s54) _ _ dT52
      replace dT53 := DAt_kt (KT.of s54) _ _ dT53
      have rT54 : RAt K C G54 T54 [.wh 0 [], .take true 0 1, .take false 0 0] := ⟨_, SqT.of e54, ⟨_, _, rfl, dT51, ⟨_, _, rfl, dT52, ⟨_, _, rfl, dT53, rfl⟩⟩⟩⟩
      refine ⟨T5, T54, _, _, rfl, rfl, hbg, rT54, by have := begin_len (manyR r); show _ + 3 ≤ 100000; omega, fun T55 G55 s55 rT55 => ?_⟩
      have er : smallR r = (beginR (manyR r) ++ [.wh 0 [], .take true 0 1, .take false 0 0]) := by
        unfold smallR innerR
        rw [if_pos hz]
      rw [← er] at rT55
      exact ⟨T55, smallR r, rfl, rT55, small_deep r, small_many hn10 h30, fun z HZ sZ nz hz => k z HZ (sA.trans ((s31).trans ((((((s51).trans s52).trans s53).trans s54).trans s55).trans sZ))) hz⟩
    · have e1 : ((((manyR r : Nat) : Int)) != 0) = true := bne_iff_ne.mpr (by omega)
      refine ⟨true, e1.symm, iteT ?_⟩
      refine ⟨by show 3 ≤ sizeLine; decide, fun T31 nT31 => ?_⟩
      have s31 := Same.new nT31 (o := .tup [V.str "first", V.int (2), V.int (1)])
      have e31 : (upd G5 T31 (.tup [V.str "first", V.int (2), V.int (1)])) T31 = some (.tup [V.str "first", V.int (2), V.int (1)]) := upd_same
      revert s31 e31
      generalize upd G5 T31 (.tup [V.str "first", V.int (2), V.int (1)]) = G31
      intro s31 e31
      replace hbg := RAt.same s31 hbg
      have dT31 : DAt K C G31 (.ref T31) (.take false 2 1) := ⟨T31, rfl, SqT.of e31, by decide, by decide⟩
      refine ⟨by show 1 ≤ sizeLine; decide, fun T32 nT32 => ?_⟩
      have s32 := Same.new nT32 (o := .tup [.ref T31])
      have e32 : (upd G31 T32 (.tup [.ref T31])) T32 = some (.tup [.ref T31]) := upd_same
      revert s32 e32
      generalize upd G31 T32 (.tup [.ref T31]) = G32
      intro s32 e32
      replace hbg := RAt.same s32 hbg
      replace dT31 := DAt_kt (KT.of s32) _ _ dT31
      have rT32 : RAt K C G32 T32 [.take false 2 1] := ⟨_, SqT.of e32, ⟨_, _, rfl, dT31, rfl⟩⟩
      refine ⟨_, rfl, _, rfl, a, r, 0, manyR r, by rw [Nat.zero_add]; rfl, ha.same (sA.trans ((s31).trans s32)), by omega, by show manyR r ≤ 32; omega, by omega, by omega, fun T33 G33 s33 rT33 => ?_⟩
      replace hbg := RAt.same s33 hbg
      replace rT32 := RAt.same s33 rT32
      refine ⟨T32, T33, _, _, rfl, rfl, rT32, rT33, by have := choose_len (d := doneAt (planR r) (manyR r)) (fun lo => doneAt_len (e := manyR r) (lo := lo) (plan_n10 ha)) 6 0 (manyR r); show 1 + _ ≤ 100000; omega, fun T34 G34 s34 rT34 => ?_⟩
      replace hbg := RAt.same s34 hbg
      have hin : RAt K C G34 T34 (innerR r) := by
        unfold innerR
        rw [if_neg hz]
        exact rT34
      refine ⟨_, rfl, _, rfl, by show 3 ≤ sizeLine; decide, fun T51 nT51 => ?_⟩
      have s51 := Same.new nT51 (o := .tup [V.str "while", V.int (0), .ref T34])
      have e51 : (upd G34 T51 (.tup [V.str "while", V.int (0), .ref T34])) T51 = some (.tup [V.str "while", V.int (0), .ref T34]) := upd_same
      revert s51 e51
      generalize upd G34 T51 (.tup [V.str "while", V.int (0), .ref T34]) = G51
      intro s51 e51
      replace hbg := RAt.same s51 hbg
      replace hin := RAt.same s51 hin
      have dT51 : DAt K C G51 (.ref T51) (.wh 0 (innerR r)) := (let ⟨vs, h1, h2⟩ := hin; ⟨T51, T34, vs, rfl, SqT.of e51, by decide, h1, h2⟩)
      refine ⟨by show 3 ≤ sizeLine; decide, fun T52 nT52 => ?_⟩
      have s52 := Same.new nT52 (o := .tup [V.str "second", V.int (0), V.int (1)])
      have e52 : (upd G51 T52 (.tup [V.str "second", V.int (0), V.int (1)])) T52 = some (.tup [V.str "second", V.int (0), V.int (1)]) := upd_same
      revert s52 e52
      generalize upd G51 T52 (.tup [V.str "second", V.int (0), V.int (1)]) = G52
      intro s52 e52
      replace hbg := RAt.same s52 hbg
      replace hin := RAt.same s52 hin
      replace dT51 := DAt_kt (KT.of s52) _ _ dT51
      have dT52 : DAt K C G52 (.ref T52) (.take true 0 1) := ⟨T52, rfl, SqT.of e52, by decide, by decide⟩
      refine ⟨by show 3 ≤ sizeLine; decide, fun T53 nT53 => ?_⟩
      have s53 := Same.new nT53 (o := .tup [V.str "first", V.int (0), V.int (0)])
      have e53 : (upd G52 T53 (.tup [V.str "first", V.int (0), V.int (0)])) T53 = some (.tup [V.str "first", V.int (0), V.int (0)]) := upd_same
      revert s53 e53
      generalize upd G52 T53 (.tup [V.str "first", V.int (0), V.int (0)]) = G53
      intro s53 e53
      replace hbg := RAt.same s53 hbg
      replace hin := RAt.same s53 hin
      replace dT51 := DAt_kt (KT.of s53) _ _ dT51
      replace dT52 := DAt_kt (KT.of s53) _ _ dT52
      have dT53 : DAt K C G53 (.ref T53) (.take false 0 0) := ⟨T53, rfl, SqT.of e53, by decide, by decide⟩
      refine ⟨by show 3 ≤ sizeLine; decide, fun T54 nT54 => ?_⟩
      have s54 := Same.new nT54 (o := .tup [.ref T51, .ref T52, .ref T53])
      have e54 : (upd G53 T54 (.tup [.ref T51, .ref T52, .ref T53])) T54 = some (.tup [.ref T51, .ref T52, .ref T53]) := upd_same
      revert s54 e54
      generalize upd G53 T54 (.tup [.ref T51, .ref T52, .ref T53]) = G54
      intro s54 e54
      replace hbg := RAt.same s54 hbg
      replace hin := RAt.same s54 hin
      replace dT51 := DAt_kt (KT.of s54) _ _ dT51
      replace dT52 := DAt_kt (KT.of s54) _ _ dT52
      replace dT53 := DAt_kt (KT.of s54) _ _ dT53
      have rT54 : RAt K C G54 T54 [.wh 0 (innerR r), .take true 0 1, .take false 0 0] := ⟨_, SqT.of e54, ⟨_, _, rfl, dT51, ⟨_, _, rfl, dT52, ⟨_, _, rfl, dT53, rfl⟩⟩⟩⟩
      refine ⟨T5, T54, _, _, rfl, rfl, hbg, rT54, by have := begin_len (manyR r); show _ + 3 ≤ 100000; omega, fun T55 G55 s55 rT55 => ?_⟩
      exact ⟨T55, smallR r, rfl, rT55, small_deep r, small_many hn10 h30, fun z HZ sZ nz hz => k z HZ (sA.trans (((((s31).trans s32).trans s33).trans s34).trans ((((((s51).trans s52).trans s53).trans s54).trans s55).trans sZ))) hz⟩
theorem ok_smallX {f : Addr} {fd : FuncData} (F : Fun K "small" "small" sSmall f fd) (M : TgM P w K mg base N fN fdN) (B : Blt mg) (m30 : mg "MOST_TOLD_ANEW" = some (.int 30 t1)) (m10 : mg "MANY_NAMES" = some (.int 10 t2)) (SPL : Spc P w K mg base CP "__len__" 1 ["self"] (spPLen K C CP)) (MP : MakerP P w K mg base C CP fP fdP) (DNu : Def P w K mg base "number" 4 ["n"] (spNumber C)) (DGt : Def P w K mg base "go_to" 5 ["point", "end"] (spGoTo K C)) (DCh : Def P w K mg base "choose" 12 ["program", "low", "high"] (spChoose K C CP 6)) : FnOk P w K mg base (L2N.CX P w) 16 f fd ["program"] (spSmallX K C CP N) := by
  refine okC F scSm (fun vs H Q E h => ?_) (fun cdv A outer s H vs Q E hr h => ?_)
  · obtain ⟨a, r, rfl, _⟩ := h
    rfl
  · obtain ⟨a, r, rfl, ha, k, ke⟩ := h
    have hr2 : Room 2 _ := hr.mono (by decide)
    have hr4 : Room 4 _ := hr.mono (by decide)
    have hr5 : Room 5 _ := hr.mono (by decide)
    have hr12 : Room 12 _ := hr.mono (by decide)
    have hr15 : Room 15 _ := hr
    refine ⟨_, pss_cons (ps_set (i := 1) scSm.nd rfl (Or.inl rfl) (pe_callB (call_lenP SPL hr2) (by rfl) B.len PySem.boot_len (pa_cons (pv 0) pa_nil))) (pss_cons (ps_if (pt_cmpR op_gt (pv 1) (pe_glob (v := .int 30) rfl m30 ⟨_, rfl⟩) (nomark _)) (pss_one (L2N.ps_raise rfl (L2N.takes_of rfl rfl rfl rfl) (pmk_gexN M.T.O M.iN M.tN M.ok hr2 M.bN .nil pass0 rfl M.T.mgN (pa_cons (pe_glob (v := .int ((30 : Nat) : Int)) rfl m30 ⟨_, rfl⟩) pa_nil)))) pss_nil) (pss_cons (ps_set (i := 2) scSm.nd rfl (Or.inl rfl) (pe_op (op_catR (C := C)) (pe_tup (pa_cons (pe_tup (pa_cons pe_str (pa_cons pe_int (pa_cons (pe_def DNu hr4 rfl (pa_cons (pe_op op_sub (pe_glob (v := .int 10) rfl m10 ⟨_, rfl⟩) pe_int) pa_nil)) pa_nil)))) (pa_cons (pe_tup (pa_cons pe_str (pa_cons pe_int (pa_cons pe_int (pa_cons pe_int pa_nil))))) pa_nil))) (pe_def DGt hr5 rfl (pa_cons pe_int (pa_cons (pv 1) pa_nil))))) (pss_cons (ps_set (i := 3) scSm.nd rfl (Or.inl rfl) (pe_ifExp (pt_truth (pv 1) (by intro _; rfl)) (pe_op (op_catR (C := C)) (pe_tup (pa_cons (pe_tup (pa_cons pe_str (pa_cons pe_int (pa_cons pe_int pa_nil)))) pa_nil)) (pe_def DCh hr12 rfl (pa_cons (pv 0) (pa_cons pe_int (pa_cons (pv 1) pa_nil))))) (pe_tup pa_nil))) (pss_one (ps_ret (pe_P MP hr15 rfl (pa_cons (pe_op (op_catR (C := C)) (pv 2) (pe_tup (pa_cons (pe_tup (pa_cons pe_str (pa_cons pe_int (pa_cons (pv 3) pa_nil)))) (pa_cons (pe_tup (pa_cons pe_str (pa_cons pe_int (pa_cons pe_int pa_nil)))) (pa_cons (pe_tup (pa_cons pe_str (pa_cons pe_int (pa_cons pe_int pa_nil)))) pa_nil))))) pa_nil))))))), ?_⟩
    have hsl := line4
    have hn10 := plan_n10 ha
    refine ⟨_, rfl, a, r, rfl, ha, _, rfl, _, _, rfl, rfl, _, rfl, ?_⟩
    by_cases h30 : manyR r ≤ 30
    case neg =>
      refine iteT' (decide_eq_true (by omega)) ?_
      exact ⟨by simp, raise_tg M.T.O M.T.bd (by decide) fun d H' sH hd => ke (by omega) d H' sH hd⟩
    replace k := k h30
    refine iteF' (decide_eq_false (by omega)) ?_
    refine ⟨_, _, rfl, rfl, 9, rfl, by decide, fun x9 HN9 sN9 hx9 => ?_⟩
    refine ⟨by show 3 ≤ sizeLine; decide, fun T1 nT1 => ?_⟩
    have s1 := Same.new nT1 (o := .tup [V.str "told", V.int (2), .ref x9])
    have e1 : (upd HN9 T1 (.tup [V.str "told", V.int (2), .ref x9])) T1 = some (.tup [V.str "told", V.int (2), .ref x9]) := upd_same
    revert s1 e1
    generalize upd HN9 T1 (.tup [V.str "told", V.int (2), .ref x9]) = G1
    intro s1 e1
    replace hx9 := hx9.same s1
    have dT1 : DAt K C G1 (.ref T1) (.told 2 (num 9)) := ⟨T1, x9, rfl, SqT.of e1, by decide, hx9, by decide⟩
    refine ⟨by show 4 ≤ sizeLine; decide, fun T2 nT2 => ?_⟩
    have s2 := Same.new nT2 (o := .tup [V.str "pair", V.int (0), V.int (0), V.int (2)])
    have e2 : (upd G1 T2 (.tup [V.str "pair", V.int (0), V.int (0), V.int (2)])) T2 = some (.tup [V.str "pair", V.int (0), V.int (0), V.int (2)]) := upd_same
    revert s2 e2
    generalize upd G1 T2 (.tup [V.str "pair", V.int (0), V.int (0), V.int (2)]) = G2
    intro s2 e2
    replace hx9 := hx9.same s2
    replace dT1 := DAt_kt (KT.of s2) _ _ dT1
    have dT2 : DAt K C G2 (.ref T2) (.two false 0 0 2) := ⟨T2, rfl, SqT.of e2, by decide, by decide, by decide⟩
    refine ⟨by show 2 ≤ sizeLine; decide, fun T3 nT3 => ?_⟩
    have s3 := Same.new nT3 (o := .tup [.ref T1, .ref T2])
    have e3 : (upd G2 T3 (.tup [.ref T1, .ref T2])) T3 = some (.tup [.ref T1, .ref T2]) := upd_same
    revert s3 e3
    generalize upd G2 T3 (.tup [.ref T1, .ref T2]) = G3
    intro s3 e3
    replace hx9 := hx9.same s3
    replace dT1 := DAt_kt (KT.of s3) _ _ dT1
    replace dT2 := DAt_kt (KT.of s3) _ _ dT2
    have rT3 : RAt K C G3 T3 [.told 2 (num 9), .two false 0 0 2] := ⟨_, SqT.of e3, ⟨_, _, rfl, dT1, ⟨_, _, rfl, dT2, rfl⟩⟩⟩
    refine ⟨_, rfl, 0, manyR r, rfl, by omega, fun T4 G4 s4 rT4 => ?_⟩
    replace rT3 := RAt.same s4 rT3
    refine ⟨T3, T4, _, _, rfl, rfl, rT3, rT4, by have := goto_len3 0 (manyR r); show 2 + _ ≤ 100000; omega, fun T5 G5 s5 rT5 => ?_⟩
    have hbg : RAt K C G5 T5 (beginR (manyR r)) := rT5
    have sA : Same H G5 := (((((sN9).trans s1).trans s2).trans s3).trans s4).trans s5
    have hmn := ha.mn
    refine ⟨_, rfl, ?_⟩
    by_cases hz : manyR r = 0
    · have e1 : ((((manyR r : Nat) : Int)) != 0) = false := by
        rw [hz]
        rfl
      refine ⟨false, e1.symm, iteF ?_⟩
      refine ⟨by show 0 ≤ sizeLine; decide, fun T31 nT31 => ?_⟩
      have s31 := Same.new nT31 (o := .tup [])
      have e31 : (upd G5 T31 (.tup [])) T31 = some (.tup []) := upd_same
      revert s31 e31
      generalize upd G5 T31 (.tup []) = G31
      intro s31 e31
      replace hbg := RAt.same s31 hbg
      have hin : RAt K C G31 T31 [] := ⟨[], SqT.of e31, rfl⟩
      refine ⟨_, rfl, _, rfl, by show 3 ≤ sizeLine; decide, fun T51 nT51 => ?_⟩
      have s51 := Same.new nT51 (o := .tup [V.str "while", V.int (0), .ref T31])
      have e51 : (upd G31 T51 (.tup [V.str "while", V.int (0), .ref T31])) T51 = some (.tup [V.str "while", V.int (0), .ref T31]) := upd_same
      revert s51 e51
      generalize upd G31 T51 (.tup [V.str "while", V.int (0), .ref T31]) = G51
      intro s51 e51
      replace hbg := RAt.same s51 hbg
      replace hin := RAt.same s51 hin
      have dT51 : DAt K C G51 (.ref T51) (.wh 0 []) := (let ⟨vs, h1, h2⟩ := hin; ⟨T51, T31, vs, rfl, SqT.of e51, by decide, h1, h2⟩)
      refine ⟨by show 3 ≤ sizeLine; decide, fun T52 nT52 => ?_⟩
      have s52 := Same.new nT52 (o := .tup [V.str "second", V.int (0), V.int (1)])
      have e52 : (upd G51 T52 (.tup [V.str "second", V.int (0), V.int (1)])) T52 = some (.tup [V.str "second", V.int (0), V.int (1)]) := upd_same
      revert s52 e52
      generalize upd G51 T52 (.tup [V.str "second", V.int (0), V.int (1)]) = G52
      intro s52 e52
      replace hbg := RAt.same s52 hbg
      replace hin := RAt.same s52 hin
      replace dT51 := DAt_kt (KT.of s52) _ _ dT51
      have dT52 : DAt K C G52 (.ref T52) (.take true 0 1) := ⟨T52, rfl, SqT.of e52, by decide, by decide⟩
      refine ⟨by show 3 ≤ sizeLine; decide, fun T53 nT53 => ?_⟩
      have s53 := Same.new nT53 (o := .tup [V.str "first", V.int (0), V.int (0)])
      have e53 : (upd G52 T53 (.tup [V.str "first", V.int (0), V.int (0)])) T53 = some (.tup [V.str "first", V.int (0), V.int (0)]) := upd_same
      revert s53 e53
      generalize upd G52 T53 (.tup [V.str "first", V.int (0), V.int (0)]) = G53
      intro s53 e53
      replace hbg := RAt.same s53 hbg
      replace hin := RAt.same s53 hin
      replace dT51 := DAt_kt (KT.of s53) _ _ dT51
      replace dT52 := DAt_kt (KT.of s53) _ _ dT52
      have dT53 : DAt K C G53 (.ref T53) (.take false 0 0) := ⟨T53, rfl, SqT.of e53, by decide, by decide⟩
      refine ⟨by show 3 ≤ sizeLine; decide, fun T54 nT54 => ?_⟩
      have s54 := Same.new nT54 (o := .tup [.ref T51, .ref T52, .ref T53])
      have e54 : (upd G53 T54 (.tup [.ref T51, .ref T52, .ref T53])) T54 = some (.tup [.ref T51, .ref T52, .ref T53]) := upd_same
      revert s54 e54
      generalize upd G53 T54 (.tup [.ref T51, .ref T52, .ref T53]) = G54
      intro s54 e54
      replace hbg := RAt.same s54 hbg
      replace hin := RAt.same s54 hin
      replace dT51 := DAt_kt (KT.of s54) _ _ dT51
      replace dT52 := DAt_kt (KT.of s54) _ _ dT52
      replace dT53 := DAt_kt (KT.of s54) _ _ dT53
      have rT54 : RAt K C G54 T54 [.wh 0 [], .take true 0 1, .take false 0 0] := ⟨_, SqT.of e54, ⟨_, _, rfl, dT51, ⟨_, _, rfl, dT52, ⟨_, _, rfl, dT53, rfl⟩⟩⟩⟩
      refine ⟨T5, T54, _, _, rfl, rfl, hbg, rT54, by have := begin_len (manyR r); show _ + 3 ≤ 100000; omega, fun T55 G55 s55 rT55 => ?_⟩
      have er : smallR r = (beginR (manyR r) ++ [.wh 0 [], .take true 0 1, .take false 0 0]) := by
        unfold smallR innerR
        rw [if_pos hz]
      rw [← er] at rT55
      exact ⟨T55, smallR r, rfl, rT55, small_deep r, small_many hn10 h30, fun z HZ sZ nz hz => k z HZ (sA.trans ((s31).trans ((((((s51).trans s52).trans s53).trans s54).trans s55).trans sZ))) hz⟩
    · have e1 : ((((manyR r : Nat) : Int)) != 0) = true := bne_iff_ne.mpr (by omega)
      refine ⟨true, e1.symm, iteT ?_⟩
      refine ⟨by show 3 ≤ sizeLine; decide, fun T31 nT31 => ?_⟩
      have s31 := Same.new nT31 (o := .tup [V.str "first", V.int (2), V.int (1)])
      have e31 : (upd G5 T31 (.tup [V.str "first", V.int (2), V.int (1)])) T31 = some (.tup [V.str "first", V.int (2), V.int (1)]) := upd_same
      revert s31 e31
      generalize upd G5 T31 (.tup [V.str "first", V.int (2), V.int (1)]) = G31
      intro s31 e31
      replace hbg := RAt.same s31 hbg
      have dT31 : DAt K C G31 (.ref T31) (.take false 2 1) := ⟨T31, rfl, SqT.of e31, by decide, by decide⟩
      refine ⟨by show 1 ≤ sizeLine; decide, fun T32 nT32 => ?_⟩
      have s32 := Same.new nT32 (o := .tup [.ref T31])
      have e32 : (upd G31 T32 (.tup [.ref T31])) T32 = some (.tup [.ref T31]) := upd_same
      revert s32 e32
      generalize upd G31 T32 (.tup [.ref T31]) = G32
      intro s32 e32
      replace hbg := RAt.same s32 hbg
      replace dT31 := DAt_kt (KT.of s32) _ _ dT31
      have rT32 : RAt K C G32 T32 [.take false 2 1] := ⟨_, SqT.of e32, ⟨_, _, rfl, dT31, rfl⟩⟩
      refine ⟨_, rfl, _, rfl, a, r, 0, manyR r, by rw [Nat.zero_add]; rfl, ha.same (sA.trans ((s31).trans s32)), by omega, by show manyR r ≤ 32; omega, by omega, by omega, fun T33 G33 s33 rT33 => ?_⟩
      replace hbg := RAt.same s33 hbg
      replace rT32 := RAt.same s33 rT32
      refine ⟨T32, T33, _, _, rfl, rfl, rT32, rT33, by have := choose_len (d := doneAt (planR r) (manyR r)) (fun lo => doneAt_len (e := manyR r) (lo := lo) (plan_n10 ha)) 6 0 (manyR r); show 1 + _ ≤ 100000; omega, fun T34 G34 s34 rT34 => ?_⟩
      replace hbg := RAt.same s34 hbg
      have hin : RAt K C G34 T34 (innerR r) := by
        unfold innerR
        rw [if_neg hz]
        exact rT34
      refine ⟨_, rfl, _, rfl, by show 3 ≤ sizeLine; decide, fun T51 nT51 => ?_⟩
      have s51 := Same.new nT51 (o := .tup [V.str "while", V.int (0), .ref T34])
      have e51 : (upd G34 T51 (.tup [V.str "while", V.int (0), .ref T34])) T51 = some (.tup [V.str "while", V.int (0), .ref T34]) := upd_same
      revert s51 e51
      generalize upd G34 T51 (.tup [V.str "while", V.int (0), .ref T34]) = G51
      intro s51 e51
      replace hbg := RAt.same s51 hbg
      replace hin := RAt.same s51 hin
      have dT51 : DAt K C G51 (.ref T51) (.wh 0 (innerR r)) := (let ⟨vs, h1, h2⟩ := hin; ⟨T51, T34, vs, rfl, SqT.of e51, by decide, h1, h2⟩)
      refine ⟨by show 3 ≤ sizeLine; decide, fun T52 nT52 => ?_⟩
      have s52 := Same.new nT52 (o := .tup [V.str "second", V.int (0), V.int (1)])
      have e52 : (upd G51 T52 (.tup [V.str "second", V.int (0), V.int (1)])) T52 = some (.tup [V.str "second", V.int (0), V.int (1)]) := upd_same
      revert s52 e52
      generalize upd G51 T52 (.tup [V.str "second", V.int (0), V.int (1)]) = G52
      intro s52 e52
      replace hbg := RAt.same s52 hbg
      replace hin := RAt.same s52 hin
      replace dT51 := DAt_kt (KT.of s52) _ _ dT51
      have dT52 : DAt K C G52 (.ref T52) (.take true 0 1) := ⟨T52, rfl, SqT.of e52, by decide, by decide⟩
      refine ⟨by show 3 ≤ sizeLine; decide, fun T53 nT53 => ?_⟩
      have s53 := Same.new nT53 (o := .tup [V.str "first", V.int (0), V.int (0)])
      have e53 : (upd G52 T53 (.tup [V.str "first", V.int (0), V.int (0)])) T53 = some (.tup [V.str "first", V.int (0), V.int (0)]) := upd_same
      revert s53 e53
      generalize upd G52 T53 (.tup [V.str "first", V.int (0), V.int (0)]) = G53
      intro s53 e53
      replace hbg := RAt.same s53 hbg
      replace hin := RAt.same s53 hin
      replace dT51 := DAt_kt (KT.of s53) _ _ dT51
      replace dT52 := DAt_kt (KT.of s53) _ _ dT52
      have dT53 : DAt K C G53 (.ref T53) (.take false 0 0) := ⟨T53, rfl, SqT.of e53, by decide, by decide⟩
      refine ⟨by show 3 ≤ sizeLine; decide, fun T54 nT54 => ?_⟩
      have s54 := Same.new nT54 (o := .tup [.ref T51, .ref T52, .ref T53])
      have e54 : (upd G53 T54 (.tup [.ref T51, .ref T52, .ref T53])) T54 = some (.tup [.ref T51, .ref T52, .ref T53]) := upd_same
      revert s54 e54
      generalize upd G53 T54 (.tup [.ref T51, .ref T52, .ref T53]) = G54
      intro s54 e54
      replace hbg := RAt.same s54 hbg
      replace hin := RAt.same s54 hin
      replace dT51 := DAt_kt (KT.of s54) _ _ dT51
      replace dT52 := DAt_kt (KT.of s54) _ _ dT52
      replace dT53 := DAt_kt (KT.of s54) _ _ dT53
      have rT54 : RAt K C G54 T54 [.wh 0 (innerR r), .take true 0 1, .take false 0 0] := ⟨_, SqT.of e54, ⟨_, _, rfl, dT51, ⟨_, _, rfl, dT52, ⟨_, _, rfl, dT53, rfl⟩⟩⟩⟩
      refine ⟨T5, T54, _, _, rfl, rfl, hbg, rT54, by have := begin_len (manyR r); show _ + 3 ≤ 100000; omega, fun T55 G55 s55 rT55 => ?_⟩
      exact ⟨T55, smallR r, rfl, rT55, small_deep r, small_many hn10 h30, fun z HZ sZ nz hz => k z HZ (sA.trans (((((s31).trans s32).trans s33).trans s34).trans ((((((s51).trans s52).trans s53).trans s54).trans s55).trans sZ))) hz⟩
end
end Js

set_option Elab.async false
set_option linter.all false
set_option maxRecDepth 100000
set_option maxHeartbeats 2000000
namespace Js
open PySem L2
theorem in_look : ∀ d : Dd, inV (.str (kindOf d)) [V.str "while", V.str "if"] = decide (d.rows ≠ [])
  | .told _ _ => (by rw [decide_eq_false (by simp [Dd.rows])]; exact (by decide +kernel : inV (.str "told") [V.str "while", V.str "if"] = false))
  | .take false _ _ => (by rw [decide_eq_false (by simp [Dd.rows])]; exact (by decide +kernel : inV (.str "first") [V.str "while", V.str "if"] = false))
  | .take true _ _ => (by rw [decide_eq_false (by simp [Dd.rows])]; exact (by decide +kernel : inV (.str "second") [V.str "while", V.str "if"] = false))
  | .two false _ _ _ => (by rw [decide_eq_false (by simp [Dd.rows])]; exact (by decide +kernel : inV (.str "pair") [V.str "while", V.str "if"] = false))
  | .two true _ _ _ => (by rw [decide_eq_false (by simp [Dd.rows])]; exact (by decide +kernel : inV (.str "same") [V.str "while", V.str "if"] = false))
  | .wh _ _ => (by rw [decide_eq_true (by simp [Dd.rows])]; exact (by decide +kernel : inV (.str "while") [V.str "while", V.str "if"] = true))
  | .iff _ _ _ => (by rw [decide_eq_true (by simp [Dd.rows])]; exact (by decide +kernel : inV (.str "if") [V.str "while", V.str "if"] = true))
end Js

set_option Elab.async false
set_option linter.all false
set_option maxRecDepth 100000
set_option maxHeartbeats 2000000
namespace Js
open PySem L2
open PySem.Spec PyProof.Rows
abbrev sLRows : Stmt := top 44
abbrev sSize2 : Stmt := top 45
theorem cr_sumK2 {X : Cx} {K : PySem.W.Frag} (hK : X.K = K) (hc : X.calm = true) : CallR X (.builtin "sum") (rSum K) := by
  subst hK
  exact cr_sum hc
theorem pi_listK {X : Cx} {K : PySem.W.Frag} {tg l : Expr} {tl : TE} (hK : X.K = K) (hl : PE X l tl) : PI X tg l (iList K tl) := by
  subst hK
  exact pi_list hl
def spLRows (K : PySem.W.Frag) (C : Addr) : Sp := fun vs H Q _ => ∃ v d, vs = [v] ∧ DAt K C H v d ∧ ∀ p ws H', Same H H' → H p = none → H' p = some (.lst ws) → RowsAt K C H' ws d.rows → Q (.ref p) H'
def spMany (K : PySem.W.Frag) (C : Addr) (n : Nat) : Sp := fun vs H Q _ => ∃ q r, vs = [.ref q] ∧ RAt K C H q r ∧ deepR r < n ∧ manyR r ≤ 10000 ∧ ∀ H', Same H H' → Q (.int ((manyR r : Nat) : Int)) H'
theorem rows_ne : ∀ d : Dd, decide (114 ∈ (formOf d).cps.toList) = true → d.rows ≠ []
  | .told _ _, h => by rw [formOf, cps_nt] at h; exact absurd h (by decide)
  | .take _ _ _, h => by rw [formOf, cps_nn] at h; exact absurd h (by decide)
  | .two _ _ _ _, h => by rw [formOf, cps_nnn] at h; exact absurd h (by decide)
  | .wh _ _, _ => by simp [Dd.rows]
  | .iff _ _ _, _ => by simp [Dd.rows]
def manyZ (rs : List (List Dd)) : List Int := rs.map fun r => ((manyR r : Nat) : Int)
theorem manyZ_sum : ∀ rs : List (List Dd), (manyZ rs).sum = ((manyL rs : Nat) : Int)
  | [] => rfl
  | r :: rs => by
    have ih := manyZ_sum rs
    simp only [manyZ, List.map_cons, List.sum_cons, manyL] at ih ⊢
    rw [ih]
    omega
/-- how many deeds stand in the rows of each -/
def inZ (r : List Dd) : List Int := r.map fun d => ((manyL d.rows : Nat) : Int)
theorem inZ_sum : ∀ r : List Dd, ((r.length : Nat) : Int) + (inZ r).sum = ((manyR r : Nat) : Int)
  | [] => rfl
  | d :: r => by
    have ih := inZ_sum r
    have hm := many_rows d
    simp only [inZ, List.map_cons, List.sum_cons, List.length_cons] at ih ⊢
    rw [many_cons]
    omega
section
variable {P : Program} {w : World} {K : PySem.W.Frag} {mg : Str → Option Value} {base : Heap} {C : Addr}
theorem scLR : FnScope ["_law_deed"] ["_law_deed"] (defScope sLRows) := ⟨rfl, rfl, rfl, by decide +kernel, rfl, by decide +kernel, by decide +kernel⟩
theorem scSz : FnScope ["_law_deeds_here", "_law_deed", "_law_inner"] ["_law_deeds_here"] (defScope sSize2) := ⟨rfl, rfl, rfl, by decide +kernel, rfl, by decide +kernel, by decide +kernel⟩
theorem ok_lrows {f : Addr} {fd : FuncData} (F : Fun K "_law_rows" "_law_rows" sLRows f fd) (ml : mg "list" = none) : FnOk P w K mg base CX0 1 f fd ["_law_deed"] (spLRows K C) := by
  refine F.ok scLR (fun vs H Q E h => ?_) (fun cdv A outer s H vs Q E hr h => ?_)
  · obtain ⟨v, d, rfl, _⟩ := h
    rfl
  · obtain ⟨v, d, rfl, hd, k⟩ := h
    refine ⟨_, pss_one (ps_ret (pe_ifExp (pt_cmpR op_in_seq (pe_ix (r := rIxT K) ix_tup (pv 0) pe_int (fun _ _ => rfl)) (pe_tup (pa_cons pe_str (pa_cons pe_str pa_nil))) rfl) (pe_callTy call_list_of (by rfl) ml PyProof.Rows.boot_list (pa_cons (pe_slice sl_tup (pv 0) (po_some pe_int) po_none) pa_nil)) (pe_lst pa_nil))), ?_⟩
    obtain ⟨p, y, its, rfl, hp, hrs⟩ := rows_look d hd
    refine ⟨_, rfl, p, _, 0, _, rfl, rfl, hp, at0 _ _, by show 2 ≤ sizeLine; decide, fun U nU => ?_⟩
    have sU := Same.new nU (o := .tup [V.str "while", V.str "if"])
    refine ⟨U, _, rfl, .inr (SqT.of upd_same), rfl, rfl, _, rfl, ?_⟩
    rw [show (if false = true then !inV (.str (kindOf d)) [V.str "while", V.str "if"] else inV (.str (kindOf d)) [V.str "while", V.str "if"]) = decide (d.rows ≠ []) from in_look d]
    have hpU := sqt_kt (KT.of sU) hp
    revert sU hpU
    generalize upd H U (.tup [V.str "while", V.str "if"]) = H1
    intro sU hpU
    rcases hrs with ⟨e, hrs⟩ | ⟨e, hrs⟩
    · rw [decide_eq_true (rows_ne d e)]
      refine iteT ?_
      refine ⟨_, rfl, _, rfl, p, _, rfl, hpU, ?_, fun q nq => ?_⟩
      · rintro ⟨h0, _⟩
        have e : HT.sIx (its.length + 1 + 1) 0 (some 2) = 2 := by
          show min 2 (its.length + 1 + 1) = 2
          omega
        rw [List.length_cons, List.length_cons, e] at h0
        cases h0
      rw [cut2]
      have sq := Same.new nq (o := .tup its)
      refine ⟨q, its, rfl, .inr (SqT.of upd_same), fun l nl => ?_⟩
      have s3 := (sU.trans sq).trans (Same.new nl (o := .lst its))
      refine k l its _ s3 ?_ upd_same (hrs.kt (KT.of s3))
      exact (sU.trans sq).free nl
    · rw [decide_eq_false (by rw [hrs]; simp)]
      refine iteF ?_
      refine ⟨Nat.zero_le _, fun l nl => ?_⟩
      exact k l [] _ (sU.trans (Same.new nl)) (sU.free nl) upd_same (by rw [hrs]; exact .nil)
theorem ok_size2 {f : Addr} {fd : FuncData} (F : Fun K "_law_size" "_law_size" sSize2 f fd) (mgf : mg "_law_size" = some (.ref f)) (b : Binds K fd ["_law_deeds_here"] []) (B : Blt mg) (msum : mg "sum" = none) (DRs : Def P w K mg base "_law_rows" 1 ["_law_deed"] (spLRows K C)) : ∀ n, FnOk P w K mg base CX0 (n + 1) f fd ["_law_deeds_here"] (spMany K C n) := by
  intro n
  induction n with
  | zero =>
    refine F.ok scSz (fun vs H Q E h => ?_) (fun cdv A outer s H vs Q E hr h => ?_)
    · obtain ⟨q, r, rfl, _⟩ := h
      rfl
    · obtain ⟨q, r, _, _, h, _⟩ := h
      exact absurd h (Nat.not_lt_zero _)
  | succ n G' =>
  refine F.ok scSz (fun vs H Q E h => ?_) (fun cdv A outer s H vs Q E hr h => ?_)
  · obtain ⟨q, r, rfl, _⟩ := h
    rfl
  · obtain ⟨q, r, rfl, ⟨vs, hq, hvs⟩, hdp, hmn, k⟩ := h
    have hr1 : Room 1 _ := hr.mono (by omega)
    refine ⟨_, pss_one (ps_ret (pe_op op_add (pe_callB call_len_seq (by rfl) B.len PySem.boot_len (pa_cons (pv 0) pa_nil)) (pe_callB (cr_sumK2 (K := K) rfl rfl) (by rfl) msum (by decide +kernel) (pa_cons (pe_lc (own := [("_law_deed", 1)]) (g := gName 1) (te := (tCB (rSum K) (tCons (tLc (iList K (tCall (spLRows K C) [] E0 (tCons (tVar 1) tNil))) (gName 2) tYes (tCall (spMany K C n) [] E0 (tCons (tVar 2) tNil)) [2]) tNil))) (tt := tYes) rfl scSz.nd (pi_tup (pv 0)) (blkOk_by (N := ["_law_deeds_here", "_law_deed", "_law_inner"]) (sc := defScope sSize2) (by decide +kernel)) (fun _ _ _ _ _ => (pg_name (i := 1) scSz.nd rfl (Or.inl rfl))) (fun _ _ _ _ _ => pts_nil) (fun _ _ _ _ _ => by (refine pe_callB (cr_sumK2 (K := K) rfl rfl) (by rfl) msum (by decide +kernel) (pa_cons ?_ pa_nil); exact (pe_lc (own := [("_law_inner", 2)]) (g := gName 2) (tt := tYes) rfl scSz.nd (pi_listK (K := K) rfl (pe_def DRs hr1 (by rfl) (pa_cons (pv 1) pa_nil))) (blkOk_by (N := ["_law_deeds_here", "_law_deed", "_law_inner"]) (sc := { kind := .function, names := [(".0", .local), ("_law_deed", .local), ("sum", .globalImplicit), ("_law_rows", .globalImplicit)], isGenerator := false, isCoroutine := false }) (by decide +kernel)) (fun _ _ _ _ _ => (pg_name (i := 2) scSz.nd rfl (Or.inl rfl))) (fun _ _ _ _ _ => pts_nil) (fun _ _ _ _ _ => (pe_call G' hr rfl mgf F.kp b .nil pass0 (pa_cons (pv 2) pa_nil))))))) pa_nil)))), ?_⟩
    have hsl := line4
    have hlen := DsAt.length r vs hvs
    have hlm := len_many r
    refine ⟨_, rfl, q, vs, rfl, .inr hq, _, rfl, q, rfl, ⟨_, hq⟩, fun D nD => lc_tup (K := K) (a := q) (xs := vs) (fun i H' => Same H H' ∧ H' D = some (.lst ((inZ (r.take i)).map V.int))) ⟨Same.new nD, by rw [List.take_zero]; exact upd_same⟩ (fun i H' _ z => sqt_kt (KT.of z.1) hq) ?_ ?_⟩
    · rintro i v H1 hv ⟨s1, hD1⟩
      obtain ⟨d, hd, hdv⟩ := DsAt.get r vs i v hvs hv
      have hdd := deepR_mem r d (List.mem_of_getElem? hd)
      have hmt := manyR_take r i d hd
      have hmr := many_rows d
      have hil := (List.getElem?_eq_some_iff.mp hd).1
      refine ⟨rfl, lc_yes ?_⟩
      refine ⟨_, rfl, v, d, rfl, DAt_kt (KT.of s1) d v hdv, fun lp ws H2 s2 nlp hlp hws => ?_⟩
      have hwl := Paired.length hws
      refine ⟨lp, rfl, ⟨_, SqL.of hlp⟩, fun D2 nD2 => lc_list (K := K) (a := lp) (xs := ws) (fun j H' => Same H2 H' ∧ H' D2 = some (.lst ((manyZ (d.rows.take j)).map V.int))) ⟨Same.new nD2, upd_same⟩ (fun j H' _ z => SqL.of (z.1 _ _ hlp)) ?_ ?_⟩
      · rintro j y H3 hy ⟨s3, hD3⟩
        obtain ⟨r6, hr6, q6, rfl, hq6⟩ := paired_get hws hy
        have hml := manyL_take d.rows j r6 hr6
        have hdl := deepL_mem d.rows r6 (List.mem_of_getElem? hr6)
        have hne : d.rows ≠ [] := fun z => by
          rw [z] at hr6
          cases hr6
        have hdr := deep_rows d hne
        have hrl : d.rows.length ≤ 2 := by
          cases d <;> simp [Dd.rows]
        refine ⟨rfl, lc_yes ?_⟩
        refine ⟨_, rfl, q6, r6, rfl, hq6.same s3, by omega, by omega, fun H4 s4 => ?_⟩
        refine ⟨_, s4 _ _ hD3, by rw [List.length_map, manyZ, List.length_map, List.length_take]; omega, (s3.trans s4).set nD2, ?_⟩
        rw [upd_same, take_snoc hr6]
        simp [manyZ]
      · rintro H3 ⟨s3, hD3⟩
        rw [hwl, List.take_length] at hD3
        refine ⟨D2, manyZ d.rows, rfl, SqL.of hD3, ?_⟩
        rw [manyZ_sum]
        have hD4 := s3 _ _ (s2 _ _ hD1)
        refine ⟨_, hD4, by rw [List.length_map, inZ, List.length_map, List.length_take]; omega, ((s1.trans s2).trans s3).set nD, ?_⟩
        rw [upd_same, List.take_succ_eq_append_getElem hil, (List.getElem?_eq_some_iff.mp hd).2, inZ, inZ, List.map_append, List.map_append]
        rfl
    · rintro H1 ⟨s1, hD1⟩
      rw [hlen, List.take_length] at hD1
      refine ⟨D, inZ r, rfl, SqL.of hD1, _, _, rfl, rfl, ?_⟩
      have e := inZ_sum r
      rw [hlen]
      show Q (.int (((r.length : Nat) : Int) + (inZ r).sum)) H1
      rw [e]
      exact k H1 s1
end
end Js

set_option Elab.async false
set_option linter.all false
set_option maxRecDepth 100000
set_option maxHeartbeats 2000000
namespace Js
open PySem L2
abbrev sUsed : Stmt := inClass (top 17) 1
def usedS (ds : List Dd) (k : Int) : Bool := ds.any fun d => d.names.any fun a => decide (k = (a : Int))
theorem usedS_snoc (ds : List Dd) (d : Dd) (k : Int) : usedS (ds ++ [d]) k = (usedS ds k || d.names.any fun a => decide (k = (a : Int))) := by
  simp [usedS]
mutual
theorem lay_fst : ∀ (d : Dd) (f n : Nat), (d.lay f n).map (·.1) = d.flat
  | .told _ _, _, _ => rfl
  | .take _ _ _, _, _ => rfl
  | .two _ _ _ _, _, _ => rfl
  | .wh a r, f, n => by rw [Dd.lay, List.map_cons, layR_fst r, Dd.flat]
  | .iff a r o, f, n => by rw [Dd.lay, List.map_cons, List.map_append, layR_fst r, layR_fst o, Dd.flat]
theorem layR_fst : ∀ (r : List Dd) (f n : Nat), (layR r f n).map (·.1) = flatR r
  | [], _, _ => rfl
  | d :: r, f, n => by rw [layR, List.map_append, lay_fst d, layR_fst r, flatR]
end
def cnt (S : Int → Bool) (l : List Nat) : Nat := (l.filter fun (j : Nat) => S (j : Int)).length
theorem cnt_le (S : Int → Bool) (l : List Nat) : cnt S l ≤ l.length := List.length_filter_le _ _
theorem cnt_add (S : Int → Bool) (k : Nat) : ∀ (l : List Nat), l.Nodup → k ∈ l → cnt (fun j => S j || decide (j = (k : Int))) l = if S (k : Int) = true then cnt S l else cnt S l + 1 := by
  have out : ∀ (l : List Nat), k ∉ l → cnt (fun j => S j || decide (j = (k : Int))) l = cnt S l := by
    intro l hk
    unfold cnt
    congr 1
    apply List.filter_congr
    intro x hx
    have : ¬ ((x : Int) = (k : Int)) := fun z => hk (by have : x = k := by omega
                                                        rw [← this]; exact hx)
    simp [this]
  intro l hn hk
  induction l with
  | nil => cases hk
  | cons x l ih =>
    have hn' := List.nodup_cons.mp hn
    by_cases hx : x = k
    · subst hx
      have e := out l hn'.1
      unfold cnt at e ⊢
      simp only [List.filter_cons]
      by_cases hs : S (x : Int) = true
      · rw [if_pos hs]
        simp only [hs, Bool.true_or, if_true, List.length_cons]
        rw [e]
      · rw [if_neg hs]
        have hs' : S (x : Int) = false := by simpa using hs
        simp only [hs', Bool.false_or, decide_true, if_true, List.length_cons]
        rw [e]
        simp
    · have hk' : k ∈ l := by
        rcases List.mem_cons.mp hk with h | h
        · exact absurd h.symm hx
        · exact h
      have e := ih hn'.2 hk'
      have hne : ¬ ((x : Int) = (k : Int)) := by omega
      unfold cnt at e ⊢
      simp only [List.filter_cons, hne, decide_false, Bool.or_false]
      by_cases hs : S (x : Int) = true
      · simp only [hs, if_true, List.length_cons]
        rw [e]
        split <;> rfl
      · have hs' : S (x : Int) = false := by simpa using hs
        simp only [hs', Bool.false_eq_true, if_false]
        rw [e]
theorem sqt_kb {K : PySem.W.Frag} {S : Addr} {H H' : Hp} (k : KB S H H') (h1 : ∀ xs, H S ≠ some (.tup xs)) (h2 : ∀ o xs, H S ≠ some (.frz o (.tup xs))) {a : Addr} {xs : List V} (h : SqT K H a xs) : SqT K H' a xs :=
  h.elim (fun h => .inl (h.elim (fun h => .inl (k _ _ (fun z => by rw [z] at h; exact h1 _ h) h)) fun ⟨o, h⟩ => .inr ⟨o, k _ _ (fun z => by rw [z] at h; exact h2 _ _ h) h⟩)) fun h => .inr h
def spUsed (K : PySem.W.Frag) (C CP : Addr) : Sp := fun vs H Q _ => ∃ a r, vs = [.ref a] ∧ PgAt K C CP H a r ∧ ∀ (p : Addr) (us : List Int) (H' : Hp), Same H H' → SqT K H' p (us.map V.int) → us.Pairwise (· < ·) → (∀ k : Int, k ∈ us ↔ usedS (flatR r) k = true) → us.length ≤ 10 → Q (.ref p) H'
section
variable {P : Program} {w : World} {K : PySem.W.Frag} {mg : Str → Option Value} {base : Heap} {C CP : Addr}
theorem scUs : FnScope ["self", "found", "deed", "ways", "name"] ["self"] (defScope sUsed) := ⟨rfl, rfl, rfl, by decide +kernel, rfl, by decide +kernel, by decide +kernel⟩
theorem ok_used {f : Addr} {fd : FuncData} (F : Fun K "used" "Program.used" sUsed f fd) (TP : TxtP K mg CP) (ms : mg "set" = none) (mt : mg "tuple" = none) (mso : mg "sorted" = none) (DN : Def P w K mg base "names_in" 1 ["deed"] (spNamesIn K C)) : FnOk P w K mg base CX0 2 f fd ["self"] (spUsed K C CP) := by
  refine F.ok scUs (fun vs H Q E h => ?_) (fun cdv A outer s H vs Q E hr h => ?_)
  · obtain ⟨a, r, rfl, _⟩ := h
    rfl
  · obtain ⟨a, r, rfl, ha, k⟩ := h
    have hr1 : Room 1 _ := hr
    refine ⟨_, pss_cons (ps_set (i := 1) scUs.nd rfl (Or.inl rfl) (pe_callTy0 cr_set0 (by rfl) ms PyProof.Rows.boot_set)) (pss_cons (ps_for PassesOwn.never rfl (pi_tup (pe_fld (pv 0) rfl)) (pg_tup rfl (pgs_cons (pg_name (i := 2) scUs.nd rfl (Or.inl rfl)) (pgs_cons (pg_name (i := 3) scUs.nd rfl (Or.inl rfl)) pgs_nil))) (pss_one (ps_for PassesOwn.never rfl (pi_tup (pe_def DN hr1 rfl (pa_cons (pv 2) pa_nil))) (pg_name (i := 4) scUs.nd rfl (Or.inl rfl)) (pss_one (ps_expr (pe_sadd (pv 1) (pa_cons (pv 4) pa_nil))))))) (pss_one (ps_ret (pe_callTy call_tuple_of (by rfl) mt PyProof.Rows.boot_tuple (pa_cons (pe_callB (cr_sortedSet rfl) (by rfl) mso (by decide +kernel) (pa_cons (pv 1) pa_nil)) pa_nil))))), ?_⟩
    have hsl := line4
    obtain ⟨dx, q, pl, ys, h1, h2, h3, h4⟩ := ha.ex
    have hln := Paired.length h4
    refine ⟨rfl, fun S nS => ?_⟩
    have sS := Same.new nS (o := SetO w S (fun _ => false) 0)
    have plan_i : ∀ (i : Nat) (y : V), ys[i]? = some y → ∃ x, (layR r (manyR r) 0)[i]? = some x ∧ PlE K C H y x := fun i y hy => paired_get h4 hy
    refine ⟨_, rfl, _, _, _, _, _, rfl, sS _ _ h1, TP.cl, TP.nP, pf_plan _ _, pl, rfl, ⟨_, SqT.of (sS _ _ h3)⟩, for_tup (K := K) (a := pl) (xs := ys) (fun i σ H' => ∃ x2 x3 x4 : Option V, σ = [some (.ref a), some (.ref S), x2, x3, x4] ∧ Same H H' ∧ H' S = some (SetO w S (usedS ((flatR r).take i)) (cnt (usedS ((flatR r).take i)) (List.range 10)))) ⟨none, none, none, rfl, sS, upd_same⟩ (fun i σ H1 _ z => ?_) ?_ ?_⟩
    · obtain ⟨_, _, _, _, s1, _⟩ := z
      exact SqT.of (s1 _ _ h3)
    · rintro i y σ H1 hy ⟨x2, x3, x4, rfl, s1, hS⟩
      obtain ⟨x, hx, t, wv, dv, rfl, ht, hw, hdv⟩ := plan_i i y hy
      have hfx : (flatR r)[i]? = some x.1 := by
        rw [← layR_fst r (manyR r) 0, List.getElem?_map, hx]
        rfl
      refine ⟨t, _, rfl, SqT.of (s1 _ _ ht), rfl, _, _, rfl, _, _, rfl, rfl, ?_⟩
      obtain ⟨_, _, _, _, _, _, _, _, _, _, _, hn10⟩ := names_look x.1 hdv
      refine ⟨_, rfl, dv, x.1, rfl, DAt_kt (KT.of s1) _ _ hdv, fun np H2 s2 hnp => ?_⟩
      refine ⟨np, rfl, ⟨_, hnp⟩, for_tup (K := K) (a := np) (xs := namesV x.1.names) (fun j σ H' => ∃ x4 : Option V, σ = [some (.ref a), some (.ref S), some dv, some (.ref wv), x4] ∧ Same H H' ∧ SqT K H' np (namesV x.1.names) ∧ ∃ T : Int → Bool, (∀ k, T k = (usedS ((flatR r).take i) k || (x.1.names.take j).any fun b => decide (k = (b : Int)))) ∧ H' S = some (SetO w S T (cnt T (List.range 10)))) ⟨x4, rfl, s1.trans s2, hnp, _, fun k => by simp, s2 _ _ hS⟩ (fun j σ H3 _ z => ?_) ?_ ?_⟩
      · obtain ⟨_, _, _, z, _⟩ := z
        exact z
      · rintro j v σ H3 hv ⟨x4', rfl, s3, hnp3, T, hT, hS3⟩
        obtain ⟨b, hb, rfl⟩ : ∃ b, x.1.names[j]? = some b ∧ v = .int ((b : Nat) : Int) := by
          rw [namesV, List.getElem?_map] at hv
          cases hb : x.1.names[j]? with
          | none => rw [hb] at hv; cases hv
          | some b => rw [hb] at hv; exact ⟨b, rfl, (Option.some.inj hv).symm⟩
        have hb10 := hn10 b (List.mem_of_getElem? hb)
        have hc := cnt_le T (List.range 10)
        rw [List.length_range] at hc
        refine ⟨_, rfl, ⟨S, _, _, rfl, hS3⟩, _, rfl, S, _, _, _, rfl, rfl, hS3, by show _ + 1 < 4096; omega, ?_⟩
        refine ⟨_, rfl, s3.set nS, ?_, fun z => (T z || decide (z = (b : Int))), fun z => ?_, ?_⟩
        · exact sqt_kb KB.set (fun xs z => by rw [hS3] at z; cases z) (fun o xs z => by rw [hS3] at z; cases z) hnp3
        · show (T z || decide (z = (b : Int))) = _
          rw [hT z, take_snoc hb]
          simp [Bool.or_assoc]
        · rw [upd_same, cnt_add T b (List.range 10) List.nodup_range (List.mem_range.mpr hb10)]
          rfl
      · rintro σ H3 ⟨x4', rfl, s3, hnp3, T, hT, hS3⟩
        refine ⟨_, _, _, rfl, s3, ?_⟩
        have e : T = usedS ((flatR r).take (i + 1)) := by
          funext z
          rw [hT z, take_snoc hfx, usedS_snoc, namesV, List.length_map, List.take_length]
        rw [← e]
        exact hS3
    · rintro σ H1 ⟨x2, x3, x4, rfl, s1, hS⟩
      have hl : ys.length = (flatR r).length := by rw [hln, layR_len]; rfl
      rw [hl, List.take_length] at hS
      have hc := cnt_le (usedS (flatR r)) (List.range 10)
      rw [List.length_range] at hc
      refine ⟨_, rfl, S, _, _, rfl, hS, by omega, fun ns p hp1 hp2 hp3 np => ?_⟩
      refine ⟨p, _, rfl, .inl ⟨SqL.of upd_same, fun p2 np2 => ?_⟩⟩
      exact k p2 ns _ ((s1.trans (Same.new np)).trans (Same.new np2)) (SqT.of upd_same) hp1 hp2 (by omega)
end
end Js

set_option Elab.async false
set_option linter.all false
set_option maxRecDepth 100000
set_option maxHeartbeats 2000000
namespace Js
open PySem L2
open PySem PySem.Spec PyProof.Rows L2
abbrev sLooked : Stmt := top 46
abbrev sCutDown : Stmt := top 47
abbrev sRefd44 : Stmt := top 48
/-! ### how many whiles -/
def cntW (r : List Dd) : Nat := (flatR r).countP Dd.isWh
def cntL (rs : List (List Dd)) : Nat := (rs.map cntW).sum
theorem cntW_nil : cntW [] = 0 := rfl
theorem cntW_cons (d : Dd) (r : List Dd) : cntW (d :: r) = (if d.isWh then 1 else 0) + cntL d.rows + cntW r := by
  have h : d.flat.countP Dd.isWh = (if d.isWh then 1 else 0) + cntL d.rows := by
    cases d with
    | told a t => rfl
    | take s a b => rfl
    | two s a b c => rfl
    | wh a r =>
      rw [Dd.flat, List.countP_cons]
      show cntW r + 1 = 1 + (cntW r + 0)
      omega
    | iff a r u =>
      rw [Dd.flat, List.countP_cons, List.countP_append]
      show cntW r + cntW u + 0 = 0 + (cntW r + (cntW u + 0))
      omega
  rw [cntW, flatR, List.countP_append, h]
  rfl
theorem cntW_app (a b : List Dd) : cntW (a ++ b) = cntW a + cntW b := by
  rw [cntW, flatR_ap, List.countP_append]
  rfl
theorem cntW_take (r : List Dd) (i : Nat) (d : Dd) (h : r[i]? = some d) : cntW (r.take (i + 1)) = cntW (r.take i) + ((if d.isWh then 1 else 0) + cntL d.rows) := by
  rw [List.take_add_one, h, cntW_app]
  show _ + cntW [d] = _
  rw [cntW_cons, cntW_nil, Nat.add_zero]
theorem cntL_take (rs : List (List Dd)) (i : Nat) (r : List Dd) (h : rs[i]? = some r) : cntL (rs.take (i + 1)) = cntL (rs.take i) + cntW r := by
  rw [List.take_add_one, h, cntL, cntL, List.map_append, List.sum_append]
  show _ + (cntW r + 0) = _
  rw [Nat.add_zero]
theorem lo3_names {d : Dd} (h : d.lo3 = true) : ∀ a ∈ d.names, a < 3 := by
  cases d <;> simp [Dd.lo3, Dd.names] at h ⊢ <;> omega
theorem lo3_mem {r : List Dd} (h : (flatR r).all Dd.lo3 = true) : ∀ d ∈ r, d.lo3 = true ∧ ∀ u ∈ d.rows, (flatR u).all Dd.lo3 = true := by
  induction r with
  | nil => intro d hd; cases hd
  | cons e r ih =>
    rw [flatR, List.all_append, Bool.and_eq_true] at h
    intro d hd
    rcases List.mem_cons.mp hd with rfl | hd
    · have h1 := h.1
      cases d with
      | told a t => rw [Dd.flat, List.all_cons, Bool.and_eq_true] at h1; exact ⟨h1.1, fun u hu => by cases hu⟩
      | take s a b => rw [Dd.flat, List.all_cons, Bool.and_eq_true] at h1; exact ⟨h1.1, fun u hu => by cases hu⟩
      | two s a b c => rw [Dd.flat, List.all_cons, Bool.and_eq_true] at h1; exact ⟨h1.1, fun u hu => by cases hu⟩
      | wh a r =>
        rw [Dd.flat, List.all_cons, Bool.and_eq_true] at h1
        refine ⟨h1.1, fun u hu => ?_⟩
        rw [List.mem_singleton.mp hu]
        exact h1.2
      | iff a r u =>
        rw [Dd.flat, List.all_cons, List.all_append, Bool.and_eq_true, Bool.and_eq_true] at h1
        refine ⟨h1.1, fun u hu => ?_⟩
        rcases List.mem_cons.mp hu with rfl | hu
        · exact h1.2.1
        · rw [List.mem_singleton.mp hu]
          exact h1.2.2
    · exact ih h.2 d hd
def kvD : List (Key × V) := [(.inr "told", .int 1), (.inr "first", .int 2), (.inr "second", .int 2), (.inr "pair", .int 3), (.inr "same", .int 3), (.inr "while", .int 1), (.inr "if", .int 1)]
theorem kv_at (d : Dd) : valV (mergeK [] kvD) (.inr (kindOf d)) = some (.int ((d.names.length : Nat) : Int)) := by
  cases d with
  | told a t => exact (by decide +kernel : valV (mergeK [] kvD) (.inr "told") = some (.int 1))
  | take s a b =>
    cases s with
    | false => exact (by decide +kernel : valV (mergeK [] kvD) (.inr "first") = some (.int 2))
    | true => exact (by decide +kernel : valV (mergeK [] kvD) (.inr "second") = some (.int 2))
  | two s a b c =>
    cases s with
    | false => exact (by decide +kernel : valV (mergeK [] kvD) (.inr "pair") = some (.int 3))
    | true => exact (by decide +kernel : valV (mergeK [] kvD) (.inr "same") = some (.int 3))
  | wh a r => exact (by decide +kernel : valV (mergeK [] kvD) (.inr "while") = some (.int 1))
  | iff a r u => exact (by decide +kernel : valV (mergeK [] kvD) (.inr "if") = some (.int 1))
theorem kind_wh (d : Dd) : decide (V.str (kindOf d) = V.str ("while" : Str)) = d.isWh := by
  cases d with
  | told a t => exact (by decide +kernel : decide (V.str "told" = V.str ("while" : Str)) = false)
  | take s a b =>
    cases s with
    | false => exact (by decide +kernel : decide (V.str "first" = V.str ("while" : Str)) = false)
    | true => exact (by decide +kernel : decide (V.str "second" = V.str ("while" : Str)) = false)
  | two s a b c =>
    cases s with
    | false => exact (by decide +kernel : decide (V.str "pair" = V.str ("while" : Str)) = false)
    | true => exact (by decide +kernel : decide (V.str "same" = V.str ("while" : Str)) = false)
  | wh a r => exact (by decide +kernel : decide (V.str "while" = V.str ("while" : Str)) = true)
  | iff a r u => exact (by decide +kernel : decide (V.str "if" = V.str ("while" : Str)) = false)
def spLooked (K : PySem.W.Frag) (C : Addr) (n : Nat) : Sp := fun vs H Q _ => ∃ (q L : Addr) (r : List Dd) (a : Nat), vs = [.ref q, .ref L] ∧ RAt K C H q r ∧ (flatR r).all Dd.lo3 = true ∧ deepR r < n ∧ H L = some (.lst [.int (a : Nat), .int 0]) ∧ ∀ H', KB L H H' → H' L = some (.lst [.int ((a + cntW r : Nat) : Int), .int 0]) → Q .non H'
theorem kb_nl {p q : Addr} {H H1 H2 : Hp} (s : Same H H1) (k : KB p H1 H2) : KB p H H2 := (KB.of s).trans k
theorem takesN44 {X : Cx} : L2N.Takes X (fun _ _ _ _ => False) := fun u s' x => by
  obtain ⟨_, _, _, _, _, _, _, _, _, _, _, _, _, _, _, _, h⟩ := x
  exact h.elim
theorem zc_of44 {cls : Value} {d : Option Addr} {oe : Obj} (h : L2N.Zn cls d oe) : Zc cls d oe := ⟨h.1, h.2.1⟩
/-- what the law asks of a caught TooGreat -/
structure RfC44 (K : PySem.W.Frag) (mg : Str → Option Value) (N : Addr) : Prop where
  tg : TgC K mg N
  xf : XfC K N
  xc : XcC K N
  ex : PySem.W.exmOne K (.ref N) (.ref N) = some true
  oe : PySem.W.kitOne K (.ref N) (.type "OverflowError") = some true
def spRefd44 (K : PySem.W.Frag) (C CP : Addr) : Sp := fun vs H Q _ => ∃ a r, vs = [.ref a] ∧ PgAt K C CP H a r ∧ 30 < manyR r ∧ ∀ H', Same H H' → Q (.bl true) H'
section
variable {P : Program} {w : World} {K : PySem.W.Frag} {mg : Str → Option Value} {base : Heap} {C CP N fW : Addr} {fdW : FuncData}
theorem scLd : FnScope ["_law_deeds_here", "_law_found", "_law_deed", "_law_many", "_law_inner", "_law_name_here"] ["_law_deeds_here", "_law_found"] (defScope sLooked) := ⟨rfl, rfl, rfl, by decide +kernel, rfl, by decide +kernel, by decide +kernel⟩
theorem ok_looked {f : Addr} {fd : FuncData} (F : Fun K "_law_looked" "_law_looked" sLooked f fd) (mgf : mg "_law_looked" = some (.ref f)) (b : Binds K fd ["_law_deeds_here", "_law_found"] []) (B : Blt mg) (DRs : Def P w K mg base "_law_rows" 1 ["_law_deed"] (spLRows K C)) : ∀ n, FnOk P w K mg base CX0 (n + 2) f fd ["_law_deeds_here", "_law_found"] (spLooked K C n) := by
  intro n
  induction n with
  | zero =>
    refine F.ok scLd (fun vs H Q E h => ?_) (fun cdv A outer s H vs Q E hr h => ?_)
    · obtain ⟨q, L, r, a, rfl, _⟩ := h
      rfl
    · obtain ⟨q, L, r, a, _, _, _, h, _⟩ := h
      exact absurd h (Nat.not_lt_zero _)
  | succ n G' =>
  refine F.ok scLd (fun vs H Q E h => ?_) (fun cdv A outer s H vs Q E hr h => ?_)
  · obtain ⟨q, L, r, a, rfl, _⟩ := h
    rfl
  · obtain ⟨q, L, r, a, rfl, ⟨vs, hq, hvs⟩, hlo, hdp, hL, k⟩ := h
    have hr1 : Room 1 _ := hr.mono (by omega)
    refine ⟨_, pss_one (ps_for PassesOwn.never rfl (pi_tup (pv 0)) (pg_name (i := 2) scLd.nd rfl (Or.inl rfl)) (pss_cons (ps_set (i := 3) scLd.nd rfl (Or.inl rfl) (pe_dget (Nat.lt_of_le_of_lt (Nat.add_le_add_left (by decide : 1 ≤ 64) _) hr.units) (pe_disp (pps_cons pe_str pe_int (pps_cons pe_str pe_int (pps_cons pe_str pe_int (pps_cons pe_str pe_int (pps_cons pe_str pe_int (pps_cons pe_str pe_int (pps_cons pe_str pe_int pps_nil))))))) rfl rfl (by simp) (by decide)) (pe_ix (r := rIxT K) ix_tup (pv 2) pe_int (fun _ _ => rfl)) (fun _ _ => rfl))) (pss_cons (ps_asg (pe_op op_add (pe_ix (r := rIxL K) ix_list (pv 1) pe_int (fun _ _ => rfl)) (pe_callTy call_int1 (by rfl) B.int PyProof.Rows.boot_int (pa_cons (pe_cmpR op_eq (pe_ix (r := rIxT K) ix_tup (pv 2) pe_int (fun _ _ => rfl)) pe_str (nomark _)) pa_nil))) (pg_sub (pv 1) pe_int set_list)) (pss_cons (ps_asg (pe_op op_add (pe_ix (r := rIxL K) ix_list (pv 1) pe_int (fun _ _ => rfl)) (pe_callB call_len_seq (by rfl) B.len PySem.boot_len (pa_cons (pe_lc (own := [("_law_name_here", 5)]) (g := gName 5)  rfl scLd.nd (pi_tup (pe_slice sl_tup (pv 2) (po_some pe_int) (po_some (pe_op op_add pe_int (pv 3))))) (blkOk_by (N := ["_law_deeds_here", "_law_found", "_law_deed", "_law_many", "_law_inner", "_law_name_here"]) (sc := defScope sLooked) (by decide +kernel)) (fun _ _ _ _ _ => (pg_name (i := 5) scLd.nd rfl (Or.inl rfl))) (fun _ _ _ _ _ => (pts_one (pt_cmpR op_gt (pv 5) pe_int (nomark _)))) (fun _ _ _ _ _ => (pv 5))) pa_nil))) (pg_sub (pv 1) pe_int set_list)) (pss_one (ps_for PassesOwn.never rfl (pi_list (pe_def DRs hr1 rfl (pa_cons (pv 2) pa_nil))) (pg_name (i := 4) scLd.nd rfl (Or.inl rfl)) (pss_one (ps_expr (pe_call G' hr rfl mgf F.kp b .nil pass0 (pa_cons (pv 4) (pa_cons (pv 1) pa_nil))))))))))), ?_⟩
    have hsl := line4
    have hlen := DsAt.length r vs hvs
    refine ⟨_, rfl, q, rfl, ⟨_, hq⟩, for_tup (K := K) (a := q) (xs := vs) (fun i σ H' => ∃ x2 x3 x4 : Option V, σ = [some (.ref q), some (.ref L), x2, x3, x4, none] ∧ KB L H H' ∧ H' L = some (.lst [.int ((a + cntW (r.take i) : Nat) : Int), .int 0])) ⟨none, none, none, rfl, KB.refl L H, by rw [List.take_zero]; exact hL⟩ (fun i σ H1 _ z => ?_) ?_ ?_⟩
    · obtain ⟨_, _, _, _, kb, _⟩ := z
      exact sqt_kt (kb.kt hL) hq
    · rintro i v σ H1 hv ⟨x2, x3, x4, rfl, k1, hL1⟩
      obtain ⟨d, hd, hdv⟩ := DsAt.get r vs i v hvs hv
      obtain ⟨hl3, hlr⟩ := lo3_mem hlo d (List.mem_of_getElem? hd)
      have hln := lo3_names hl3
      have hdd := deepR_mem r d (List.mem_of_getElem? hd)
      have kt1 := k1.kt hL
      have hdv1 := DAt_kt kt1 d v hdv
      have ec := cntW_take r i d hd
      obtain ⟨dp, its, m, rfl, hp, _, hm, hn, hl3, hm1, hm2, _⟩ := names_look d hdv1
      have em : m = d.names.length := by
        have := congrArg List.length hn
        rw [List.length_take, namesV, List.length_map] at this
        omega
      subst em
      refine fun D nD => ⟨upd_same, kvD, rfl, by decide, ?_⟩
      have s2 : Same H1 (upd (upd H1 D (.dK [])) D (.dK (mergeK [] kvD))) := fun b o h => by
        rw [upd_ne (ne_of_none h nD), upd_ne (ne_of_none h nD)]
        exact h
      have e2 : (upd (upd H1 D (.dK [])) D (.dK (mergeK [] kvD))) D = some (.dK (mergeK [] kvD)) := upd_same
      revert s2 e2
      generalize upd (upd H1 D (.dK [])) D (.dK (mergeK [] kvD)) = H2
      intro s2 e2
      have hp2 := sqt_kt (KT.of s2) hp
      have hL2 := s2 _ _ hL1
      refine ⟨_, rfl, dp, _, 0, _, rfl, rfl, hp2, at0 _ _, D, _, rfl, .inl ⟨_, .inr (kindOf d), .inl e2, rfl, (kv_at d).symm⟩, ?_⟩
      refine ⟨_, rfl, L, _, 0, _, rfl, rfl, SqL.of hL2, rfl, _, rfl, dp, _, 0, _, rfl, rfl, hp2, at0 _ _, rfl, .inr ⟨_, rfl, _, _, rfl, rfl, ?_⟩⟩
      rw [kind_wh]
      refine ⟨_, rfl, L, _, 0, 0, rfl, rfl, hL2, rfl, ?_⟩
      have k3 := KB.set (p := L) (H := H2) (o := .lst ([V.int ((a + cntW (r.take i) : Nat) : Int), V.int 0].set 0 ((fun i j => V.int (i + j)) ((a + cntW (r.take i) : Nat) : Int) (if d.isWh = true then 1 else 0))))
      have hL3 : (upd H2 L (.lst ([V.int ((a + cntW (r.take i) : Nat) : Int), V.int 0].set 0 ((fun i j => V.int (i + j)) ((a + cntW (r.take i) : Nat) : Int) (if d.isWh = true then 1 else 0))))) L = some (.lst [.int ((a + cntW (r.take i) + (if d.isWh then 1 else 0) : Nat) : Int), .int 0]) := by
        rw [upd_same]
        cases d.isWh <;> rfl
      revert k3 hL3
      generalize upd H2 L (.lst ([V.int ((a + cntW (r.take i) : Nat) : Int), V.int 0].set 0 ((fun i j => V.int (i + j)) ((a + cntW (r.take i) : Nat) : Int) (if d.isWh = true then 1 else 0)))) = H3
      intro k3 hL3
      have hp3 := sqt_kt (k3.kt hL2) hp2
      refine ⟨_, rfl, L, _, 1, _, rfl, rfl, SqL.of hL3, rfl, ?_⟩
      refine ⟨_, rfl, _, rfl, _, rfl, _, _, rfl, rfl, _, rfl, dp, _, rfl, hp3, ?_, fun sl nsl => ?_⟩
      · rintro ⟨h0, _⟩
        have e : HT.sIx (its.length + 1) 0 (some 1) = 1 := by
          show min 1 (its.length + 1) = 1
          omega
        rw [List.length_cons, e] at h0
        cases h0
      rw [cut1n _ _ _ hm, hn]
      have s4 := Same.new nsl (o := .tup (namesV d.names))
      have e4 : (upd H3 sl (.tup (namesV d.names))) sl = some (.tup (namesV d.names)) := upd_same
      revert s4 e4
      generalize upd H3 sl (.tup (namesV d.names)) = H4
      intro s4 e4
      refine ⟨sl, rfl, ⟨_, SqT.of e4⟩, fun D5 nD5 => lc_tup (K := K) (a := sl) (xs := namesV d.names) (fun j H' => Same H4 H' ∧ H' D5 = some (.lst [])) ⟨Same.new nD5, upd_same⟩ (fun j H' _ z => SqT.of (z.1 _ _ e4)) ?_ ?_⟩
      · rintro j v H5 hv ⟨s5, hD5⟩
        rw [namesV, List.getElem?_map] at hv
        obtain ⟨nm, hnm, rfl⟩ := Option.map_eq_some_iff.mp hv
        have := hln nm (List.mem_of_getElem? hnm)
        refine ⟨rfl, _, rfl, _, _, rfl, rfl, _, rfl, ?_⟩
        exact iteF' (decide_eq_false (by omega)) ⟨s5, hD5⟩
      rintro H5 ⟨s5, hD5⟩
      have hL5 := s5 _ _ (s4 _ _ hL3)
      refine ⟨D5, [], rfl, .inl (SqL.of hD5), _, _, rfl, rfl, ?_⟩
      refine ⟨_, rfl, L, _, 1, 1, rfl, rfl, hL5, rfl, ?_⟩
      have k6 := KB.set (p := L) (H := H5) (o := .lst ([V.int ((a + cntW (r.take i) + (if d.isWh then 1 else 0) : Nat) : Int), V.int 0].set 1 ((fun i j => V.int (i + j)) 0 ((([] : List V).length : Nat) : Int))))
      have hL6 : (upd H5 L (.lst ([V.int ((a + cntW (r.take i) + (if d.isWh then 1 else 0) : Nat) : Int), V.int 0].set 1 ((fun i j => V.int (i + j)) 0 ((([] : List V).length : Nat) : Int))))) L = some (.lst [.int ((a + cntW (r.take i) + (if d.isWh then 1 else 0) : Nat) : Int), .int 0]) := upd_same
      revert k6 hL6
      generalize upd H5 L (.lst ([V.int ((a + cntW (r.take i) + (if d.isWh then 1 else 0) : Nat) : Int), V.int 0].set 1 ((fun i j => V.int (i + j)) 0 ((([] : List V).length : Nat) : Int)))) = H6
      intro k6 hL6
      have k16 : KB L H1 H6 := ((KB.of s2).trans k3).trans ((KB.of (s4.trans s5)).trans k6)
      generalize hb0 : a + cntW (r.take i) + (if d.isWh then 1 else 0) = b0 at hL6
      refine ⟨_, rfl, _, d, rfl, DAt_kt (k16.kt hL1) d _ hdv1, fun lp ws H7 s7 nlp hlp hws => ?_⟩
      have hwl := Paired.length hws
      have nlL : lp ≠ L := fun e => by rw [e, hL6] at nlp; cases nlp
      refine ⟨lp, rfl, ⟨_, SqL.of hlp⟩, for_list (K := K) (a := lp) (xs := ws) (fun j σ H' => ∃ x4 : Option V, σ = [some (.ref q), some (.ref L), some (.ref dp), some (.int ((d.names.length : Nat) : Int)), x4, none] ∧ KB L H7 H' ∧ H' L = some (.lst [.int ((b0 + cntL (d.rows.take j) : Nat) : Int), .int 0])) ⟨x4, rfl, KB.refl L H7, s7 _ _ hL6⟩ (fun j σ H' _ z => by obtain ⟨_, _, h, _⟩ := z; exact SqL.of (h _ _ nlL hlp)) ?_ ?_⟩
      · rintro j y σ H8 hy ⟨y4, rfl, k8, hL8⟩
        obtain ⟨r6, hr6, q6, rfl, hq6⟩ := paired_get hws hy
        have hdl := deepL_mem d.rows r6 (List.mem_of_getElem? hr6)
        have hne : d.rows ≠ [] := fun z => by
          rw [z] at hr6
          cases hr6
        have hdr := deep_rows d hne
        refine ⟨_, rfl, _, rfl, q6, L, r6, b0 + cntL (d.rows.take j), rfl, hq6.kt (k8.kt (s7 _ _ hL6)), hlr r6 (List.mem_of_getElem? hr6), by omega, hL8, fun H9 k9 hL9 => ?_⟩
        refine ⟨_, rfl, k8.trans k9, ?_⟩
        rw [cntL_take d.rows j r6 hr6, ← Nat.add_assoc]
        exact hL9
      · rintro σ H8 ⟨y4, rfl, k8, hL8⟩
        refine ⟨_, _, _, rfl, k1.trans (k16.trans ((KB.of s7).trans k8)), ?_⟩
        rw [List.take_of_length_le (by omega)] at hL8
        rw [ec, show a + (cntW (r.take i) + ((if d.isWh then 1 else 0) + cntL d.rows)) = b0 + cntL d.rows by omega]
        exact hL8
    · rintro σ H1 ⟨x2, x3, x4, rfl, k1, hL1⟩
      refine k H1 k1 ?_
      rw [List.take_of_length_le (by omega)] at hL1
      exact hL1
theorem scRf44 : FnScope ["_law_coded", "e"] ["_law_coded"] (defScope sRefd44) := ⟨rfl, rfl, rfl, by decide +kernel, rfl, by decide +kernel, by decide +kernel⟩
theorem ok_refd44 {f : Addr} {fd : FuncData} (F : Fun K "_law_refused" "_law_refused" sRefd44 f fd) (T : Txt K mg C) (G : RfC44 K mg N) (GW : FnOk P w K mg base (L2N.CX P w) 16 fW fdW ["program"] (spSmallX K C CP N)) (mgW : mg "small" = some (.ref fW)) (kW : PySem.W.keepIn K (.ref fW) = true) (bW : Binds K fdW ["program"] []) : FnOk P w K mg base CX0 17 f fd ["_law_coded"] (spRefd44 K C CP) := by
  refine F.ok scRf44 (fun vs H Q E h => ?_) (fun cdv A outer s H vs Q E hr h => ?_)
  · obtain ⟨a, r, rfl, _⟩ := h
    rfl
  · obtain ⟨a, r, rfl, ha, hm, k⟩ := h
    have hr16 : Room 16 _ := hr
    refine ⟨_, PSs.nox (pss_cons (L2N.ps_try_as (i := 1) (tb := fun W => tDrop (tCallS (spSmallX K C CP N) (WE W) (tCons (tVar 0) tNil))) (Wout := fun _ _ _ _ => False) rfl rfl scRf44.nd rfl rfl ⟨rfl, by decide, Or.inl G.tg.mgN⟩ takesN44 (fun W pn xe tk _ => (pss_one (ps_expr (by exact (pe_callS GW hr16 rfl mgW kW bW (fun σ => L2N.passAt tk σ) (by exact (pa_cons (pv 0) pa_nil))))))) (fun a oe cls d pn hz hf => (pss_one (ps_ret (pe_and (pe_callB (call_isX G.xc (zc_of44 hz) hf) (by rfl) T.isi PyProof.Rows.boot_isinstance (pa_cons (pv 1) (pa_cons (pe_bltn (v := .ty "OverflowError") rfl G.tg.mOE PyProof.Rows.Boot.«OverflowError» rfl) pa_nil))) (pe_one (pe_cmpR op_eq (pe_xf G.xf G.tg.bd (zc_of44 hz) hf (pv 1)) pe_int (nomark _)))))))) (pss_one (ps_ret pe_bl))), ?_⟩
    refine ⟨_, rfl, a, r, rfl, ha, fun h => absurd h (by omega), fun _ d H1 s1 hd => ?_⟩
    refine ⟨true, G.ex, fun _ a0 _ => ?_, fun q => Bool.noConfusion q⟩
    refine ⟨_, rfl, _, _, true, d, _, rfl, .ty "OverflowError", rfl, rfl, hd, G.oe, true, rfl, iteT ?_⟩
    refine ⟨_, rfl, rfl, rfl, d, _, .int ((30 : Nat) : Int), rfl, hd, rfl, rfl, ?_⟩
    exact k _ s1
end
end Js

set_option Elab.async false
set_option linter.all false
set_option maxRecDepth 100000
set_option maxHeartbeats 2000000
namespace Js
open PySem L2
def cThing : List Nat := [84, 104, 105, 110, 103, 32]
theorem c_Thing : (("Thing " : Str)) = tx cThing := by decide +kernel
def spRepr (C : Addr) : Sp := fun vs H Q _ => ∃ a t, vs = [.ref a] ∧ Th C H a t ∧ t.size ≤ 4000 ∧ ∀ H', Same H H' → Q (.str (tx (cThing ++ t.codes))) H'
section
variable {P : Program} {w : World} {K : PySem.W.Frag} {mg : Str → Option Value} {base : Heap} {C fI : Addr} {fdI : FuncData}
theorem scRp : FnScope ["self"] ["self"] (defScope sRepr) := ⟨rfl, rfl, rfl, by decide +kernel, rfl, by decide +kernel, by decide +kernel⟩
theorem ok_repr {f : Addr} {fd : FuncData} (F : Fun K "__repr__" "Thing.__repr__" sRepr f fd) (B : Blt mg) (S : Spc P w K mg base C "__str__" 2 ["self"] (spStr C)) : FnOk P w K mg base CX0 5 f fd ["self"] (spRepr C) := by
  refine F.ok scRp (fun vs H Q E h => ?_) (fun cdv A outer s H vs Q E hr h => ?_)
  · obtain ⟨a, t, rfl, _⟩ := h
    rfl
  · obtain ⟨a, t, rfl, ha, hz, k⟩ := h
    refine ⟨_, pss_one (ps_ret (pe_joined (.cons pe_str (.cons (pe_fmt (pe_callTy (call_strT S hr) (by rfl) B.str PyProof.Rows.boot_str (pa_cons (pv 0) pa_nil))) .nil)))), ?_⟩
    have hsl := line4
    refine ⟨_, rfl, (by decide +kernel), _, rfl, a, t, rfl, ha, hz, fun H' s1 => .inl ⟨_, rfl, ?_, _, rfl, ?_, ?_⟩⟩
    · rw [Tr.text_len]
      omega
    · have e : Str.empty ++ ("Thing " : Str) = tx cThing := by decide +kernel
      rw [e, tx_text, tx_append, tx_len, List.length_append, Tr.codes_len]
      simp [cThing]
      omega
    · have e : Str.empty ++ ("Thing " : Str) = tx cThing := by decide +kernel
      have q := k H' s1
      show Q (.str (Str.empty ++ ("Thing " : Str) ++ t.text)) H'
      rw [e, tx_text, tx_append]
      exact q
end
section
open PyProof.Rows
variable {X : Cx} {C : Addr}
theorem call_reprT (S : Spc X.prog X.w X.K X.mg X.base C "__repr__" 5 ["self"] (spRepr C)) (hr : Room 6 X.A) : CallR X (.builtin "repr") (fun xs H Q => ∃ a t, xs = [.ref a] ∧ Th C H a t ∧ t.size ≤ 4000 ∧ ∀ H', Same H H' → Q (.str (tx (cThing ++ t.codes))) H') := by
  obtain ⟨f, fd, ow, F, hb⟩ := S
  refine CallR.imp (call_reprOwn ow F hb hr (pass0)) fun xs H Q h => ?_
  obtain ⟨a, t, rfl, ha, hz, q⟩ := h
  obtain ⟨dx, f1, g1, h1⟩ := ha.obj
  exact ⟨a, dx, _, rfl, h1, a, t, rfl, ha, hz, fun H' s => ⟨_, rfl, q H' s⟩⟩
/-- f(k = v, ..), no value by its place -/
theorem pe_callN0 {CX : CXT} {k : Nat} {f : Addr} {fd : FuncData} {ps ks : List Str} {sp : Sp} {E : XK} {x : Str} {p pos : Pos} {kws : List Keyword} {tk : TA} {g : List Value → List Value → List Value} {gV : List V → List V → List V}
    (F : FnOk X.prog X.w X.K X.mg X.base CX k f fd ps sp) (hr : Room k X.A) (hg : Gl X x) (hm : X.mg x = some (.ref f)) (hk : PySem.W.keepIn X.K (.ref f) = true) (hb : KBn X.K fd ps 0 ks g gV) (hx : Passes CX X E)
    (hkw : PK X kws tk) (hall : (backToKw pos (keywordEach kws X.env)).all (·.1.isSome) = true := by rfl) (hks : (backToKw pos (keywordEach kws X.env)).filterMap (·.1) = ks := by rfl)
    (hdb : (x == ("__debug__" : Str)) = false := by decide) (hpl : ((backTo pos (starEach [] X.env)).any (·.1) || (backToKw pos (keywordEach kws X.env)).any (·.1.isNone)) = false := by rfl) :
    PE X (.Call (.Name x p) [] kws pos) (tCallN 0 ks.length sp gV E tNil tk) := by
  refine ⟨fun pins s σ H Q I h => ?_⟩
  refine wpAny_Call_Name_kw (ld_glob I hg hm ?_ hdb)
  refine PySem.W.callWith_KW0 (h₀ := X.base) I.ok.mod.kin hk hall (thn (hkw.run pos pins s σ H _ I h) fun ws s2 hh => ?_) hpl
  obtain ⟨zs, H2, I2, rz, l1, l2, q2⟩ := hh
  refine ⟨I2.kIn, ?_⟩
  rw [hks]
  exact run_fnN (us := []) (vs := []) F hr hb hx I2 .nil rz l1 l2 q2
end
/-- a def that is called by one keyword -/
def DefK (P : Program) (w : World) (K : PySem.W.Frag) (mg : Str → Option Value) (base : Heap) (x : Str) (k : Nat) (ps ks : List Str) (sp : Sp) : Prop :=
  ∃ f fd, mg x = some (.ref f) ∧ PySem.W.keepIn K (.ref f) = true ∧ FnOk P w K mg base CX0 k f fd ps sp ∧ KBn K fd ps 0 ks (fun _ ws => ws) (fun _ zs => zs)
theorem pe_defK {X : Cx} {x : Str} {p pos : Pos} {k : Nat} {ps ks : List Str} {sp : Sp} {kws : List Keyword} {tk : TA} (D : DefK X.prog X.w X.K X.mg X.base x k ps ks sp) (hr : Room k X.A) (hg : Gl X x) (hkw : PK X kws tk)
    (hall : (backToKw pos (keywordEach kws X.env)).all (·.1.isSome) = true := by rfl) (hks : (backToKw pos (keywordEach kws X.env)).filterMap (·.1) = ks := by rfl)
    (hdb : (x == ("__debug__" : Str)) = false := by decide) (hpl : ((backTo pos (starEach [] X.env)).any (·.1) || (backToKw pos (keywordEach kws X.env)).any (·.1.isNone)) = false := by rfl) :
    PE X (.Call (.Name x p) [] kws pos) (tCallN 0 ks.length sp (fun _ zs => zs) E0 tNil tk) := by
  obtain ⟨f, fd, hm, hk, F, hb⟩ := D
  exact pe_callN0 F hr hg hm hk hb pass0 hkw hall hks hdb hpl
end Js

set_option Elab.async false
set_option linter.all false
set_option maxRecDepth 100000
set_option maxHeartbeats 2000000
/-! defs called by keywords in the order turned about; defs with defaults -/
namespace Js
open PySem PySem.Spec PyProof.Rows L2
theorem vals_rev {zs : List V} {ws : List Value} (h : Vals zs ws) : Vals zs.reverse ws.reverse := by
  induction h with
  | nil => exact .nil
  | cons h t ih =>
    rw [List.reverse_cons, List.reverse_cons]
    exact Vals.append ih (.cons h .nil)
def DefV (P : Program) (w : World) (K : PySem.W.Frag) (mg : Str → Option Value) (base : Heap) (x : Str) (k : Nat) (ps ks : List Str) (sp : Sp) : Prop :=
  ∃ f fd, mg x = some (.ref f) ∧ PySem.W.keepIn K (.ref f) = true ∧ FnOk P w K mg base CX0 k f fd ps sp ∧ KBn K fd ps 0 ks (fun _ ws => ws.reverse) (fun _ zs => zs.reverse)
theorem pe_defV {X : Cx} {x : Str} {p pos : Pos} {k : Nat} {ps ks : List Str} {sp : Sp} {kws : List Keyword} {tk : TA} (D : DefV X.prog X.w X.K X.mg X.base x k ps ks sp) (hr : Room k X.A) (hg : Gl X x) (hkw : PK X kws tk)
    (hall : (backToKw pos (keywordEach kws X.env)).all (·.1.isSome) = true := by rfl) (hks : (backToKw pos (keywordEach kws X.env)).filterMap (·.1) = ks := by rfl)
    (hdb : (x == ("__debug__" : Str)) = false := by decide) (hpl : ((backTo pos (starEach [] X.env)).any (·.1) || (backToKw pos (keywordEach kws X.env)).any (·.1.isNone)) = false := by rfl) :
    PE X (.Call (.Name x p) [] kws pos) (tCallN 0 ks.length sp (fun _ zs => zs.reverse) E0 tNil tk) := by
  obtain ⟨f, fd, hm, hk, F, hb⟩ := D
  exact pe_callN0 F hr hg hm hk hb pass0 hkw hall hks hdb hpl
section
variable {K : PySem.W.Frag} {x qual : Str} {params : Arguments} {body : List Stmt} {scope : Scope} {dvs : List V} {kws : List (Str × V)} {f : Addr} {fd : FuncData} {ps : List Str}
theorem kb_dfltV (F : FunD K x qual params body scope dvs kws f fd) (ks : List Str) (hd : dvs ≠ [])
    (h : ∀ (T : Addr) (kV doc pm : Value) (an : Option Addr) (cdv ct : Value) (its ws : List Value), its.length = dvs.length → ws.length = ks.length →
      ∃ k, bindArgs (PySem.W.fnOf x qual params body scope (.ref T) kV doc pm an cdv ct) ⟨[], ks.zip ws⟩ = seqItems? (.ref T) >>= k ∧ k (some its.toArray) = pure (ps.zip ws.reverse)) : KBn K fd ps 0 ks (fun _ ws => ws.reverse) (fun _ zs => zs.reverse) := by
  obtain ⟨oc, od, dV, kV, doc, pm, an, cdv, ct, osl, rfl, lk, hcd, hD, hK⟩ := F.ex
  rcases hD with ⟨e, _⟩ | ⟨_, T, o, its, m, rfl, lT, oT, rT⟩
  · exact absurd e hd
  · refine ⟨fun s us ws X l1 l2 => ?_, fun r1 r2 => vals_rev r2⟩
    cases List.length_eq_zero_iff.mp l1
    obtain ⟨k, e1, e2⟩ := h T kV doc pm an cdv ct its ws rT.length.symm l2
    refine BindsTo.of_looks fun M => ?_
    rw [e1]
    exact looks_items X lT oT (.of_pure e2)
end
/-- a def with its defaults: what it is called with, and what fills up -/
structure DefD (P : Program) (w : World) (K : PySem.W.Frag) (mg : Str → Option Value) (base : Heap) (x : Str) (k : Nat) (ps : List Str) (dvs : List V) (sp : Sp) : Prop where
  ex : ∃ f fd ds, mg x = some (.ref f) ∧ PySem.W.keepIn K (.ref f) = true ∧ FnOk P w K mg base CX0 k f fd ps sp ∧ Binds K fd ps ds ∧ Vals dvs ds
theorem pe_defD {X : Cx} {x : Str} {p pos : Pos} {k : Nat} {ps : List Str} {dvs : List V} {sp : Sp} {e : Expr} {es : List Expr} {t : TA} (D : DefD X.prog X.w X.K X.mg X.base x k ps dvs sp) (hr : Room k X.A) (hg : Gl X x) (ha : PA X (e :: es) t)
    (hdb : (x == ("__debug__" : Str)) = false := by decide) (he : starEach (e :: es) X.env = (false, eval e X.env) :: starEach es X.env := by rfl) (hpl : (backTo pos (starEach es X.env)).any (·.1) = false := by rfl) :
    PE X (.Call (.Name x p) (e :: es) [] pos) (tCall sp dvs E0 t) := by
  obtain ⟨f, fd, ds, hm, hk, F, hb, hd⟩ := D.ex
  exact pe_call F hr hg hm hk hb hd pass0 ha hdb he hpl
end Js

set_option Elab.async false
set_option linter.all false
set_option maxRecDepth 100000
set_option maxHeartbeats 2000000
namespace Js
open PySem L2
open PySem PySem.Spec PyProof.Rows L2
abbrev sGd44 : Stmt := top 49
theorem pe_mthPB {X : Cx} {CP : Addr} {x : Str} {k : Nat} {ps : List Str} {sp : Sp} {o : Expr} {ta : TE} {apos pos : Pos} {pl : Sem Bool} (M : Mth X.prog X.w X.K X.mg X.base CP x k ps sp) (T : TxtP X.K X.mg CP) (hr : Room k X.A) (he : PE X o ta)
    (ht : eval (.Call (.Attribute o x apos) [] [] pos) X.env = (do
      let ov ← eval o X.env
      standAt apos.atName
      let (f, first) ← holding [ov] (getMethod ov x pl)
      callWith pos f first (backTo pos (starEach [] X.env)) (backToKw pos (keywordEach [] X.env))) := by rfl) :
    PE X (.Call (.Attribute o x apos) [] [] pos) (tMeth CP x sp [] E0 ta tNil) := by
  obtain ⟨f, fd, hm, F, hb⟩ := M
  exact pe_meth0 he T.cl hm F hr hb .nil pass0 ht
theorem n_ud : ¬ (("used" : Str) = "deeds") := by decide +kernel
theorem n_up : ¬ (("used" : Str) = "plan") := by decide +kernel
theorem pf_used (q pl : Addr) : (pf q pl).lookup ("used" : Str) = none := by
  unfold pf
  rw [lookup_putF, if_neg n_up, lookup_putF, if_neg n_ud]
  rfl
theorem used_lo {r : List Dd} (h : (flatR r).all Dd.lo3 = true) {k : Int} (hk : usedS (flatR r) k = true) : k = 0 ∨ k = 1 ∨ k = 2 := by
  unfold usedS at hk
  obtain ⟨d, hd, hk⟩ := List.any_eq_true.mp hk
  obtain ⟨a, ha, hk⟩ := List.any_eq_true.mp hk
  have := lo3_names (List.all_eq_true.mp h d hd) a ha
  have := of_decide_eq_true hk
  omega
theorem in012 {k : Int} (h : k = 0 ∨ k = 1 ∨ k = 2) : inV (.int k) [.int 0, .int 1, .int 2] = true := by
  rcases h with rfl | rfl | rfl <;> decide +kernel
theorem all_rep44 (n : Nat) : (List.replicate n true).all id = true := by
  rw [List.all_eq_true]
  intro b hb
  rw [(List.mem_replicate.mp hb).2]
  rfl
def spCutDn (K : PySem.W.Frag) (C : Addr) : Sp := fun vs H Q _ => ∃ (q : Addr) (r : List Dd) (m : Nat), vs = [.ref q, .int (m : Nat)] ∧ RAt K C H q r ∧ deepR r ≤ 8 ∧ manyR r ≤ 4000 ∧ ∀ q' r' H', Same H H' → RAt K C H' q' r' → deepR r' ≤ deepR r → manyR r' ≤ m → Q (.ref q') H'
def spGd44 (K : PySem.W.Frag) (C CP : Addr) : Sp := fun vs H Q _ => ∃ (q : Addr) (r : List Dd), vs = [.ref q] ∧ RAt K C H q r ∧ deepR r ≤ 8 ∧ manyR r ≤ 30 ∧ ∀ H', Same H H' → Q (.bl true) H'
section
variable {P : Program} {w : World} {K : PySem.W.Frag} {mg : Str → Option Value} {base : Heap} {C CP fP : Addr} {fdP : FuncData}
theorem scCd : FnScope ["_law_deeds_here", "_law_most", "_law_found", "_law_deed"] ["_law_deeds_here", "_law_most"] (defScope sCutDown) := ⟨rfl, rfl, rfl, by decide +kernel, rfl, by decide +kernel, by decide +kernel⟩
theorem ok_cutDn {f : Addr} {fd : FuncData} (F : Fun K "_law_cut_down" "_law_cut_down" sCutDown f fd) (DSz : Def P w K mg base "_law_size" 10 ["_law_deeds_here"] (spMany K C 9)) : FnOk P w K mg base CX0 11 f fd ["_law_deeds_here", "_law_most"] (spCutDn K C) := by
  refine F.ok scCd (fun vs H Q E h => ?_) (fun cdv A outer s H vs Q E hr h => ?_)
  · obtain ⟨q, r, m, rfl, _⟩ := h
    rfl
  · obtain ⟨q, r, m, rfl, ⟨vs, hq, hvs⟩, hdp, hmn, k⟩ := h
    have hr10 : Room 10 _ := hr
    refine ⟨_, pss_cons (ps_set (i := 2) scCd.nd rfl (Or.inl rfl) (pe_tup pa_nil)) (pss_cons (ps_for PassesOwn.never rfl (pi_tup (pv 0)) (pg_name (i := 3) scCd.nd rfl (Or.inl rfl)) (pss_one (ps_if (pt_cmpR op_le (pe_def DSz hr10 rfl (pa_cons (pe_op (op_catR (C := C)) (pv 2) (pe_tup (pa_cons (pv 3) pa_nil))) pa_nil)) (pv 1) (nomark _)) (pss_one (ps_set (i := 2) scCd.nd rfl (Or.inl rfl) (pe_op (op_catR (C := C)) (pv 2) (pe_tup (pa_cons (pv 3) pa_nil))))) pss_nil))) (pss_one (ps_ret (pv 2)))), ?_⟩
    have hsl := line4
    have hlen := DsAt.length r vs hvs
    have hlm := len_many r
    refine ⟨by show 0 ≤ sizeLine; decide, fun Z nZ => ?_⟩
    have s1 := Same.new nZ (o := .tup [])
    have e1 : (upd H Z (.tup [])) Z = some (.tup []) := upd_same
    revert s1 e1
    generalize upd H Z (.tup []) = H1
    intro s1 e1
    refine ⟨_, rfl, q, rfl, ⟨_, sqt_kt (KT.of s1) hq⟩, for_tup (K := K) (a := q) (xs := vs) (fun i σ H' => ∃ (z : Addr) (u : List Dd) (x3 : Option V), σ = [some (.ref q), some (.int (m : Nat)), some (.ref z), x3] ∧ Same H H' ∧ RAt K C H' z u ∧ deepR u ≤ deepR r ∧ manyR u ≤ m ∧ manyR u ≤ manyR (r.take i)) ⟨Z, [], none, rfl, s1, ⟨[], SqT.of e1, rfl⟩, Nat.zero_le _, Nat.zero_le _, Nat.zero_le _⟩ (fun i σ H1 _ z => ?_) ?_ ?_⟩
    · obtain ⟨_, _, _, _, s, _⟩ := z
      exact sqt_kt (KT.of s) hq
    · rintro i v σ H2 hv ⟨z, u, x3, rfl, s2, hz, hud, hum, hut⟩
      obtain ⟨d, hd, hdv⟩ := DsAt.get r vs i v hvs hv
      have hdd := deepR_mem r d (List.mem_of_getElem? hd)
      have hmt := manyR_take r i d hd
      have htk : manyR (r.take (i + 1)) ≤ manyR r := by
        have := manyR_app (r.take (i + 1)) (r.drop (i + 1))
        rw [List.take_append_drop] at this
        omega
      have hdv2 := DAt_kt (KT.of s2) d v hdv
      have hum1 : manyR (u ++ [d]) = manyR u + d.many := by rw [manyR_app, many_cons, many_nil, Nat.add_zero]
      have hud1 : deepR (u ++ [d]) ≤ deepR r := by
        rw [deepR_app, show deepR [d] = d.deep from by rw [deepR, deepR, Nat.max_zero]]
        exact Nat.max_le.mpr ⟨hud, by omega⟩
      have hul := len_many u
      have htk2 : manyR (r.take (i + 1)) = manyR (r.take i) + d.many := by
        rw [List.take_add_one, hd, manyR_app]
        show _ + manyR [d] = _
        rw [many_cons, many_nil, Nat.add_zero]
      refine ⟨_, rfl, _, rfl, ?_⟩
      refine ⟨by show 1 ≤ sizeLine; decide, fun W nW => ?_⟩
      have s3 := Same.new nW (o := .tup [v])
      have e3 : (upd H2 W (.tup [v])) W = some (.tup [v]) := upd_same
      revert s3 e3
      generalize upd H2 W (.tup [v]) = H3
      intro s3 e3
      have hw : RAt K C H3 W [d] := ⟨_, SqT.of e3, ⟨_, _, rfl, DAt_kt (KT.of s3) d v hdv2, rfl⟩⟩
      refine ⟨z, W, u, [d], rfl, rfl, hz.same s3, hw, by rw [List.length_singleton]; omega, fun q4 H4 s4 hq4 => ?_⟩
      refine ⟨q4, u ++ [d], rfl, hq4, by omega, by omega, fun H5 s5 => ?_⟩
      refine ⟨_, rfl, _, _, rfl, rfl, _, rfl, ?_⟩
      by_cases hle : manyR (u ++ [d]) ≤ m
      · refine iteT' (decide_eq_true (by omega)) ?_
        have s25 := s3.trans (s4.trans s5)
        refine ⟨_, rfl, _, rfl, ?_⟩
        refine ⟨by show 1 ≤ sizeLine; decide, fun W2 nW2 => ?_⟩
        have s6 := Same.new nW2 (o := .tup [v])
        have e6 : (upd H5 W2 (.tup [v])) W2 = some (.tup [v]) := upd_same
        revert s6 e6
        generalize upd H5 W2 (.tup [v]) = H6
        intro s6 e6
        have hw2 : RAt K C H6 W2 [d] := ⟨_, SqT.of e6, ⟨_, _, rfl, DAt_kt (KT.of (s25.trans s6)) d v hdv2, rfl⟩⟩
        refine ⟨z, W2, u, [d], rfl, rfl, hz.same (s25.trans s6), hw2, by rw [List.length_singleton]; omega, fun q7 H7 s7 hq7 => ?_⟩
        exact ⟨q7, u ++ [d], _, rfl, s2.trans ((s25.trans s6).trans s7), hq7, hud1, hle, by omega⟩
      · refine iteF' (decide_eq_false (by omega)) ?_
        exact ⟨z, u, _, rfl, s2.trans (s3.trans (s4.trans s5)), hz.same (s3.trans (s4.trans s5)), hud, hum, by omega⟩
    · rintro σ H2 ⟨z, u, x3, rfl, s2, hz, hud, hum, hut⟩
      exact ⟨_, rfl, k z u H2 s2 hz hud hum⟩
theorem scGd44 : FnScope ["_law_deeds_here", "_law_coded", "_law_found", "_law_counts", "_law_name_here"] ["_law_deeds_here"] (defScope sGd44) := ⟨rfl, rfl, rfl, by decide +kernel, rfl, by decide +kernel, by decide +kernel⟩
theorem ok_gd44 {f : Addr} {fd : FuncData} (F : Fun K "_law_good" "_law_good" sGd44 f fd) (B : Blt mg) (T : Txt K mg C) (TP : TxtP K mg CP) (MP : MakerP P w K mg base C CP fP fdP) (SPL : Spc P w K mg base CP "__len__" 1 ["self"] (spPLen K C CP)) (SPE : Spc P w K mg base CP "__eq__" 21 ["self", "other"] (spPEq K C CP)) (MU : Mth P w K mg base CP "used" 2 ["self"] (spUsed K C CP)) (DSz : Def P w K mg base "_law_size" 10 ["_law_deeds_here"] (spMany K C 9)) (DLd : Def P w K mg base "_law_looked" 11 ["_law_deeds_here", "_law_found"] (spLooked K C 9)) (DSm : Def P w K mg base "small" 16 ["program"] (spSmall K C CP)) (KSm : DefV P w K mg base "small" 16 ["program"] ["program"] (spSmall K C CP)) : FnOk P w K mg base CX0 22 f fd ["_law_deeds_here"] (spGd44 K C CP) := by
  refine F.ok scGd44 (fun vs H Q E h => ?_) (fun cdv A outer s H vs Q E hr h => ?_)
  · obtain ⟨q, r, rfl, _⟩ := h
    rfl
  · obtain ⟨q, r, rfl, hq, hdp, h30, k⟩ := h
    have hr2 : Room 2 _ := hr.mono (by decide)
    have hr10 : Room 10 _ := hr.mono (by decide)
    have hr11 : Room 11 _ := hr.mono (by decide)
    have hr15 : Room 15 _ := hr.mono (by decide)
    have hr16 : Room 16 _ := hr.mono (by decide)
    have hr21 : Room 21 _ := hr
    refine ⟨_, pss_cons (ps_set (i := 1) scGd44.nd rfl (Or.inl rfl) (pe_P MP hr15 rfl (pa_cons (pv 0) pa_nil))) (pss_cons (ps_set (i := 2) scGd44.nd rfl (Or.inl rfl) (pe_def DSm hr16 rfl (pa_cons (pv 1) pa_nil))) (pss_cons (ps_if (PW.pt (pw_or (pt_not (pt_val (pe_callB (r := rIsi K) call_isi (by rfl) T.isi PyProof.Rows.boot_isinstance (pa_cons (pv 2) (pa_cons (pe_glob (v := .ref CP) rfl TP.mgP rfl) pa_nil))))) (pw_or (pt_cmpR op_gt (pe_callB (call_lenP SPL hr2) (by rfl) B.len PySem.boot_len (pa_cons (pv 2) pa_nil)) pe_int (nomark _)) (pw_or1 (pt_cmpR op_ne (pe_callB (call_lenP SPL hr2) (by rfl) B.len PySem.boot_len (pa_cons (pv 2) pa_nil)) (pe_def DSz hr10 rfl (pa_cons (pe_fld (pv 2) rfl) pa_nil)) (nomark _)))))) (pss_one (ps_ret pe_bl)) pss_nil) (pss_cons (ps_set (i := 3) scGd44.nd rfl (Or.inl rfl) (pe_lst (pa_cons pe_int (pa_cons pe_int pa_nil)))) (pss_cons (ps_expr (pe_def DLd hr11 rfl (pa_cons (pe_fld (pv 2) rfl) (pa_cons (pv 3) pa_nil)))) (pss_cons (ps_if (PW.pt (pw_or (pt_cmpR (op_neD hr.units) (pv 3) (pe_lst (pa_cons pe_int (pa_cons pe_int pa_nil))) (nomark _)) (pw_or1 (pt_not (pt_val (pe_callB (cr_all rfl) (by rfl) B.all (by decide +kernel) (pa_cons (pe_lc (own := [("_law_name_here", 4)]) (g := gName 4) (tt := tYes) rfl scGd44.nd (pi_tup (pe_mthPB MU TP hr2 (pv 2))) (blkOk_by (N := ["_law_deeds_here", "_law_coded", "_law_found", "_law_counts", "_law_name_here"]) (sc := defScope sGd44) (by decide +kernel)) (fun _ _ _ _ _ => (pg_name (i := 4) scGd44.nd rfl (Or.inl rfl))) (fun _ _ _ _ _ => pts_nil) (fun _ _ _ _ _ => (pe_cmpR (r := rIn K false) op_in_seq (pv 4) (pe_tup (pa_cons pe_int (pa_cons pe_int (pa_cons pe_int pa_nil)))) rfl))) pa_nil))))))) (pss_one (ps_ret pe_bl)) pss_nil) (pss_one (ps_ret (pe_and (pe_cmpR (op_eqTl (rcT_P SPE) hr21) (pe_def DSm hr16 rfl (pa_cons (pv 1) pa_nil)) (pv 2) (nomark _)) (pe_and (pe_cmpR (op_eqTl (rcT_P SPE) hr21) (pe_defV KSm hr16 rfl (pk_cons (pv 1) pk_nil)) (pv 2) (nomark _)) (pe_one (pe_cmpR (op_eqTl (rcT_P SPE) hr21) (pv 1) (pe_P MP hr15 rfl (pa_cons (pv 0) pa_nil)) (nomark _)))))))))))), ?_⟩
    have hsl := line4
    refine ⟨_, rfl, q, r, rfl, hq, hdp, by omega, fun c H1 s1 _ hc => ?_⟩
    have fs := fi_small (plan_n10 hc) h30
    have hsd := small_deep r
    refine ⟨_, rfl, c, r, rfl, hc, h30, fun z H2 s2 hz => ?_⟩
    have hc2 := hc.same s2
    obtain ⟨dx, q2, pl, ys, hpa, hpq, _, _⟩ := hz.ex
    have hzm := fs.le
    refine ⟨_, rfl, _, _, _, _, true, rfl, ClsV.own CP, .base (.ins hpa TP.cl TP.ca TP.cn TP.ct TP.cm), kit_self _ _, _, rfl, iteF ?_⟩
    refine ⟨_, rfl, z, smallR r, rfl, hz, _, _, rfl, rfl, _, rfl, iteF' (decide_eq_false (by omega)) ?_⟩
    refine ⟨_, rfl, z, smallR r, rfl, hz, ?_⟩
    refine ⟨_, rfl, _, _, _, _, _, rfl, hpa, TP.cl, TP.nD, pf_deeds _ _, q2, smallR r, rfl, hpq, by omega, by omega, fun H3 s3 => ?_⟩
    refine ⟨rfl, _, rfl, iteF' (by simp) ?_⟩
    refine ⟨by show 2 ≤ sizeLine; decide, fun Lc nLc => ?_⟩
    have s4 := Same.new nLc (o := .lst [V.int 0, .int 0])
    have e4 : (upd H3 Lc (.lst [V.int 0, .int 0])) Lc = some (.lst [V.int 0, .int 0]) := upd_same
    revert s4 e4
    generalize upd H3 Lc (.lst [V.int 0, .int 0]) = H4
    intro s4 e4
    have s24 := s3.trans s4
    refine ⟨_, rfl, _, _, _, _, _, rfl, s24 _ _ hpa, TP.cl, TP.nD, pf_deeds _ _, _, rfl, q2, Lc, smallR r, 0, rfl, hpq.same s24, fs.lo, by omega, e4, fun H5 k5 e5 => ?_⟩
    have s25 : Same H2 H5 := s3.trans fun b o h => k5 _ _ (ne_of_none h nLc) (s4 _ _ h)
    have e5b : H5 Lc = some (.lst [V.int 1, V.int 0]) := by
      rw [show cntW (smallR r) = 1 from fs.cw] at e5
      exact e5
    refine ⟨_, rfl, ?_⟩
    refine ⟨by show 2 ≤ sizeLine; decide, fun L6 nL6 => ?_⟩
    have s6 := Same.new nL6 (o := .lst [V.int 1, .int 0])
    have e6 : (upd H5 L6 (.lst [V.int 1, .int 0])) L6 = some (.lst [V.int 1, .int 0]) := upd_same
    revert s6 e6
    generalize upd H5 L6 (.lst [V.int 1, .int 0]) = H6
    intro s6 e6
    have s26 := s25.trans s6
    refine ⟨.list [.int 1, .int 0], .list [.int 1, .int 0], .lst (SqL.of (s6 _ _ e5b)) (.cons (.int _) (.cons (.int _) .nil)), .lst (SqL.of e6) (.cons (.int _) (.cons (.int _) .nil)), rfl, rfl, ?_⟩
    rw [show PyData.eqv (.list [.int 1, .int 0]) (.list [.int 1, .int 0]) = true from PySem.SeqAt.eqv_refl _ (by rfl)]
    refine ⟨_, rfl, iteF ?_⟩
    refine ⟨_, rfl, z, dx, _, rfl, s26 _ _ hpa, pf_used _ _, z, smallR r, rfl, hz.same s26, fun up us H7 s7 hup h1 h2 hul => ?_⟩
    refine ⟨up, rfl, ⟨_, hup⟩, fun D nD => lc_tup (K := K) (a := up) (xs := us.map V.int) (fun j H' => Same H7 H' ∧ H' D = some (.lst ((List.replicate j true).map V.bl))) ⟨Same.new nD, upd_same⟩ (fun j H' _ z => sqt_kt (KT.of z.1) hup) ?_ ?_⟩
    · rintro j v H8 hv ⟨s8, hD⟩
      have hjl := (List.getElem?_eq_some_iff.mp hv).1
      rw [List.length_map] at hjl
      rw [List.getElem?_map] at hv
      obtain ⟨kk, hkk, rfl⟩ := Option.map_eq_some_iff.mp hv
      have hin := in012 (used_lo fs.lo ((h2 kk).mp (List.mem_of_getElem? hkk)))
      refine ⟨rfl, lc_yes ?_⟩
      refine ⟨_, rfl, ?_⟩
      refine ⟨by show 3 ≤ sizeLine; decide, fun T9 nT9 => ?_⟩
      have s9 := Same.new nT9 (o := .tup [V.int 0, .int 1, .int 2])
      have e9 : (upd H8 T9 (.tup [V.int 0, .int 1, .int 2])) T9 = some (.tup [V.int 0, .int 1, .int 2]) := upd_same
      revert s9 e9
      generalize upd H8 T9 (.tup [V.int 0, .int 1, .int 2]) = H9
      intro s9 e9
      refine ⟨T9, _, rfl, .inr (SqT.of e9), rfl, rfl, ?_⟩
      simp only [Bool.false_eq_true, if_false, hin]
      refine ⟨_, s9 _ _ hD, by rw [List.length_map, List.length_replicate]; omega, (s8.trans s9).set nD, ?_⟩
      rw [upd_same, List.replicate_succ', List.map_append]
      rfl
    rintro H8 ⟨s8, hD⟩
    refine ⟨D, _, rfl, SqL.of hD, _, rfl, ?_⟩
    rw [all_rep44]
    refine iteF ?_
    have s28 := s26.trans (s7.trans s8)
    have hc8 := hc2.same s28
    have hz8 := hz.same s28
    have hq8 := hq.same (s1.trans (s2.trans s28))
    refine ⟨_, rfl, c, r, rfl, hc8, h30, fun z2 H9 s9 hz2 => ?_⟩
    refine ⟨_, rfl, decide (smallR r = smallR r), ⟨z2, z, _, _, rfl, rfl, hz2, hz8.same s9, rfl⟩, fun H10 s10 => ⟨_, rfl, ?_⟩⟩
    rw [show id (decide (smallR r = smallR r)) = true from decide_eq_true rfl]
    refine iteT ?_
    have s810 := s9.trans s10
    refine ⟨_, rfl, rfl, rfl, c, r, rfl, hc8.same s810, h30, fun z3 H11 s11 hz3 => ?_⟩
    refine ⟨_, rfl, decide (smallR r = smallR r), ⟨z3, z, _, _, rfl, rfl, hz3, hz8.same (s810.trans s11), rfl⟩, fun H12 s12 => ⟨_, rfl, ?_⟩⟩
    rw [show id (decide (smallR r = smallR r)) = true from decide_eq_true rfl]
    refine iteT ?_
    have s812 := s810.trans (s11.trans s12)
    refine ⟨_, rfl, _, rfl, q, r, rfl, hq8.same s812, hdp, by omega, fun c2 H13 s13 _ hc13 => ?_⟩
    refine ⟨decide (r = r), ⟨c, c2, r, r, rfl, rfl, hc8.same (s812.trans s13), hc13, rfl⟩, fun H14 s14 => ?_⟩
    rw [show id (decide (r = r)) = true from decide_eq_true rfl]
    exact k H14 (s1.trans (s2.trans (s28.trans (s812.trans (s13.trans s14)))))
end
end Js

set_option Elab.async false
set_option linter.all false
set_option maxRecDepth 100000
set_option maxHeartbeats 2000000
namespace Js
open PySem L2
open PySem.Spec PyProof.Rows
abbrev sName : Stmt := top 40
abbrev sSet : Stmt := top 41
abbrev sDeeds : Stmt := top 42
abbrev sTop : Stmt := top 43
theorem kind_at7 (d : Int) (h0 : 0 ≤ d) (h1 : d < 7) : ∃ k : Str, atI [V.str "told", V.str "first", V.str "second", V.str "pair", V.str "same", V.str "second", V.str "pair"] d = some (.str k) ∧ (k = "told" ∨ (∃ s, k = takeS s) ∨ ∃ s, k = twoS s) := by
  obtain ⟨n, rfl⟩ := Int.eq_ofNat_of_zero_le h0
  match n, h1 with
  | 0, _ => exact ⟨_, rfl, .inl rfl⟩
  | 1, _ => exact ⟨_, rfl, .inr (.inl ⟨false, rfl⟩)⟩
  | 2, _ => exact ⟨_, rfl, .inr (.inl ⟨true, rfl⟩)⟩
  | 3, _ => exact ⟨_, rfl, .inr (.inr ⟨false, rfl⟩)⟩
  | 4, _ => exact ⟨_, rfl, .inr (.inr ⟨true, rfl⟩)⟩
  | 5, _ => exact ⟨_, rfl, .inr (.inl ⟨true, rfl⟩)⟩
  | 6, _ => exact ⟨_, rfl, .inr (.inr ⟨false, rfl⟩)⟩
  | n + 7, h => exact absurd h (by omega)
theorem atI1' (x y : V) (xs : List V) : atI (x :: y :: xs) 1 = some y := by
  have h : atI (x :: y :: xs) ((1 : Nat) : Int) = some y := atI_nat rfl
  exact h
theorem tk_told (s : Bool) : decide (V.str (takeS s) = V.str "told") = false := by cases s <;> decide +kernel
theorem tw_told (s : Bool) : decide (V.str (twoS s) = V.str "told") = false := by cases s <;> decide +kernel
theorem td_told : decide (V.str "told" = V.str "told") = true := by decide +kernel
def spSet (K : PySem.W.Frag) (C : Addr) : Sp := fun vs H Q _ => ∃ p, vs = [.ref p] ∧ BagOk H p ∧ ∀ v d H', KB p H H' → BagOk H' p → DAt K C H' v d → d.deep = 0 → d.many = 1 → d.sm → Q v H'
def spDeeds2 (K : PySem.W.Frag) (C : Addr) (m : Nat) : Sp := fun vs H Q _ => ∃ (p f : Addr) (dp l : Nat), vs = [.ref p, .ref f, .int (dp : Nat)] ∧ BagOk H p ∧ Lf H f l ∧ p ≠ f ∧ dp + m = 7 ∧ 1 ≤ m ∧ l ≤ 1000 ∧
  ∀ q r l' H', KC p f H H' → BagOk H' p → Lf H' f l' → l' ≤ l → RAt K C H' q r → deepR r + 1 ≤ m → manyR r ≤ 2 * (l - l') → smR r → Q (.ref q) H'
def spTop2 (K : PySem.W.Frag) (C : Addr) : Sp := fun vs H Q _ => ∃ (p : Addr) (n : Nat), vs = [.ref p, .int (n : Nat)] ∧ BagOk H p ∧ n ≤ 1000 ∧ ∀ q r H', KB p H H' → BagOk H' p → RAt K C H' q r → deepR r ≤ 5 → manyR r ≤ 2 * n → smR r → Q (.ref q) H'
section
variable {P : Program} {w : World} {K : PySem.W.Frag} {mg : Str → Option Value} {base : Heap} {C : Addr}
theorem scNa : FnScope ["_law_bag_here"] ["_law_bag_here"] (defScope sName) := ⟨rfl, rfl, rfl, by decide +kernel, rfl, by decide +kernel, by decide +kernel⟩
theorem scSe2 : FnScope ["_law_bag_here", "_law_kind", "_law_a", "_law_b", "_law_c"] ["_law_bag_here"] (defScope sSet) := ⟨rfl, rfl, rfl, by decide +kernel, rfl, by decide +kernel, by decide +kernel⟩
theorem scDs : FnScope ["_law_bag_here", "_law_left", "_law_deep", "_law_found", "_law_turn", "_law_way", "_law_name_here", "_law_shorter", "_law_rows_here"] ["_law_bag_here", "_law_left", "_law_deep"] (defScope sDeeds) := ⟨rfl, rfl, rfl, by decide +kernel, rfl, by decide +kernel, by decide +kernel⟩
theorem scTo : FnScope ["_law_bag_here", "_law_many", "_law_left", "_law_found", "_law_turn"] ["_law_bag_here", "_law_many"] (defScope sTop) := ⟨rfl, rfl, rfl, by decide +kernel, rfl, by decide +kernel, by decide +kernel⟩
theorem ok_name {f : Addr} {fd : FuncData} (F : Fun K "_law_name" "_law_name" sName f fd) (DTk : Def P w K mg base "_law_take" 1 ["_law_bag_here", "_law_many"] spTake) : FnOk P w K mg base CX0 2 f fd ["_law_bag_here"] spName := by
  refine F.ok scNa (fun vs H Q E h => ?_) (fun cdv A outer s H vs Q E hr h => ?_)
  · obtain ⟨p, rfl, _⟩ := h
    rfl
  · obtain ⟨p, rfl, hb, k⟩ := h
    have hr1 : Room 1 _ := hr
    refine ⟨_, pss_one (ps_ret (pe_ix (r := rIxL K) ix_list (pe_lst (pa_cons (pe_def DTk hr1 rfl (pa_cons (pv 0) (pa_cons pe_int pa_nil))) (pa_cons (pe_def DTk hr1 rfl (pa_cons (pv 0) (pa_cons pe_int pa_nil))) (pa_cons pe_int (pa_cons (pe_def DTk hr1 rfl (pa_cons (pv 0) (pa_cons pe_int pa_nil))) pa_nil))))) (pe_def DTk hr1 rfl (pa_cons (pv 0) (pa_cons pe_int pa_nil))) (fun _ _ => rfl))), ?_⟩
    have hsl := line4
    refine ⟨_, rfl, p, 3, rfl, hb, by decide, by decide, fun d1 H1 k1 b1 d10 d11 => ?_⟩
    refine ⟨_, rfl, p, 3, rfl, b1, by decide, by decide, fun d2 H2 k2 b2 d20 d21 => ?_⟩
    refine ⟨_, rfl, p, 10, rfl, b2, by decide, by decide, fun d3 H3 k3 b3 d30 d31 => ?_⟩
    refine ⟨by show 4 ≤ sizeLine; decide, fun L nL => ?_⟩
    have s4 := Same.new nL (o := .lst [V.int d1, .int d2, .int 0, .int d3])
    have e4 : (upd H3 L (.lst [V.int d1, .int d2, .int 0, .int d3])) L = some (.lst [V.int d1, .int d2, .int 0, .int d3]) := upd_same
    revert s4 e4
    generalize upd H3 L (.lst [V.int d1, .int d2, .int 0, .int d3]) = H4
    intro s4 e4
    have b4 := b3.same s4
    have pL : L ≠ p := fun e => by
      rw [e] at nL
      obtain ⟨xs, hxs⟩ := b3.some
      rw [hxs] at nL
      cases nL
    refine ⟨_, rfl, p, 4, rfl, b4, by decide, by decide, fun d4 H5 k5 b5 d40 d41 => ?_⟩
    have hat : ∃ a : Nat, atI [V.int d1, .int d2, .int 0, .int d3] d4 = some (.int ((a : Nat) : Int)) ∧ a < 10 := by
      obtain ⟨n1, rfl⟩ := Int.eq_ofNat_of_zero_le d10
      obtain ⟨n2, rfl⟩ := Int.eq_ofNat_of_zero_le d20
      obtain ⟨n3, rfl⟩ := Int.eq_ofNat_of_zero_le d30
      obtain ⟨m, rfl⟩ := Int.eq_ofNat_of_zero_le d40
      match m, d41 with
      | 0, _ => exact ⟨n1, rfl, by omega⟩
      | 1, _ => exact ⟨n2, rfl, by omega⟩
      | 2, _ => exact ⟨0, rfl, by omega⟩
      | 3, _ => exact ⟨n3, rfl, by omega⟩
      | m + 4, h => exact absurd h (by omega)
    obtain ⟨a, ha, ha10⟩ := hat
    exact ⟨L, _, _, _, rfl, rfl, SqL.of (k5 _ _ pL e4), ha, k a H5 ((((k1.trans k2).trans k3).trans (KB.of s4)).trans k5) b5 ha10⟩
theorem ok_set {f : Addr} {fd : FuncData} (F : Fun K "_law_set" "_law_set" sSet f fd) (B : Blt mg) (DTk : Def P w K mg base "_law_take" 1 ["_law_bag_here", "_law_many"] spTake) (DNm : Def P w K mg base "_law_name" 2 ["_law_bag_here"] spName) (DTh : Def P w K mg base "_law_thing" 4 ["_law_bag_here", "_law_many"] (spThing C)) : FnOk P w K mg base CX0 5 f fd ["_law_bag_here"] (spSet K C) := by
  refine F.ok scSe2 (fun vs H Q E h => ?_) (fun cdv A outer s H vs Q E hr h => ?_)
  · obtain ⟨p, rfl, _⟩ := h
    rfl
  · obtain ⟨p, rfl, hb, k⟩ := h
    have hr1 : Room 1 _ := hr.mono (by decide)
    have hr2 : Room 2 _ := hr.mono (by decide)
    have hr4 : Room 4 _ := hr
    refine ⟨_, pss_cons (ps_set (i := 1) scSe2.nd rfl (Or.inl rfl) (pe_ix (r := rIxL K) ix_list (pe_lst (pa_cons pe_str (pa_cons pe_str (pa_cons pe_str (pa_cons pe_str (pa_cons pe_str (pa_cons pe_str (pa_cons pe_str pa_nil)))))))) (pe_def DTk hr1 rfl (pa_cons (pv 0) (pa_cons pe_int pa_nil))) (fun _ _ => rfl))) (pss_cons (ps_par3 (i := 2) (j := 3) (l := 4) (by rfl) scSe2.nd rfl rfl rfl (by decide) (by decide) (by decide) rfl rfl rfl (pa_cons (pe_def DNm hr2 rfl (pa_cons (pv 0) pa_nil)) (pa_cons (pe_def DNm hr2 rfl (pa_cons (pv 0) pa_nil)) (pa_cons (pe_def DNm hr2 rfl (pa_cons (pv 0) pa_nil)) pa_nil))) (by rfl)) (pss_cons (ps_if (pt_cmpR op_eq (pv 1) pe_str (nomark _)) (pss_one (ps_ret (pe_tup (pa_cons (pv 1) (pa_cons (pv 2) (pa_cons (pe_def DTh hr4 rfl (pa_cons (pv 0) (pa_cons (pe_def DTk hr1 rfl (pa_cons (pv 0) (pa_cons pe_int pa_nil))) pa_nil))) pa_nil)))))) pss_nil) (pss_one (ps_ret (pe_slice sl_tupA (pe_tup (pa_cons (pv 1) (pa_cons (pv 2) (pa_cons (pv 3) (pa_cons (pv 4) pa_nil))))) po_none (po_some (pe_op op_add pe_int (pe_callTy call_int1 (by rfl) B.int PyProof.Rows.boot_int (pa_cons (pe_cmpR op_in_seq (pv 1) (pe_tup (pa_cons pe_str (pa_cons pe_str pa_nil))) rfl) pa_nil))))))))), ?_⟩
    have hsl := line4
    refine ⟨by show 7 ≤ sizeLine; decide, fun L7 nL7 => ?_⟩
    have s1 := Same.new nL7 (o := .lst [V.str "told", V.str "first", V.str "second", V.str "pair", V.str "same", V.str "second", V.str "pair"])
    have e1 : (upd H L7 (.lst [V.str "told", V.str "first", V.str "second", V.str "pair", V.str "same", V.str "second", V.str "pair"])) L7 = some (.lst [V.str "told", V.str "first", V.str "second", V.str "pair", V.str "same", V.str "second", V.str "pair"]) := upd_same
    revert s1 e1
    generalize upd H L7 (.lst [V.str "told", V.str "first", V.str "second", V.str "pair", V.str "same", V.str "second", V.str "pair"]) = H1
    intro s1 e1
    have b1 := hb.same s1
    have pL : L7 ≠ p := fun e => by
      rw [e] at nL7
      obtain ⟨xs, hxs⟩ := hb.some
      rw [hxs] at nL7
      cases nL7
    refine ⟨_, rfl, p, 7, rfl, b1, by decide, by decide, fun d4 H2 k2 b2 d40 d41 => ?_⟩
    obtain ⟨kk, hkk, hk2⟩ := kind_at7 d4 d40 d41
    refine ⟨L7, _, _, _, rfl, rfl, SqL.of (k2 _ _ pL e1), hkk, ?_⟩
    refine ⟨_, rfl, p, rfl, b2, fun a H3 k3 b3 ha => ?_⟩
    refine ⟨_, rfl, p, rfl, b3, fun bb H4 k4 b4 hbb => ?_⟩
    refine ⟨_, rfl, p, rfl, b4, fun c H5 k5 b5 hc => ?_⟩
    refine ⟨_, _, _, rfl, ?_⟩
    have kb5 : KB p H H5 := ((((KB.of s1).trans k2).trans k3).trans k4).trans k5
    refine ⟨_, rfl, rfl, _, rfl, ?_⟩
    rcases hk2 with rfl | hk2
    · rw [td_told]
      refine iteT ?_
      refine ⟨_, rfl, _, rfl, _, rfl, _, rfl, p, 4, rfl, b5, by decide, by decide, fun tz H6 k6 b6 t0 t1 => ?_⟩
      obtain ⟨n, rfl⟩ := Int.eq_ofNat_of_zero_le t0
      refine ⟨p, n, rfl, b6, by omega, fun x t H7 k7 b7 hx hxs => ?_⟩
      refine ⟨by show 3 ≤ sizeLine; decide, fun T nT => ?_⟩
      have sT := Same.new nT (o := .tup [.str "told", .int (a : Nat), .ref x])
      exact k (.ref T) (.told a t) _ ((kb5.trans (k6.trans k7)).trans (KB.of sT)) (b7.same sT) ⟨T, x, rfl, SqT.of upd_same, ha, hx.same sT, by omega⟩ rfl rfl (by show t.size ≤ 3; omega)
    · have e0 : decide (V.str kk = V.str "told") = false := by
        rcases hk2 with ⟨s, rfl⟩ | ⟨s, rfl⟩
        · exact tk_told s
        · exact tw_told s
      rw [e0]
      refine iteF ?_
      refine ⟨_, rfl, _, rfl, _, rfl, _, rfl, by show 4 ≤ sizeLine; decide, fun T nT => ?_⟩
      have sT := Same.new nT (o := .tup [.str kk, .int ((a : Nat) : Int), .int ((bb : Nat) : Int), .int ((c : Nat) : Int)])
      have hT : (upd H5 T (.tup [.str kk, .int ((a : Nat) : Int), .int ((bb : Nat) : Int), .int ((c : Nat) : Int)])) T = some (.tup [.str kk, .int ((a : Nat) : Int), .int ((bb : Nat) : Int), .int ((c : Nat) : Int)]) := upd_same
      revert sT hT
      generalize upd H5 T (.tup [.str kk, .int ((a : Nat) : Int), .int ((bb : Nat) : Int), .int ((c : Nat) : Int)]) = H8
      intro sT hT
      refine ⟨_, rfl, by show 2 ≤ sizeLine; decide, fun U nU => ?_⟩
      have sU := Same.new nU (o := .tup [V.str "pair", V.str "same"])
      refine ⟨U, _, rfl, .inr (SqT.of upd_same), rfl, rfl, .inr ⟨_, rfl, _, _, rfl, rfl, _, rfl, T, _, rfl, SqT.of (sU _ _ hT), ?_⟩⟩
      revert sU
      generalize upd H8 U (.tup [V.str "pair", V.str "same"]) = H9
      intro sU
      have s79 := sT.trans sU
      have b9 := b5.same s79
      have kb9 := kb5.trans (KB.of s79)
      rcases hk2 with ⟨s, rfl⟩ | ⟨s, rfl⟩
      · rw [show (if false = true then !inV (.str (takeS s)) [V.str "pair", V.str "same"] else inV (.str (takeS s)) [V.str "pair", V.str "same"]) = false from in_take s]
        refine ⟨fun ⟨_, h2⟩ => absurd h2 (show ¬ ((3 : Nat) = 4) by decide), fun _ z nz => ?_⟩
        have sz := Same.new nz (o := .tup [.str (takeS s), .int (a : Nat), .int (bb : Nat)])
        exact k (.ref z) (.take s a bb) _ (kb9.trans (KB.of sz)) (b9.same sz) ⟨z, rfl, SqT.of upd_same, ha, hbb⟩ rfl rfl trivial
      · rw [show (if false = true then !inV (.str (twoS s)) [V.str "pair", V.str "same"] else inV (.str (twoS s)) [V.str "pair", V.str "same"]) = true from in_two s]
        refine ⟨fun _ => ?_, fun hn => absurd ⟨rfl, rfl⟩ hn⟩
        exact k (.ref T) (.two s a bb c) H9 kb9 b9 ⟨T, rfl, SqT.of (sU _ _ hT), ha, hbb, hc⟩ rfl rfl trivial
theorem ok_deedsS {f : Addr} {fd : FuncData} {m : Nat} (F : Fun K "_law_deeds" "_law_deeds" sDeeds f fd) (B : Blt mg) (G : FrmC K w mg) (DTk : Def P w K mg base "_law_take" 1 ["_law_bag_here", "_law_many"] spTake) (DNm : Def P w K mg base "_law_name" 2 ["_law_bag_here"] spName) (DSt : Def P w K mg base "_law_set" 5 ["_law_bag_here"] (spSet K C))
    (Gs : FnOk P w K mg base CX0 (m + 6) f fd ["_law_bag_here", "_law_left", "_law_deep"] (spDeeds2 K C m)) (mgs : mg "_law_deeds" = some (.ref f)) (bs : Binds K fd ["_law_bag_here", "_law_left", "_law_deep"] []) : FnOk P w K mg base CX0 (m + 1 + 6) f fd ["_law_bag_here", "_law_left", "_law_deep"] (spDeeds2 K C (m + 1)) := by
  refine F.ok scDs (fun vs H Q E h => ?_) (fun cdv A outer s H vs Q E hr h => ?_)
  · obtain ⟨p, f, dp, l, rfl, _⟩ := h
    rfl
  · obtain ⟨p, f, dp, l, rfl, hb, hl, hpf, hdm, _, hll, k⟩ := h
    have hr1 : Room 1 _ := hr.mono (by omega)
    have hr2 : Room 2 _ := hr.mono (by omega)
    have hr5 : Room 5 _ := hr.mono (by omega)
    refine ⟨_, pss_cons (ps_set (i := 3) scDs.nd rfl (Or.inl rfl) (pe_lst pa_nil)) (pss_cons (ps_for PassesOwn.never rfl (pi_range1 rfl B.range (pa_cons (pe_def DTk hr1 rfl (pa_cons (pv 0) (pa_cons pe_int pa_nil))) pa_nil)) (pg_name (i := 4) scDs.nd rfl (Or.inl rfl)) (pss_cons (ps_set (i := 5) scDs.nd rfl (Or.inl rfl) (pe_def DTk hr1 rfl (pa_cons (pv 0) (pa_cons pe_int pa_nil)))) (pss_one (ps_if (pt_cmpR op_gt (pe_ix (r := rIxL K) ix_list (pv 1) pe_int (fun _ _ => rfl)) pe_int (nomark _)) (pss_cons (ps_asg (pe_op op_sub (pe_ix (r := rIxL K) ix_list (pv 1) pe_int (fun _ _ => rfl)) pe_int) (pg_sub (pv 1) pe_int set_list)) (pss_one (ps_if (PW.pt (pw_or (pt_cmpR op_lt (pv 5) pe_int (nomark _)) (pw_or1 (pt_cmpR op_gt (pv 2) pe_int (nomark _))))) (pss_one (ps_expr (pe_bm PySem.F.plainAttrs_list PySem.F.slot_list_append PySem.F.type_list_append mt_append (pv 3) (pa_cons (pe_def DSt hr5 rfl (pa_cons (pv 0) pa_nil)) pa_nil)))) (pss_one (ps_if (pt_cmpR op_lt (pv 5) pe_int (nomark _)) (pss_cons (ps_set (i := 6) scDs.nd rfl (Or.inl rfl) (pe_def DNm hr2 rfl (pa_cons (pv 0) pa_nil))) (pss_cons (ps_set (i := 7) scDs.nd rfl (Or.inl rfl) (pe_op (op_rep01R (C := C)) (pe_tup (pa_cons (pe_tup (pa_cons pe_str (pa_cons (pv 6) (pa_cons (pv 6) pa_nil)))) pa_nil)) (pe_callTy call_int1 (by rfl) B.int PyProof.Rows.boot_int (pa_cons (pe_cmpR op_gt (pe_def DTk hr1 rfl (pa_cons (pv 0) (pa_cons pe_int pa_nil))) pe_int (nomark _)) pa_nil)))) (pss_one (ps_expr (pe_bm PySem.F.plainAttrs_list PySem.F.slot_list_append PySem.F.type_list_append mt_append (pv 3) (pa_cons (pe_tup (pa_cons pe_str (pa_cons (pv 6) (pa_cons (pe_op (op_catR (C := C)) (pe_call Gs hr rfl mgs F.kp bs .nil pass0 (pa_cons (pv 0) (pa_cons (pv 1) (pa_cons (pe_op op_add (pv 2) pe_int) pa_nil)))) (pv 7)) pa_nil)))) pa_nil)))))) (pss_cons (ps_set (i := 8) scDs.nd rfl (Or.inl rfl) (pe_lst (pa_cons (pe_call Gs hr rfl mgs F.kp bs .nil pass0 (pa_cons (pv 0) (pa_cons (pv 1) (pa_cons (pe_op op_add (pv 2) pe_int) pa_nil)))) (pa_cons (pe_call Gs hr rfl mgs F.kp bs .nil pass0 (pa_cons (pv 0) (pa_cons (pv 1) (pa_cons (pe_op op_add (pv 2) pe_int) pa_nil)))) pa_nil)))) (pss_one (ps_expr (pe_bm PySem.F.plainAttrs_list PySem.F.slot_list_append PySem.F.type_list_append mt_append (pv 3) (pa_cons (pe_tup (pa_cons pe_str (pa_cons (pe_def DNm hr2 rfl (pa_cons (pv 0) pa_nil)) (pa_cons (pe_ix (r := rIxL K) ix_list (pv 8) pe_int (fun _ _ => rfl)) (pa_cons (pe_ix (r := rIxL K) ix_list (pv 8) pe_int (fun _ _ => rfl)) pa_nil))))) pa_nil)))))))))) pss_nil)))) (pss_one (ps_ret (pe_callTy call_tuple_of (by rfl) G.mt PyProof.Rows.boot_tuple (pa_cons (pv 3) pa_nil))))), ?_⟩
    have hsl := line4
    refine ⟨Nat.zero_le _, fun fl nfl => ?_⟩
    have s1 : Same H (upd H fl (.lst [])) := Same.new nfl
    have hfl1 : (upd H fl (.lst [])) fl = some (.lst []) := upd_same
    have hflp : fl ≠ p := fun z => by
      obtain ⟨bx, hbx⟩ := hb.some
      rw [z, hbx] at nfl
      cases nfl
    have hflf : fl ≠ f := fun z => by
      rw [z] at nfl
      have := nfl.symm.trans hl
      cases this
    revert s1 hfl1
    generalize upd H fl (.lst []) = H1
    intro s1 hfl1
    refine ⟨_, rfl, p, 5, rfl, hb.same s1, by decide, by decide, fun n6 H2 k2 b2 n0 n1 => ?_⟩
    have kc2 : KC p f H H2 := (KC.of s1).trans (KC.kb k2)
    refine ⟨n6, rfl, by omega, by omega, for_range (n := n6.toNat) (fun i σ H' => ∃ (x4 x5 x6 x7 x8 : Option V) (us : List V) (r : List Dd) (l' : Nat), σ = [some (.ref p), some (.ref f), some (.int (dp : Nat)), some (.ref fl), x4, x5, x6, x7, x8] ∧ KC p f H H' ∧ BagOk H' p ∧ Lf H' f l' ∧ l' ≤ l ∧ H' fl = some (.lst us) ∧ DsAt K C H' us r ∧ deepR r ≤ m ∧ manyR r ≤ 2 * (l - l') ∧ r.length ≤ i ∧ smR r)
      ⟨none, none, none, none, none, [], [], l, rfl, kc2, b2, k2 _ _ (Ne.symm hpf) (s1 _ _ hl), Nat.le_refl _, k2 _ _ hflp hfl1, rfl, by rw [deepR]; omega, by rw [many_nil]; omega, Nat.zero_le _, trivial⟩ ?_ ?_⟩
    · rintro i σ H3 hi ⟨x4, x5, x6, x7, x8, us, r, l1, rfl, kc3, b3, lf3, hl3, hfl3, hus, hdr, hmr, hri, hsm⟩
      refine ⟨_, rfl, p, 9, rfl, b3, by decide, by decide, fun wy H4 k4 b4 w0 w1 => ?_⟩
      have kc4' : KC p f H H4 := kc3.trans (KC.kb k4)
      have lf4' : Lf H4 f l1 := k4 _ _ (Ne.symm hpf) lf3
      have hfl4' := k4 _ _ hflp hfl3
      have hus4' := DsAt_kt (b3.kt k4) r us hus
      refine ⟨_, rfl, f, _, _, _, rfl, rfl, SqL.of lf4', at0 _ _, _, _, rfl, rfl, _, rfl, ?_⟩
      by_cases h1 : 0 < l1
      rotate_left
      · rw [decide_eq_false (show ¬ (0 : Int) < ((l1 : Nat) : Int) by omega)]
        refine iteF ?_
        exact ⟨_, _, _, _, _, us, r, l1, rfl, kc4', b4, lf4', hl3, hfl4', hus4', hdr, hmr, by omega, hsm⟩
      rw [decide_eq_true (show (0 : Int) < ((l1 : Nat) : Int) by omega)]
      refine iteT ?_
      refine ⟨_, rfl, f, _, _, _, rfl, rfl, SqL.of lf4', at0 _ _, _, _, rfl, rfl, _, rfl, f, _, _, 0, rfl, rfl, lf4', rfl, ?_⟩
      have e4 : [V.int ((l1 : Nat) : Int)].set 0 (V.int (((l1 : Nat) : Int) - 1)) = [V.int (((l1 - 1 : Nat)) : Int)] := by
        rw [show (((l1 - 1 : Nat)) : Int) = ((l1 : Nat) : Int) - 1 by omega]
        rfl
      rw [e4]
      have lf5 : Lf (upd H4 f (.lst [V.int (((l1 - 1 : Nat)) : Int)])) f (l1 - 1) := upd_same
      have kc5 : KC p f H4 (upd H4 f (.lst [V.int (((l1 - 1 : Nat)) : Int)])) := KC.set
      obtain ⟨bx, hbx⟩ := b4.some
      have kt5 : KT H4 (upd H4 f (.lst [V.int (((l1 - 1 : Nat)) : Int)])) := kc5.kt hbx lf4'
      have b5 : BagOk (upd H4 f (.lst [V.int (((l1 - 1 : Nat)) : Int)])) p := bag_upd b4 (Ne.symm hpf)
      have hfl5 : (upd H4 f (.lst [V.int (((l1 - 1 : Nat)) : Int)])) fl = some (.lst us) := by rw [upd_ne hflf]; exact hfl4'
      revert lf5 kc5 kt5 b5 hfl5
      generalize upd H4 f (.lst [V.int (((l1 - 1 : Nat)) : Int)]) = H5
      intro lf5 kc5 kt5 b5 hfl5
      have kcA : KC p f H H5 := kc4'.trans kc5
      have hus5 := DsAt_kt kt5 r us hus4'
      have lus := DsAt.length r us hus
      -- a deed is put behind
      have fin : ∀ (y4 y5 y6 y7 y8 : Option V) (v : V) (d : Dd) (l2 : Nat) (G0 : Hp), KC p f H5 G0 → BagOk G0 p → Lf G0 f l2 → l2 ≤ l1 - 1 → DAt K C G0 v d → d.deep ≤ m → d.many ≤ 2 * (l1 - 1 - l2) + 2 → d.sm → ∃ (x4 x5 x6 x7 x8 : Option V) (us' : List V) (r' : List Dd) (l' : Nat), [some (V.ref p), some (V.ref f), some (V.int ((dp : Nat) : Int)), some (V.ref fl), y4, y5, y6, y7, y8] = [some (V.ref p), some (V.ref f), some (V.int ((dp : Nat) : Int)), some (V.ref fl), x4, x5, x6, x7, x8] ∧ KC p f H (upd G0 fl (.lst (us ++ [v]))) ∧ BagOk (upd G0 fl (.lst (us ++ [v]))) p ∧ Lf (upd G0 fl (.lst (us ++ [v]))) f l' ∧ l' ≤ l ∧ (upd G0 fl (.lst (us ++ [v]))) fl = some (.lst us') ∧ DsAt K C (upd G0 fl (.lst (us ++ [v]))) us' r' ∧ deepR r' ≤ m ∧ manyR r' ≤ 2 * (l - l') ∧ r'.length ≤ i + 1 ∧ smR r' := by
        intro y4 y5 y6 y7 y8 v d l2 G0 kg bg lg hl2 hd hdd hdm2 hds
        obtain ⟨by_, hby⟩ := b5.some
        have ktg : KT H5 G0 := kg.kt hby lf5
        have flg := kg _ _ hflp hflf hfl5
        have kt6 : KT G0 (upd G0 fl (.lst (us ++ [v]))) := KT.lst flg
        refine ⟨_, _, _, _, _, us ++ [v], r ++ [d], l2, rfl, fun a o na nf ha => ?_, bag_upd bg hflp, ?_, by omega, upd_same, DsAt_snoc (DAt_kt kt6 d v hd) r us (DsAt_kt kt6 r us (DsAt_kt ktg r us hus5)), ?_, ?_, (by rw [List.length_append]; simp only [List.length_cons, List.length_nil]; omega), smR_app r [d] hsm ⟨hds, trivial⟩⟩
        · rw [upd_ne (ne_of_none ha nfl)]
          exact kg _ _ na nf (kcA _ _ na nf ha)
        · show (upd G0 fl (.lst (us ++ [v]))) f = _
          rw [upd_ne (Ne.symm hflf)]
          exact lg
        · rw [deepR_app, deepR_one]
          exact Nat.max_le.mpr ⟨hdr, hdd⟩
        · rw [manyR_app, manyR_one]
          omega
      refine ⟨_, rfl, _, _, rfl, rfl, _, rfl, ?_⟩
      by_cases w5 : wy < 5
      · rw [decide_eq_true w5]
        refine iteT (iteT ?_)
        refine ⟨_, rfl, .inl ⟨rfl, _, SqL.of hfl5⟩, _, rfl, p, rfl, b5, fun v d H6 k6 b6 hd hdd hdm' hds => ?_⟩
        refine ⟨fl, _, _, rfl, rfl, k6 _ _ hflp hfl5, by omega, ?_⟩
        exact fin _ _ _ _ _ v d (l1 - 1) H6 (KC.kb k6) b6 (k6 _ _ (Ne.symm hpf) lf5) (Nat.le_refl _) hd (by omega) (by omega) hds
      rw [decide_eq_false w5]
      refine iteF ?_
      refine ⟨_, rfl, _, _, rfl, rfl, _, rfl, ?_⟩
      by_cases d5 : 5 < dp
      · rw [decide_eq_true (show (5 : Int) < ((dp : Nat) : Int) by omega)]
        refine iteT ?_
        refine ⟨_, rfl, .inl ⟨rfl, _, SqL.of hfl5⟩, _, rfl, p, rfl, b5, fun v d H6 k6 b6 hd hdd hdm' hds => ?_⟩
        refine ⟨fl, _, _, rfl, rfl, k6 _ _ hflp hfl5, by omega, ?_⟩
        exact fin _ _ _ _ _ v d (l1 - 1) H6 (KC.kb k6) b6 (k6 _ _ (Ne.symm hpf) lf5) (Nat.le_refl _) hd (by omega) (by omega) hds
      rw [decide_eq_false (show ¬ (5 : Int) < ((dp : Nat) : Int) by omega)]
      refine iteF ?_
      refine ⟨_, rfl, _, _, rfl, rfl, _, rfl, ?_⟩
      have hm1 : 1 ≤ m := by omega
      by_cases w8 : wy < 8
      · rw [decide_eq_true w8]
        refine iteT ?_
        refine ⟨_, rfl, p, rfl, b5, fun a H6 k6 b6 ha => ?_⟩
        refine ⟨_, rfl, _, rfl, ?_⟩
        refine ⟨by show 3 ≤ sizeLine; decide, fun T1 nT1 => ?_⟩
        have s7 := Same.new nT1 (o := .tup [V.str "second", .int ((a : Nat) : Int), .int ((a : Nat) : Int)])
        have e7 : (upd H6 T1 (.tup [V.str "second", .int ((a : Nat) : Int), .int ((a : Nat) : Int)])) T1 = some (.tup [V.str "second", .int ((a : Nat) : Int), .int ((a : Nat) : Int)]) := upd_same
        revert s7 e7
        generalize upd H6 T1 (.tup [V.str "second", .int ((a : Nat) : Int), .int ((a : Nat) : Int)]) = H7
        intro s7 e7
        refine ⟨by show 1 ≤ sizeLine; decide, fun T2 nT2 => ?_⟩
        have s8 := Same.new nT2 (o := .tup [V.ref T1])
        have e8 : (upd H7 T2 (.tup [V.ref T1])) T2 = some (.tup [V.ref T1]) := upd_same
        revert s8 e8
        generalize upd H7 T2 (.tup [V.ref T1]) = H8
        intro s8 e8
        refine ⟨_, rfl, p, 4, rfl, (b6.same s7).same s8, by decide, by decide, fun d4 H9 k9 b9 d40 d41 => ?_⟩
        have kb59 : KB p H5 H9 := (k6.trans (KB.of (s7.trans s8))).trans k9
        have kt89 : KT H8 H9 := ((b6.same s7).same s8).kt k9
        have hT1 : H9 T1 = some (.tup [V.str "second", .int ((a : Nat) : Int), .int ((a : Nat) : Int)]) := kt89 _ _ (s8 _ _ e7) (fun _ e => nomatch e)
        have hT2 : H9 T2 = some (.tup [V.ref T1]) := kt89 _ _ e8 (fun _ e => nomatch e)
        have hsec : DAt K C H9 (.ref T1) (.take true a a) := ⟨T1, rfl, SqT.of hT1, ha, ha⟩
        refine ⟨_, _, rfl, rfl, .inr ⟨_, rfl, T2, _, .take true a a, rfl, rfl, ⟨_, SqT.of hT2, _, _, rfl, hsec, rfl⟩, ?_, fun sh rs HA sA hsh hrs => ?_⟩⟩
        · by_cases h4 : d4 > 0
          · rw [decide_eq_true h4]
            exact .inl rfl
          · rw [decide_eq_false h4]
            exact .inr rfl
        have kb5A : KB p H5 HA := kb59.trans (KB.of sA)
        have bA := b9.same sA
        have flA := kb5A _ _ hflp hfl5
        have lfA : Lf HA f (l1 - 1) := kb5A _ _ (Ne.symm hpf) lf5
        refine ⟨_, rfl, .inl ⟨rfl, _, SqL.of flA⟩, _, rfl, _, rfl, _, rfl, _, rfl, _, _, rfl, rfl, p, f, dp + 1, l1 - 1, rfl, bA, lfA, hpf, by omega, hm1, by omega, fun q1 r1 l2 HB kcB bB lfB hlB hrB hdB hmB hsB => ?_⟩
        obtain ⟨by_, hby⟩ := bA.some
        have hshB := hsh.kt (kcB.kt hby lfA)
        have hl1r := len_many r1
        refine ⟨_, rfl, q1, sh, r1, rs, rfl, rfl, hrB, hshB, by rcases hrs with rfl | rfl <;> (simp only [List.length_cons, List.length_nil]; omega), fun q3 HC sC hq3 => ?_⟩
        refine ⟨by show 3 ≤ sizeLine; decide, fun T3 nT3 => ?_⟩
        have sD := Same.new nT3 (o := .tup [V.str "while", .int ((a : Nat) : Int), .ref q3])
        have eD : (upd HC T3 (.tup [V.str "while", .int ((a : Nat) : Int), .ref q3])) T3 = some (.tup [V.str "while", .int ((a : Nat) : Int), .ref q3]) := upd_same
        revert sD eD
        generalize upd HC T3 (.tup [V.str "while", .int ((a : Nat) : Int), .ref q3]) = HD
        intro sD eD
        obtain ⟨vs3, h31, h32⟩ := hq3.same sD
        have kcD : KC p f H5 HD := ((KC.kb kb5A).trans kcB).trans (KC.of (sC.trans sD))
        refine ⟨fl, _, _, rfl, rfl, kcD _ _ hflp hflf hfl5, by omega, ?_⟩
        refine fin _ _ _ _ _ (.ref T3) (.wh a (r1 ++ rs)) l2 HD kcD (bB.same (sC.trans sD)) ((sC.trans sD) _ _ lfB) hlB ⟨T3, q3, vs3, rfl, SqT.of eD, ha, h31, h32⟩ ?_ ?_ ?_
        · rw [Dd.deep, deepR_app]
          rcases hrs with rfl | rfl
          · rw [show deepR [] = 0 by rw [deepR]]
            omega
          · rw [deepR_one, Dd.deep]
            omega
        · rw [many_wh, manyR_app]
          rcases hrs with rfl | rfl
          · rw [many_nil]
            omega
          · rw [manyR_one, many_take]
            omega
        · show smR (r1 ++ rs)
          rcases hrs with rfl | rfl
          · exact smR_app r1 [] hsB trivial
          · exact smR_app r1 [.take true a a] hsB ⟨trivial, trivial⟩
      · rw [decide_eq_false w8]
        refine iteF ?_
        refine ⟨_, rfl, _, rfl, _, rfl, _, _, rfl, rfl, p, f, dp + 1, l1 - 1, rfl, b5, lf5, hpf, by omega, hm1, by omega, fun q1 r1 l2 H6 kc6 b6 lf6 hl6 hr6 hd6 hm6 hs6 => ?_⟩
        refine ⟨_, rfl, _, rfl, _, rfl, _, _, rfl, rfl, p, f, dp + 1, l2, rfl, b6, lf6, hpf, by omega, hm1, by omega, fun q2 r2 l3 H7 kc7 b7 lf7 hl7 hr7 hd7 hm7 hs7 => ?_⟩
        refine ⟨by show 2 ≤ sizeLine; decide, fun LL nLL => ?_⟩
        have s8 := Same.new nLL (o := .lst [V.ref q1, .ref q2])
        have e8 : (upd H7 LL (.lst [V.ref q1, .ref q2])) LL = some (.lst [V.ref q1, .ref q2]) := upd_same
        revert s8 e8
        generalize upd H7 LL (.lst [V.ref q1, .ref q2]) = H8
        intro s8 e8
        obtain ⟨by_, hby⟩ := b6.some
        have hr68 := (hr6.kt (kc7.kt hby lf6)).same s8
        have hr78 := hr7.same s8
        have hLLp : LL ≠ p := fun z => by
          obtain ⟨bx, hbx⟩ := b7.some
          rw [z, hbx] at nLL
          cases nLL
        have kc58 : KC p f H5 H8 := (kc6.trans kc7).trans (KC.of s8)
        have fl8 := kc58 _ _ hflp hflf hfl5
        refine ⟨_, rfl, .inl ⟨rfl, _, SqL.of fl8⟩, _, rfl, p, rfl, b7.same s8, fun a H9 k9 b9 ha => ?_⟩
        have e9 := k9 _ _ hLLp e8
        refine ⟨_, rfl, LL, _, _, _, rfl, rfl, SqL.of e9, at0 _ _, _, rfl, LL, _, _, _, rfl, rfl, SqL.of e9, atI1' _ _ _, ?_⟩
        have kt89 := (b7.same s8).kt k9
        refine ⟨by show 4 ≤ sizeLine; decide, fun T3 nT3 => ?_⟩
        have sA := Same.new nT3 (o := .tup [V.str "if", .int ((a : Nat) : Int), .ref q1, .ref q2])
        have eA : (upd H9 T3 (.tup [V.str "if", .int ((a : Nat) : Int), .ref q1, .ref q2])) T3 = some (.tup [V.str "if", .int ((a : Nat) : Int), .ref q1, .ref q2]) := upd_same
        revert sA eA
        generalize upd H9 T3 (.tup [V.str "if", .int ((a : Nat) : Int), .ref q1, .ref q2]) = HA
        intro sA eA
        obtain ⟨vs1, h11, h12⟩ := (hr68.kt kt89).same sA
        obtain ⟨vs2, h21, h22⟩ := (hr78.kt kt89).same sA
        have kcA' : KC p f H5 HA := (kc58.trans (KC.kb k9)).trans (KC.of sA)
        refine ⟨fl, _, _, rfl, rfl, kcA' _ _ hflp hflf hfl5, by omega, ?_⟩
        refine fin _ _ _ _ _ (.ref T3) (.iff a r1 r2) l3 HA kcA' (b9.same sA) (sA _ _ (k9 _ _ (Ne.symm hpf) (s8 _ _ lf7))) (by omega) ⟨T3, q1, vs1, q2, vs2, rfl, SqT.of eA, ha, h11, h12, h21, h22⟩ ?_ ?_ ⟨hs6, hs7⟩
        · rw [Dd.deep]
          have : max (deepR r1) (deepR r2) ≤ m - 1 := Nat.max_le.mpr ⟨by omega, by omega⟩
          omega
        · rw [many_iff]
          omega
    · rintro σ H3 ⟨x4, x5, x6, x7, x8, us, r, l1, rfl, kc3, b3, lf3, hl3, hfl3, hus, hdr, hmr, hri, hsm⟩
      refine ⟨_, rfl, fl, _, rfl, .inl ⟨SqL.of hfl3, fun q nq => ?_⟩⟩
      have sq := Same.new nq (o := .tup us)
      exact k q r l1 _ (kc3.trans (KC.of sq)) (b3.same sq) (sq _ _ lf3) hl3 ⟨us, SqT.of upd_same, DsAt_kt (KT.of sq) r us hus⟩ (by omega) hmr hsm
theorem ok_deeds {f : Addr} {fd : FuncData} (F : Fun K "_law_deeds" "_law_deeds" sDeeds f fd) (B : Blt mg) (G : FrmC K w mg) (DTk : Def P w K mg base "_law_take" 1 ["_law_bag_here", "_law_many"] spTake) (DNm : Def P w K mg base "_law_name" 2 ["_law_bag_here"] spName) (DSt : Def P w K mg base "_law_set" 5 ["_law_bag_here"] (spSet K C)) (mgs : mg "_law_deeds" = some (.ref f)) (bs : Binds K fd ["_law_bag_here", "_law_left", "_law_deep"] []) : ∀ m, FnOk P w K mg base CX0 (m + 6) f fd ["_law_bag_here", "_law_left", "_law_deep"] (spDeeds2 K C m)
  | 0 => by
    refine F.ok scDs (fun vs H Q E h => ?_) (fun cdv A outer s H vs Q E hr h => ?_)
    · obtain ⟨p, f, dp, l, rfl, _⟩ := h
      rfl
    · obtain ⟨p, f, dp, l, _, _, _, _, _, h, _⟩ := h
      exact absurd h (Nat.not_succ_le_zero _)
  | m + 1 => ok_deedsS F B G DTk DNm DSt (ok_deeds F B G DTk DNm DSt mgs bs m) mgs bs
theorem ok_top {f : Addr} {fd : FuncData} (F : Fun K "_law_top" "_law_top" sTop f fd) (B : Blt mg) (DTk : Def P w K mg base "_law_take" 1 ["_law_bag_here", "_law_many"] spTake) (DDs : Def P w K mg base "_law_deeds" 12 ["_law_bag_here", "_law_left", "_law_deep"] (spDeeds2 K C 6)) : FnOk P w K mg base CX0 15 f fd ["_law_bag_here", "_law_many"] (spTop2 K C) := by
  refine F.ok scTo (fun vs H Q E h => ?_) (fun cdv A outer s H vs Q E hr h => ?_)
  · obtain ⟨p, n, rfl, _⟩ := h
    rfl
  · obtain ⟨p, n, rfl, hb, hn, k⟩ := h
    have hr1 : Room 1 _ := hr.mono (by decide)
    have hr14 : Room 12 _ := hr.mono (by decide)
    refine ⟨_, pss_cons (ps_set (i := 2) scTo.nd rfl (Or.inl rfl) (pe_lst (pa_cons (pv 1) pa_nil))) (pss_cons (ps_set (i := 3) scTo.nd rfl (Or.inl rfl) (pe_tup pa_nil)) (pss_cons (ps_for PassesOwn.never rfl (pi_range1 rfl B.range (pa_cons (pe_op op_add pe_int (pe_def DTk hr1 rfl (pa_cons (pv 0) (pa_cons pe_int pa_nil)))) pa_nil)) (pg_name (i := 4) scTo.nd rfl (Or.inl rfl)) (pss_one (ps_set (i := 3) scTo.nd rfl (Or.inl rfl) (pe_op (op_catR (C := C)) (pv 3) (pe_def DDs hr14 rfl (pa_cons (pv 0) (pa_cons (pv 2) (pa_cons pe_int pa_nil)))))))) (pss_one (ps_ret (pv 3))))), ?_⟩
    have hsl := line4
    refine ⟨_, rfl, by show 1 ≤ sizeLine; decide, fun f nf => ?_⟩
    have hpf : p ≠ f := fun z => by
      obtain ⟨bx, hbx⟩ := hb.some
      rw [← z, hbx] at nf
      cases nf
    have s1 : Same H (upd H f (.lst [.int (n : Nat)])) := Same.new nf
    have l1 : Lf (upd H f (.lst [.int (n : Nat)])) f n := upd_same
    revert s1 l1
    generalize upd H f (.lst [.int (n : Nat)]) = H1
    intro s1 l1
    refine ⟨by show 0 ≤ sizeLine; decide, fun T0 nT0 => ?_⟩
    have s2 := Same.new nT0 (o := .tup [])
    have e2 : (upd H1 T0 (.tup [])) T0 = some (.tup []) := upd_same
    revert s2 e2
    generalize upd H1 T0 (.tup []) = H2
    intro s2 e2
    refine ⟨_, rfl, p, 4, rfl, (hb.same s1).same s2, by decide, by decide, fun d1 H3 k3 b3 d10 d11 => ⟨_, _, rfl, rfl, ?_⟩⟩
    have s12 := s1.trans s2
    have kt23 := ((hb.same s1).same s2).kt k3
    refine ⟨1 + d1, rfl, by omega, by omega, for_range (n := (1 + d1).toNat) (fun i σ H' => ∃ (x4 : Option V) (q : Addr) (r : List Dd) (l' : Nat), σ = [some (.ref p), some (.int (n : Nat)), some (.ref f), some (.ref q), x4] ∧ KC p f H H' ∧ BagOk H' p ∧ Lf H' f l' ∧ l' ≤ n ∧ RAt K C H' q r ∧ deepR r ≤ 5 ∧ manyR r ≤ 2 * (n - l') ∧ smR r)
      ⟨none, T0, [], n, rfl, (KC.of s12).trans (KC.kb k3), b3, k3 _ _ (Ne.symm hpf) (s2 _ _ l1), Nat.le_refl _, ⟨[], SqT.of (kt23 _ _ e2 (fun _ e => nomatch e)), rfl⟩, by rw [deepR]; omega, by rw [many_nil]; omega, trivial⟩ ?_ ?_⟩
    · rintro i σ H4 hi ⟨x4, q, r, l', rfl, kc4, b4, lf4, hl4, hq4, hd4, hm4, hs4⟩
      refine ⟨_, rfl, _, rfl, _, rfl, p, f, 1, l', rfl, b4, lf4, hpf, rfl, by decide, by omega, fun q2 r2 l2 H5 kc5 b5 lf5 hl5 hr5 hd5 hm5 hs5 => ?_⟩
      obtain ⟨by_, hby⟩ := b4.some
      have hq5 := hq4.kt (kc5.kt hby lf4)
      have lr := len_many r
      have lr2 := len_many r2
      refine ⟨q, q2, r, r2, rfl, rfl, hq5, hr5, by omega, fun q3 H6 s6 hq3 => ?_⟩
      exact ⟨_, q3, r ++ r2, l2, rfl, (kc4.trans kc5).trans (KC.of s6), b5.same s6, s6 _ _ lf5, by omega, hq3, by rw [deepR_app]; exact Nat.max_le.mpr ⟨hd4, by omega⟩, by rw [manyR_app]; omega, smR_app r r2 hs4 hs5⟩
    · rintro σ H4 ⟨x4, q, r, l', rfl, kc4, b4, lf4, hl4, hq4, hd4, hm4, hs4⟩
      exact ⟨_, rfl, k q r H4 (fun a o na ha => kc4 _ _ na (ne_of_none ha nf) ha) b4 hq4 hd4 (by omega) hs4⟩
end
end Js

set_option Elab.async false
set_option linter.all false
set_option maxRecDepth 100000
set_option maxHeartbeats 2000000
namespace Js
open PySem L2
open PySem.Spec PyProof.Rows
abbrev sLaw : Stmt := top 50
theorem mult14 (n : Nat) : 1 ≤ (if (if ((n : Nat) : Int) < 4 then ((n : Nat) : Int) else 4) > 1 then (if ((n : Nat) : Int) < 4 then ((n : Nat) : Int) else 4) else 1) ∧ (if (if ((n : Nat) : Int) < 4 then ((n : Nat) : Int) else 4) > 1 then (if ((n : Nat) : Int) < 4 then ((n : Nat) : Int) else 4) else 1) ≤ 4 := by
  constructor
  · split <;> omega
  · split <;> split <;> omega
def spLaw (K : PySem.W.Frag) : Sp := fun vs H Q _ => ∃ (a : Addr) (ns : List Int), vs = [.ref a] ∧ SqL K H a (ns.map V.int) ∧ ns.length ≤ 63 ∧ ∀ H', Q (.bl true) H'
theorem same_kb {H0 H H' : Hp} {p : Addr} (s : Same H0 H) (k : KB p H H') (hp : H0 p = none) : Same H0 H' := fun b o h => k _ _ (ne_of_none h hp) (s _ _ h)
theorem kb_upd {p D : Addr} {H H' : Hp} {o : HO} (k : KB p H H') (n : H D = none) : KB p H (upd H' D o) := fun a u na ha => by
  rw [upd_ne (ne_of_none ha n)]
  exact k a u na ha
theorem many_rep {d : Dd} (h : d.many = 1) : ∀ n, manyR (List.replicate n d) = n
  | 0 => rfl
  | n + 1 => by rw [List.replicate_succ, many_cons, h, many_rep h n]; omega
theorem deep_rep {d : Dd} (h : d.deep = 0) : ∀ n, deepR (List.replicate n d) = 0
  | 0 => rfl
  | n + 1 => by rw [List.replicate_succ, deepR, h, deep_rep h n]; rfl
section
variable {P : Program} {w : World} {K : PySem.W.Frag} {mg : Str → Option Value} {base : Heap} {C CP fI fP : Addr} {fdI fdP : FuncData}
theorem scL : FnScope ["_law_script", "_law_k", "_law_bag_here", "_law_deeds_here", "_law_more", "_law_some", "_law_great", "_law_turn"] ["_law_script"] (defScope sLaw) := ⟨rfl, rfl, rfl, by decide +kernel, rfl, by decide +kernel, by decide +kernel⟩
theorem ok_law {f : Addr} {fd : FuncData} (F : Fun K "law" "law" sLaw f fd) (B : Blt mg) (mtu : mg "tuple" = none) (mk : Maker P w K mg base C fI fdI) (MP : MakerP P w K mg base C CP fP fdP) (DB : Def P w K mg base "_law_bag" 1 ["_law_script", "_law_at"] (spBag K)) (DTk : Def P w K mg base "_law_take" 1 ["_law_bag_here", "_law_many"] spTake) (DTo : Def P w K mg base "_law_top" 15 ["_law_bag_here", "_law_many"] (spTop2 K C)) (DSe : Def P w K mg base "_law_set" 5 ["_law_bag_here"] (spSet K C)) (DSz : Def P w K mg base "_law_size" 10 ["_law_deeds_here"] (spMany K C 9)) (DCd : Def P w K mg base "_law_cut_down" 11 ["_law_deeds_here", "_law_most"] (spCutDn K C)) (DGd : Def P w K mg base "_law_good" 22 ["_law_deeds_here"] (spGd44 K C CP)) (DRf : Def P w K mg base "_law_refused" 17 ["_law_coded"] (spRefd44 K C CP)) : FnOk P w K mg base CX0 23 f fd ["_law_script"] (spLaw K) := by
  refine F.ok scL (fun vs H Q E h => ?_) (fun cdv A outer s H vs Q E hr h => ?_)
  · obtain ⟨a, ns, rfl, _⟩ := h
    rfl
  · obtain ⟨a, ns, rfl, hS, hlen, k⟩ := h
    have hr1 : Room 1 _ := hr.mono (by decide)
    have hr3 : Room 3 _ := hr.mono (by decide)
    have hr5 : Room 5 _ := hr.mono (by decide)
    have hr10 : Room 10 _ := hr.mono (by decide)
    have hr11 : Room 11 _ := hr.mono (by decide)
    have hr15 : Room 15 _ := hr.mono (by decide)
    have hr17 : Room 17 _ := hr.mono (by decide)
    have hr22 : Room 22 _ := hr
    refine ⟨_, pss_cons (ps_for PassesOwn.never rfl (pi_range1 rfl B.range (pa_cons (pe_callB (call_max2 rfl) (by rfl) B.max (by decide +kernel) (pa_cons pe_int (pa_cons (pe_callB (call_min2 rfl) (by rfl) B.min (by decide +kernel) (pa_cons pe_int (pa_cons (pe_callB call_len_seq (by rfl) B.len PySem.boot_len (pa_cons (pv 0) pa_nil)) pa_nil))) pa_nil))) pa_nil)) (pg_name (i := 1) scL.nd rfl (Or.inl rfl)) (pss_cons (ps_set (i := 2) scL.nd rfl (Or.inr rfl) (pe_def DB hr1 rfl (pa_cons (pv 0) (pa_cons (pv 1) pa_nil)))) (pss_cons (ps_set (i := 3) scL.nd rfl (Or.inl rfl) (pe_def DCd hr11 rfl (pa_cons (pe_def DTo hr15 rfl (pa_cons (pv 2) (pa_cons (pe_op op_add pe_int (pe_def DTk hr1 rfl (pa_cons (pv 2) (pa_cons pe_int pa_nil)))) pa_nil))) (pa_cons pe_int pa_nil)))) (pss_cons (ps_set (i := 4) scL.nd rfl (Or.inl rfl) (pe_callTy call_tuple_of (by rfl) mtu PyProof.Rows.boot_tuple (pa_cons (pe_lc (own := [("_law_turn", 7)]) (g := gName 7) (tt := tYes) rfl scL.nd (pi_range1 rfl B.range (pa_cons (pe_op op_sub pe_int (pe_def DSz hr10 rfl (pa_cons (pv 3) pa_nil))) pa_nil)) (blkOk_by (N := ["_law_script", "_law_k", "_law_bag_here", "_law_deeds_here", "_law_more", "_law_some", "_law_great", "_law_turn"]) (sc := defScope sLaw) (by decide +kernel)) (fun _ _ _ _ _ => (pg_name (i := 7) scL.nd rfl (Or.inl rfl))) (fun _ _ _ _ _ => pts_nil) (fun _ _ _ _ _ => (pe_def DSe hr5 rfl (pa_cons (pv 2) pa_nil)))) pa_nil))) (pss_cons (ps_for PassesOwn.never rfl (pi_list (pe_lst (pa_cons (pv 3) (pa_cons (pe_op (op_catR (C := C)) (pv 3) (pv 4)) (pa_cons (pe_tup pa_nil) (pa_cons (pe_op (op_mulR (C := C)) (pe_tup (pa_cons (pe_tup (pa_cons pe_str (pa_cons pe_int (pa_cons pe_int (pa_cons pe_int pa_nil))))) pa_nil)) pe_int) pa_nil)))))) (pg_name (i := 5) scL.nd rfl (Or.inl rfl)) (pss_one (ps_if (pt_not (pt_val (pe_def DGd hr22 rfl (pa_cons (pv 5) pa_nil)))) (pss_one (ps_ret pe_bl)) pss_nil))) (pss_cons (ps_set (i := 6) scL.nd rfl (Or.inl rfl) (pe_op (op_catR (C := C)) (pe_op (op_catR (C := C)) (pv 3) (pv 4)) (pe_op (op_mulR (C := C)) (pe_tup (pa_cons (pe_def DSe hr5 rfl (pa_cons (pv 2) pa_nil)) pa_nil)) (pe_op op_add pe_int (pe_def DTk hr1 rfl (pa_cons (pv 2) (pa_cons pe_int pa_nil))))))) (pss_one (ps_if (PW.pt (pw_or (pt_not (pt_val (pe_def DRf hr17 rfl (pa_cons (pe_P MP hr15 rfl (pa_cons (pv 6) pa_nil)) pa_nil)))) (pw_or1 (pt_not (pt_val (pe_def DGd hr22 rfl (pa_cons (pv 3) pa_nil))))))) (pss_one (ps_ret pe_bl)) pss_nil)))))))) (pss_one (ps_ret (pe_def DRf hr17 rfl (pa_cons (pe_P MP hr15 rfl (pa_cons (pe_tup (pa_cons (pe_tup (pa_cons pe_str (pa_cons pe_int (pa_cons (pe_tup (pa_cons (pe_tup (pa_cons pe_str (pa_cons pe_int (pa_cons (pe_op (op_mulR (C := C)) (pe_tup (pa_cons (pe_tup (pa_cons pe_str (pa_cons pe_int (pa_cons pe_int pa_nil)))) pa_nil)) pe_int) (pa_cons (pe_op (op_mulR (C := C)) (pe_tup (pa_cons (pe_tup (pa_cons pe_str (pa_cons pe_int (pa_cons (pe_T0 mk hr3 rfl) pa_nil)))) pa_nil)) pe_int) pa_nil))))) pa_nil)) pa_nil)))) pa_nil)) pa_nil)) pa_nil)))), ?_⟩
    have hsl := line4
    refine ⟨_, rfl, a, _, rfl, .inl hS, _, _, rfl, _, _, rfl, ?_⟩
    rw [List.length_map]
    have hj := mult14 ns.length
    revert hj
    generalize (if (if ((ns.length : Nat) : Int) < 4 then ((ns.length : Nat) : Int) else 4) > 1 then (if ((ns.length : Nat) : Int) < 4 then ((ns.length : Nat) : Int) else 4) else 1) = j
    intro hj
    refine ⟨j, rfl, by omega, by omega, for_range (n := j.toNat) (fun i σ H' => ∃ x1 x2 x3 x4 x5 x6 x7 : Option V, σ = [some (.ref a), x1, x2, x3, x4, x5, x6, x7] ∧ Same H H') ⟨_, _, _, _, _, _, _, rfl, Same.refl H⟩ ?_ ?_⟩
    · rintro i σ H0 hi ⟨x1, x2, x3, x4, x5, x6, x7, rfl, s0⟩
      refine ⟨_, rfl, _, rfl, a, ns, i, by rw [Int.zero_add]; rfl, s0.seq hS, by omega, fun p H1 sb np hbag => ?_⟩
      have nep : ∀ {G : Hp} {D : Addr}, BagOk G p → G D = none → D ≠ p := fun bag n z => by
        obtain ⟨bx, hbx⟩ := bag.some
        rw [z, hbx] at n
        cases n
      refine ⟨_, rfl, _, rfl, p, 22, rfl, hbag, by decide, by decide, fun d2 H2 k2 b2 d20 d21 => ?_⟩
      obtain ⟨n2, rfl⟩ := Int.eq_ofNat_of_zero_le d20
      refine ⟨_, _, rfl, rfl, p, 8 + n2, by rw [Int.natCast_add]; rfl, b2, by omega, fun q r H3 k3 b3 hq hd hm hs => ?_⟩
      refine ⟨q, r, 30, rfl, hq, by omega, by omega, fun q4 r4 H4 s4 hq4 hd4 hm4 => ?_⟩
      have b4 := b3.same s4
      refine ⟨_, rfl, q4, r4, rfl, hq4, by omega, by omega, fun H5 s5 => ?_⟩
      have b5 := b4.same s5
      have k15 : KB p H1 H5 := (k2.trans k3).trans (KB.of (s4.trans s5))
      have hq5 := hq4.same s5
      refine ⟨_, _, rfl, rfl, _, rfl, by omega, by omega, fun D nD => lc_range (n := ((30 : Int) - ((manyR r4 : Nat) : Int)).toNat) (fun j H' => ∃ (vs : List V) (ds : List Dd), KB p H5 H' ∧ BagOk H' p ∧ H' D = some (.lst vs) ∧ DsAt K C H' vs ds ∧ ds.length = j ∧ manyR ds = j ∧ deepR ds = 0) ⟨[], [], kb_upd (KB.refl p H5) nD, b5.same (Same.new nD), upd_same, rfl, rfl, rfl, rfl⟩ ?_ ?_⟩
      · rintro j H6 hj6 ⟨vs, ds, k6, b6, hD6, hds, hdl, hdm, hdd⟩
        refine ⟨rfl, lc_yes ?_⟩
        refine ⟨_, rfl, p, rfl, b6, fun v d H7 k7 b7 hdv hd0 hm1 _ => ?_⟩
        have nDp : D ≠ p := nep b5 nD
        have hD7 := k7 _ _ nDp hD6
        have hvl := DsAt.length ds vs hds
        have kt := (b6.kt k7).trans (KT.lst (o := .lst (vs ++ [v])) hD7)
        refine ⟨vs, hD7, by omega, vs ++ [v], ds ++ [d], kb_upd (k6.trans k7) nD, bag_upd b7 nDp, upd_same, DsAt_snoc (DAt_kt (KT.lst hD7) d v hdv) _ _ (DsAt_kt kt ds vs hds), by rw [List.length_append, hdl]; rfl, by rw [manyR_app, hdm, many_cons, many_nil, hm1], by rw [deepR_app, hdd, deepR, hd0, deepR]; rfl⟩
      rintro H6 ⟨vs, ds, k6, b6, hD6, hds, hdl, hdm, hdd⟩
      refine ⟨D, vs, rfl, .inl ⟨SqL.of hD6, fun M nM => ?_⟩⟩
      have s7 := Same.new nM (o := .tup vs)
      have e7 : (upd H6 M (.tup vs)) M = some (.tup vs) := upd_same
      revert s7 e7
      generalize upd H6 M (.tup vs) = H7
      intro s7 e7
      have hM : RAt K C H7 M ds := ⟨vs, SqT.of e7, DsAt_kt (KT.of s7) ds vs hds⟩
      have b7 := b6.same s7
      have k17 : KB p H1 H7 := k15.trans (k6.trans (KB.of s7))
      have kt57 := b5.kt (k6.trans (KB.of s7))
      replace hq4 := hq5.kt kt57
      have lr4 := len_many r4
      have lds := len_many ds
      have htn : (((30 : Int) - ((manyR r4 : Nat) : Int)).toNat) = 30 - manyR r4 := by omega
      rw [htn] at hdm
      refine ⟨_, rfl, _, rfl, _, rfl, q4, M, r4, ds, rfl, rfl, hq4, hM, by omega, fun q8 H8 s8 hq8 => ?_⟩
      replace hq4 := hq4.same s8
      have hm8 : manyR (r4 ++ ds) = 30 := by rw [manyR_app]; omega
      have hd8 : deepR (r4 ++ ds) ≤ 5 := by rw [deepR_app, hdd]; omega
      refine ⟨by show 0 ≤ sizeLine; decide, fun T71 nT71 => ?_⟩
      have s71 := Same.new nT71 (o := .tup [])
      have e71 : (upd H8 T71 (.tup [])) T71 = some (.tup []) := upd_same
      revert s71 e71
      generalize upd H8 T71 (.tup []) = G71
      intro s71 e71
      replace hq4 := RAt.same s71 hq4
      replace hq8 := RAt.same s71 hq8
      have h0 : RAt K C G71 T71 [] := ⟨[], SqT.of e71, rfl⟩
      refine ⟨by show 4 ≤ sizeLine; decide, fun T72 nT72 => ?_⟩
      have s72 := Same.new nT72 (o := .tup [V.str "same", V.int (9), V.int (9), V.int (9)])
      have e72 : (upd G71 T72 (.tup [V.str "same", V.int (9), V.int (9), V.int (9)])) T72 = some (.tup [V.str "same", V.int (9), V.int (9), V.int (9)]) := upd_same
      revert s72 e72
      generalize upd G71 T72 (.tup [V.str "same", V.int (9), V.int (9), V.int (9)]) = G72
      intro s72 e72
      replace hq4 := RAt.same s72 hq4
      replace hq8 := RAt.same s72 hq8
      replace h0 := RAt.same s72 h0
      have dT72 : DAt K C G72 (.ref T72) (.two true 9 9 9) := ⟨T72, rfl, SqT.of e72, by decide, by decide, by decide⟩
      refine ⟨by show 1 ≤ sizeLine; decide, fun T73 nT73 => ?_⟩
      have s73 := Same.new nT73 (o := .tup [.ref T72])
      have e73 : (upd G72 T73 (.tup [.ref T72])) T73 = some (.tup [.ref T72]) := upd_same
      revert s73 e73
      generalize upd G72 T73 (.tup [.ref T72]) = G73
      intro s73 e73
      replace hq4 := RAt.same s73 hq4
      replace hq8 := RAt.same s73 hq8
      replace h0 := RAt.same s73 h0
      replace dT72 := DAt_kt (KT.of s73) _ _ dT72
      have rT73 : RAt K C G73 T73 [.two true 9 9 9] := ⟨_, SqT.of e73, ⟨_, _, rfl, dT72, rfl⟩⟩
      refine ⟨T73, _, 30, rfl, rfl, rT73, by decide, by simp, fun T74 G74 s74 rT74 => ?_⟩
      rw [flat_rl] at rT74
      replace hq4 := RAt.same s74 hq4
      replace hq8 := RAt.same s74 hq8
      replace h0 := RAt.same s74 h0
      refine ⟨by show 4 ≤ sizeLine; decide, fun T75 nT75 => ?_⟩
      have s75 := Same.new nT75 (o := .lst [V.ref q4, .ref q8, .ref T71, .ref T74])
      have e75 : (upd G74 T75 (.lst [V.ref q4, .ref q8, .ref T71, .ref T74])) T75 = some (.lst [V.ref q4, .ref q8, .ref T71, .ref T74]) := upd_same
      revert s75 e75
      generalize upd G74 T75 (.lst [V.ref q4, .ref q8, .ref T71, .ref T74]) = G75
      intro s75 e75
      replace hq4 := RAt.same s75 hq4
      replace hq8 := RAt.same s75 hq8
      replace h0 := RAt.same s75 h0
      replace rT74 := RAt.same s75 rT74
      have sL : Same H8 G75 := ((((s71).trans s72).trans s73).trans s74).trans s75
      have rows : ∀ v ∈ [V.ref q4, .ref q8, .ref T71, .ref T74], ∃ qs rs, v = .ref qs ∧ RAt K C G75 qs rs ∧ deepR rs ≤ 8 ∧ manyR rs ≤ 30 := by
        intro v hv
        simp only [List.mem_cons, List.not_mem_nil, or_false] at hv
        rcases hv with rfl | rfl | rfl | rfl
        · exact ⟨q4, _, rfl, hq4, by omega, by omega⟩
        · exact ⟨q8, _, rfl, hq8, by omega, by omega⟩
        · exact ⟨_, [], rfl, h0, by decide, by decide⟩
        · exact ⟨_, _, rfl, rT74, by rw [deep_rep rfl]; decide, by rw [many_rep rfl]; omega⟩
      have bL := (b7.same s8).same sL
      refine ⟨T75, rfl, ⟨_, SqL.of e75⟩, for_list (K := K) (a := T75) (xs := [V.ref q4, .ref q8, .ref T71, .ref T74]) (fun j σ H' => ∃ x5 : Option V, σ = [some (.ref a), some (.int (0 + ((i : Nat) : Int))), some (.ref p), some (.ref q4), some (.ref M), x5, x6, x7] ∧ Same G75 H') ⟨_, rfl, Same.refl _⟩ (fun j σ H' _ z => by obtain ⟨_, _, h⟩ := z; exact SqL.of (h _ _ e75)) ?_ ?_⟩
      · rintro j' v σ H9 hv ⟨y5, rfl, s9⟩
        obtain ⟨qs, rs, rfl, hqs, hds9, hms⟩ := rows v (List.mem_of_getElem? hv)
        refine ⟨_, rfl, qs, rs, rfl, hqs.same s9, hds9, hms, fun H10 s10 => ?_⟩
        refine ⟨_, rfl, iteF ?_⟩
        exact ⟨_, rfl, s9.trans s10⟩
      · rintro σ H9 ⟨y5, rfl, s9⟩
        have s79 := s8.trans (sL.trans s9)
        have b9 := bL.same s9
        have hq9 := hq4.same s9
        have hM9 := hM.same s79
        refine ⟨_, rfl, _, rfl, q4, M, r4, ds, rfl, rfl, hq9, hM9, by omega, fun qa Ha sa hqa => ?_⟩
        have ba := b9.same sa
        refine ⟨_, rfl, p, rfl, ba, fun v d Hb kb bb hdv hd0 hm1 _ => ?_⟩
        refine ⟨by show 1 ≤ sizeLine; decide, fun W nW => ?_⟩
        have sc := Same.new nW (o := .tup [v])
        have ec : (upd Hb W (.tup [v])) W = some (.tup [v]) := upd_same
        revert sc ec
        generalize upd Hb W (.tup [v]) = Hc
        intro sc ec
        have hw : RAt K C Hc W [d] := ⟨_, SqT.of ec, ⟨_, _, rfl, DAt_kt (KT.of sc) d v hdv, rfl⟩⟩
        have bc := bb.same sc
        refine ⟨_, rfl, p, 9, rfl, bc, by decide, by decide, fun de He ke be de0 de1 => ?_⟩
        obtain ⟨ne, rfl⟩ := Int.eq_ofNat_of_zero_le de0
        have ktce := bc.kt ke
        refine ⟨_, _, rfl, rfl, W, [d], 1 + ne, rfl, by rw [Int.natCast_add]; rfl, hw.kt ktce, by omega, by simp, fun qf Hf sf hqf => ?_⟩
        rw [flat_rl] at hqf
        have ktaf : KT Ha Hf := (ba.kt kb).trans ((KT.of sc).trans (ktce.trans (KT.of sf)))
        refine ⟨qa, qf, r4 ++ ds, _, rfl, rfl, hqa.kt ktaf, hqf, by rw [List.length_append, List.length_replicate]; omega, fun qg Hg sg hqg => ?_⟩
        have hmg : manyR (r4 ++ ds ++ List.replicate (1 + ne) d) = 31 + ne := by
          rw [manyR_app, hm8, many_rep hm1]
          omega
        have hdg : deepR (r4 ++ ds ++ List.replicate (1 + ne) d) ≤ 5 := by
          rw [deepR_app, deep_rep hd0]
          omega
        refine ⟨_, rfl, qg, _, rfl, hqg, by omega, by omega, fun c Hh sh _ hc => ?_⟩
        refine ⟨c, _, rfl, hc, by omega, fun Hi si => ?_⟩
        refine ⟨_, rfl, iteF ?_⟩
        have ktai : KT Ha Hi := ktaf.trans (KT.of (sg.trans (sh.trans si)))
        refine ⟨_, rfl, q4, r4, rfl, (hq9.same sa).kt ktai, by omega, by omega, fun Hk sk => ?_⟩
        refine ⟨_, rfl, iteF ?_⟩
        have kai : KB p Ha Hi := kb.trans ((KB.of sc).trans (ke.trans (KB.of (sf.trans (sg.trans (sh.trans si))))))
        exact ⟨_, _, _, _, _, _, _, rfl, s0.trans (same_kb (same_kb sb (k17.trans (KB.of (s79.trans sa))) np) (kai.trans (KB.of sk)) np)⟩
    · rintro σ H0 ⟨x1, x2, x3, x4, x5, x6, x7, rfl, s0⟩
      show _
      refine ⟨by show 3 ≤ sizeLine; decide, fun T91 nT91 => ?_⟩
      have s91 := Same.new nT91 (o := .tup [V.str "first", V.int (0), V.int (0)])
      have e91 : (upd H0 T91 (.tup [V.str "first", V.int (0), V.int (0)])) T91 = some (.tup [V.str "first", V.int (0), V.int (0)]) := upd_same
      revert s91 e91
      generalize upd H0 T91 (.tup [V.str "first", V.int (0), V.int (0)]) = G91
      intro s91 e91
      have dT91 : DAt K C G91 (.ref T91) (.take false 0 0) := ⟨T91, rfl, SqT.of e91, by decide, by decide⟩
      refine ⟨by show 1 ≤ sizeLine; decide, fun T92 nT92 => ?_⟩
      have s92 := Same.new nT92 (o := .tup [.ref T91])
      have e92 : (upd G91 T92 (.tup [.ref T91])) T92 = some (.tup [.ref T91]) := upd_same
      revert s92 e92
      generalize upd G91 T92 (.tup [.ref T91]) = G92
      intro s92 e92
      replace dT91 := DAt_kt (KT.of s92) _ _ dT91
      have rT92 : RAt K C G92 T92 [.take false 0 0] := ⟨_, SqT.of e92, ⟨_, _, rfl, dT91, rfl⟩⟩
      refine ⟨T92, _, 14, rfl, rfl, rT92, by decide, by simp, fun T93 G93 s93 rT93 => ?_⟩
      rw [flat_rl] at rT93
      refine fun x0 HX sX _ hx0 => ?_
      replace rT93 := RAt.same sX rT93
      refine ⟨by show 3 ≤ sizeLine; decide, fun T94 nT94 => ?_⟩
      have s94 := Same.new nT94 (o := .tup [V.str "told", V.int (9), .ref x0])
      have e94 : (upd HX T94 (.tup [V.str "told", V.int (9), .ref x0])) T94 = some (.tup [V.str "told", V.int (9), .ref x0]) := upd_same
      revert s94 e94
      generalize upd HX T94 (.tup [V.str "told", V.int (9), .ref x0]) = G94
      intro s94 e94
      replace rT93 := RAt.same s94 rT93
      replace hx0 := hx0.same s94
      have dT94 : DAt K C G94 (.ref T94) (.told 9 .nil) := ⟨T94, x0, rfl, SqT.of e94, by decide, hx0, by decide⟩
      refine ⟨by show 1 ≤ sizeLine; decide, fun T95 nT95 => ?_⟩
      have s95 := Same.new nT95 (o := .tup [.ref T94])
      have e95 : (upd G94 T95 (.tup [.ref T94])) T95 = some (.tup [.ref T94]) := upd_same
      revert s95 e95
      generalize upd G94 T95 (.tup [.ref T94]) = G95
      intro s95 e95
      replace rT93 := RAt.same s95 rT93
      replace hx0 := hx0.same s95
      replace dT94 := DAt_kt (KT.of s95) _ _ dT94
      have rT95 : RAt K C G95 T95 [.told 9 .nil] := ⟨_, SqT.of e95, ⟨_, _, rfl, dT94, rfl⟩⟩
      refine ⟨T95, _, 15, rfl, rfl, rT95, by decide, by simp, fun T96 G96 s96 rT96 => ?_⟩
      rw [flat_rl] at rT96
      replace rT93 := RAt.same s96 rT93
      refine ⟨by show 4 ≤ sizeLine; decide, fun T97 nT97 => ?_⟩
      have s97 := Same.new nT97 (o := .tup [V.str "if", V.int (0), .ref T93, .ref T96])
      have e97 : (upd G96 T97 (.tup [V.str "if", V.int (0), .ref T93, .ref T96])) T97 = some (.tup [V.str "if", V.int (0), .ref T93, .ref T96]) := upd_same
      revert s97 e97
      generalize upd G96 T97 (.tup [V.str "if", V.int (0), .ref T93, .ref T96]) = G97
      intro s97 e97
      replace rT93 := RAt.same s97 rT93
      replace rT96 := RAt.same s97 rT96
      have dT97 : DAt K C G97 (.ref T97) (.iff 0 (List.replicate (14) (.take false 0 0)) (List.replicate (15) (.told 9 .nil))) := (let ⟨vs, h1, h2⟩ := rT93; let ⟨us, h3, h4⟩ := rT96; ⟨T97, T93, vs, T96, us, rfl, SqT.of e97, by decide, h1, h2, h3, h4⟩)
      refine ⟨by show 1 ≤ sizeLine; decide, fun T98 nT98 => ?_⟩
      have s98 := Same.new nT98 (o := .tup [.ref T97])
      have e98 : (upd G97 T98 (.tup [.ref T97])) T98 = some (.tup [.ref T97]) := upd_same
      revert s98 e98
      generalize upd G97 T98 (.tup [.ref T97]) = G98
      intro s98 e98
      replace rT93 := RAt.same s98 rT93
      replace rT96 := RAt.same s98 rT96
      replace dT97 := DAt_kt (KT.of s98) _ _ dT97
      have rT98 : RAt K C G98 T98 [.iff 0 (List.replicate (14) (.take false 0 0)) (List.replicate (15) (.told 9 .nil))] := ⟨_, SqT.of e98, ⟨_, _, rfl, dT97, rfl⟩⟩
      refine ⟨by show 3 ≤ sizeLine; decide, fun T99 nT99 => ?_⟩
      have s99 := Same.new nT99 (o := .tup [V.str "while", V.int (0), .ref T98])
      have e99 : (upd G98 T99 (.tup [V.str "while", V.int (0), .ref T98])) T99 = some (.tup [V.str "while", V.int (0), .ref T98]) := upd_same
      revert s99 e99
      generalize upd G98 T99 (.tup [V.str "while", V.int (0), .ref T98]) = G99
      intro s99 e99
      replace rT93 := RAt.same s99 rT93
      replace rT96 := RAt.same s99 rT96
      replace rT98 := RAt.same s99 rT98
      have dT99 : DAt K C G99 (.ref T99) (.wh 0 [.iff 0 (List.replicate (14) (.take false 0 0)) (List.replicate (15) (.told 9 .nil))]) := (let ⟨vs, h1, h2⟩ := rT98; ⟨T99, T98, vs, rfl, SqT.of e99, by decide, h1, h2⟩)
      refine ⟨by show 1 ≤ sizeLine; decide, fun T100 nT100 => ?_⟩
      have s100 := Same.new nT100 (o := .tup [.ref T99])
      have e100 : (upd G99 T100 (.tup [.ref T99])) T100 = some (.tup [.ref T99]) := upd_same
      revert s100 e100
      generalize upd G99 T100 (.tup [.ref T99]) = G100
      intro s100 e100
      replace rT93 := RAt.same s100 rT93
      replace rT96 := RAt.same s100 rT96
      replace rT98 := RAt.same s100 rT98
      replace dT99 := DAt_kt (KT.of s100) _ _ dT99
      have rT100 : RAt K C G100 T100 [.wh 0 [.iff 0 (List.replicate (14) (.take false 0 0)) (List.replicate (15) (.told 9 .nil))]] := ⟨_, SqT.of e100, ⟨_, _, rfl, dT99, rfl⟩⟩
      refine ⟨T100, _, rfl, rT100, by decide, by decide, fun c H8 s8 _ hc => ?_⟩
      exact ⟨c, _, rfl, hc, by decide, fun H9 s9 => k H9⟩
end
end Js

set_option Elab.async false
set_option linter.all false
set_option maxRecDepth 100000
set_option maxHeartbeats 4000000
namespace Js
open PySem L2 PyProof.Rows
theorem all_mk {P : Program} {w : World} {K : PySem.W.Frag} {h : Heap} {mg : Str → Option Value} {fa C : Addr} (X : K.In h) (G : h.Ns mainGlobals mg) (hfa : mg "law" = some (.ref fa))
    {tM : Tok}
    {oI : Value} {odI anI odT : Option Addr} {slI slT : Array (Option Value)} {kVI dcI pmI cdI ctI ocT : Value} {fI TI : Addr} {nT : Nat}
    {fEq : Addr} {ocEq kVEq dcEq pmEq cdEq ctEq : Value} {odEq anEq : Option Addr} {slEq : Array (Option Value)}
    {fPa : Addr} {ocPa kVPa dcPa pmPa cdPa ctPa : Value} {odPa anPa : Option Addr} {slPa : Array (Option Value)}
    {fAl : Addr} {ocAl kVAl dcAl pmAl cdAl ctAl : Value} {odAl anAl : Option Addr} {slAl : Array (Option Value)}
    {fNu : Addr} {ocNu kVNu dcNu pmNu cdNu ctNu : Value} {odNu anNu : Option Addr} {slNu : Array (Option Value)}
    {fIn : Addr} {ocIn kVIn dcIn pmIn cdIn ctIn : Value} {odIn anIn : Option Addr} {slIn : Array (Option Value)}
    {fFt : Addr} {ocFt kVFt dcFt pmFt cdFt ctFt : Value} {odFt anFt : Option Addr} {slFt : Array (Option Value)}
    {fHf : Addr} {ocHf kVHf dcHf pmHf cdHf ctHf : Value} {odHf anHf : Option Addr} {slHf : Array (Option Value)}
    {fRi : Addr} {ocRi kVRi dcRi pmRi cdRi ctRi : Value} {odRi anRi : Option Addr} {slRi : Array (Option Value)}
    {fLk : Addr} {ocLk kVLk dcLk pmLk cdLk ctLk : Value} {odLk anLk : Option Addr} {slLk : Array (Option Value)}
    {fLy : Addr} {ocLy kVLy dcLy pmLy cdLy ctLy : Value} {odLy anLy : Option Addr} {slLy : Array (Option Value)}
    {fNi : Addr} {ocNi kVNi dcNi pmNi cdNi ctNi : Value} {odNi anNi : Option Addr} {slNi : Array (Option Value)}
    {fFe : Addr} {ocFe kVFe dcFe pmFe cdFe ctFe : Value} {odFe anFe : Option Addr} {slFe : Array (Option Value)}
    {fGt : Addr} {ocGt kVGt dcGt pmGt cdGt ctGt : Value} {odGt anGt : Option Addr} {slGt : Array (Option Value)}
    {fMa : Addr} {ocMa kVMa dcMa pmMa cdMa ctMa : Value} {odMa anMa : Option Addr} {slMa : Array (Option Value)}
    {fSo : Addr} {ocSo kVSo dcSo pmSo cdSo ctSo : Value} {odSo anSo : Option Addr} {slSo : Array (Option Value)}
    {fDd : Addr} {ocDd kVDd dcDd pmDd cdDd ctDd : Value} {odDd anDd : Option Addr} {slDd : Array (Option Value)}
    {fCh : Addr} {ocCh kVCh dcCh pmCh cdCh ctCh : Value} {odCh anCh : Option Addr} {slCh : Array (Option Value)}
    {fSm : Addr} {ocSm kVSm dcSm pmSm cdSm ctSm : Value} {odSm anSm : Option Addr} {slSm : Array (Option Value)}
    {fBa : Addr} {ocBa kVBa dcBa pmBa cdBa ctBa : Value} {odBa anBa : Option Addr} {slBa : Array (Option Value)}
    {fTa : Addr} {ocTa kVTa dcTa pmTa cdTa ctTa : Value} {odTa anTa : Option Addr} {slTa : Array (Option Value)}
    {fTh : Addr} {ocTh kVTh dcTh pmTh cdTh ctTh : Value} {odTh anTh : Option Addr} {slTh : Array (Option Value)}
    {fNa : Addr} {ocNa kVNa dcNa pmNa cdNa ctNa : Value} {odNa anNa : Option Addr} {slNa : Array (Option Value)}
    {fDs : Addr} {ocDs kVDs dcDs pmDs cdDs ctDs : Value} {odDs anDs : Option Addr} {slDs : Array (Option Value)}
    {fTo : Addr} {ocTo kVTo dcTo pmTo cdTo ctTo : Value} {odTo anTo : Option Addr} {slTo : Array (Option Value)}
    {fSe : Addr} {ocSe kVSe dcSe pmSe cdSe ctSe : Value} {odSe anSe : Option Addr} {slSe : Array (Option Value)}
    {fRs : Addr} {ocRs kVRs dcRs pmRs cdRs ctRs : Value} {odRs anRs : Option Addr} {slRs : Array (Option Value)}
    {fSz : Addr} {ocSz kVSz dcSz pmSz cdSz ctSz : Value} {odSz anSz : Option Addr} {slSz : Array (Option Value)}
    {fLd : Addr} {ocLd kVLd dcLd pmLd cdLd ctLd : Value} {odLd anLd : Option Addr} {slLd : Array (Option Value)}
    {fCd : Addr} {ocCd kVCd dcCd pmCd cdCd ctCd : Value} {odCd anCd : Option Addr} {slCd : Array (Option Value)}
    {fRf : Addr} {ocRf kVRf dcRf pmRf cdRf ctRf : Value} {odRf anRf : Option Addr} {slRf : Array (Option Value)}
    {fGd : Addr} {ocGd kVGd dcGd pmGd cdGd ctGd : Value} {odGd anGd : Option Addr} {slGd : Array (Option Value)}
    {fLaw : Addr} {ocLaw kVLaw dcLaw pmLaw cdLaw ctLaw : Value} {odLaw anLaw : Option Addr} {slLaw : Array (Option Value)}
    {CP dF : Addr} {esF : Array DictEntry} {nFm : Nat} {tN1 tN2 tN3 tf0 tf1 tf2 tf3 tf4 tf5 tf6 : Tok}
    {fPI : Addr} {ocPI kVPI dcPI pmPI cdPI ctPI : Value} {odPI anPI : Option Addr} {slPI : Array (Option Value)}
    {fPL : Addr} {ocPL kVPL dcPL pmPL cdPL ctPL : Value} {odPL anPL : Option Addr} {slPL : Array (Option Value)}
    {fPE : Addr} {ocPE kVPE dcPE pmPE cdPE ctPE : Value} {odPE anPE : Option Addr} {slPE : Array (Option Value)}
    {fPU : Addr} {ocPU kVPU dcPU pmPU cdPU ctPU : Value} {odPU anPU : Option Addr} {slPU : Array (Option Value)}
    {N fN : Addr} {nmN qN : Str} {NN : Addr} {bsN : List Value} {snN : List Str} {subN : List Value} {abN : Bool} {colN : Option Bool} {ddN : Option Addr} {m0N m1N m2N m3N m5N : Option Value}
    {ocN kVN dcN pmN cdN ctN : Value} {odN anN : Option Addr} {slN : Array (Option Value)}
    {tTA : Tok}
    (aC : PySem.W.nsIn K mainGlobals "Thing" = some (some (.ref C)))
    (pg : PySem.W.plainGet K C Str.empty = true)
    (hd : PySem.W.hasDictIn K C = true)
    (po : PySem.W.plainOver K C = true)
    (sa : PySem.W.findIn K (.ref C) "__setattr__" = some (some (.builtin "object.__setattr__")))
    (mkC : PySem.W.makesIn K C = true)
    (kc : PySem.W.keepIn K (.ref C) = true)
    (nF : PySem.W.findIn K (.ref C) "first" = some none)
    (nS : PySem.W.findIn K (.ref C) "second" = some none)
    (nZ : PySem.W.findIn K (.ref C) "size" = some none)
    (ca : PySem.W.findIn K (.ref C) "__class__" = some (some (.builtin "object.__class__")))
    (cn : PySem.W.specialIn K (.builtin "object.__class__") "__get__" = some (some (.builtin "getset_descriptor.__get__")))
    (ct : PySem.W.takesIn K (.builtin "object.__class__") = some true)
    (cm : PySem.W.mroIn K C (.type "object") = some true)
    (neC : PySem.W.findIn K (.ref C) "__ne__" = some (some (.builtin "object.__ne__")))
    (aM : PySem.W.nsIn K mainGlobals "MOST_PAIRS" = some (some (.int 4000 tM)))
    (aI : PySem.W.findIn K (.ref C) "__init__" = some (some (.ref fI)))
    (iI : PySem.W.isFn K (.ref fI) = true)
    (lI : K.lookup fI = some ⟨oI, odI, .func (PySem.W.fnOf "__init__" "Thing.__init__" (defArgs sInit) (defBody sInit) (defScope sInit) (.ref TI) kVI dcI pmI anI cdI ctI), slI⟩)
    (cI : PySem.W.codeIn K cdI "Thing.__init__" = true)
    (kI : PySem.W.keepIn K (.ref fI) = true)
    (lT : K.lookup TI = some ⟨ocT, odT, .seq #[.none, .none] nT, slT⟩)
    (aEq : PySem.W.findIn K (.ref C) "__eq__" = some (some (.ref fEq)))
    (iEq : PySem.W.isFn K (.ref fEq) = true)
    (lEq : K.lookup fEq = some ⟨ocEq, odEq, .func (PySem.W.fnOf "__eq__" "Thing.__eq__" (defArgs sEq) (defBody sEq) (defScope sEq) .none kVEq dcEq pmEq anEq cdEq ctEq), slEq⟩)
    (cEq : PySem.W.codeIn K cdEq "Thing.__eq__" = true)
    (kEq : PySem.W.keepIn K (.ref fEq) = true)
    (aPa : PySem.W.nsIn K mainGlobals "pairs_in" = some (some (.ref fPa)))
    (lPa : K.lookup fPa = some ⟨ocPa, odPa, .func (PySem.W.fnOf "pairs_in" "pairs_in" (defArgs sPairs) (defBody sPairs) (defScope sPairs) .none kVPa dcPa pmPa anPa cdPa ctPa), slPa⟩)
    (cPa : PySem.W.codeIn K cdPa "pairs_in" = true)
    (kPa : PySem.W.keepIn K (.ref fPa) = true)
    (aAl : PySem.W.nsIn K mainGlobals "alike" = some (some (.ref fAl)))
    (lAl : K.lookup fAl = some ⟨ocAl, odAl, .func (PySem.W.fnOf "alike" "alike" (defArgs sAlike) (defBody sAlike) (defScope sAlike) .none kVAl dcAl pmAl anAl cdAl ctAl), slAl⟩)
    (cAl : PySem.W.codeIn K cdAl "alike" = true)
    (kAl : PySem.W.keepIn K (.ref fAl) = true)
    (aNu : PySem.W.nsIn K mainGlobals "number" = some (some (.ref fNu)))
    (lNu : K.lookup fNu = some ⟨ocNu, odNu, .func (PySem.W.fnOf "number" "number" (defArgs sNumber) (defBody sNumber) (defScope sNumber) .none kVNu dcNu pmNu anNu cdNu ctNu), slNu⟩)
    (cNu : PySem.W.codeIn K cdNu "number" = true)
    (kNu : PySem.W.keepIn K (.ref fNu) = true)
    (aIn : PySem.W.nsIn K mainGlobals "is_name" = some (some (.ref fIn)))
    (lIn : K.lookup fIn = some ⟨ocIn, odIn, .func (PySem.W.fnOf "is_name" "is_name" (defArgs sIsName) (defBody sIsName) (defScope sIsName) .none kVIn dcIn pmIn anIn cdIn ctIn), slIn⟩)
    (cIn : PySem.W.codeIn K cdIn "is_name" = true)
    (kIn : PySem.W.keepIn K (.ref fIn) = true)
    (aFt : PySem.W.nsIn K mainGlobals "fits" = some (some (.ref fFt)))
    (lFt : K.lookup fFt = some ⟨ocFt, odFt, .func (PySem.W.fnOf "fits" "fits" (defArgs sFits) (defBody sFits) (defScope sFits) .none kVFt dcFt pmFt anFt cdFt ctFt), slFt⟩)
    (cFt : PySem.W.codeIn K cdFt "fits" = true)
    (kFt : PySem.W.keepIn K (.ref fFt) = true)
    (aHf : PySem.W.nsIn K mainGlobals "has_form" = some (some (.ref fHf)))
    (lHf : K.lookup fHf = some ⟨ocHf, odHf, .func (PySem.W.fnOf "has_form" "has_form" (defArgs sHasForm) (defBody sHasForm) (defScope sHasForm) .none kVHf dcHf pmHf anHf cdHf ctHf), slHf⟩)
    (cHf : PySem.W.codeIn K cdHf "has_form" = true)
    (kHf : PySem.W.keepIn K (.ref fHf) = true)
    (aRi : PySem.W.nsIn K mainGlobals "rows_in" = some (some (.ref fRi)))
    (lRi : K.lookup fRi = some ⟨ocRi, odRi, .func (PySem.W.fnOf "rows_in" "rows_in" (defArgs sRowsIn) (defBody sRowsIn) (defScope sRowsIn) .none kVRi dcRi pmRi anRi cdRi ctRi), slRi⟩)
    (cRi : PySem.W.codeIn K cdRi "rows_in" = true)
    (kRi : PySem.W.keepIn K (.ref fRi) = true)
    (aLk : PySem.W.nsIn K mainGlobals "look_through" = some (some (.ref fLk)))
    (lLk : K.lookup fLk = some ⟨ocLk, odLk, .func (PySem.W.fnOf "look_through" "look_through" (defArgs sLook) (defBody sLook) (defScope sLook) .none kVLk dcLk pmLk anLk cdLk ctLk), slLk⟩)
    (cLk : PySem.W.codeIn K cdLk "look_through" = true)
    (kLk : PySem.W.keepIn K (.ref fLk) = true)
    (aLy : PySem.W.nsIn K mainGlobals "lay_out" = some (some (.ref fLy)))
    (lLy : K.lookup fLy = some ⟨ocLy, odLy, .func (PySem.W.fnOf "lay_out" "lay_out" (defArgs sLay) (defBody sLay) (defScope sLay) .none kVLy dcLy pmLy anLy cdLy ctLy), slLy⟩)
    (cLy : PySem.W.codeIn K cdLy "lay_out" = true)
    (kLy : PySem.W.keepIn K (.ref fLy) = true)
    (aNi : PySem.W.nsIn K mainGlobals "names_in" = some (some (.ref fNi)))
    (lNi : K.lookup fNi = some ⟨ocNi, odNi, .func (PySem.W.fnOf "names_in" "names_in" (defArgs sNamesIn) (defBody sNamesIn) (defScope sNamesIn) .none kVNi dcNi pmNi anNi cdNi ctNi), slNi⟩)
    (cNi : PySem.W.codeIn K cdNi "names_in" = true)
    (kNi : PySem.W.keepIn K (.ref fNi) = true)
    (aFe : PySem.W.nsIn K mainGlobals "fetch" = some (some (.ref fFe)))
    (lFe : K.lookup fFe = some ⟨ocFe, odFe, .func (PySem.W.fnOf "fetch" "fetch" (defArgs sFetch) (defBody sFetch) (defScope sFetch) .none kVFe dcFe pmFe anFe cdFe ctFe), slFe⟩)
    (cFe : PySem.W.codeIn K cdFe "fetch" = true)
    (kFe : PySem.W.keepIn K (.ref fFe) = true)
    (aGt : PySem.W.nsIn K mainGlobals "go_to" = some (some (.ref fGt)))
    (lGt : K.lookup fGt = some ⟨ocGt, odGt, .func (PySem.W.fnOf "go_to" "go_to" (defArgs sGoTo) (defBody sGoTo) (defScope sGoTo) .none kVGt dcGt pmGt anGt cdGt ctGt), slGt⟩)
    (cGt : PySem.W.codeIn K cdGt "go_to" = true)
    (kGt : PySem.W.keepIn K (.ref fGt) = true)
    (aMa : PySem.W.nsIn K mainGlobals "make" = some (some (.ref fMa)))
    (lMa : K.lookup fMa = some ⟨ocMa, odMa, .func (PySem.W.fnOf "make" "make" (defArgs sMake44) (defBody sMake44) (defScope sMake44) .none kVMa dcMa pmMa anMa cdMa ctMa), slMa⟩)
    (cMa : PySem.W.codeIn K cdMa "make" = true)
    (kMa : PySem.W.keepIn K (.ref fMa) = true)
    (aSo : PySem.W.nsIn K mainGlobals "store" = some (some (.ref fSo)))
    (lSo : K.lookup fSo = some ⟨ocSo, odSo, .func (PySem.W.fnOf "store" "store" (defArgs sStore) (defBody sStore) (defScope sStore) .none kVSo dcSo pmSo anSo cdSo ctSo), slSo⟩)
    (cSo : PySem.W.codeIn K cdSo "store" = true)
    (kSo : PySem.W.keepIn K (.ref fSo) = true)
    (aDd : PySem.W.nsIn K mainGlobals "deed_done" = some (some (.ref fDd)))
    (lDd : K.lookup fDd = some ⟨ocDd, odDd, .func (PySem.W.fnOf "deed_done" "deed_done" (defArgs sDeedDone) (defBody sDeedDone) (defScope sDeedDone) .none kVDd dcDd pmDd anDd cdDd ctDd), slDd⟩)
    (cDd : PySem.W.codeIn K cdDd "deed_done" = true)
    (kDd : PySem.W.keepIn K (.ref fDd) = true)
    (aCh : PySem.W.nsIn K mainGlobals "choose" = some (some (.ref fCh)))
    (lCh : K.lookup fCh = some ⟨ocCh, odCh, .func (PySem.W.fnOf "choose" "choose" (defArgs sChoose) (defBody sChoose) (defScope sChoose) .none kVCh dcCh pmCh anCh cdCh ctCh), slCh⟩)
    (cCh : PySem.W.codeIn K cdCh "choose" = true)
    (kCh : PySem.W.keepIn K (.ref fCh) = true)
    (aSm : PySem.W.nsIn K mainGlobals "small" = some (some (.ref fSm)))
    (lSm : K.lookup fSm = some ⟨ocSm, odSm, .func (PySem.W.fnOf "small" "small" (defArgs sSmall) (defBody sSmall) (defScope sSmall) .none kVSm dcSm pmSm anSm cdSm ctSm), slSm⟩)
    (cSm : PySem.W.codeIn K cdSm "small" = true)
    (kSm : PySem.W.keepIn K (.ref fSm) = true)
    (aBa : PySem.W.nsIn K mainGlobals "_law_bag" = some (some (.ref fBa)))
    (lBa : K.lookup fBa = some ⟨ocBa, odBa, .func (PySem.W.fnOf "_law_bag" "_law_bag" (defArgs sBag) (defBody sBag) (defScope sBag) .none kVBa dcBa pmBa anBa cdBa ctBa), slBa⟩)
    (cBa : PySem.W.codeIn K cdBa "_law_bag" = true)
    (kBa : PySem.W.keepIn K (.ref fBa) = true)
    (aTa : PySem.W.nsIn K mainGlobals "_law_take" = some (some (.ref fTa)))
    (lTa : K.lookup fTa = some ⟨ocTa, odTa, .func (PySem.W.fnOf "_law_take" "_law_take" (defArgs sTake) (defBody sTake) (defScope sTake) .none kVTa dcTa pmTa anTa cdTa ctTa), slTa⟩)
    (cTa : PySem.W.codeIn K cdTa "_law_take" = true)
    (kTa : PySem.W.keepIn K (.ref fTa) = true)
    (aTh : PySem.W.nsIn K mainGlobals "_law_thing" = some (some (.ref fTh)))
    (lTh : K.lookup fTh = some ⟨ocTh, odTh, .func (PySem.W.fnOf "_law_thing" "_law_thing" (defArgs sThing) (defBody sThing) (defScope sThing) .none kVTh dcTh pmTh anTh cdTh ctTh), slTh⟩)
    (cTh : PySem.W.codeIn K cdTh "_law_thing" = true)
    (kTh : PySem.W.keepIn K (.ref fTh) = true)
    (aNa : PySem.W.nsIn K mainGlobals "_law_name" = some (some (.ref fNa)))
    (lNa : K.lookup fNa = some ⟨ocNa, odNa, .func (PySem.W.fnOf "_law_name" "_law_name" (defArgs sName) (defBody sName) (defScope sName) .none kVNa dcNa pmNa anNa cdNa ctNa), slNa⟩)
    (cNa : PySem.W.codeIn K cdNa "_law_name" = true)
    (kNa : PySem.W.keepIn K (.ref fNa) = true)
    (aDs : PySem.W.nsIn K mainGlobals "_law_deeds" = some (some (.ref fDs)))
    (lDs : K.lookup fDs = some ⟨ocDs, odDs, .func (PySem.W.fnOf "_law_deeds" "_law_deeds" (defArgs sDeeds) (defBody sDeeds) (defScope sDeeds) .none kVDs dcDs pmDs anDs cdDs ctDs), slDs⟩)
    (cDs : PySem.W.codeIn K cdDs "_law_deeds" = true)
    (kDs : PySem.W.keepIn K (.ref fDs) = true)
    (aTo : PySem.W.nsIn K mainGlobals "_law_top" = some (some (.ref fTo)))
    (lTo : K.lookup fTo = some ⟨ocTo, odTo, .func (PySem.W.fnOf "_law_top" "_law_top" (defArgs sTop) (defBody sTop) (defScope sTop) .none kVTo dcTo pmTo anTo cdTo ctTo), slTo⟩)
    (cTo : PySem.W.codeIn K cdTo "_law_top" = true)
    (kTo : PySem.W.keepIn K (.ref fTo) = true)
    (aSe : PySem.W.nsIn K mainGlobals "_law_set" = some (some (.ref fSe)))
    (lSe : K.lookup fSe = some ⟨ocSe, odSe, .func (PySem.W.fnOf "_law_set" "_law_set" (defArgs sSet) (defBody sSet) (defScope sSet) .none kVSe dcSe pmSe anSe cdSe ctSe), slSe⟩)
    (cSe : PySem.W.codeIn K cdSe "_law_set" = true)
    (kSe : PySem.W.keepIn K (.ref fSe) = true)
    (aRs : PySem.W.nsIn K mainGlobals "_law_rows" = some (some (.ref fRs)))
    (lRs : K.lookup fRs = some ⟨ocRs, odRs, .func (PySem.W.fnOf "_law_rows" "_law_rows" (defArgs sLRows) (defBody sLRows) (defScope sLRows) .none kVRs dcRs pmRs anRs cdRs ctRs), slRs⟩)
    (cRs : PySem.W.codeIn K cdRs "_law_rows" = true)
    (kRs : PySem.W.keepIn K (.ref fRs) = true)
    (aSz : PySem.W.nsIn K mainGlobals "_law_size" = some (some (.ref fSz)))
    (lSz : K.lookup fSz = some ⟨ocSz, odSz, .func (PySem.W.fnOf "_law_size" "_law_size" (defArgs sSize2) (defBody sSize2) (defScope sSize2) .none kVSz dcSz pmSz anSz cdSz ctSz), slSz⟩)
    (cSz : PySem.W.codeIn K cdSz "_law_size" = true)
    (kSz : PySem.W.keepIn K (.ref fSz) = true)
    (aLd : PySem.W.nsIn K mainGlobals "_law_looked" = some (some (.ref fLd)))
    (lLd : K.lookup fLd = some ⟨ocLd, odLd, .func (PySem.W.fnOf "_law_looked" "_law_looked" (defArgs sLooked) (defBody sLooked) (defScope sLooked) .none kVLd dcLd pmLd anLd cdLd ctLd), slLd⟩)
    (cLd : PySem.W.codeIn K cdLd "_law_looked" = true)
    (kLd : PySem.W.keepIn K (.ref fLd) = true)
    (aCd : PySem.W.nsIn K mainGlobals "_law_cut_down" = some (some (.ref fCd)))
    (lCd : K.lookup fCd = some ⟨ocCd, odCd, .func (PySem.W.fnOf "_law_cut_down" "_law_cut_down" (defArgs sCutDown) (defBody sCutDown) (defScope sCutDown) .none kVCd dcCd pmCd anCd cdCd ctCd), slCd⟩)
    (cCd : PySem.W.codeIn K cdCd "_law_cut_down" = true)
    (kCd : PySem.W.keepIn K (.ref fCd) = true)
    (aRf : PySem.W.nsIn K mainGlobals "_law_refused" = some (some (.ref fRf)))
    (lRf : K.lookup fRf = some ⟨ocRf, odRf, .func (PySem.W.fnOf "_law_refused" "_law_refused" (defArgs sRefd44) (defBody sRefd44) (defScope sRefd44) .none kVRf dcRf pmRf anRf cdRf ctRf), slRf⟩)
    (cRf : PySem.W.codeIn K cdRf "_law_refused" = true)
    (kRf : PySem.W.keepIn K (.ref fRf) = true)
    (aGd : PySem.W.nsIn K mainGlobals "_law_good" = some (some (.ref fGd)))
    (lGd : K.lookup fGd = some ⟨ocGd, odGd, .func (PySem.W.fnOf "_law_good" "_law_good" (defArgs sGd44) (defBody sGd44) (defScope sGd44) .none kVGd dcGd pmGd anGd cdGd ctGd), slGd⟩)
    (cGd : PySem.W.codeIn K cdGd "_law_good" = true)
    (kGd : PySem.W.keepIn K (.ref fGd) = true)
    (aLaw : PySem.W.nsIn K mainGlobals "law" = some (some (.ref fLaw)))
    (lLaw : K.lookup fLaw = some ⟨ocLaw, odLaw, .func (PySem.W.fnOf "law" "law" (defArgs sLaw) (defBody sLaw) (defScope sLaw) .none kVLaw dcLaw pmLaw anLaw cdLaw ctLaw), slLaw⟩)
    (cLaw : PySem.W.codeIn K cdLaw "law" = true)
    (kLaw : PySem.W.keepIn K (.ref fLaw) = true)
    (aP : PySem.W.nsIn K mainGlobals "Program" = some (some (.ref CP)))
    (pgP : PySem.W.plainGet K CP Str.empty = true)
    (hdP : PySem.W.hasDictIn K CP = true)
    (poP : PySem.W.plainOver K CP = true)
    (saP : PySem.W.findIn K (.ref CP) "__setattr__" = some (some (.builtin "object.__setattr__")))
    (mkCP : PySem.W.makesIn K CP = true)
    (kcP : PySem.W.keepIn K (.ref CP) = true)
    (nDP : PySem.W.findIn K (.ref CP) "deeds" = some none)
    (nPP : PySem.W.findIn K (.ref CP) "plan" = some none)
    (caP : PySem.W.findIn K (.ref CP) "__class__" = some (some (.builtin "object.__class__")))
    (cmP : PySem.W.mroIn K CP (.type "object") = some true)
    (neP : PySem.W.findIn K (.ref CP) "__ne__" = some (some (.builtin "object.__ne__")))
    (aFm : PySem.W.nsIn K mainGlobals "FORMS" = some (some (.ref dF)))
    (lFm : K.lookup dF = some ⟨.type "dict", none, .dict esF nFm, #[]⟩)
    (litF : PySem.W.KeysLit w.params esF.toList)
    (lowF : (dF == sysModules) = false)
    (aN1 : PySem.W.nsIn K mainGlobals "MANY_NAMES" = some (some (.int 10 tN1)))
    (aN2 : PySem.W.nsIn K mainGlobals "MOST_DEEDS" = some (some (.int 4000 tN2)))
    (aN3 : PySem.W.nsIn K mainGlobals "MOST_FLOORS" = some (some (.int 8 tN3)))
    (kii : PySem.W.kitOne K (.type "int") (.type "int") = some true)
    (kib : PySem.W.kitOne K (.type "int") (.type "bool") = some false)
    (ktt : PySem.W.kitOne K (.type "tuple") (.type "tuple") = some true)
    (kss : PySem.W.kitOne K (.type "str") (.type "str") = some true)
    (fm0 : PySem.W.nsIn K dF "told" = some (some (.str "nt" tf0)))
    (fm1 : PySem.W.nsIn K dF "first" = some (some (.str "nn" tf1)))
    (fm2 : PySem.W.nsIn K dF "second" = some (some (.str "nn" tf2)))
    (fm3 : PySem.W.nsIn K dF "pair" = some (some (.str "nnn" tf3)))
    (fm4 : PySem.W.nsIn K dF "same" = some (some (.str "nnn" tf4)))
    (fm5 : PySem.W.nsIn K dF "while" = some (some (.str "nr" tf5)))
    (fm6 : PySem.W.nsIn K dF "if" = some (some (.str "nrr" tf6)))
    (aPI : PySem.W.findIn K (.ref CP) "__init__" = some (some (.ref fPI)))
    (iPI : PySem.W.isFn K (.ref fPI) = true)
    (lPI : K.lookup fPI = some ⟨ocPI, odPI, .func (PySem.W.fnOf "__init__" "Program.__init__" (defArgs sPInit) (defBody sPInit) (defScope sPInit) .none kVPI dcPI pmPI anPI cdPI ctPI), slPI⟩)
    (cPI : PySem.W.codeIn K cdPI "Program.__init__" = true)
    (kPI : PySem.W.keepIn K (.ref fPI) = true)
    (aPL : PySem.W.findIn K (.ref CP) "__len__" = some (some (.ref fPL)))
    (iPL : PySem.W.isFn K (.ref fPL) = true)
    (lPL : K.lookup fPL = some ⟨ocPL, odPL, .func (PySem.W.fnOf "__len__" "Program.__len__" (defArgs sPLen) (defBody sPLen) (defScope sPLen) .none kVPL dcPL pmPL anPL cdPL ctPL), slPL⟩)
    (cPL : PySem.W.codeIn K cdPL "Program.__len__" = true)
    (kPL : PySem.W.keepIn K (.ref fPL) = true)
    (aPE : PySem.W.findIn K (.ref CP) "__eq__" = some (some (.ref fPE)))
    (iPE : PySem.W.isFn K (.ref fPE) = true)
    (lPE : K.lookup fPE = some ⟨ocPE, odPE, .func (PySem.W.fnOf "__eq__" "Program.__eq__" (defArgs sPEq) (defBody sPEq) (defScope sPEq) .none kVPE dcPE pmPE anPE cdPE ctPE), slPE⟩)
    (cPE : PySem.W.codeIn K cdPE "Program.__eq__" = true)
    (kPE : PySem.W.keepIn K (.ref fPE) = true)
    (aPU : PySem.W.findIn K (.ref CP) "used" = some (some (.ref fPU)))
    (iPU : PySem.W.isFn K (.ref fPU) = true)
    (lPU : K.lookup fPU = some ⟨ocPU, odPU, .func (PySem.W.fnOf "used" "Program.used" (defArgs sUsed) (defBody sUsed) (defScope sUsed) .none kVPU dcPU pmPU anPU cdPU ctPU), slPU⟩)
    (cPU : PySem.W.codeIn K cdPU "Program.used" = true)
    (kPU : PySem.W.keepIn K (.ref fPU) = true)
    (aN : PySem.W.nsIn K mainGlobals "TooGreat" = some (some (.ref N)))
    (xN : K.lookup N = some (excClassObj nmN qN N NN bsN [.type "OverflowError", .type "ArithmeticError", .type "Exception", .type "BaseException", .type "object"] true snN subN abN colN ddN m0N m1N m2N m3N m5N "OverflowError.__new__"))
    (ovN : PySem.W.excOver K N [.type "OverflowError", .type "ArithmeticError", .type "Exception", .type "BaseException", .type "object"] = true)
    (saN : PySem.W.findIn K (.ref N) "__setattr__" = some (some (.builtin "object.__setattr__")))
    (exN : PySem.W.subIn K (.ref N) (.type "BaseException") = some true)
    (tyN : PySem.W.typeIn K (.ref N) = some (.type "type"))
    (kN : PySem.W.keepIn K (.ref N) = true)
    (plN : PySem.W.findIn K (.ref N) "bound" = some none)
    (vV : PySem.W.findCls K (.type "OverflowError") (.type "type") "__init__" = some (.val (.builtin "OverflowError.__init__")))
    (iN : PySem.W.findIn K (.ref N) "__init__" = some (some (.ref fN)))
    (tfN : PySem.W.typeIn K (.ref fN) = some (.type "function"))
    (lN : K.lookup fN = some ⟨ocN, odN, .func (PySem.W.fnOf "__init__" "TooGreat.__init__" (defArgs sTg) (defBody sTg) (defScope sTg) .none kVN dcN pmN anN cdN ctN), slN⟩)
    (cN : PySem.W.codeIn K cdN "TooGreat.__init__" = true)
    (kfN : PySem.W.keepIn K (.ref fN) = true)
    (hdN : PySem.W.hasDictIn K N = true)
    (scN : PySem.W.subIn K (.ref N) (.ref N) = some true)
    (gaN : PySem.W.findIn K (.ref N) "__getattribute__" = some (some (.builtin "BaseException.__getattribute__")))
    (ggN : PySem.W.findIn K (.ref N) "__getattr__" = some none)
    (icN : PySem.W.isClsIn K N = true)
    (caN : PySem.W.findIn K (.ref N) "__class__" = some (some (.builtin "object.__class__")))
    (cmN : PySem.W.mroIn K N (.type "object") = some true)
    (oeN : PySem.W.kitOne K (.ref N) (.type "OverflowError") = some true)
    (aTA : PySem.W.nsIn K mainGlobals "MOST_TOLD_ANEW" = some (some (.int 30 tTA)))
    (z_len : PySem.W.nsIn K mainGlobals "len" = some none)
    (z_range : PySem.W.nsIn K mainGlobals "range" = some none)
    (z_isinstance : PySem.W.nsIn K mainGlobals "isinstance" = some none)
    (z_abs : PySem.W.nsIn K mainGlobals "abs" = some none)
    (z_int : PySem.W.nsIn K mainGlobals "int" = some none)
    (z_str : PySem.W.nsIn K mainGlobals "str" = some none)
    (z_max : PySem.W.nsIn K mainGlobals "max" = some none)
    (z_min : PySem.W.nsIn K mainGlobals "min" = some none)
    (z_all : PySem.W.nsIn K mainGlobals "all" = some none)
    (z_bool : PySem.W.nsIn K mainGlobals "bool" = some none)
    (z_tuple : PySem.W.nsIn K mainGlobals "tuple" = some none)
    (z_zip : PySem.W.nsIn K mainGlobals "zip" = some none)
    (z_enumerate : PySem.W.nsIn K mainGlobals "enumerate" = some none)
    (z_list : PySem.W.nsIn K mainGlobals "list" = some none)
    (z_OverflowError : PySem.W.nsIn K mainGlobals "OverflowError" = some none)
    (z_sum : PySem.W.nsIn K mainGlobals "sum" = some none)
    (z_set : PySem.W.nsIn K mainGlobals "set" = some none)
    (z_sorted : PySem.W.nsIn K mainGlobals "sorted" = some none)
    (z_reversed : PySem.W.nsIn K mainGlobals "reversed" = some none)
    : ∃ fd : FuncData, (∀ (s : Shared) (v : Value), BindsTo s fd ⟨[v], []⟩ [("_law_script", v)]) ∧ ∀ base : Heap, K.In base → base.Ns mainGlobals mg → FnOk P w K mg base CX0 23 fa fd ["_law_script"] (spLaw K) := by
  have e := hfa.symm.trans (PySem.W.mg_of X G aLaw)
  cases e
  have FEq := fun_mk (st := sEq) lEq cEq kEq
  have bEq := FEq.binds (ps := ["self", "other"]) fun _ _ _ _ _ _ us hl => match us, hl with | [_, _], _ => rfl
  have FPa := fun_mk (st := sPairs) lPa cPa kPa
  have bPa := FPa.binds (ps := ["first", "second"]) fun _ _ _ _ _ _ us hl => match us, hl with | [_, _], _ => rfl
  have FAl := fun_mk (st := sAlike) lAl cAl kAl
  have bAl := FAl.binds (ps := ["one", "other"]) fun _ _ _ _ _ _ us hl => match us, hl with | [_, _], _ => rfl
  have FNu := fun_mk (st := sNumber) lNu cNu kNu
  have bNu := FNu.binds (ps := ["n"]) fun _ _ _ _ _ _ us hl => match us, hl with | [_], _ => rfl
  have FIn := fun_mk (st := sIsName) lIn cIn kIn
  have bIn := FIn.binds (ps := ["part"]) fun _ _ _ _ _ _ us hl => match us, hl with | [_], _ => rfl
  have FFt := fun_mk (st := sFits) lFt cFt kFt
  have bFt := FFt.binds (ps := ["part", "sign"]) fun _ _ _ _ _ _ us hl => match us, hl with | [_, _], _ => rfl
  have FHf := fun_mk (st := sHasForm) lHf cHf kHf
  have bHf := FHf.binds (ps := ["deed"]) fun _ _ _ _ _ _ us hl => match us, hl with | [_], _ => rfl
  have FRi := fun_mk (st := sRowsIn) lRi cRi kRi
  have bRi := FRi.binds (ps := ["deed"]) fun _ _ _ _ _ _ us hl => match us, hl with | [_], _ => rfl
  have FLk := fun_mk (st := sLook) lLk cLk kLk
  have bLk := FLk.binds (ps := ["row", "floors", "ends"]) fun _ _ _ _ _ _ us hl => match us, hl with | [_, _, _], _ => rfl
  have FLy := fun_mk (st := sLay) lLy cLy kLy
  have bLy := FLy.binds (ps := ["row", "behind", "ends", "plan"]) fun _ _ _ _ _ _ us hl => match us, hl with | [_, _, _, _], _ => rfl
  have FNi := fun_mk (st := sNamesIn) lNi cNi kNi
  have bNi := FNi.binds (ps := ["deed"]) fun _ _ _ _ _ _ us hl => match us, hl with | [_], _ => rfl
  have FFe := fun_mk (st := sFetch) lFe cFe kFe
  have bFe := FFe.binds (ps := ["into", "name"]) fun _ _ _ _ _ _ us hl => match us, hl with | [_, _], _ => rfl
  have FGt := fun_mk (st := sGoTo) lGt cGt kGt
  have bGt := FGt.binds (ps := ["point", "end"]) fun _ _ _ _ _ _ us hl => match us, hl with | [_, _], _ => rfl
  have FMa := fun_mk (st := sMake44) lMa cMa kMa
  have bMa := FMa.binds (ps := ["deed"]) fun _ _ _ _ _ _ us hl => match us, hl with | [_], _ => rfl
  have FSo := fun_mk (st := sStore) lSo cSo kSo
  have bSo := FSo.binds (ps := ["name"]) fun _ _ _ _ _ _ us hl => match us, hl with | [_], _ => rfl
  have FDd := fun_mk (st := sDeedDone) lDd cDd kDd
  have bDd := FDd.binds (ps := ["program", "point"]) fun _ _ _ _ _ _ us hl => match us, hl with | [_, _], _ => rfl
  have FCh := fun_mk (st := sChoose) lCh cCh kCh
  have bCh := FCh.binds (ps := ["program", "low", "high"]) fun _ _ _ _ _ _ us hl => match us, hl with | [_, _, _], _ => rfl
  have FSm := fun_mk (st := sSmall) lSm cSm kSm
  have bSm := FSm.binds (ps := ["program"]) fun _ _ _ _ _ _ us hl => match us, hl with | [_], _ => rfl
  have FBa := fun_mk (st := sBag) lBa cBa kBa
  have bBa := FBa.binds (ps := ["_law_script", "_law_at"]) fun _ _ _ _ _ _ us hl => match us, hl with | [_, _], _ => rfl
  have FTa := fun_mk (st := sTake) lTa cTa kTa
  have bTa := FTa.binds (ps := ["_law_bag_here", "_law_many"]) fun _ _ _ _ _ _ us hl => match us, hl with | [_, _], _ => rfl
  have FTh := fun_mk (st := sThing) lTh cTh kTh
  have bTh := FTh.binds (ps := ["_law_bag_here", "_law_many"]) fun _ _ _ _ _ _ us hl => match us, hl with | [_, _], _ => rfl
  have FNa := fun_mk (st := sName) lNa cNa kNa
  have bNa := FNa.binds (ps := ["_law_bag_here"]) fun _ _ _ _ _ _ us hl => match us, hl with | [_], _ => rfl
  have FDs := fun_mk (st := sDeeds) lDs cDs kDs
  have bDs := FDs.binds (ps := ["_law_bag_here", "_law_left", "_law_deep"]) fun _ _ _ _ _ _ us hl => match us, hl with | [_, _, _], _ => rfl
  have FTo := fun_mk (st := sTop) lTo cTo kTo
  have bTo := FTo.binds (ps := ["_law_bag_here", "_law_many"]) fun _ _ _ _ _ _ us hl => match us, hl with | [_, _], _ => rfl
  have FSe := fun_mk (st := sSet) lSe cSe kSe
  have bSe := FSe.binds (ps := ["_law_bag_here"]) fun _ _ _ _ _ _ us hl => match us, hl with | [_], _ => rfl
  have FRs := fun_mk (st := sLRows) lRs cRs kRs
  have bRs := FRs.binds (ps := ["_law_deed"]) fun _ _ _ _ _ _ us hl => match us, hl with | [_], _ => rfl
  have FSz := fun_mk (st := sSize2) lSz cSz kSz
  have bSz := FSz.binds (ps := ["_law_deeds_here"]) fun _ _ _ _ _ _ us hl => match us, hl with | [_], _ => rfl
  have FLd := fun_mk (st := sLooked) lLd cLd kLd
  have bLd := FLd.binds (ps := ["_law_deeds_here", "_law_found"]) fun _ _ _ _ _ _ us hl => match us, hl with | [_, _], _ => rfl
  have FCd := fun_mk (st := sCutDown) lCd cCd kCd
  have bCd := FCd.binds (ps := ["_law_deeds_here", "_law_most"]) fun _ _ _ _ _ _ us hl => match us, hl with | [_, _], _ => rfl
  have FRf := fun_mk (st := sRefd44) lRf cRf kRf
  have bRf := FRf.binds (ps := ["_law_coded"]) fun _ _ _ _ _ _ us hl => match us, hl with | [_], _ => rfl
  have FGd := fun_mk (st := sGd44) lGd cGd kGd
  have bGd := FGd.binds (ps := ["_law_deeds_here"]) fun _ _ _ _ _ _ us hl => match us, hl with | [_], _ => rfl
  have FLaw := fun_mk (st := sLaw) lLaw cLaw kLaw
  have bLaw := FLaw.binds (ps := ["_law_script"]) fun _ _ _ _ _ _ us hl => match us, hl with | [_], _ => rfl
  have APa : At K mg "pairs_in" sPairs ["first", "second"] fPa _ := ⟨FPa, PySem.W.mg_of X G aPa, bPa⟩
  have AAl : At K mg "alike" sAlike ["one", "other"] fAl _ := ⟨FAl, PySem.W.mg_of X G aAl, bAl⟩
  have ANu : At K mg "number" sNumber ["n"] fNu _ := ⟨FNu, PySem.W.mg_of X G aNu, bNu⟩
  have AIn : At K mg "is_name" sIsName ["part"] fIn _ := ⟨FIn, PySem.W.mg_of X G aIn, bIn⟩
  have AFt : At K mg "fits" sFits ["part", "sign"] fFt _ := ⟨FFt, PySem.W.mg_of X G aFt, bFt⟩
  have AHf : At K mg "has_form" sHasForm ["deed"] fHf _ := ⟨FHf, PySem.W.mg_of X G aHf, bHf⟩
  have ARi : At K mg "rows_in" sRowsIn ["deed"] fRi _ := ⟨FRi, PySem.W.mg_of X G aRi, bRi⟩
  have ALk : At K mg "look_through" sLook ["row", "floors", "ends"] fLk _ := ⟨FLk, PySem.W.mg_of X G aLk, bLk⟩
  have ALy : At K mg "lay_out" sLay ["row", "behind", "ends", "plan"] fLy _ := ⟨FLy, PySem.W.mg_of X G aLy, bLy⟩
  have ANi : At K mg "names_in" sNamesIn ["deed"] fNi _ := ⟨FNi, PySem.W.mg_of X G aNi, bNi⟩
  have AFe : At K mg "fetch" sFetch ["into", "name"] fFe _ := ⟨FFe, PySem.W.mg_of X G aFe, bFe⟩
  have AGt : At K mg "go_to" sGoTo ["point", "end"] fGt _ := ⟨FGt, PySem.W.mg_of X G aGt, bGt⟩
  have AMa : At K mg "make" sMake44 ["deed"] fMa _ := ⟨FMa, PySem.W.mg_of X G aMa, bMa⟩
  have ASo : At K mg "store" sStore ["name"] fSo _ := ⟨FSo, PySem.W.mg_of X G aSo, bSo⟩
  have ADd : At K mg "deed_done" sDeedDone ["program", "point"] fDd _ := ⟨FDd, PySem.W.mg_of X G aDd, bDd⟩
  have ACh : At K mg "choose" sChoose ["program", "low", "high"] fCh _ := ⟨FCh, PySem.W.mg_of X G aCh, bCh⟩
  have ASm : At K mg "small" sSmall ["program"] fSm _ := ⟨FSm, PySem.W.mg_of X G aSm, bSm⟩
  have ABa : At K mg "_law_bag" sBag ["_law_script", "_law_at"] fBa _ := ⟨FBa, PySem.W.mg_of X G aBa, bBa⟩
  have ATa : At K mg "_law_take" sTake ["_law_bag_here", "_law_many"] fTa _ := ⟨FTa, PySem.W.mg_of X G aTa, bTa⟩
  have ATh : At K mg "_law_thing" sThing ["_law_bag_here", "_law_many"] fTh _ := ⟨FTh, PySem.W.mg_of X G aTh, bTh⟩
  have ANa : At K mg "_law_name" sName ["_law_bag_here"] fNa _ := ⟨FNa, PySem.W.mg_of X G aNa, bNa⟩
  have ADs : At K mg "_law_deeds" sDeeds ["_law_bag_here", "_law_left", "_law_deep"] fDs _ := ⟨FDs, PySem.W.mg_of X G aDs, bDs⟩
  have ATo : At K mg "_law_top" sTop ["_law_bag_here", "_law_many"] fTo _ := ⟨FTo, PySem.W.mg_of X G aTo, bTo⟩
  have ASe : At K mg "_law_set" sSet ["_law_bag_here"] fSe _ := ⟨FSe, PySem.W.mg_of X G aSe, bSe⟩
  have ARs : At K mg "_law_rows" sLRows ["_law_deed"] fRs _ := ⟨FRs, PySem.W.mg_of X G aRs, bRs⟩
  have ASz : At K mg "_law_size" sSize2 ["_law_deeds_here"] fSz _ := ⟨FSz, PySem.W.mg_of X G aSz, bSz⟩
  have ALd : At K mg "_law_looked" sLooked ["_law_deeds_here", "_law_found"] fLd _ := ⟨FLd, PySem.W.mg_of X G aLd, bLd⟩
  have ACd : At K mg "_law_cut_down" sCutDown ["_law_deeds_here", "_law_most"] fCd _ := ⟨FCd, PySem.W.mg_of X G aCd, bCd⟩
  have ARf : At K mg "_law_refused" sRefd44 ["_law_coded"] fRf _ := ⟨FRf, PySem.W.mg_of X G aRf, bRf⟩
  have AGd : At K mg "_law_good" sGd44 ["_law_deeds_here"] fGd _ := ⟨FGd, PySem.W.mg_of X G aGd, bGd⟩
  have DI : FunD K "__init__" "Thing.__init__" (defArgs sInit) (defBody sInit) (defScope sInit) [.non, .non] [] fI _ := ⟨⟨oI, odI, .ref TI, kVI, dcI, pmI, anI, cdI, ctI, slI, rfl, lI, cI, .inr ⟨by simp, TI, _, [.none, .none], nT, rfl, lT, rfl, .cons rfl (.cons rfl .nil)⟩, .inl rfl⟩, kI⟩
  have b0 := DI.binds1 (ps := ["self", "first", "second"]) 1 0 (by simp) rfl fun T kV doc pm an cdv ct us its h1 h2 => by
    match us, its, h1, h2 with
    | [a], [b, c], _, _ => exact ⟨_, rfl, rfl⟩
  have b3 := DI.binds1 (ps := ["self", "first", "second"]) 3 2 (by simp) rfl fun T kV doc pm an cdv ct us its h1 h2 => by
    match us, its, h1, h2 with
    | [a, b, c], [d, e], _, _ => exact ⟨_, rfl, rfl⟩
  obtain ⟨ds3, hv3, hb3⟩ := b3
  cases hv3
  have T : Txt K mg C := ⟨⟨pg, hd, po, sa⟩, nF, nS, nZ, PySem.W.mg_of X G aC, ⟨tM, PySem.W.mg_of X G aM⟩, PySem.W.mg_none_of X G z_len, PySem.W.mg_none_of X G z_range, PySem.W.mg_none_of X G z_isinstance, ca, cn, ct, cm, neC⟩
  have B : Blt mg := ⟨PySem.W.mg_none_of X G z_len, PySem.W.mg_none_of X G z_range, PySem.W.mg_none_of X G z_abs, PySem.W.mg_none_of X G z_int, PySem.W.mg_none_of X G z_str, PySem.W.mg_none_of X G z_max, PySem.W.mg_none_of X G z_min, PySem.W.mg_none_of X G z_all⟩
  have ml := PySem.W.mg_none_of X G z_list
  have frm : FrmC K w mg := ⟨⟨dF, esF, nFm, PySem.W.mg_of X G aFm, ⟨lFm, litF, lowF⟩, fun kf hkf => by
    simp only [forms, List.mem_cons, List.not_mem_nil, or_false] at hkf
    rcases hkf with rfl | rfl | rfl | rfl | rfl | rfl | rfl
    · exact ⟨_, fm0⟩
    · exact ⟨_, fm1⟩
    · exact ⟨_, fm2⟩
    · exact ⟨_, fm3⟩
    · exact ⟨_, fm4⟩
    · exact ⟨_, fm5⟩
    · exact ⟨_, fm6⟩⟩, ⟨tN1, PySem.W.mg_of X G aN1⟩, ⟨tN2, PySem.W.mg_of X G aN2⟩, ⟨tN3, PySem.W.mg_of X G aN3⟩, (PySem.W.mg_none_of X G z_bool), (PySem.W.mg_none_of X G z_tuple), (PySem.W.mg_none_of X G z_zip), (PySem.W.mg_none_of X G z_enumerate), kii, kib, ktt, kss⟩
  have TP : TxtP K mg CP := ⟨⟨pgP, hdP, poP, saP⟩, nDP, nPP, PySem.W.mg_of X G aP, caP, cn, ct, cmP, neP⟩
  have FPI := fun_mk (st := sPInit) lPI cPI kPI
  have FPL := fun_mk (st := sPLen) lPL cPL kPL
  have FPE := fun_mk (st := sPEq) lPE cPE kPE
  have bPI := FPI.binds (ps := ["self", "deeds"]) fun _ _ _ _ _ _ us hl => match us, hl with | [_, _], _ => rfl
  have bPL := FPL.binds (ps := ["self"]) fun _ _ _ _ _ _ us hl => match us, hl with | [_], _ => rfl
  have bPE := FPE.binds (ps := ["self", "other"]) fun _ _ _ _ _ _ us hl => match us, hl with | [_, _], _ => rfl
  have FPU := fun_mk (st := sUsed) lPU cPU kPU
  have bPU := FPU.binds (ps := ["self"]) fun _ _ _ _ _ _ us hl => match us, hl with | [_], _ => rfl
  refine ⟨PySem.W.fnOf "law" "law" (defArgs sLaw) (defBody sLaw) (defScope sLaw) .none kVLaw dcLaw pmLaw anLaw cdLaw ctLaw, fun s v => .of_eq rfl, fun base _ _ => ?_⟩
  have GI : FnOk P w K mg base CX0 2 fI _ ["self", "first", "second"] (spInit C) := ok_init DI T APa
  have M : Maker P w K mg base C fI _ := ⟨⟨mkC, aI, iI, kc⟩, GI, T.mgC, hb3, b0⟩
  have SE : Spc P w K mg base C "__eq__" 2 ["self", "other"] (spEqT C) := ⟨fEq, _, ⟨aEq, iEq⟩, ok_eq FEq T AAl, bEq⟩
  have dIN : Def P w K mg base "is_name" 1 ["part"] spIsName := ⟨fIn, _, AIn.mgf, kIn, ok_isName FIn B T frm, bIn⟩
  have dFt : Def P w K mg base "fits" 2 ["part", "sign"] (spFits K C) := ⟨fFt, _, PySem.W.mg_of X G aFt, kFt, ok_fits FFt B T frm dIN, bFt⟩
  have dHF : Def P w K mg base "has_form" 3 ["deed"] (spHasForm K C) := ⟨fHf, _, PySem.W.mg_of X G aHf, kHf, ok_hasForm FHf B T frm dFt, bHf⟩
  have dRI : Def P w K mg base "rows_in" 1 ["deed"] (spRowsIn K C) := ⟨fRi, _, ARi.mgf, kRi, ok_rowsIn FRi frm, bRi⟩
  have dLk : Def P w K mg base "look_through" 13 ["row", "floors", "ends"] (spLook K C 9) := ⟨fLk, _, ALk.mgf, kLk, ok_look FLk ALk.mgf bLk B T frm dHF dRI 9, bLk⟩
  have dLy : Def P w K mg base "lay_out" 11 ["row", "behind", "ends", "plan"] (spLay K C 9) := ⟨fLy, _, ALy.mgf, kLy, ok_lay FLy ALy.mgf bLy B frm dRI 9, bLy⟩
  have MP : MakerP P w K mg base C CP fPI _ := ⟨⟨mkCP, aPI, iPI, kcP⟩, ok_pinit FPI B T frm TP dLk dLy, TP.mgP, bPI⟩
  have FN := fun_mk (st := sTg) lN cN kfN
  have bN := FN.binds (ps := ["self", "bound"]) fun _ _ _ _ _ _ us hl => match us, hl with | [_, _], _ => rfl
  have gO : GexO K N := ⟨PySem.F.excBase_OverflowError, PySem.F.store_OverflowError, ⟨nmN, qN, NN, bsN, _, snN, subN, abN, colN, ddN, m0N, m1N, m2N, m3N, m5N, xN, fun _ => rfl⟩, ovN, saN, exN, tyN, kN⟩
  have tgC : TgC K mg N := ⟨PySem.W.mg_of X G aN, gO, plN, PySem.W.mg_none_of X G z_OverflowError, vV⟩
  have NM : TgM P w K mg base N fN _ := ⟨tgC, iN, tfN, ok_tg FN tgC, bN⟩
  have MXN : MakerN P w K mg base C fI N _ := ⟨⟨mkC, aI, iI, kc⟩, ok_initN DI T APa NM, T.mgC, hb3⟩
  have exm : PySem.W.exmOne K (.ref N) (.ref N) = some true := PySem.W.exm_ref exN hdN tyN scN
  have RC : RfC44 K mg N := ⟨tgC, ⟨gaN, ggN, exN, hdN⟩, ⟨icN, gaN, ggN, exN, caN, cn, ct, cmN⟩, exm, oeN⟩
  have SPL : Spc P w K mg base CP "__len__" 1 ["self"] (spPLen K C CP) := ⟨fPL, _, ⟨aPL, iPL⟩, ok_plen FPL B TP, bPL⟩
  have SPE : Spc P w K mg base CP "__eq__" 21 ["self", "other"] (spPEq K C CP) := ⟨fPE, _, ⟨aPE, iPE⟩, ok_peq FPE T TP SE, bPE⟩
  have mtu := PySem.W.mg_none_of X G z_tuple
  have msu := PySem.W.mg_none_of X G z_sum
  have DNi : Def P w K mg base "names_in" 1 ["deed"] (spNamesIn K C) := ⟨fNi, _, ANi.mgf, kNi, ok_namesIn FNi frm, bNi⟩
  have MU : Mth P w K mg base CP "used" 2 ["self"] (spUsed K C CP) := ⟨fPU, _, ⟨aPU, iPU, kPU⟩, ok_used FPU TP (PySem.W.mg_none_of X G z_set) mtu (PySem.W.mg_none_of X G z_sorted) DNi, bPU⟩
  have DNu : Def P w K mg base "number" 4 ["n"] (spNumber C) := ⟨fNu, _, ANu.mgf, kNu, ok_number FNu T M, bNu⟩
  have DFe : Def P w K mg base "fetch" 1 ["into", "name"] (spFetch K C) := ⟨fFe, _, AFe.mgf, kFe, ok_fetch FFe, bFe⟩
  have DGt : Def P w K mg base "go_to" 5 ["point", "end"] (spGoTo K C) := ⟨fGt, _, AGt.mgf, kGt, ok_goTo FGt M DNu, bGt⟩
  have DMa : Def P w K mg base "make" 2 ["deed"] (spMake44 K C) := ⟨fMa, _, AMa.mgf, kMa, ok_make FMa DFe, bMa⟩
  have DSt : Def P w K mg base "store" 2 ["name"] (spStore K C) := ⟨fSo, _, ASo.mgf, kSo, ok_store FSo B (PySem.W.mg_none_of X G z_reversed) DFe, bSo⟩
  have DDd : Def P w K mg base "deed_done" 6 ["program", "point"] (spDone K C CP) := ⟨fDd, _, ADd.mgf, kDd, ok_done FDd B TP SPL DFe DGt DMa DSt, bDd⟩
  have DCh : Def P w K mg base "choose" 12 ["program", "low", "high"] (spChoose K C CP 6) := ⟨fCh, _, ACh.mgf, kCh, ok_choose FCh ACh.mgf bCh B DDd 6, bCh⟩
  have gSm := ok_small (P := P) (w := w) (base := base) FSm B (PySem.W.mg_of X G aTA) (PySem.W.mg_of X G aN1) SPL MP DNu DGt DCh
  have gSx := ok_smallX (P := P) (w := w) (base := base) FSm NM B (PySem.W.mg_of X G aTA) (PySem.W.mg_of X G aN1) SPL MP DNu DGt DCh
  have DSm : Def P w K mg base "small" 16 ["program"] (spSmall K C CP) := ⟨fSm, _, ASm.mgf, kSm, gSm, bSm⟩
  have KSm : DefV P w K mg base "small" 16 ["program"] ["program"] (spSmall K C CP) := ⟨fSm, _, ASm.mgf, kSm, gSm, ⟨fun s us ws _ l1 l2 => match us, ws, l1, l2 with | [], [_], _, _ => .of_eq rfl, fun _ r2 => vals_rev r2⟩⟩
  have DTk : Def P w K mg base "_law_take" 1 ["_law_bag_here", "_law_many"] spTake := ⟨fTa, _, ATa.mgf, kTa, ok_take FTa, bTa⟩
  have DTh : Def P w K mg base "_law_thing" 4 ["_law_bag_here", "_law_many"] (spThing C) := ⟨fTh, _, ATh.mgf, kTh, ok_thing FTh B M ATa, bTh⟩
  have DNm : Def P w K mg base "_law_name" 2 ["_law_bag_here"] spName := ⟨fNa, _, ANa.mgf, kNa, ok_name FNa DTk, bNa⟩
  have DSe : Def P w K mg base "_law_set" 5 ["_law_bag_here"] (spSet K C) := ⟨fSe, _, ASe.mgf, kSe, ok_set FSe B DTk DNm DTh, bSe⟩
  have DDs : Def P w K mg base "_law_deeds" 12 ["_law_bag_here", "_law_left", "_law_deep"] (spDeeds2 K C 6) := ⟨fDs, _, ADs.mgf, kDs, ok_deeds FDs B frm DTk DNm DSe ADs.mgf bDs 6, bDs⟩
  have DTo : Def P w K mg base "_law_top" 15 ["_law_bag_here", "_law_many"] (spTop2 K C) := ⟨fTo, _, ATo.mgf, kTo, ok_top FTo B DTk DDs, bTo⟩
  have DRs : Def P w K mg base "_law_rows" 1 ["_law_deed"] (spLRows K C) := ⟨fRs, _, ARs.mgf, kRs, ok_lrows FRs ml, bRs⟩
  have DSz : Def P w K mg base "_law_size" 10 ["_law_deeds_here"] (spMany K C 9) := ⟨fSz, _, ASz.mgf, kSz, ok_size2 FSz ASz.mgf bSz B msu DRs 9, bSz⟩
  have DLd : Def P w K mg base "_law_looked" 11 ["_law_deeds_here", "_law_found"] (spLooked K C 9) := ⟨fLd, _, ALd.mgf, kLd, ok_looked FLd ALd.mgf bLd B DRs 9, bLd⟩
  have DCd : Def P w K mg base "_law_cut_down" 11 ["_law_deeds_here", "_law_most"] (spCutDn K C) := ⟨fCd, _, ACd.mgf, kCd, ok_cutDn FCd DSz, bCd⟩
  have DGd : Def P w K mg base "_law_good" 22 ["_law_deeds_here"] (spGd44 K C CP) := ⟨fGd, _, AGd.mgf, kGd, ok_gd44 FGd B T TP MP SPL SPE MU DSz DLd DSm KSm, bGd⟩
  have DRf : Def P w K mg base "_law_refused" 17 ["_law_coded"] (spRefd44 K C CP) := ⟨fRf, _, ARf.mgf, kRf, ok_refd44 FRf T RC gSx ASm.mgf kSm bSm, bRf⟩
  exact ok_law FLaw B mtu M MP ⟨fBa, _, ABa.mgf, kBa, ok_bag FBa B, bBa⟩ DTk DTo DSe DSz DCd DGd DRf
theorem walk {l : PySem.W.OpenLaw} {q : Program} {loose : List Str} {XP : (Str → Option Value) → Heap → Prop} {YP : World → Heap → Prop} {d : DefRec} {K : Params → PySem.W.Frag} (hn : l.most = some 63) (hdf : d.params.defaults = [])
    (hY : ∀ (w : World) (h : Heap), YP w h → (K w.params).In h)
    (F : ∀ (w : World) (mg : Str → Option Value) (fa : Addr) (h : Heap), (K w.params).In h → h.Ns mainGlobals mg → mg d.name = some (.ref fa) →
      ∃ fd : FuncData, (∀ (s : Shared) (u : Value), BindsTo s fd ⟨[u], []⟩ [("_law_script", u)]) ∧ ∀ base : Heap, (K w.params).In base → base.Ns mainGlobals mg → FnOk l.prog w (K w.params) mg base CX0 23 fa fd ["_law_script"] (spLaw (K w.params))) :
    PySem.W.WalkO q loose XP YP l.row.toRowW d [] (fun f vs => PySem.call f vs) :=
  L2.walk_of (n := 63) (k := 23) (x := "_law_script") (CX := fun _ => CX0) (sp := fun w => spLaw (K w.params)) hn (by decide) hdf ⟨rfl, by decide, by decide⟩ hY F (fun _ _ a ns hl _ hS => ⟨a, ns, rfl, hS, hl, fun _ => rfl⟩) fun _ _ _ _ _ z => z
end Js

set_option Elab.async false
set_option linter.all false
set_option maxRecDepth 100000
set_option maxHeartbeats 0
namespace Js
open PySem PySem.Spec PyProof.Rows L2
theorem hfacts {P : Program} {w : World} {K : PySem.W.Frag} {h : Heap} {mg : Str → Option Value} {fa : Addr} (X : K.In h) (G : h.Ns mainGlobals mg) (hfa : mg "law" = some (.ref fa)) (cT : He.SaysT [] hfn hts w K) (cX : hexs K = true)
    : ∃ fd : FuncData, (∀ (s : Shared) (v : Value), BindsTo s fd ⟨[v], []⟩ [("_law_script", v)]) ∧ ∀ base : Heap, K.In base → base.Ns mainGlobals mg → FnOk P w K mg base CX0 23 fa fd ["_law_script"] (spLaw K) := by
  have cD := cT.d
  have cE : (hex.all fun f => f K) = true := cX
  have aC : PySem.W.nsIn K mainGlobals "Thing" = some (some (.ref (He.ga K "Thing"))) := of_decide_eq_true (ex_at cE 0 (f := fun K => decide (PySem.W.nsIn K mainGlobals "Thing" = some (some (.ref (He.ga K "Thing"))))) rfl)
  have pg : PySem.W.plainGet K (He.ga K "Thing") Str.empty = true := of_decide_eq_true (ex_at cE 1 (f := fun K => decide (PySem.W.plainGet K (He.ga K "Thing") Str.empty = true)) rfl)
  have hd : PySem.W.hasDictIn K (He.ga K "Thing") = true := of_decide_eq_true (ex_at cE 2 (f := fun K => decide (PySem.W.hasDictIn K (He.ga K "Thing") = true)) rfl)
  have po : PySem.W.plainOver K (He.ga K "Thing") = true := of_decide_eq_true (ex_at cE 3 (f := fun K => decide (PySem.W.plainOver K (He.ga K "Thing") = true)) rfl)
  have sa : PySem.W.findIn K (.ref (He.ga K "Thing")) "__setattr__" = some (some (.builtin "object.__setattr__")) := of_decide_eq_true (ex_at cE 4 (f := fun K => decide (PySem.W.findIn K (.ref (He.ga K "Thing")) "__setattr__" = some (some (.builtin "object.__setattr__")))) rfl)
  have mkC : PySem.W.makesIn K (He.ga K "Thing") = true := of_decide_eq_true (ex_at cE 5 (f := fun K => decide (PySem.W.makesIn K (He.ga K "Thing") = true)) rfl)
  have kc : PySem.W.keepIn K (.ref (He.ga K "Thing")) = true := of_decide_eq_true (ex_at cE 6 (f := fun K => decide (PySem.W.keepIn K (.ref (He.ga K "Thing")) = true)) rfl)
  have nF : PySem.W.findIn K (.ref (He.ga K "Thing")) "first" = some none := of_decide_eq_true (ex_at cE 7 (f := fun K => decide (PySem.W.findIn K (.ref (He.ga K "Thing")) "first" = some none)) rfl)
  have nS : PySem.W.findIn K (.ref (He.ga K "Thing")) "second" = some none := of_decide_eq_true (ex_at cE 8 (f := fun K => decide (PySem.W.findIn K (.ref (He.ga K "Thing")) "second" = some none)) rfl)
  have nZ : PySem.W.findIn K (.ref (He.ga K "Thing")) "size" = some none := of_decide_eq_true (ex_at cE 9 (f := fun K => decide (PySem.W.findIn K (.ref (He.ga K "Thing")) "size" = some none)) rfl)
  have ca : PySem.W.findIn K (.ref (He.ga K "Thing")) "__class__" = some (some (.builtin "object.__class__")) := of_decide_eq_true (ex_at cE 10 (f := fun K => decide (PySem.W.findIn K (.ref (He.ga K "Thing")) "__class__" = some (some (.builtin "object.__class__")))) rfl)
  have cn : PySem.W.specialIn K (.builtin "object.__class__") "__get__" = some (some (.builtin "getset_descriptor.__get__")) := of_decide_eq_true (ex_at cE 11 (f := fun K => decide (PySem.W.specialIn K (.builtin "object.__class__") "__get__" = some (some (.builtin "getset_descriptor.__get__")))) rfl)
  have ct : PySem.W.takesIn K (.builtin "object.__class__") = some true := of_decide_eq_true (ex_at cE 12 (f := fun K => decide (PySem.W.takesIn K (.builtin "object.__class__") = some true)) rfl)
  have cm : PySem.W.mroIn K (He.ga K "Thing") (.type "object") = some true := of_decide_eq_true (ex_at cE 13 (f := fun K => decide (PySem.W.mroIn K (He.ga K "Thing") (.type "object") = some true)) rfl)
  have neC : PySem.W.findIn K (.ref (He.ga K "Thing")) "__ne__" = some (some (.builtin "object.__ne__")) := of_decide_eq_true (ex_at cE 14 (f := fun K => decide (PySem.W.findIn K (.ref (He.ga K "Thing")) "__ne__" = some (some (.builtin "object.__ne__")))) rfl)
  obtain ⟨_, aM⟩ := int_raw (ex_at cE 15 (f := fun K => intB K mainGlobals "MOST_PAIRS" 4000) rfl)
  have aI : PySem.W.findIn K (.ref (He.ga K "Thing")) "__init__" = some (some (.ref (He.ma K (He.ga K "Thing") "__init__"))) := of_decide_eq_true (ex_at cE 16 (f := fun K => decide (PySem.W.findIn K (.ref (He.ga K "Thing")) "__init__" = some (some (.ref (He.ma K (He.ga K "Thing") "__init__"))))) rfl)
  have iI : PySem.W.isFn K (.ref (He.ma K (He.ga K "Thing") "__init__")) = true := of_decide_eq_true (ex_at cE 17 (f := fun K => decide (PySem.W.isFn K (.ref (He.ma K (He.ga K "Thing") "__init__")) = true)) rfl)
  obtain ⟨_, _, _, _, _, _, _, _, _, _, _, _, its_lT, _, _, lI, cI, lT, vv⟩ := fn_rawD cD 0 ("Thing", some "__init__") "__init__" "Thing.__init__" sInit (.non) [.non] rfl
  obtain ⟨l_lT⟩ := its_lT
  change Vals _ l_lT at vv
  obtain _ | ⟨h_lT0, v_lT0⟩ := vv
  obtain rfl := h_lT0
  obtain _ | ⟨h_lT1, v_lT1⟩ := v_lT0
  obtain rfl := h_lT1
  cases v_lT1
  have kI : PySem.W.keepIn K (.ref (He.ma K (He.ga K "Thing") "__init__")) = true := of_decide_eq_true (ex_at cE 18 (f := fun K => decide (PySem.W.keepIn K (.ref (He.ma K (He.ga K "Thing") "__init__")) = true)) rfl)
  have aEq : PySem.W.findIn K (.ref (He.ga K "Thing")) "__eq__" = some (some (.ref (He.ma K (He.ga K "Thing") "__eq__"))) := of_decide_eq_true (ex_at cE 19 (f := fun K => decide (PySem.W.findIn K (.ref (He.ga K "Thing")) "__eq__" = some (some (.ref (He.ma K (He.ga K "Thing") "__eq__"))))) rfl)
  have iEq : PySem.W.isFn K (.ref (He.ma K (He.ga K "Thing") "__eq__")) = true := of_decide_eq_true (ex_at cE 20 (f := fun K => decide (PySem.W.isFn K (.ref (He.ma K (He.ga K "Thing") "__eq__")) = true)) rfl)
  obtain ⟨_, _, _, _, _, _, _, _, _, lEq, cEq⟩ := fn_raw cD 1 ("Thing", some "__eq__") "__eq__" "Thing.__eq__" sEq rfl
  have kEq : PySem.W.keepIn K (.ref (He.ma K (He.ga K "Thing") "__eq__")) = true := of_decide_eq_true (ex_at cE 21 (f := fun K => decide (PySem.W.keepIn K (.ref (He.ma K (He.ga K "Thing") "__eq__")) = true)) rfl)
  have aPa : PySem.W.nsIn K mainGlobals "pairs_in" = some (some (.ref (He.ga K "pairs_in"))) := of_decide_eq_true (ex_at cE 22 (f := fun K => decide (PySem.W.nsIn K mainGlobals "pairs_in" = some (some (.ref (He.ga K "pairs_in"))))) rfl)
  obtain ⟨_, _, _, _, _, _, _, _, _, lPa, cPa⟩ := fn_raw cD 2 ("pairs_in", none) "pairs_in" "pairs_in" sPairs rfl
  have kPa : PySem.W.keepIn K (.ref (He.ga K "pairs_in")) = true := of_decide_eq_true (ex_at cE 23 (f := fun K => decide (PySem.W.keepIn K (.ref (He.ga K "pairs_in")) = true)) rfl)
  have aAl : PySem.W.nsIn K mainGlobals "alike" = some (some (.ref (He.ga K "alike"))) := of_decide_eq_true (ex_at cE 24 (f := fun K => decide (PySem.W.nsIn K mainGlobals "alike" = some (some (.ref (He.ga K "alike"))))) rfl)
  obtain ⟨_, _, _, _, _, _, _, _, _, lAl, cAl⟩ := fn_raw cD 3 ("alike", none) "alike" "alike" sAlike rfl
  have kAl : PySem.W.keepIn K (.ref (He.ga K "alike")) = true := of_decide_eq_true (ex_at cE 25 (f := fun K => decide (PySem.W.keepIn K (.ref (He.ga K "alike")) = true)) rfl)
  have aNu : PySem.W.nsIn K mainGlobals "number" = some (some (.ref (He.ga K "number"))) := of_decide_eq_true (ex_at cE 26 (f := fun K => decide (PySem.W.nsIn K mainGlobals "number" = some (some (.ref (He.ga K "number"))))) rfl)
  obtain ⟨_, _, _, _, _, _, _, _, _, lNu, cNu⟩ := fn_raw cD 4 ("number", none) "number" "number" sNumber rfl
  have kNu : PySem.W.keepIn K (.ref (He.ga K "number")) = true := of_decide_eq_true (ex_at cE 27 (f := fun K => decide (PySem.W.keepIn K (.ref (He.ga K "number")) = true)) rfl)
  have aIn : PySem.W.nsIn K mainGlobals "is_name" = some (some (.ref (He.ga K "is_name"))) := of_decide_eq_true (ex_at cE 28 (f := fun K => decide (PySem.W.nsIn K mainGlobals "is_name" = some (some (.ref (He.ga K "is_name"))))) rfl)
  obtain ⟨_, _, _, _, _, _, _, _, _, lIn, cIn⟩ := fn_raw cD 5 ("is_name", none) "is_name" "is_name" sIsName rfl
  have kIn : PySem.W.keepIn K (.ref (He.ga K "is_name")) = true := of_decide_eq_true (ex_at cE 29 (f := fun K => decide (PySem.W.keepIn K (.ref (He.ga K "is_name")) = true)) rfl)
  have aFt : PySem.W.nsIn K mainGlobals "fits" = some (some (.ref (He.ga K "fits"))) := of_decide_eq_true (ex_at cE 30 (f := fun K => decide (PySem.W.nsIn K mainGlobals "fits" = some (some (.ref (He.ga K "fits"))))) rfl)
  obtain ⟨_, _, _, _, _, _, _, _, _, lFt, cFt⟩ := fn_raw cD 6 ("fits", none) "fits" "fits" sFits rfl
  have kFt : PySem.W.keepIn K (.ref (He.ga K "fits")) = true := of_decide_eq_true (ex_at cE 31 (f := fun K => decide (PySem.W.keepIn K (.ref (He.ga K "fits")) = true)) rfl)
  have aHf : PySem.W.nsIn K mainGlobals "has_form" = some (some (.ref (He.ga K "has_form"))) := of_decide_eq_true (ex_at cE 32 (f := fun K => decide (PySem.W.nsIn K mainGlobals "has_form" = some (some (.ref (He.ga K "has_form"))))) rfl)
  obtain ⟨_, _, _, _, _, _, _, _, _, lHf, cHf⟩ := fn_raw cD 7 ("has_form", none) "has_form" "has_form" sHasForm rfl
  have kHf : PySem.W.keepIn K (.ref (He.ga K "has_form")) = true := of_decide_eq_true (ex_at cE 33 (f := fun K => decide (PySem.W.keepIn K (.ref (He.ga K "has_form")) = true)) rfl)
  have aRi : PySem.W.nsIn K mainGlobals "rows_in" = some (some (.ref (He.ga K "rows_in"))) := of_decide_eq_true (ex_at cE 34 (f := fun K => decide (PySem.W.nsIn K mainGlobals "rows_in" = some (some (.ref (He.ga K "rows_in"))))) rfl)
  obtain ⟨_, _, _, _, _, _, _, _, _, lRi, cRi⟩ := fn_raw cD 8 ("rows_in", none) "rows_in" "rows_in" sRowsIn rfl
  have kRi : PySem.W.keepIn K (.ref (He.ga K "rows_in")) = true := of_decide_eq_true (ex_at cE 35 (f := fun K => decide (PySem.W.keepIn K (.ref (He.ga K "rows_in")) = true)) rfl)
  have aLk : PySem.W.nsIn K mainGlobals "look_through" = some (some (.ref (He.ga K "look_through"))) := of_decide_eq_true (ex_at cE 36 (f := fun K => decide (PySem.W.nsIn K mainGlobals "look_through" = some (some (.ref (He.ga K "look_through"))))) rfl)
  obtain ⟨_, _, _, _, _, _, _, _, _, lLk, cLk⟩ := fn_raw cD 9 ("look_through", none) "look_through" "look_through" sLook rfl
  have kLk : PySem.W.keepIn K (.ref (He.ga K "look_through")) = true := of_decide_eq_true (ex_at cE 37 (f := fun K => decide (PySem.W.keepIn K (.ref (He.ga K "look_through")) = true)) rfl)
  have aLy : PySem.W.nsIn K mainGlobals "lay_out" = some (some (.ref (He.ga K "lay_out"))) := of_decide_eq_true (ex_at cE 38 (f := fun K => decide (PySem.W.nsIn K mainGlobals "lay_out" = some (some (.ref (He.ga K "lay_out"))))) rfl)
  obtain ⟨_, _, _, _, _, _, _, _, _, lLy, cLy⟩ := fn_raw cD 10 ("lay_out", none) "lay_out" "lay_out" sLay rfl
  have kLy : PySem.W.keepIn K (.ref (He.ga K "lay_out")) = true := of_decide_eq_true (ex_at cE 39 (f := fun K => decide (PySem.W.keepIn K (.ref (He.ga K "lay_out")) = true)) rfl)
  have aNi : PySem.W.nsIn K mainGlobals "names_in" = some (some (.ref (He.ga K "names_in"))) := of_decide_eq_true (ex_at cE 40 (f := fun K => decide (PySem.W.nsIn K mainGlobals "names_in" = some (some (.ref (He.ga K "names_in"))))) rfl)
  obtain ⟨_, _, _, _, _, _, _, _, _, lNi, cNi⟩ := fn_raw cD 11 ("names_in", none) "names_in" "names_in" sNamesIn rfl
  have kNi : PySem.W.keepIn K (.ref (He.ga K "names_in")) = true := of_decide_eq_true (ex_at cE 41 (f := fun K => decide (PySem.W.keepIn K (.ref (He.ga K "names_in")) = true)) rfl)
  have aFe : PySem.W.nsIn K mainGlobals "fetch" = some (some (.ref (He.ga K "fetch"))) := of_decide_eq_true (ex_at cE 42 (f := fun K => decide (PySem.W.nsIn K mainGlobals "fetch" = some (some (.ref (He.ga K "fetch"))))) rfl)
  obtain ⟨_, _, _, _, _, _, _, _, _, lFe, cFe⟩ := fn_raw cD 12 ("fetch", none) "fetch" "fetch" sFetch rfl
  have kFe : PySem.W.keepIn K (.ref (He.ga K "fetch")) = true := of_decide_eq_true (ex_at cE 43 (f := fun K => decide (PySem.W.keepIn K (.ref (He.ga K "fetch")) = true)) rfl)
  have aGt : PySem.W.nsIn K mainGlobals "go_to" = some (some (.ref (He.ga K "go_to"))) := of_decide_eq_true (ex_at cE 44 (f := fun K => decide (PySem.W.nsIn K mainGlobals "go_to" = some (some (.ref (He.ga K "go_to"))))) rfl)
  obtain ⟨_, _, _, _, _, _, _, _, _, lGt, cGt⟩ := fn_raw cD 13 ("go_to", none) "go_to" "go_to" sGoTo rfl
  have kGt : PySem.W.keepIn K (.ref (He.ga K "go_to")) = true := of_decide_eq_true (ex_at cE 45 (f := fun K => decide (PySem.W.keepIn K (.ref (He.ga K "go_to")) = true)) rfl)
  have aMa : PySem.W.nsIn K mainGlobals "make" = some (some (.ref (He.ga K "make"))) := of_decide_eq_true (ex_at cE 46 (f := fun K => decide (PySem.W.nsIn K mainGlobals "make" = some (some (.ref (He.ga K "make"))))) rfl)
  obtain ⟨_, _, _, _, _, _, _, _, _, lMa, cMa⟩ := fn_raw cD 14 ("make", none) "make" "make" sMake44 rfl
  have kMa : PySem.W.keepIn K (.ref (He.ga K "make")) = true := of_decide_eq_true (ex_at cE 47 (f := fun K => decide (PySem.W.keepIn K (.ref (He.ga K "make")) = true)) rfl)
  have aSo : PySem.W.nsIn K mainGlobals "store" = some (some (.ref (He.ga K "store"))) := of_decide_eq_true (ex_at cE 48 (f := fun K => decide (PySem.W.nsIn K mainGlobals "store" = some (some (.ref (He.ga K "store"))))) rfl)
  obtain ⟨_, _, _, _, _, _, _, _, _, lSo, cSo⟩ := fn_raw cD 15 ("store", none) "store" "store" sStore rfl
  have kSo : PySem.W.keepIn K (.ref (He.ga K "store")) = true := of_decide_eq_true (ex_at cE 49 (f := fun K => decide (PySem.W.keepIn K (.ref (He.ga K "store")) = true)) rfl)
  have aDd : PySem.W.nsIn K mainGlobals "deed_done" = some (some (.ref (He.ga K "deed_done"))) := of_decide_eq_true (ex_at cE 50 (f := fun K => decide (PySem.W.nsIn K mainGlobals "deed_done" = some (some (.ref (He.ga K "deed_done"))))) rfl)
  obtain ⟨_, _, _, _, _, _, _, _, _, lDd, cDd⟩ := fn_raw cD 16 ("deed_done", none) "deed_done" "deed_done" sDeedDone rfl
  have kDd : PySem.W.keepIn K (.ref (He.ga K "deed_done")) = true := of_decide_eq_true (ex_at cE 51 (f := fun K => decide (PySem.W.keepIn K (.ref (He.ga K "deed_done")) = true)) rfl)
  have aCh : PySem.W.nsIn K mainGlobals "choose" = some (some (.ref (He.ga K "choose"))) := of_decide_eq_true (ex_at cE 52 (f := fun K => decide (PySem.W.nsIn K mainGlobals "choose" = some (some (.ref (He.ga K "choose"))))) rfl)
  obtain ⟨_, _, _, _, _, _, _, _, _, lCh, cCh⟩ := fn_raw cD 17 ("choose", none) "choose" "choose" sChoose rfl
  have kCh : PySem.W.keepIn K (.ref (He.ga K "choose")) = true := of_decide_eq_true (ex_at cE 53 (f := fun K => decide (PySem.W.keepIn K (.ref (He.ga K "choose")) = true)) rfl)
  have aSm : PySem.W.nsIn K mainGlobals "small" = some (some (.ref (He.ga K "small"))) := of_decide_eq_true (ex_at cE 54 (f := fun K => decide (PySem.W.nsIn K mainGlobals "small" = some (some (.ref (He.ga K "small"))))) rfl)
  obtain ⟨_, _, _, _, _, _, _, _, _, lSm, cSm⟩ := fn_raw cD 18 ("small", none) "small" "small" sSmall rfl
  have kSm : PySem.W.keepIn K (.ref (He.ga K "small")) = true := of_decide_eq_true (ex_at cE 55 (f := fun K => decide (PySem.W.keepIn K (.ref (He.ga K "small")) = true)) rfl)
  have aBa : PySem.W.nsIn K mainGlobals "_law_bag" = some (some (.ref (He.ga K "_law_bag"))) := of_decide_eq_true (ex_at cE 56 (f := fun K => decide (PySem.W.nsIn K mainGlobals "_law_bag" = some (some (.ref (He.ga K "_law_bag"))))) rfl)
  obtain ⟨_, _, _, _, _, _, _, _, _, lBa, cBa⟩ := fn_raw cD 19 ("_law_bag", none) "_law_bag" "_law_bag" sBag rfl
  have kBa : PySem.W.keepIn K (.ref (He.ga K "_law_bag")) = true := of_decide_eq_true (ex_at cE 57 (f := fun K => decide (PySem.W.keepIn K (.ref (He.ga K "_law_bag")) = true)) rfl)
  have aTa : PySem.W.nsIn K mainGlobals "_law_take" = some (some (.ref (He.ga K "_law_take"))) := of_decide_eq_true (ex_at cE 58 (f := fun K => decide (PySem.W.nsIn K mainGlobals "_law_take" = some (some (.ref (He.ga K "_law_take"))))) rfl)
  obtain ⟨_, _, _, _, _, _, _, _, _, lTa, cTa⟩ := fn_raw cD 20 ("_law_take", none) "_law_take" "_law_take" sTake rfl
  have kTa : PySem.W.keepIn K (.ref (He.ga K "_law_take")) = true := of_decide_eq_true (ex_at cE 59 (f := fun K => decide (PySem.W.keepIn K (.ref (He.ga K "_law_take")) = true)) rfl)
  have aTh : PySem.W.nsIn K mainGlobals "_law_thing" = some (some (.ref (He.ga K "_law_thing"))) := of_decide_eq_true (ex_at cE 60 (f := fun K => decide (PySem.W.nsIn K mainGlobals "_law_thing" = some (some (.ref (He.ga K "_law_thing"))))) rfl)
  obtain ⟨_, _, _, _, _, _, _, _, _, lTh, cTh⟩ := fn_raw cD 21 ("_law_thing", none) "_law_thing" "_law_thing" sThing rfl
  have kTh : PySem.W.keepIn K (.ref (He.ga K "_law_thing")) = true := of_decide_eq_true (ex_at cE 61 (f := fun K => decide (PySem.W.keepIn K (.ref (He.ga K "_law_thing")) = true)) rfl)
  have aNa : PySem.W.nsIn K mainGlobals "_law_name" = some (some (.ref (He.ga K "_law_name"))) := of_decide_eq_true (ex_at cE 62 (f := fun K => decide (PySem.W.nsIn K mainGlobals "_law_name" = some (some (.ref (He.ga K "_law_name"))))) rfl)
  obtain ⟨_, _, _, _, _, _, _, _, _, lNa, cNa⟩ := fn_raw cD 22 ("_law_name", none) "_law_name" "_law_name" sName rfl
  have kNa : PySem.W.keepIn K (.ref (He.ga K "_law_name")) = true := of_decide_eq_true (ex_at cE 63 (f := fun K => decide (PySem.W.keepIn K (.ref (He.ga K "_law_name")) = true)) rfl)
  have aDs : PySem.W.nsIn K mainGlobals "_law_deeds" = some (some (.ref (He.ga K "_law_deeds"))) := of_decide_eq_true (ex_at cE 64 (f := fun K => decide (PySem.W.nsIn K mainGlobals "_law_deeds" = some (some (.ref (He.ga K "_law_deeds"))))) rfl)
  obtain ⟨_, _, _, _, _, _, _, _, _, lDs, cDs⟩ := fn_raw cD 23 ("_law_deeds", none) "_law_deeds" "_law_deeds" sDeeds rfl
  have kDs : PySem.W.keepIn K (.ref (He.ga K "_law_deeds")) = true := of_decide_eq_true (ex_at cE 65 (f := fun K => decide (PySem.W.keepIn K (.ref (He.ga K "_law_deeds")) = true)) rfl)
  have aTo : PySem.W.nsIn K mainGlobals "_law_top" = some (some (.ref (He.ga K "_law_top"))) := of_decide_eq_true (ex_at cE 66 (f := fun K => decide (PySem.W.nsIn K mainGlobals "_law_top" = some (some (.ref (He.ga K "_law_top"))))) rfl)
  obtain ⟨_, _, _, _, _, _, _, _, _, lTo, cTo⟩ := fn_raw cD 24 ("_law_top", none) "_law_top" "_law_top" sTop rfl
  have kTo : PySem.W.keepIn K (.ref (He.ga K "_law_top")) = true := of_decide_eq_true (ex_at cE 67 (f := fun K => decide (PySem.W.keepIn K (.ref (He.ga K "_law_top")) = true)) rfl)
  have aSe : PySem.W.nsIn K mainGlobals "_law_set" = some (some (.ref (He.ga K "_law_set"))) := of_decide_eq_true (ex_at cE 68 (f := fun K => decide (PySem.W.nsIn K mainGlobals "_law_set" = some (some (.ref (He.ga K "_law_set"))))) rfl)
  obtain ⟨_, _, _, _, _, _, _, _, _, lSe, cSe⟩ := fn_raw cD 25 ("_law_set", none) "_law_set" "_law_set" sSet rfl
  have kSe : PySem.W.keepIn K (.ref (He.ga K "_law_set")) = true := of_decide_eq_true (ex_at cE 69 (f := fun K => decide (PySem.W.keepIn K (.ref (He.ga K "_law_set")) = true)) rfl)
  have aRs : PySem.W.nsIn K mainGlobals "_law_rows" = some (some (.ref (He.ga K "_law_rows"))) := of_decide_eq_true (ex_at cE 70 (f := fun K => decide (PySem.W.nsIn K mainGlobals "_law_rows" = some (some (.ref (He.ga K "_law_rows"))))) rfl)
  obtain ⟨_, _, _, _, _, _, _, _, _, lRs, cRs⟩ := fn_raw cD 26 ("_law_rows", none) "_law_rows" "_law_rows" sLRows rfl
  have kRs : PySem.W.keepIn K (.ref (He.ga K "_law_rows")) = true := of_decide_eq_true (ex_at cE 71 (f := fun K => decide (PySem.W.keepIn K (.ref (He.ga K "_law_rows")) = true)) rfl)
  have aSz : PySem.W.nsIn K mainGlobals "_law_size" = some (some (.ref (He.ga K "_law_size"))) := of_decide_eq_true (ex_at cE 72 (f := fun K => decide (PySem.W.nsIn K mainGlobals "_law_size" = some (some (.ref (He.ga K "_law_size"))))) rfl)
  obtain ⟨_, _, _, _, _, _, _, _, _, lSz, cSz⟩ := fn_raw cD 27 ("_law_size", none) "_law_size" "_law_size" sSize2 rfl
  have kSz : PySem.W.keepIn K (.ref (He.ga K "_law_size")) = true := of_decide_eq_true (ex_at cE 73 (f := fun K => decide (PySem.W.keepIn K (.ref (He.ga K "_law_size")) = true)) rfl)
  have aLd : PySem.W.nsIn K mainGlobals "_law_looked" = some (some (.ref (He.ga K "_law_looked"))) := of_decide_eq_true (ex_at cE 74 (f := fun K => decide (PySem.W.nsIn K mainGlobals "_law_looked" = some (some (.ref (He.ga K "_law_looked"))))) rfl)
  obtain ⟨_, _, _, _, _, _, _, _, _, lLd, cLd⟩ := fn_raw cD 28 ("_law_looked", none) "_law_looked" "_law_looked" sLooked rfl
  have kLd : PySem.W.keepIn K (.ref (He.ga K "_law_looked")) = true := of_decide_eq_true (ex_at cE 75 (f := fun K => decide (PySem.W.keepIn K (.ref (He.ga K "_law_looked")) = true)) rfl)
  have aCd : PySem.W.nsIn K mainGlobals "_law_cut_down" = some (some (.ref (He.ga K "_law_cut_down"))) := of_decide_eq_true (ex_at cE 76 (f := fun K => decide (PySem.W.nsIn K mainGlobals "_law_cut_down" = some (some (.ref (He.ga K "_law_cut_down"))))) rfl)
  obtain ⟨_, _, _, _, _, _, _, _, _, lCd, cCd⟩ := fn_raw cD 29 ("_law_cut_down", none) "_law_cut_down" "_law_cut_down" sCutDown rfl
  have kCd : PySem.W.keepIn K (.ref (He.ga K "_law_cut_down")) = true := of_decide_eq_true (ex_at cE 77 (f := fun K => decide (PySem.W.keepIn K (.ref (He.ga K "_law_cut_down")) = true)) rfl)
  have aRf : PySem.W.nsIn K mainGlobals "_law_refused" = some (some (.ref (He.ga K "_law_refused"))) := of_decide_eq_true (ex_at cE 78 (f := fun K => decide (PySem.W.nsIn K mainGlobals "_law_refused" = some (some (.ref (He.ga K "_law_refused"))))) rfl)
  obtain ⟨_, _, _, _, _, _, _, _, _, lRf, cRf⟩ := fn_raw cD 30 ("_law_refused", none) "_law_refused" "_law_refused" sRefd44 rfl
  have kRf : PySem.W.keepIn K (.ref (He.ga K "_law_refused")) = true := of_decide_eq_true (ex_at cE 79 (f := fun K => decide (PySem.W.keepIn K (.ref (He.ga K "_law_refused")) = true)) rfl)
  have aGd : PySem.W.nsIn K mainGlobals "_law_good" = some (some (.ref (He.ga K "_law_good"))) := of_decide_eq_true (ex_at cE 80 (f := fun K => decide (PySem.W.nsIn K mainGlobals "_law_good" = some (some (.ref (He.ga K "_law_good"))))) rfl)
  obtain ⟨_, _, _, _, _, _, _, _, _, lGd, cGd⟩ := fn_raw cD 31 ("_law_good", none) "_law_good" "_law_good" sGd44 rfl
  have kGd : PySem.W.keepIn K (.ref (He.ga K "_law_good")) = true := of_decide_eq_true (ex_at cE 81 (f := fun K => decide (PySem.W.keepIn K (.ref (He.ga K "_law_good")) = true)) rfl)
  have aLaw : PySem.W.nsIn K mainGlobals "law" = some (some (.ref (He.ga K "law"))) := of_decide_eq_true (ex_at cE 82 (f := fun K => decide (PySem.W.nsIn K mainGlobals "law" = some (some (.ref (He.ga K "law"))))) rfl)
  obtain ⟨_, _, _, _, _, _, _, _, _, lLaw, cLaw⟩ := fn_raw cD 32 ("law", none) "law" "law" sLaw rfl
  have kLaw : PySem.W.keepIn K (.ref (He.ga K "law")) = true := of_decide_eq_true (ex_at cE 83 (f := fun K => decide (PySem.W.keepIn K (.ref (He.ga K "law")) = true)) rfl)
  have aP : PySem.W.nsIn K mainGlobals "Program" = some (some (.ref (He.ga K "Program"))) := of_decide_eq_true (ex_at cE 84 (f := fun K => decide (PySem.W.nsIn K mainGlobals "Program" = some (some (.ref (He.ga K "Program"))))) rfl)
  have pgP : PySem.W.plainGet K (He.ga K "Program") Str.empty = true := of_decide_eq_true (ex_at cE 85 (f := fun K => decide (PySem.W.plainGet K (He.ga K "Program") Str.empty = true)) rfl)
  have hdP : PySem.W.hasDictIn K (He.ga K "Program") = true := of_decide_eq_true (ex_at cE 86 (f := fun K => decide (PySem.W.hasDictIn K (He.ga K "Program") = true)) rfl)
  have poP : PySem.W.plainOver K (He.ga K "Program") = true := of_decide_eq_true (ex_at cE 87 (f := fun K => decide (PySem.W.plainOver K (He.ga K "Program") = true)) rfl)
  have saP : PySem.W.findIn K (.ref (He.ga K "Program")) "__setattr__" = some (some (.builtin "object.__setattr__")) := of_decide_eq_true (ex_at cE 88 (f := fun K => decide (PySem.W.findIn K (.ref (He.ga K "Program")) "__setattr__" = some (some (.builtin "object.__setattr__")))) rfl)
  have mkCP : PySem.W.makesIn K (He.ga K "Program") = true := of_decide_eq_true (ex_at cE 89 (f := fun K => decide (PySem.W.makesIn K (He.ga K "Program") = true)) rfl)
  have kcP : PySem.W.keepIn K (.ref (He.ga K "Program")) = true := of_decide_eq_true (ex_at cE 90 (f := fun K => decide (PySem.W.keepIn K (.ref (He.ga K "Program")) = true)) rfl)
  have nDP : PySem.W.findIn K (.ref (He.ga K "Program")) "deeds" = some none := of_decide_eq_true (ex_at cE 91 (f := fun K => decide (PySem.W.findIn K (.ref (He.ga K "Program")) "deeds" = some none)) rfl)
  have nPP : PySem.W.findIn K (.ref (He.ga K "Program")) "plan" = some none := of_decide_eq_true (ex_at cE 92 (f := fun K => decide (PySem.W.findIn K (.ref (He.ga K "Program")) "plan" = some none)) rfl)
  have caP : PySem.W.findIn K (.ref (He.ga K "Program")) "__class__" = some (some (.builtin "object.__class__")) := of_decide_eq_true (ex_at cE 93 (f := fun K => decide (PySem.W.findIn K (.ref (He.ga K "Program")) "__class__" = some (some (.builtin "object.__class__")))) rfl)
  have cmP : PySem.W.mroIn K (He.ga K "Program") (.type "object") = some true := of_decide_eq_true (ex_at cE 94 (f := fun K => decide (PySem.W.mroIn K (He.ga K "Program") (.type "object") = some true)) rfl)
  have neP : PySem.W.findIn K (.ref (He.ga K "Program")) "__ne__" = some (some (.builtin "object.__ne__")) := of_decide_eq_true (ex_at cE 95 (f := fun K => decide (PySem.W.findIn K (.ref (He.ga K "Program")) "__ne__" = some (some (.builtin "object.__ne__")))) rfl)
  have aFm : PySem.W.nsIn K mainGlobals "FORMS" = some (some (.ref (He.ga K "FORMS"))) := of_decide_eq_true (ex_at cE 96 (f := fun K => decide (PySem.W.nsIn K mainGlobals "FORMS" = some (some (.ref (He.ga K "FORMS"))))) rfl)
  obtain ⟨_, _, ⟨lFm, litF, lowF⟩, ky_lFm⟩ := tab_keys cT 0 (t := (fun K => He.ga K "FORMS", ["told", "first", "second", "pair", "same", "while", "if"])) rfl
  obtain ⟨_, aN1⟩ := int_raw (ex_at cE 97 (f := fun K => intB K mainGlobals "MANY_NAMES" 10) rfl)
  obtain ⟨_, aN2⟩ := int_raw (ex_at cE 98 (f := fun K => intB K mainGlobals "MOST_DEEDS" 4000) rfl)
  obtain ⟨_, aN3⟩ := int_raw (ex_at cE 99 (f := fun K => intB K mainGlobals "MOST_FLOORS" 8) rfl)
  have kii : PySem.W.kitOne K (.type "int") (.type "int") = some true := of_decide_eq_true (ex_at cE 100 (f := fun K => decide (PySem.W.kitOne K (.type "int") (.type "int") = some true)) rfl)
  have kib : PySem.W.kitOne K (.type "int") (.type "bool") = some false := of_decide_eq_true (ex_at cE 101 (f := fun K => decide (PySem.W.kitOne K (.type "int") (.type "bool") = some false)) rfl)
  have ktt : PySem.W.kitOne K (.type "tuple") (.type "tuple") = some true := of_decide_eq_true (ex_at cE 102 (f := fun K => decide (PySem.W.kitOne K (.type "tuple") (.type "tuple") = some true)) rfl)
  have kss : PySem.W.kitOne K (.type "str") (.type "str") = some true := of_decide_eq_true (ex_at cE 103 (f := fun K => decide (PySem.W.kitOne K (.type "str") (.type "str") = some true)) rfl)
  obtain ⟨_, fm0⟩ := str_raw (ex_at cE 104 (f := fun K => strB K (He.ga K "FORMS") "told" "nt") rfl)
  obtain ⟨_, fm1⟩ := str_raw (ex_at cE 105 (f := fun K => strB K (He.ga K "FORMS") "first" "nn") rfl)
  obtain ⟨_, fm2⟩ := str_raw (ex_at cE 106 (f := fun K => strB K (He.ga K "FORMS") "second" "nn") rfl)
  obtain ⟨_, fm3⟩ := str_raw (ex_at cE 107 (f := fun K => strB K (He.ga K "FORMS") "pair" "nnn") rfl)
  obtain ⟨_, fm4⟩ := str_raw (ex_at cE 108 (f := fun K => strB K (He.ga K "FORMS") "same" "nnn") rfl)
  obtain ⟨_, fm5⟩ := str_raw (ex_at cE 109 (f := fun K => strB K (He.ga K "FORMS") "while" "nr") rfl)
  obtain ⟨_, fm6⟩ := str_raw (ex_at cE 110 (f := fun K => strB K (He.ga K "FORMS") "if" "nrr") rfl)
  have aPI : PySem.W.findIn K (.ref (He.ga K "Program")) "__init__" = some (some (.ref (He.ma K (He.ga K "Program") "__init__"))) := of_decide_eq_true (ex_at cE 111 (f := fun K => decide (PySem.W.findIn K (.ref (He.ga K "Program")) "__init__" = some (some (.ref (He.ma K (He.ga K "Program") "__init__"))))) rfl)
  have iPI : PySem.W.isFn K (.ref (He.ma K (He.ga K "Program") "__init__")) = true := of_decide_eq_true (ex_at cE 112 (f := fun K => decide (PySem.W.isFn K (.ref (He.ma K (He.ga K "Program") "__init__")) = true)) rfl)
  obtain ⟨_, _, _, _, _, _, _, _, _, lPI, cPI⟩ := fn_raw cD 33 ("Program", some "__init__") "__init__" "Program.__init__" sPInit rfl
  have kPI : PySem.W.keepIn K (.ref (He.ma K (He.ga K "Program") "__init__")) = true := of_decide_eq_true (ex_at cE 113 (f := fun K => decide (PySem.W.keepIn K (.ref (He.ma K (He.ga K "Program") "__init__")) = true)) rfl)
  have aPL : PySem.W.findIn K (.ref (He.ga K "Program")) "__len__" = some (some (.ref (He.ma K (He.ga K "Program") "__len__"))) := of_decide_eq_true (ex_at cE 114 (f := fun K => decide (PySem.W.findIn K (.ref (He.ga K "Program")) "__len__" = some (some (.ref (He.ma K (He.ga K "Program") "__len__"))))) rfl)
  have iPL : PySem.W.isFn K (.ref (He.ma K (He.ga K "Program") "__len__")) = true := of_decide_eq_true (ex_at cE 115 (f := fun K => decide (PySem.W.isFn K (.ref (He.ma K (He.ga K "Program") "__len__")) = true)) rfl)
  obtain ⟨_, _, _, _, _, _, _, _, _, lPL, cPL⟩ := fn_raw cD 34 ("Program", some "__len__") "__len__" "Program.__len__" sPLen rfl
  have kPL : PySem.W.keepIn K (.ref (He.ma K (He.ga K "Program") "__len__")) = true := of_decide_eq_true (ex_at cE 116 (f := fun K => decide (PySem.W.keepIn K (.ref (He.ma K (He.ga K "Program") "__len__")) = true)) rfl)
  have aPE : PySem.W.findIn K (.ref (He.ga K "Program")) "__eq__" = some (some (.ref (He.ma K (He.ga K "Program") "__eq__"))) := of_decide_eq_true (ex_at cE 117 (f := fun K => decide (PySem.W.findIn K (.ref (He.ga K "Program")) "__eq__" = some (some (.ref (He.ma K (He.ga K "Program") "__eq__"))))) rfl)
  have iPE : PySem.W.isFn K (.ref (He.ma K (He.ga K "Program") "__eq__")) = true := of_decide_eq_true (ex_at cE 118 (f := fun K => decide (PySem.W.isFn K (.ref (He.ma K (He.ga K "Program") "__eq__")) = true)) rfl)
  obtain ⟨_, _, _, _, _, _, _, _, _, lPE, cPE⟩ := fn_raw cD 35 ("Program", some "__eq__") "__eq__" "Program.__eq__" sPEq rfl
  have kPE : PySem.W.keepIn K (.ref (He.ma K (He.ga K "Program") "__eq__")) = true := of_decide_eq_true (ex_at cE 119 (f := fun K => decide (PySem.W.keepIn K (.ref (He.ma K (He.ga K "Program") "__eq__")) = true)) rfl)
  have aPU : PySem.W.findIn K (.ref (He.ga K "Program")) "used" = some (some (.ref (He.ma K (He.ga K "Program") "used"))) := of_decide_eq_true (ex_at cE 120 (f := fun K => decide (PySem.W.findIn K (.ref (He.ga K "Program")) "used" = some (some (.ref (He.ma K (He.ga K "Program") "used"))))) rfl)
  have iPU : PySem.W.isFn K (.ref (He.ma K (He.ga K "Program") "used")) = true := of_decide_eq_true (ex_at cE 121 (f := fun K => decide (PySem.W.isFn K (.ref (He.ma K (He.ga K "Program") "used")) = true)) rfl)
  obtain ⟨_, _, _, _, _, _, _, _, _, lPU, cPU⟩ := fn_raw cD 36 ("Program", some "used") "used" "Program.used" sUsed rfl
  have kPU : PySem.W.keepIn K (.ref (He.ma K (He.ga K "Program") "used")) = true := of_decide_eq_true (ex_at cE 122 (f := fun K => decide (PySem.W.keepIn K (.ref (He.ma K (He.ga K "Program") "used")) = true)) rfl)
  have aN : PySem.W.nsIn K mainGlobals "TooGreat" = some (some (.ref (He.ga K "TooGreat"))) := of_decide_eq_true (ex_at cE 123 (f := fun K => decide (PySem.W.nsIn K mainGlobals "TooGreat" = some (some (.ref (He.ga K "TooGreat"))))) rfl)
  obtain ⟨_, _, _, _, _, _, _, _, _, _, _, _, _, _, xN⟩ := exc_raw (ex_at cE 124 (f := fun K => excB K (He.ga K "TooGreat") [.type "OverflowError", .type "ArithmeticError", .type "Exception", .type "BaseException", .type "object"] "OverflowError.__new__") rfl)
  have ovN : PySem.W.excOver K (He.ga K "TooGreat") [.type "OverflowError", .type "ArithmeticError", .type "Exception", .type "BaseException", .type "object"] = true := of_decide_eq_true (ex_at cE 125 (f := fun K => decide (PySem.W.excOver K (He.ga K "TooGreat") [.type "OverflowError", .type "ArithmeticError", .type "Exception", .type "BaseException", .type "object"] = true)) rfl)
  have saN : PySem.W.findIn K (.ref (He.ga K "TooGreat")) "__setattr__" = some (some (.builtin "object.__setattr__")) := of_decide_eq_true (ex_at cE 126 (f := fun K => decide (PySem.W.findIn K (.ref (He.ga K "TooGreat")) "__setattr__" = some (some (.builtin "object.__setattr__")))) rfl)
  have exN : PySem.W.subIn K (.ref (He.ga K "TooGreat")) (.type "BaseException") = some true := of_decide_eq_true (ex_at cE 127 (f := fun K => decide (PySem.W.subIn K (.ref (He.ga K "TooGreat")) (.type "BaseException") = some true)) rfl)
  have tyN : PySem.W.typeIn K (.ref (He.ga K "TooGreat")) = some (.type "type") := of_decide_eq_true (ex_at cE 128 (f := fun K => decide (PySem.W.typeIn K (.ref (He.ga K "TooGreat")) = some (.type "type"))) rfl)
  have kN : PySem.W.keepIn K (.ref (He.ga K "TooGreat")) = true := of_decide_eq_true (ex_at cE 129 (f := fun K => decide (PySem.W.keepIn K (.ref (He.ga K "TooGreat")) = true)) rfl)
  have plN : PySem.W.findIn K (.ref (He.ga K "TooGreat")) "bound" = some none := of_decide_eq_true (ex_at cE 130 (f := fun K => decide (PySem.W.findIn K (.ref (He.ga K "TooGreat")) "bound" = some none)) rfl)
  have vV : PySem.W.findCls K (.type "OverflowError") (.type "type") "__init__" = some (.val (.builtin "OverflowError.__init__")) := by first | rfl | decide +kernel
  have iN : PySem.W.findIn K (.ref (He.ga K "TooGreat")) "__init__" = some (some (.ref (He.ma K (He.ga K "TooGreat") "__init__"))) := of_decide_eq_true (ex_at cE 131 (f := fun K => decide (PySem.W.findIn K (.ref (He.ga K "TooGreat")) "__init__" = some (some (.ref (He.ma K (He.ga K "TooGreat") "__init__"))))) rfl)
  have tfN : PySem.W.typeIn K (.ref (He.ma K (He.ga K "TooGreat") "__init__")) = some (.type "function") := of_decide_eq_true (ex_at cE 132 (f := fun K => decide (PySem.W.typeIn K (.ref (He.ma K (He.ga K "TooGreat") "__init__")) = some (.type "function"))) rfl)
  obtain ⟨_, _, _, _, _, _, _, _, _, lN, cN⟩ := fn_raw cD 37 ("TooGreat", some "__init__") "__init__" "TooGreat.__init__" sTg rfl
  have kfN : PySem.W.keepIn K (.ref (He.ma K (He.ga K "TooGreat") "__init__")) = true := of_decide_eq_true (ex_at cE 133 (f := fun K => decide (PySem.W.keepIn K (.ref (He.ma K (He.ga K "TooGreat") "__init__")) = true)) rfl)
  have hdN : PySem.W.hasDictIn K (He.ga K "TooGreat") = true := of_decide_eq_true (ex_at cE 134 (f := fun K => decide (PySem.W.hasDictIn K (He.ga K "TooGreat") = true)) rfl)
  have scN : PySem.W.subIn K (.ref (He.ga K "TooGreat")) (.ref (He.ga K "TooGreat")) = some true := of_decide_eq_true (ex_at cE 135 (f := fun K => decide (PySem.W.subIn K (.ref (He.ga K "TooGreat")) (.ref (He.ga K "TooGreat")) = some true)) rfl)
  have gaN : PySem.W.findIn K (.ref (He.ga K "TooGreat")) "__getattribute__" = some (some (.builtin "BaseException.__getattribute__")) := of_decide_eq_true (ex_at cE 136 (f := fun K => decide (PySem.W.findIn K (.ref (He.ga K "TooGreat")) "__getattribute__" = some (some (.builtin "BaseException.__getattribute__")))) rfl)
  have ggN : PySem.W.findIn K (.ref (He.ga K "TooGreat")) "__getattr__" = some none := of_decide_eq_true (ex_at cE 137 (f := fun K => decide (PySem.W.findIn K (.ref (He.ga K "TooGreat")) "__getattr__" = some none)) rfl)
  have icN : PySem.W.isClsIn K (He.ga K "TooGreat") = true := of_decide_eq_true (ex_at cE 138 (f := fun K => decide (PySem.W.isClsIn K (He.ga K "TooGreat") = true)) rfl)
  have caN : PySem.W.findIn K (.ref (He.ga K "TooGreat")) "__class__" = some (some (.builtin "object.__class__")) := of_decide_eq_true (ex_at cE 139 (f := fun K => decide (PySem.W.findIn K (.ref (He.ga K "TooGreat")) "__class__" = some (some (.builtin "object.__class__")))) rfl)
  have cmN : PySem.W.mroIn K (He.ga K "TooGreat") (.type "object") = some true := of_decide_eq_true (ex_at cE 140 (f := fun K => decide (PySem.W.mroIn K (He.ga K "TooGreat") (.type "object") = some true)) rfl)
  have oeN : PySem.W.kitOne K (.ref (He.ga K "TooGreat")) (.type "OverflowError") = some true := of_decide_eq_true (ex_at cE 141 (f := fun K => decide (PySem.W.kitOne K (.ref (He.ga K "TooGreat")) (.type "OverflowError") = some true)) rfl)
  obtain ⟨_, aTA⟩ := int_raw (ex_at cE 142 (f := fun K => intB K mainGlobals "MOST_TOLD_ANEW" 30) rfl)
  have z_len : PySem.W.nsIn K mainGlobals "len" = some none := of_decide_eq_true (ex_at cE 143 (f := fun K => decide (PySem.W.nsIn K mainGlobals "len" = some none)) rfl)
  have z_range : PySem.W.nsIn K mainGlobals "range" = some none := of_decide_eq_true (ex_at cE 144 (f := fun K => decide (PySem.W.nsIn K mainGlobals "range" = some none)) rfl)
  have z_isinstance : PySem.W.nsIn K mainGlobals "isinstance" = some none := of_decide_eq_true (ex_at cE 145 (f := fun K => decide (PySem.W.nsIn K mainGlobals "isinstance" = some none)) rfl)
  have z_abs : PySem.W.nsIn K mainGlobals "abs" = some none := of_decide_eq_true (ex_at cE 146 (f := fun K => decide (PySem.W.nsIn K mainGlobals "abs" = some none)) rfl)
  have z_int : PySem.W.nsIn K mainGlobals "int" = some none := of_decide_eq_true (ex_at cE 147 (f := fun K => decide (PySem.W.nsIn K mainGlobals "int" = some none)) rfl)
  have z_str : PySem.W.nsIn K mainGlobals "str" = some none := of_decide_eq_true (ex_at cE 148 (f := fun K => decide (PySem.W.nsIn K mainGlobals "str" = some none)) rfl)
  have z_max : PySem.W.nsIn K mainGlobals "max" = some none := of_decide_eq_true (ex_at cE 149 (f := fun K => decide (PySem.W.nsIn K mainGlobals "max" = some none)) rfl)
  have z_min : PySem.W.nsIn K mainGlobals "min" = some none := of_decide_eq_true (ex_at cE 150 (f := fun K => decide (PySem.W.nsIn K mainGlobals "min" = some none)) rfl)
  have z_all : PySem.W.nsIn K mainGlobals "all" = some none := of_decide_eq_true (ex_at cE 151 (f := fun K => decide (PySem.W.nsIn K mainGlobals "all" = some none)) rfl)
  have z_bool : PySem.W.nsIn K mainGlobals "bool" = some none := of_decide_eq_true (ex_at cE 152 (f := fun K => decide (PySem.W.nsIn K mainGlobals "bool" = some none)) rfl)
  have z_tuple : PySem.W.nsIn K mainGlobals "tuple" = some none := of_decide_eq_true (ex_at cE 153 (f := fun K => decide (PySem.W.nsIn K mainGlobals "tuple" = some none)) rfl)
  have z_zip : PySem.W.nsIn K mainGlobals "zip" = some none := of_decide_eq_true (ex_at cE 154 (f := fun K => decide (PySem.W.nsIn K mainGlobals "zip" = some none)) rfl)
  have z_enumerate : PySem.W.nsIn K mainGlobals "enumerate" = some none := of_decide_eq_true (ex_at cE 155 (f := fun K => decide (PySem.W.nsIn K mainGlobals "enumerate" = some none)) rfl)
  have z_list : PySem.W.nsIn K mainGlobals "list" = some none := of_decide_eq_true (ex_at cE 156 (f := fun K => decide (PySem.W.nsIn K mainGlobals "list" = some none)) rfl)
  have z_OverflowError : PySem.W.nsIn K mainGlobals "OverflowError" = some none := of_decide_eq_true (ex_at cE 157 (f := fun K => decide (PySem.W.nsIn K mainGlobals "OverflowError" = some none)) rfl)
  have z_sum : PySem.W.nsIn K mainGlobals "sum" = some none := of_decide_eq_true (ex_at cE 158 (f := fun K => decide (PySem.W.nsIn K mainGlobals "sum" = some none)) rfl)
  have z_set : PySem.W.nsIn K mainGlobals "set" = some none := of_decide_eq_true (ex_at cE 159 (f := fun K => decide (PySem.W.nsIn K mainGlobals "set" = some none)) rfl)
  have z_sorted : PySem.W.nsIn K mainGlobals "sorted" = some none := of_decide_eq_true (ex_at cE 160 (f := fun K => decide (PySem.W.nsIn K mainGlobals "sorted" = some none)) rfl)
  have z_reversed : PySem.W.nsIn K mainGlobals "reversed" = some none := of_decide_eq_true (ex_at cE 161 (f := fun K => decide (PySem.W.nsIn K mainGlobals "reversed" = some none)) rfl)
  exact all_mk X G hfa aC pg hd po sa mkC kc nF nS nZ ca cn ct cm neC aM aI iI lI cI kI lT aEq iEq lEq cEq kEq aPa lPa cPa kPa aAl lAl cAl kAl aNu lNu cNu kNu aIn lIn cIn kIn aFt lFt cFt kFt aHf lHf cHf kHf aRi lRi cRi kRi aLk lLk cLk kLk aLy lLy cLy kLy aNi lNi cNi kNi aFe lFe cFe kFe aGt lGt cGt kGt aMa lMa cMa kMa aSo lSo cSo kSo aDd lDd cDd kDd aCh lCh cCh kCh aSm lSm cSm kSm aBa lBa cBa kBa aTa lTa cTa kTa aTh lTh cTh kTh aNa lNa cNa kNa aDs lDs cDs kDs aTo lTo cTo kTo aSe lSe cSe kSe aRs lRs cRs kRs aSz lSz cSz kSz aLd lLd cLd kLd aCd lCd cCd kCd aRf lRf cRf kRf aGd lGd cGd kGd aLaw lLaw cLaw kLaw aP pgP hdP poP saP mkCP kcP nDP nPP caP cmP neP aFm lFm litF lowF aN1 aN2 aN3 kii kib ktt kss fm0 fm1 fm2 fm3 fm4 fm5 fm6 aPI iPI lPI cPI kPI aPL iPL lPL cPL kPL aPE iPE lPE cPE kPE aPU iPU lPU cPU kPU aN xN ovN saN exN tyN kN plN vV iN tfN lN cN kfN hdN scN gaN ggN icN caN cmN oeN aTA z_len z_range z_isinstance z_abs z_int z_str z_max z_min z_all z_bool z_tuple z_zip z_enumerate z_list z_OverflowError z_sum z_set z_sorted z_reversed

end Js

open PySem PySem.W PySem.Calls PyProof.Rows in
set_option maxRecDepth 100000 in
set_option maxHeartbeats 0 in
theorem PySem.Challenge.cw_judgeslip_k44_small_holds : PySem.Challenge.rw_judgeslip_k44_small.Holds := by
  w_on; o_law
  refine HandSHeadRun.head_any (r := OpenLaw.row PySem.Challenge.rw_judgeslip_k44_small) (q := view (OpenLaw.row PySem.Challenge.rw_judgeslip_k44_small).prog [50]) (H := Js.hkX) (ob := Js.hob) (M := 20000) (loose := Js.hnames) (d := HandSHeadRun.topDef (OpenLaw.row PySem.Challenge.rw_judgeslip_k44_small).prog 50) (kwd := []) Js.hob_eq
    (by kernel_rfl) (fun s => by kernel_rfl) Js.hrun (by kernel_rfl) (by kernel_rfl) (by kernel_rfl) (by rfl) (by first | assumption | decide +kernel) (by decide +kernel) ⟨rfl, rfl, rfl, rfl, rfl, by decide +kernel⟩ ?hw ?hc
  case hw => w_witness2
  case hc =>
    refine L2.walk_ofE (l := PySem.Challenge.rw_judgeslip_k44_small) (n := 63) (k := 23) (x := "_law_script") (CX := L2.CX0) rfl (by decide) (by kernel_rfl) ⟨rfl, by decide, by decide⟩ ?F (fun _ _ _ _ z => z)
    intro w mg fa h Y G hmg0
    obtain ⟨K, KX, cT, cX⟩ := Y
    have hmg : mg ("law" : PySem.Str) = some (.ref fa) := by
      have e : (HandSHeadRun.topDef (OpenLaw.row PySem.Challenge.rw_judgeslip_k44_small).prog 50).name = ("law" : PySem.Str) := by kernel_rfl
      rw [← e]
      exact hmg0
    obtain ⟨fd, hb, hF⟩ := Js.hfacts (P := (PySem.Challenge.rw_judgeslip_k44_small).prog) (w := w) KX G hmg cT cX
    exact ⟨K, fd, Js.spLaw K, KX, hb, fun H a ns hl _ hS => ⟨a, ns, rfl, hS, hl, fun _ => rfl⟩, hF⟩
